import PyProof.Rows.All
import Wide.All
import OpenK.AllK
import Wide.FinOn
import HandS.ForExc
import HandS.ForMost
import HandS.Wide
import HandS.IsInst
import PySem.Challenge.RW_feasted_k51_whole_unlike_by_feasts_of_on
import HandS.Gcd
import KE.KMathGC
import HandS.SetKeys
import PyProof.Rows.SetFrom
import HandS.ExcInit
import HandS.Walk
import KE.GoesEnum
import KE.GoesMore
import HandS.Iter
import HandS.DictComp
import PyProof.IsiBase
import PyProof.IsiH_set
import HandS.OwnEq
import HandS.NamedTupSort
import HandS.Style
import HandS.Zip
import HandS.ListItems
import HandS.TryMany
import HandS.ExcField
import HandS.Lambda
import HandS.Sort
import PyProof.SumWalkG
import PyProof.Rows.SumGenD
import HandS.More
import KE.KDictList
import HandS.MakeKwOnly
import KE.KItemsList
import KE.KDictZip
import HandS.EndTab
import KE.KNestM
-- KBase
section
set_option Elab.async false
set_option linter.all false
set_option maxRecDepth 100000
set_option maxHeartbeats 4000000
namespace K1
open PySem PySem.Spec PyProof.Rows L2
def top (i : Nat) : Stmt := PySem.Challenge.pw_feasted_k51_whole_unlike_by_feasts_of_on.main.body.getD i (.Pass ⟨0, 0, 0, 0⟩)
abbrev sIsInt : Stmt := top 14
abbrev sFromOne : Stmt := top 15
abbrev sIsList : Stmt := top 16
abbrev sIsPair : Stmt := top 17
abbrev sIsName : Stmt := top 18
abbrev sDraw : Stmt := top 48
abbrev sPick : Stmt := top 49
abbrev sMixed : Stmt := top 50
/-- a statement that is never reached -/
theorem ps_dead {X : Cx} {st : Stmt} : PS X st (fun _ _ _ => False) := ⟨fun _ _ _ _ _ _ h => h.elim⟩
theorem pe_dead {X : Cx} {e : Expr} : PE X e (fun _ _ _ => False) := ⟨fun _ _ _ _ _ _ h => h.elim⟩
/-- a power whose bits are below the model's line -/
def CPowX (i j : Int) : Prop := 0 ≤ j ∧ (Builtin.Int.intBits i : Int) * j ≤ 2 ^ 27
theorem op_powX {X : Cx} : OpR X (binaryOp .Pow) (rI CPowX fun i j => .int (i ^ j.toNat)) := opI fun _ _ _ _ _ _ _ hc q => pow_int hc.1 hc.2 q
theorem Same.upd {H : Hp} {p : Addr} {o : HO} (h : H p = none) : Same H (upd H p o) := fun b u e => by rw [upd_ne (ne_of_none e h)]; exact e
end K1
end
-- WMath
section
set_option Elab.async false
set_option linter.all false
set_option maxRecDepth 100000
set_option maxHeartbeats 1000000
namespace W0
open PySem PySem.Spec PyProof.Rows L2
def bin : Nat → Nat → Nat
  | _, 0 => 1
  | 0, _ + 1 => 0
  | n + 1, k + 1 => bin n k + bin n (k + 1)
theorem bin_zero (n : Nat) : bin n 0 = 1 := by cases n <;> rfl
theorem bin_over : ∀ (n k : Nat), n < k → bin n k = 0
  | 0, k + 1, _ => rfl
  | n + 1, k + 1, h => by
    show bin n k + bin n (k + 1) = 0
    rw [bin_over n k (by omega), bin_over n (k + 1) (by omega)]
theorem bin_self : ∀ n : Nat, bin n n = 1
  | 0 => rfl
  | n + 1 => by
    show bin n n + bin n (n + 1) = 1
    rw [bin_self n, bin_over n (n + 1) (by omega)]
theorem bin_up : ∀ (n k : Nat), (n + 1) * bin n k = bin (n + 1) (k + 1) * (k + 1)
  | 0, 0 => rfl
  | 0, k + 1 => by
    show 1 * 0 = (bin 0 (k + 1) + bin 0 (k + 2)) * (k + 2)
    show 1 * 0 = (0 + 0) * (k + 2)
    simp
  | n + 1, 0 => by
    have h := bin_up n 0
    have e : bin (n + 1 + 1) (0 + 1) = bin (n + 1) 0 + bin (n + 1) (0 + 1) := rfl
    rw [e, bin_zero]
    rw [bin_zero] at h
    omega
  | n + 1, k + 1 => by
    have h1 := bin_up n k
    have h2 := bin_up n (k + 1)
    have e1 : bin (n + 1 + 1) (k + 1 + 1) = bin (n + 1) (k + 1) + bin (n + 1) (k + 1 + 1) := rfl
    have e2 : bin (n + 1) (k + 1) = bin n k + bin n (k + 1) := rfl
    rw [e1]
    have r : (bin (n + 1) (k + 1) + bin (n + 1) (k + 1 + 1)) * (k + 1 + 1) = bin (n + 1) (k + 1) * (k + 1) + bin (n + 1) (k + 1) + bin (n + 1) (k + 1 + 1) * (k + 1 + 1) := by
      rw [Nat.add_mul, Nat.mul_succ (bin (n + 1) (k + 1)) (k + 1)]
    have l : (n + 1 + 1) * bin (n + 1) (k + 1) = (n + 1) * bin n k + (n + 1) * bin n (k + 1) + bin (n + 1) (k + 1) := by
      rw [Nat.succ_mul, ← Nat.mul_add, ← e2]
    omega
theorem bin_step (n k : Nat) : bin n (k + 1) * (k + 1) = bin n k * (n - k) := by
  by_cases h : n < k
  · rw [bin_over n k h, bin_over n (k + 1) (by omega)]
    simp
  · have h1 := bin_up n k
    have e : bin (n + 1) (k + 1) = bin n k + bin n (k + 1) := rfl
    have r : (bin n k + bin n (k + 1)) * (k + 1) = bin n k * (k + 1) + bin n (k + 1) * (k + 1) := Nat.add_mul ..
    rw [e, r] at h1
    have h2 : (n + 1) * bin n k = bin n k * (k + 1) + bin n k * (n - k) := by
      rw [← Nat.mul_add, Nat.mul_comm]
      congr 1
      omega
    omega
abbrev fac (n : Nat) : Nat := Builtin.Math.factorialNat n
theorem bin_fac (n : Nat) : ∀ k, k ≤ n → bin n k * fac k * fac (n - k) = fac n
  | 0, _ => by
    rw [bin_zero]
    show 1 * fac 0 * fac n = fac n
    have : fac 0 = 1 := rfl
    rw [this]
    simp
  | k + 1, h => by
    have ih := bin_fac n k (by omega)
    have e : fac (k + 1) = fac k * (k + 1) := PySem.W.mc_fac_succ k
    have e2 : fac (n - k) = fac (n - (k + 1)) * (n - k) := by
      have : n - k = (n - (k + 1)) + 1 := by omega
      rw [this]
      exact PySem.W.mc_fac_succ _
    have s := bin_step n k
    rw [e]
    rw [e2] at ih
    calc bin n (k + 1) * (fac k * (k + 1)) * fac (n - (k + 1)) = (bin n (k + 1) * (k + 1)) * (fac k * fac (n - (k + 1))) := by
          simp only [Nat.mul_comm, Nat.mul_left_comm, Nat.mul_assoc]
      _ = (bin n k * (n - k)) * (fac k * fac (n - (k + 1))) := by rw [s]
      _ = bin n k * fac k * (fac (n - (k + 1)) * (n - k)) := by simp only [Nat.mul_comm, Nat.mul_left_comm, Nat.mul_assoc]
      _ = fac n := ih
theorem fac_pos (n : Nat) : 0 < fac n := PySem.W.mc_fac_pos n
theorem bin_symm {n k : Nat} (h : k ≤ n) : bin n (n - k) = bin n k := by
  have h1 := bin_fac n k h
  have h2 := bin_fac n (n - k) (by omega)
  have e : n - (n - k) = k := by omega
  rw [e] at h2
  have p : 0 < fac k * fac (n - k) := Nat.mul_pos (fac_pos _) (fac_pos _)
  refine Nat.eq_of_mul_eq_mul_right p ?_
  calc bin n (n - k) * (fac k * fac (n - k)) = bin n (n - k) * fac (n - k) * fac k := by simp only [Nat.mul_comm, Nat.mul_left_comm, Nat.mul_assoc]
    _ = fac n := h2
    _ = bin n k * fac k * fac (n - k) := h1.symm
    _ = bin n k * (fac k * fac (n - k)) := by simp only [Nat.mul_assoc]
theorem fp_bin (n : Nat) : ∀ k, k ≤ n → Builtin.Math.fallingProduct (n : Int) k = ((bin n k * fac k : Nat) : Int)
  | 0, _ => by
    rw [bin_zero]
    rfl
  | k + 1, h => by
    rw [PySem.W.mc_fp_succ, fp_bin n k (by omega)]
    have e : ((n : Int) - (k : Int)) = ((n - k : Nat) : Int) := by omega
    have e2 : fac (k + 1) = fac k * (k + 1) := PySem.W.mc_fac_succ k
    rw [e, ← Int.natCast_mul, e2]
    congr 1
    calc bin n k * fac k * (n - k) = bin n k * (n - k) * fac k := by simp only [Nat.mul_comm, Nat.mul_left_comm, Nat.mul_assoc]
      _ = bin n (k + 1) * (k + 1) * fac k := by rw [bin_step]
      _ = bin n (k + 1) * (fac k * (k + 1)) := by simp only [Nat.mul_comm, Nat.mul_left_comm, Nat.mul_assoc]
theorem comb_bin {n k : Nat} (h : k ≤ n) : PySem.W.mcComb (n : Int) (k : Int) = (bin n k : Int) := by
  have main : ∀ m : Nat, m ≤ n → min (k : Int) ((n : Int) - (k : Int)) = (m : Int) → bin n m = bin n k → PySem.W.mcComb (n : Int) (k : Int) = (bin n k : Int) := fun m hm e eb => by
    rw [PySem.W.mcComb_at (by omega) (by omega) e, Int.toNat_natCast, fp_bin n m hm, fp_bin m m (Nat.le_refl _), bin_self, ← eb]
    rw [Nat.one_mul, ← Int.natCast_ediv, Nat.mul_div_cancel _ (fac_pos m)]
  by_cases c : k ≤ n - k
  · exact main k h (by omega) rfl
  · exact main (n - k) (by omega) (by omega) (bin_symm h)
/-- math.comb, math.factorial -/
def rComb : List V → Hp → VK → Prop := fun vs H Q => ∃ n k : Nat, vs = [.int n, .int k] ∧ k ≤ n ∧ n ≤ 9000 ∧ Q (.int (bin n k : Int)) H
theorem cr_comb {X : Cx} : CallR X (.builtin "math.comb") rComb := by
  intro pins s σ H vs us Q I r h
  obtain ⟨n, k, rfl, h1, h2, q⟩ := h
  obtain ⟨t, u, rfl⟩ := Vals.int2 r
  refine PySem.W.mc_comb (by omega) (by omega) (by omega) (.inl (by omega)) fun _ => ?_
  rw [comb_bin h1]
  exact ⟨.int _, H, I.tok _, ⟨_, rfl⟩, q⟩
def rFac : List V → Hp → VK → Prop := fun vs H Q => ∃ n : Nat, vs = [.int n] ∧ n ≤ 9000 ∧ Q (.int (fac n : Int)) H
theorem cr_fac {X : Cx} : CallR X (.builtin "math.factorial") rFac := by
  intro pins s σ H vs us Q I r h
  obtain ⟨n, rfl, h2, q⟩ := h
  obtain ⟨u, rfl, rx⟩ := vals1 r
  obtain ⟨t, rfl⟩ := rx
  refine PySem.W.mc_factorial (by omega) (by omega) fun _ => ?_
  rw [Int.toNat_natCast]
  exact ⟨.int _, H, I.tok _, ⟨_, rfl⟩, q⟩
end W0
end
-- WSet
section
set_option Elab.async false
set_option linter.all false
set_option maxRecDepth 100000
set_option maxHeartbeats 3200000
/-! set(xs), xs a list of ints and texts: membership, and how many -/
namespace W0
open PySem PySem.Spec
/-- each once, in the order in which they come first -/
def once {α : Type} [DecidableEq α] : List α → List α → List α
  | acc, [] => acc
  | acc, x :: xs => once (if x ∈ acc then acc else acc ++ [x]) xs
/-- whether it is one of these -/
def inB {α : Type} [DecidableEq α] (xs : List α) (k : α) : Bool := decide (k ∈ xs)
theorem inB_iff {α : Type} [DecidableEq α] {xs : List α} {k : α} : inB xs k = true ↔ k ∈ xs := decide_eq_true_iff
theorem once_snoc {α : Type} [DecidableEq α] (x : α) : ∀ (xs acc : List α), once acc (xs ++ [x]) = if x ∈ once acc xs then once acc xs else once acc xs ++ [x]
  | [], acc => rfl
  | y :: ys, acc => once_snoc x ys _
theorem mem_once {α : Type} [DecidableEq α] (x : α) : ∀ (xs acc : List α), x ∈ once acc xs ↔ x ∈ acc ∨ x ∈ xs
  | [], acc => by simp [once]
  | y :: ys, acc => by
    show x ∈ once (if y ∈ acc then acc else acc ++ [y]) ys ↔ _
    rw [mem_once x ys]
    by_cases h : y ∈ acc
    · rw [if_pos h, List.mem_cons]
      constructor
      · rintro (h1 | h1)
        · exact .inl h1
        · exact .inr (.inr h1)
      · rintro (h1 | rfl | h1)
        · exact .inl h1
        · exact .inl h
        · exact .inr h1
    · rw [if_neg h, List.mem_append, List.mem_singleton, List.mem_cons, or_assoc]
theorem once_len {α : Type} [DecidableEq α] : ∀ (xs acc : List α), (once acc xs).length ≤ acc.length + xs.length
  | [], acc => Nat.le_refl _
  | y :: ys, acc => by
    have := once_len ys (if y ∈ acc then acc else acc ++ [y])
    show (once _ ys).length ≤ _
    have l : (if y ∈ acc then acc else acc ++ [y]).length ≤ acc.length + 1 := by
      split
      · omega
      · rw [List.length_append]; exact Nat.le_refl _
    rw [List.length_cons]
    omega
theorem once_nodup {α : Type} [DecidableEq α] : ∀ (xs acc : List α), (acc ++ xs).Nodup → once acc xs = acc ++ xs
  | [], acc, _ => by simp [once]
  | y :: ys, acc, h => by
    have hy : y ∉ acc := fun m => by
      rw [List.nodup_append] at h
      exact h.2.2 y m y (List.mem_cons_self ..) rfl
    show once (if y ∈ acc then acc else acc ++ [y]) ys = _
    have e : acc ++ y :: ys = (acc ++ [y]) ++ ys := by simp
    rw [if_neg hy, once_nodup ys (acc ++ [y]) (by rw [← e]; exact h), e]
theorem once_short {α : Type} [DecidableEq α] : ∀ (xs acc : List α), acc.Nodup → ¬ (acc ++ xs).Nodup → (once acc xs).length < acc.length + xs.length
  | [], acc, h, n => absurd (by simpa using h) n
  | y :: ys, acc, h, n => by
    show (once (if y ∈ acc then acc else acc ++ [y]) ys).length < _
    rw [List.length_cons]
    by_cases hy : y ∈ acc
    · rw [if_pos hy]
      have := once_len ys acc
      omega
    · rw [if_neg hy]
      have e : acc ++ y :: ys = (acc ++ [y]) ++ ys := by simp
      have h2 : (acc ++ [y]).Nodup := List.nodup_append.mpr ⟨h, by simp, fun a ha b hb => by
        rw [List.mem_singleton.mp hb]
        exact fun z => hy (z ▸ ha)⟩
      have := once_short ys (acc ++ [y]) h2 (by rw [← e]; exact n)
      rw [List.length_append] at this
      simp at this
      omega
section
variable {prog : Program} {w : World} {K : Type} [DecidableEq K] {knd : KeyKind prog w K}
/-- the set at a holds just these -/
def Holds (knd : KeyKind prog w K) (h : Heap) (a : Addr) (ks : List K) : Prop := h.SetOf knd a (inB ks) (once [] ks).length
theorem setOf_same {h : Heap} {a : Addr} {S S' : K → Bool} {n n' : Nat} (x : h.SetOf knd a S n) (e : ∀ k, S k = S' k) (en : n = n') : h.SetOf knd a S' n' := by
  cases (funext e : S = S')
  cases en
  exact x
theorem Holds.keep {h h' : Heap} {a : Addr} {ks : List K} (x : Holds knd h a ks) (k : ∀ o, h.get? a = some o → h'.get? a = some o) : Holds knd h' a ks := by
  have ⟨o, es, ep, t, ho, r⟩ := x
  exact ⟨o, es, ep, t, k o ho, r⟩
theorem Holds.more {h : Heap} {a : Addr} {ks : List K} {k : K} (x : h.SetOf knd a (fun j => inB ks j || decide (j = k)) (if inB ks k then (once [] ks).length else (once [] ks).length + 1)) : Holds knd h a (ks ++ [k]) := by
  refine setOf_same x (fun j => ?_) ?_
  · unfold inB
    rw [← Bool.decide_or]
    exact decide_eq_decide.mpr (by rw [List.mem_append, List.mem_singleton])
  · rw [once_snoc]
    have e : k ∈ once [] ks ↔ k ∈ ks := by rw [mem_once]; simp
    by_cases m : k ∈ ks
    · rw [if_pos (inB_iff.mpr m), if_pos (e.mpr m)]
    · rw [if_neg (fun z => m (e.mp z)), List.length_append]
      have : ¬ inB ks k = true := fun z => m (inB_iff.mp z)
      rw [if_neg this]
      rfl
variable {A : Around} {I : Addr} {fp wr : List Addr} {G : Array GenState → Array GenState → Prop} {n : Nat} {Pv : Nat → Value → Prop} {St : Nat → Shared → Prop} {R : Result → Shared → Prop}
/-- the loop of an update, from the i-th on -/
theorem loop_keys (W : WalksS prog w A.in1 I fp wr G n Pv St) {S : Addr} (off : S ∉ fp) {ks : List K} (lk : ks.length = n) (room : n + 1 < scanBound)
    (key : ∀ (i : Nat) (v : Value), Pv i v → ∃ k, ks[i]? = some k ∧ knd.is k v = true ∧ v.scannable = true) :
    ∀ (m i : Nat) (s : Shared), i + m = n → St i s → Holds knd s.heap S (ks.take i) → (∀ s', Moved (S :: wr) G s s' → Holds knd s'.heap S ks → R (.ok (.ret .none)) s') →
      codeAny (model prog w) A (.builtin "set.update.loop" ⟨[.ref S, .ref I], []⟩) R s
  | m, i, s, hm, st, hs, fin => by
    have wide : ∀ b, b ∈ wr → b ∈ S :: wr := fun b h => List.mem_cons_of_mem S h
    have offw : S ∉ wr := fun h => off (W.sub _ h)
    refine codeAny_builtin PyProof.Rows.F.entry_set_update_loop (by
      rw [Around.under_plainId PyProof.Rows.F.plain_set_update_loop _]
      show wpAny _ A.in1 (pyNext (.ref I) >>= _) _ _ s
      refine wpAny_bind ?_
      cases m with
      | zero =>
        have ein : i = n := by omega
        subst ein
        refine W.done s _ _ st fun s' mv => ?_
        show wpAny _ A.in1 (ret Value.none) _ _ s'
        have full : ks.take i = ks := by rw [← lk]; exact List.take_length
        rw [full] at hs
        exact wpAny_pure (fin s' (mv.mono wide) (hs.keep fun o e => mv.heap S o offw e))
      | succ m =>
        refine W.item i s _ _ (by omega) st fun v s' pv st' mv => ?_
        obtain ⟨k, hk, isk, sc⟩ := key i v pv
        have hs' := hs.keep fun o e => mv.heap S o offw e
        show wpAny _ A.in1 (holding [v] (setAdd S v) >>= _) _ _ s'
        refine wpAny_bind (wpAny_holding (by
          unfold setAdd
          refine wpAny_holding (wpAny_bind (knd.pyHash isk ?_))
          have small : (once [] (ks.take i)).length + 1 < scanBound := by
            have l1 := once_len (ks.take i) []
            have l2 : (ks.take i).length ≤ n := by rw [← lk]; exact List.length_take_le' ..
            simp only [List.length_nil] at l1
            omega
          refine wpAny_setAddHashed_of (knd := knd) (s := { s' with toks := s'.toks + 1 }) isk sc hs' small fun h' same grown => ?_
          have next : Holds knd h' S (ks.take (i + 1)) := by
            rw [List.take_succ, hk]
            exact Holds.more grown
          have st2 := W.frame (i + 1) s' h' (s'.toks + 1) st' (Nat.le_succ _) fun b hb o e => (same.2 b (fun z => off (z ▸ hb))).trans e
          refine wpAny_pure ⟨plainId_quiet PyProof.Rows.F.plain_set_update_loop _, loop_keys W off lk room key m (i + 1) _ (by omega) st2 next fun s2 mv2 all => ?_⟩
          refine fin s2 (Moved.trans W.gtrans ((mv.mono wide).then_heap (Nat.le_succ _) fun b o nb e => ?_) mv2) all
          exact (same.2 b (fun z => nb (z ▸ List.mem_cons_self ..))).trans e)))
end
end W0
namespace W0
open PySem PySem.Spec
section
variable {prog : Program} {w : World} {K : Type} [DecidableEq K] {knd : KeyKind prog w K} {A : Around} {E : Value → Shared → Prop} {s : Shared}
/-- an empty set, just made on top of a heap -/
abbrev emptyOn (h : Heap) (led : Bool) : Heap := h.push { cls := .type "set", dict := none, data := .set #[] 0 (.fresh 0 0 led) }
theorem emptyOn_at (h : Heap) (led : Bool) : (emptyOn h led).get? h.objs.size = some { cls := .type "set", dict := none, data := .set #[] 0 (.fresh 0 0 led) } := Heap.get?_push_size _ rfl
/-- what its filling ends in -/
def Filled (knd : KeyKind prog w K) (s : Shared) (ks : List K) (v : Value) (s2 : Shared) : Prop :=
  v = .none ∧ ∃ h' tk, s2 = { s with heap := h', toks := tk } ∧ Holds knd h' s.heap.objs.size ks ∧ ∀ b o, s.heap.get? b = some o → h'.get? b = some o
theorem fill_keys {l : Addr} {items : Array Value} {ks : List K} (led : Bool) (hh : A.handled = none) (hl : s.heap.IsList l items) (lk : ks.length = items.size) (room : items.size + 1 < scanBound)
    (key : ∀ (i : Nat) (v : Value), items[i]? = some v → ∃ k, ks[i]? = some k ∧ knd.is k v = true ∧ v.scannable = true) :
    codeAny (model prog w) A (.call (.builtin "set.__init__") ⟨[.ref s.heap.objs.size, .ref l], []⟩) (wants (Filled knd s ks) E) { s with heap := emptyOn s.heap led } := by
  have isSet : Shared.TypeIs { s with heap := emptyOn s.heap led } (.ref s.heap.objs.size) "set" := ⟨_, emptyOn_at s.heap led, rfl⟩
  refine codeAny_call_builtin F.called_set.init.plain F.entry_set_init (check_set_init_1 isSet ?_)
  have ⟨ol, hol, hcl, nl, hdl⟩ := hl
  obtain ⟨ocls, odict, odata, oslots⟩ := ol
  cases hcl
  cases hdl
  have there := Heap.get?_push_of_some { cls := .type "set", dict := none, data := .set #[] 0 (.fresh 0 0 led) } hol
  have asList : (emptyOn s.heap led).IsList l items := ⟨_, there, rfl, nl, rfl⟩
  have noSub := F.sub_list_set
  have noSubF := F.sub_list_frozenset
  have noDict : (Value.type "list" == Value.type "dict") = false := by decide
  have low : l < s.heap.objs.size := Heap.lt_size hol
  unfold Builtin.«set.__init__» noKeywords Builtin.Frozenset.updateFrom
  generalize walkOf : pyIter = PI
  wp_walk
  subst walkOf
  refine wpAny_pyIter_list asList (wpAny_bind (wpAny_runValue ?_))
  have top : (emptyOn s.heap led).objs.size = s.heap.objs.size + 1 := Heap.size_push ..
  have ne1 : l ≠ (emptyOn s.heap led).objs.size := Nat.ne_of_lt (by rw [top]; exact Nat.lt_succ_of_lt low)
  have off : s.heap.objs.size ∉ [(emptyOn s.heap led).objs.size, l] := by
    rw [top]
    simp only [List.mem_cons, List.not_mem_nil, or_false, not_or]
    exact ⟨Nat.ne_of_lt (Nat.lt_succ_self _), (Nat.ne_of_lt low).symm⟩
  have quiet : A.in1.in1.handled = none := by simp [hh]
  have atOnce : Holds knd ((emptyOn s.heap led).push { cls := .type "list_iterator", data := .fields #[.ref l, .int 0 0] }) s.heap.objs.size (ks.take 0) :=
    setOf_same ((PyProof.Rows.setObjOf_fresh (knd := knd) led).setOf (Heap.get?_push_of_some _ (emptyOn_at s.heap led)) (by unfold scanBound; omega)) (fun _ => rfl) rfl
  refine loop_keys ((Walks.list quiet _ l ne1 items).toS) off lk room key items.size 0 _ (Nat.zero_add _) ?_ ?_ fun s' mv all => ?_
  · exact ⟨⟨_, Heap.get?_push_size _ rfl, rfl, rfl⟩, asList.push _⟩
  · exact atOnce
  obtain ⟨h', g', d', tk', os'⟩ := s'
  cases show g' = s.gens from mv.gens
  cases show d' = s.drawn from mv.drawn
  cases show os' = s.os from mv.os
  show wpAny _ _ _ _ _ _
  refine wpAny_pure (show wpAny _ _ (ret Value.none) _ _ _ from wpAny_pure ⟨rfl, h', tk', rfl, all, fun b o e => ?_⟩)
  have lt := Heap.lt_size e
  refine mv.heap b o ?_ (Heap.get?_push_of_some _ (Heap.get?_push_of_some _ e))
  rw [top]
  simp only [List.mem_cons, List.not_mem_nil, or_false, not_or]
  exact ⟨Nat.ne_of_lt lt, Nat.ne_of_lt (Nat.lt_succ_of_lt lt)⟩
end
end W0
namespace W0
open PySem PySem.Spec
section
variable {prog : Program} {w : World} {K : Type} [DecidableEq K] {knd : KeyKind prog w K} {A : Around} {E : Value → Shared → Prop} {s : Shared}
/-- set(xs) of a list of such keys -/
theorem set_keys {l : Addr} {items : Array Value} {ks : List K} {Q : Value → Shared → Prop} (hh : A.handled = none) (hl : s.heap.IsList l items) (lk : ks.length = items.size) (room : items.size + 1 < scanBound)
    (key : ∀ (i : Nat) (v : Value), items[i]? = some v → ∃ k, ks[i]? = some k ∧ knd.is k v = true ∧ v.scannable = true)
    (h : ∀ (h' : Heap) (tk : Nat), Holds knd h' s.heap.objs.size ks → (∀ b o, s.heap.get? b = some o → h'.get? b = some o) → Q (.ref s.heap.objs.size) { s with heap := h', toks := tk }) :
    wpAny (model prog w) A (call (.type "set") [.ref l]) Q E s := by
  have ⟨_, _, order⟩ := F.called_set.mro
  have made := F.called_set.made
  have below := F.called_set.sub
  have other := F.called_set.notType
  have can := F.called_set.canCreate
  have checked := F.typeCall_set_1 (.ref l)
  have found := F.called_set.init.lookup
  have bound := F.called_set.init.bind (.ref s.heap.objs.size)
  refine wpAny_call (codeAny_of_tree (show wpAny _ _ (callAny (.type "set") _) _ _ _ from wpAny_pure ⟨Code.quiet_builtin _ (by decide +kernel), codeAny_builtin F.entry_type_call ?_⟩))
  rw [Around.under_plain (weight_type_call_type "set" [.ref l] []) rfl]
  repeat (any_goals (first | wp_step | assumption))
  refine codeAny_mono (code_set_new_1 (.ref l) (E := E) (Q₁ := fun v s1 => ∃ led : Bool, v = .ref s.heap.objs.size ∧ s1 = { s with heap := emptyOn s.heap led }) fun led => ⟨led, rfl, rfl⟩) fun r s1 hr => ?_
  rcases r with e | fl
  · exact hr
  rcases fl with _ | _ | _ | v
  all_goals first | exact hr.elim | skip
  obtain ⟨led, e1, e2⟩ := hr
  subst e1 e2
  have isSet : Shared.TypeIs { s with heap := emptyOn s.heap led } (.ref s.heap.objs.size) "set" := ⟨_, emptyOn_at s.heap led, rfl⟩
  repeat (any_goals (first | wp_step | assumption))
  refine codeAny_mono (fill_keys (E := E) led (by exact hh) hl lk room key) fun r2 s2 hr2 => ?_
  rcases r2 with e | fl2
  · exact hr2
  rcases fl2 with _ | _ | _ | v2
  all_goals first | exact hr2.elim | skip
  obtain ⟨e1, h', tk, e2, all, keep⟩ := hr2
  subst e1 e2
  repeat (any_goals (first | wp_step | assumption))
  exact h h' tk all keep
end
end W0
end
-- WSetH
section
set_option Elab.async false
set_option linter.all false
set_option maxRecDepth 100000
set_option maxHeartbeats 1000000
/-! words: set(xs), len of a set -/
namespace W0
open PySem PySem.Spec PyProof.Rows L2
abbrev setOn (P : Program) (w : World) (p : Addr) (ks : List Key) : HO := SetK P w p (inB ks) (once [] ks).length
def rSetL (K : PySem.W.Frag) (P : Program) (w : World) : List V → Hp → VK → Prop := fun xs H Q => ∃ (l : Addr) (ks : List Key), xs = [.ref l] ∧ SqL K H l (ks.map kV) ∧ ks.length ≤ 1000 ∧ ∀ p, H p = none → Q (.ref p) (L2.upd H p (setOn P w p ks))
theorem key_at {ks : List Key} : ∀ {us : List Value}, Vals (ks.map kV) us → ∀ (i : Nat) (v : Value), us[i]? = some v → ∃ k, ks[i]? = some k ∧ RelV (kV k) v := by
  induction ks with
  | nil =>
    intro us r i v h
    cases r
    simp at h
  | cons k ks ih =>
    intro us r i v h
    rw [List.map_cons] at r
    cases r with
    | cons r1 r2 =>
      cases i with
      | zero =>
        simp only [List.getElem?_cons_zero, Option.some.injEq] at h
        subst h
        exact ⟨k, rfl, r1⟩
      | succ i =>
        simp only [List.getElem?_cons_succ] at h
        exact ih r2 i v h
theorem cr_setL {X : Cx} (hc : X.calm = true) : CallR X (.type "set") (rSetL X.K X.prog X.w) := by
  intro pins s σ H xs us Q I r h
  obtain ⟨l, ks, rfl, sq, small, q⟩ := h
  obtain ⟨u, rfl, rx⟩ := vals1 r
  cases rx
  obtain ⟨its, rv, isL, _⟩ := I.list sq
  have ll : ks.length = its.toArray.size := by rw [List.size_toArray, ← rv.length, List.length_map]
  refine set_keys (knd := mixKind X.prog X.w) (ks := ks) (I.ok.hd hc) isL.isList ll (by rw [← ll]; exact Nat.lt_of_le_of_lt (Nat.succ_le_succ small) (by unfold scanBound; decide)) (fun i v hv => ?_) fun h' tk all keep => ?_
  · obtain ⟨k, e, rk⟩ := key_at rv i v (by simpa using hv)
    exact ⟨k, e, kV_is rk, key_scan rk⟩
  · exact ⟨.ref _, L2.upd H s.heap.objs.size (setOn X.prog X.w s.heap.objs.size ks), I.laid (t' := tk) keep (Nat.le_refl _) (setK_new all), rfl, q _ (I.hok.fresh (Nat.le_refl _))⟩
/-- len of a set -/
def rLenS (P : Program) (w : World) : List V → Hp → VK → Prop := fun xs H Q => ∃ (p : Addr) (S : Key → Bool) (n : Nat), xs = [.ref p] ∧ H p = some (SetK P w p S n) ∧ n ≤ 1000 ∧ Q (.int (n : Int)) H
theorem cr_lenS {X : Cx} : CallR X (.builtin "len") (rLenS X.prog X.w) := by
  intro pins s σ H xs us Q I r h
  obtain ⟨p, S, n, rfl, hp, small, q⟩ := h
  obtain ⟨u, rfl, rx⟩ := vals1 r
  cases rx
  obtain ⟨o, es, ep, t, ho, hex, hd, _, _, _, hf, hn⟩ := setK_get I hp
  exact call_len_set ho hex hd hf (by rw [hn]; omega) ⟨.int (n : Int), H, I.tok _, ⟨_, by rw [hn]⟩, q⟩
/-- how many there are once: as many as there are just if no two are one -/
theorem once_full {α : Type} [DecidableEq α] (xs : List α) : ((once [] xs).length = xs.length) ↔ xs.Nodup := by
  constructor
  · intro h
    by_cases n : xs.Nodup
    · exact n
    · have := once_short xs [] List.nodup_nil (by simpa using n)
      simp only [List.length_nil] at this
      omega
  · intro h
    rw [once_nodup xs [] (by simpa using h)]
    rfl
end W0
end
-- KKinds
section
set_option Elab.async false
set_option linter.all false
set_option maxRecDepth 100000
set_option maxHeartbeats 4000000
namespace K1
open PySem PySem.Spec PyProof.Rows L2
def letters : Str := "abcdefghijklmnopqrstuvwxyz"
def figures : Str := "0123456789"
def okSign (c : Nat) : Bool := decide (c ∈ letters.cps.toList) || decide (c ∈ figures.cps.toList)
def nameOk (s : Str) : Bool := decide (1 ≤ s.length) && (decide (s.length ≤ 8) && ((s.cps.toList.head?.any fun c => decide (c ∈ letters.cps.toList)) && s.cps.toList.all okSign))
/-- the types of the values that are asked of -/
def kinds : List String := ["int", "bool", "str", "NoneType", "list", "tuple", "dict"]
theorem TyX.ext {K : PySem.W.Frag} {H H' : Hp} {x : V} {t : Value} (h : TyX K H x t) (e : Same H H') : TyX K H' x t := by
  cases h with
  | base b =>
    refine .base ?_
    cases b with
    | non => exact .non
    | bl y => exact .bl y
    | int i => exact .int i
    | str y => exact .str y
    | flt y => exact .flt y
    | lst ea => exact .lst (e _ _ ea)
    | frz ea => exact .frz (e _ _ ea)
    | tup ea => exact .tup (e _ _ ea)
    | dK ea => exact .dK (e _ _ ea)
    | dT ea => exact .dT (e _ _ ea)
    | ins ea cl ha hn htk hm => exact .ins (e _ _ ea) cl ha hn htk hm
  | byt y => exact .byt y
  | set ea => exact .set (e _ _ ea)
  | kList a b => exact .kList a b
  | kTuple a b => exact .kTuple a b
  | kDict a b => exact .kDict a b
  | fTuple ea => exact .fTuple (e _ _ ea)
  | fDict ea => exact .fDict (e _ _ ea)
theorem kit_int {K : PySem.W.Frag} {t : String} (h : t ∈ kinds) : PySem.W.kitOne K (.type t) (.type "int") = some (decide (t = "int" ∨ t = "bool")) := by
  simp only [kinds, List.mem_cons, List.not_mem_nil, or_false] at h
  rcases h with rfl | rfl | rfl | rfl | rfl | rfl | rfl <;> exact kit_ty (by decide +kernel)
theorem kit_bool {K : PySem.W.Frag} {t : String} (h : t ∈ kinds) : PySem.W.kitOne K (.type t) (.type "bool") = some (decide (t = "bool")) := by
  simp only [kinds, List.mem_cons, List.not_mem_nil, or_false] at h
  rcases h with rfl | rfl | rfl | rfl | rfl | rfl | rfl <;> exact kit_ty (by decide +kernel)
theorem kit_str {K : PySem.W.Frag} {t : String} (h : t ∈ kinds) : PySem.W.kitOne K (.type t) (.type "str") = some (decide (t = "str")) := by
  simp only [kinds, List.mem_cons, List.not_mem_nil, or_false] at h
  rcases h with rfl | rfl | rfl | rfl | rfl | rfl | rfl <;> exact kit_ty (by decide +kernel)
theorem kit_list {K : PySem.W.Frag} {t : String} (h : t ∈ kinds) : PySem.W.kitOne K (.type t) (.type "list") = some (decide (t = "list")) := by
  simp only [kinds, List.mem_cons, List.not_mem_nil, or_false] at h
  rcases h with rfl | rfl | rfl | rfl | rfl | rfl | rfl <;> exact kit_ty (by decide +kernel)
theorem kit_tuple {K : PySem.W.Frag} {t : String} (h : t ∈ kinds) : PySem.W.kitOne K (.type t) (.type "tuple") = some (decide (t = "tuple")) := by
  simp only [kinds, List.mem_cons, List.not_mem_nil, or_false] at h
  rcases h with rfl | rfl | rfl | rfl | rfl | rfl | rfl <;> exact kit_ty (by decide +kernel)
theorem kit_dict {K : PySem.W.Frag} {t : String} (h : t ∈ kinds) : PySem.W.kitOne K (.type t) (.type "dict") = some (decide (t = "dict")) := by
  simp only [kinds, List.mem_cons, List.not_mem_nil, or_false] at h
  rcases h with rfl | rfl | rfl | rfl | rfl | rfl | rfl <;> exact kit_ty (by decide +kernel)
def isSeqT (t : String) : Bool := decide (t = "list") || decide (t = "tuple")
theorem kit_seq {K : PySem.W.Frag} {t : String} (h : t ∈ kinds) : PySem.W.kitAny K (.type t) [.type "list", .type "tuple"] = some (isSeqT t) := by
  unfold PySem.W.kitAny
  rw [kit_list h]
  unfold isSeqT
  by_cases e : t = "list"
  · rw [decide_eq_true e]; rfl
  · rw [decide_eq_false e]
    show PySem.W.kitAny K (.type t) [.type "tuple"] = _
    unfold PySem.W.kitAny
    rw [kit_tuple h]
    by_cases e2 : t = "tuple"
    · rw [decide_eq_true e2]; rfl
    · rw [decide_eq_false e2]; rfl
/-- a tracked list or tuple of just these -/
def SeqV (H : Hp) (v : V) (xs : List V) : Prop := ∃ p, v = .ref p ∧ (H p = some (.lst xs) ∨ H p = some (.tup xs))
theorem SeqV.ext {H H' : Hp} {v : V} {xs : List V} (h : SeqV H v xs) (e : Same H H') : SeqV H' v xs := by
  obtain ⟨p, rfl, h⟩ := h
  exact ⟨p, rfl, h.imp (e _ _) (e _ _)⟩
theorem SeqV.ty {K : PySem.W.Frag} {H : Hp} {v : V} {xs : List V} (h : SeqV H v xs) : ∃ t, TyX K H v (.type t) ∧ t ∈ kinds ∧ isSeqT t = true := by
  obtain ⟨p, rfl, h | h⟩ := h
  · exact ⟨"list", .base (.lst h), by decide, by decide⟩
  · exact ⟨"tuple", .base (.tup h), by decide, by decide⟩
theorem SeqV.sq {K : PySem.W.Frag} {H : Hp} {v : V} {xs : List V} (h : SeqV H v xs) : ∃ p, v = .ref p ∧ (SqL K H p xs ∨ SqT K H p xs) := by
  obtain ⟨p, rfl, h | h⟩ := h
  · exact ⟨p, rfl, .inl (SqL.of h)⟩
  · exact ⟨p, rfl, .inr (SqT.of h)⟩
/-- a value that is neither list nor tuple -/
def NoSeq (K : PySem.W.Frag) (H : Hp) (v : V) : Prop := ∃ t, TyX K H v (.type t) ∧ t ∈ kinds ∧ isSeqT t = false
theorem NoSeq.ext {K : PySem.W.Frag} {H H' : Hp} {v : V} (h : NoSeq K H v) (e : Same H H') : NoSeq K H' v := by
  obtain ⟨t, a, b⟩ := h
  exact ⟨t, TyX.ext a e, b⟩
abbrev V.isIntV : V → Bool | .int _ => true | _ => false
/-- an int, or a value of another type -/
def KnownV (K : PySem.W.Frag) (H : Hp) (v : V) : Prop := ∃ t, TyX K H v (.type t) ∧ t ∈ kinds
theorem KnownV.ext {K : PySem.W.Frag} {H H' : Hp} {v : V} (h : KnownV K H v) (e : Same H H') : KnownV K H' v := by
  obtain ⟨t, a, b⟩ := h
  exact ⟨t, TyX.ext a e, b⟩
/-! promises -/
def spIsInt (K : PySem.W.Frag) : Sp := fun vs H Q _ => ∃ (v : V) (t : String), vs = [v] ∧ TyX K H v (.type t) ∧ t ∈ kinds ∧ Q (.bl (decide (t = "int"))) H
/-- an int from 1 on: told of ints; of all other types no -/
def spFromOne (K : PySem.W.Frag) : Sp := fun vs H Q _ => ∃ (v : V), vs = [v] ∧ ((∃ i, v = .int i ∧ Q (.bl (decide (1 ≤ i))) H) ∨ (∃ t, TyX K H v (.type t) ∧ t ∈ kinds ∧ t ≠ "int" ∧ Q (.bl false) H))
def spIsList (K : PySem.W.Frag) : Sp := fun vs H Q _ => ∃ (v : V) (t : String), vs = [v] ∧ TyX K H v (.type t) ∧ t ∈ kinds ∧ ∀ H', Same H H' → Q (.bl (isSeqT t)) H'
def spIsPair (K : PySem.W.Frag) : Sp := fun vs H Q _ => ∃ (v : V), vs = [v] ∧ ((∃ xs, SeqV H v xs ∧ ∀ H', Same H H' → Q (.bl (decide (xs.length = 2))) H') ∨ (NoSeq K H v ∧ ∀ H', Same H H' → Q (.bl false) H'))
def spIsName (K : PySem.W.Frag) : Sp := fun vs H Q _ => ∃ (v : V), vs = [v] ∧ ((∃ s, v = .str s ∧ s.length ≤ 1000 ∧ ∀ H', Same H H' → Q (.bl (nameOk s)) H') ∨ (∃ t, TyX K H v (.type t) ∧ t ∈ kinds ∧ t ≠ "str" ∧ Q (.bl false) H))
theorem scIsInt : FnScope ["thing"] ["thing"] (defScope sIsInt) := ⟨rfl, rfl, rfl, by decide +kernel, rfl, by decide +kernel, by decide +kernel⟩
theorem scFromOne : FnScope ["thing"] ["thing"] (defScope sFromOne) := ⟨rfl, rfl, rfl, by decide +kernel, rfl, by decide +kernel, by decide +kernel⟩
theorem scIsList : FnScope ["thing"] ["thing"] (defScope sIsList) := ⟨rfl, rfl, rfl, by decide +kernel, rfl, by decide +kernel, by decide +kernel⟩
theorem scIsPair : FnScope ["thing"] ["thing"] (defScope sIsPair) := ⟨rfl, rfl, rfl, by decide +kernel, rfl, by decide +kernel, by decide +kernel⟩
theorem scIsName : FnScope ["thing", "sign"] ["thing"] (defScope sIsName) := ⟨rfl, rfl, rfl, by decide +kernel, rfl, by decide +kernel, by decide +kernel⟩
/-- the built-ins that the text names are still built-in -/
structure Bl (mg : Str → Option Value) : Prop where
  isi : mg "isinstance" = none
  int : mg "int" = none
  bool : mg "bool" = none
  str : mg "str" = none
  list : mg "list" = none
  tuple : mg "tuple" = none
  dict : mg "dict" = none
  len : mg "len" = none
  all : mg "all" = none
section
variable {P : Program} {w : World} {K : PySem.W.Frag} {mg : Str → Option Value} {base : Heap}
theorem ok_isInt {f : Addr} {fd : FuncData} (F : Fun K "is_integer" "is_integer" sIsInt f fd) (B : Bl mg) : FnOk P w K mg base CX0 1 f fd ["thing"] (spIsInt K) := by
  refine F.ok scIsInt (fun vs H Q E h => ?_) (fun cdv A outer s H vs Q E hr h => ?_)
  · obtain ⟨v, t, rfl, _⟩ := h
    rfl
  obtain ⟨v, t, rfl, ty, kt, q⟩ := h
  refine ⟨_, pss_one (by exact ps_ret (pe_and (pe_callB call_isi rfl B.isi PyProof.Rows.boot_isinstance (pa_cons (pv 0) (pa_cons (pe_bltn (v := .ty "int") rfl B.int PyProof.Rows.boot_int rfl) pa_nil)))
    (pe_one (pe_not (pe_callB call_isi rfl B.isi PyProof.Rows.boot_isinstance (pa_cons (pv 0) (pa_cons (pe_bltn (v := .ty "bool") rfl B.bool PyProof.Rows.boot_bool rfl) pa_nil))))))), ?_⟩
  refine ⟨_, rfl, v, _, _, _, _, rfl, .ty "int", ty, kit_int kt, _, rfl, ?_⟩
  refine ite2 (fun c => ?_) (fun c => ?_)
  · refine ⟨_, rfl, v, _, _, _, _, rfl, .ty "bool", ty, kit_bool kt, _, rfl, ?_⟩
    have c' := of_decide_eq_true c
    have e : (!decide (t = "bool")) = decide (t = "int") := by
      rcases c' with rfl | rfl <;> decide
    rw [e]
    exact q
  · have c' := of_decide_eq_false (Bool.eq_false_iff.mpr c)
    have e : decide (t = "int") = false := decide_eq_false fun z => c' (.inl z)
    rw [e] at q
    exact q
theorem ok_fromOne {f g : Addr} {fd gd : FuncData} (F : Fun K "is_from_one" "is_from_one" sFromOne f fd) (FI : Fun K "is_integer" "is_integer" sIsInt g gd) (b : Binds K gd ["thing"] []) (m : mg "is_integer" = some (.ref g)) (B : Bl mg) :
    FnOk P w K mg base CX0 2 f fd ["thing"] (spFromOne K) := by
  have G := ok_isInt (P := P) (w := w) (base := base) FI B
  refine F.ok scFromOne (fun vs H Q E h => ?_) (fun cdv A outer s H vs Q E hr h => ?_)
  · obtain ⟨v, rfl, _⟩ := h
    rfl
  obtain ⟨v, rfl, h⟩ := h
  refine ⟨_, pss_one (by exact ps_ret (pe_and (pe_call G hr rfl m FI.kp b .nil pass0 (pa_cons (pv 0) pa_nil)) (pe_one (pe_cmpR op_ge (pv 0) pe_int (nomark _))))), ?_⟩
  rcases h with ⟨i, rfl, q⟩ | ⟨t, ty, kt, nt, q⟩
  · exact ⟨_, rfl, .int i, "int", rfl, .base (.int i), by decide, _, rfl, iteT ⟨_, rfl, i, 1, rfl, rfl, q⟩⟩
  · refine ⟨_, rfl, v, t, rfl, ty, kt, _, rfl, ?_⟩
    rw [decide_eq_false nt]
    exact iteF q
theorem ok_isList {f : Addr} {fd : FuncData} (F : Fun K "is_list" "is_list" sIsList f fd) (B : Bl mg) : FnOk P w K mg base CX0 1 f fd ["thing"] (spIsList K) := by
  refine F.ok scIsList (fun vs H Q E h => ?_) (fun cdv A outer s H vs Q E hr h => ?_)
  · obtain ⟨v, t, rfl, _⟩ := h
    rfl
  obtain ⟨v, t, rfl, ty, kt, q⟩ := h
  refine ⟨_, pss_one (by exact ps_ret (pe_callB call_isiT rfl B.isi PyProof.Rows.boot_isinstance (pa_cons (pv 0) (pa_cons (pe_tup (pa_cons (pe_bltn (v := .ty "list") rfl B.list PyProof.Rows.boot_list rfl)
    (pa_cons (pe_bltn (v := .ty "tuple") rfl B.tuple PyProof.Rows.boot_tuple rfl) pa_nil))) pa_nil)))), ?_⟩
  refine ⟨_, rfl, (by show 2 ≤ sizeLine; decide), fun p hp => ?_⟩
  have e := K1.Same.upd (H := H) (p := p) (o := .tup [.ty "list", .ty "tuple"]) hp
  exact ⟨v, p, _, _, _, _, rfl, upd_same, .cons (.ty "list") (.cons (.ty "tuple") .nil), TyX.ext ty e, kit_seq kt, q _ e⟩
theorem ok_isPair {f g : Addr} {fd gd : FuncData} (F : Fun K "is_pair" "is_pair" sIsPair f fd) (FI : Fun K "is_list" "is_list" sIsList g gd) (b : Binds K gd ["thing"] []) (m : mg "is_list" = some (.ref g)) (B : Bl mg) :
    FnOk P w K mg base CX0 2 f fd ["thing"] (spIsPair K) := by
  have G := ok_isList (P := P) (w := w) (base := base) FI B
  refine F.ok scIsPair (fun vs H Q E h => ?_) (fun cdv A outer s H vs Q E hr h => ?_)
  · obtain ⟨v, rfl, _⟩ := h
    rfl
  obtain ⟨v, rfl, h⟩ := h
  refine ⟨_, pss_one (by exact ps_ret (pe_and (pe_call G hr rfl m FI.kp b .nil pass0 (pa_cons (pv 0) pa_nil)) (pe_one (pe_cmpR op_eq (pe_callB call_len_seq rfl B.len PySem.boot_len (pa_cons (pv 0) pa_nil)) pe_int (nomark _))))), ?_⟩
  rcases h with ⟨xs, sv, q⟩ | ⟨⟨t, ty, kt, nt⟩, q⟩
  · obtain ⟨t, ty, kt, st⟩ := sv.ty (K := K)
    refine ⟨_, rfl, v, t, rfl, ty, kt, fun H' e => ⟨_, rfl, ?_⟩⟩
    rw [st]
    refine iteT ?_
    obtain ⟨p, rfl, sq⟩ := (sv.ext e).sq (K := K)
    refine ⟨_, rfl, p, xs, rfl, sq, rfl, ?_⟩
    have z : decide (V.int (xs.length : Int) = V.int 2) = decide (xs.length = 2) := by
      apply decide_eq_decide.mpr
      constructor
      · intro h; have := V.int.inj h; omega
      · intro h; rw [h]; rfl
    rw [z]
    exact q H' e
  · refine ⟨_, rfl, v, t, rfl, ty, kt, fun H' e => ⟨_, rfl, ?_⟩⟩
    rw [nt]
    exact iteF (q H' e)
end
end K1
end
-- KErr
section
set_option Elab.async false
set_option linter.all false
set_option maxRecDepth 100000
set_option maxHeartbeats 4000000
namespace K1
open PySem PySem.Spec PyProof.Rows L2
abbrev sIH : Stmt := inClass (top 4) 0
abbrev sIR : Stmt := inClass (top 5) 0
abbrev sID : Stmt := inClass (top 6) 0
/-- what the written part says of FeastError, at CF -/
structure FeC (K : PySem.W.Frag) (mg : Str → Option Value) (CF : Addr) : Prop where
  m : mg "FeastError" = some (.ref CF)
  sp : PySem.W.specialIn K (.ref CF) "__getattribute__" = some (some (.builtin "type.__getattribute__"))
  rd : PySem.W.readsIn K CF (.type "type") = true
  ini : PySem.W.findCls K (.ref CF) (.type "type") "__init__" = some (.val (.builtin "ValueError.__init__"))
section
variable {X : Cx} {e : Expr} {es : List Expr} {ta : TA} {p1 p2 pos : Pos}
theorem pe_feinit {pl : Sem Bool} {CF : Addr} (hg : Gl X "FeastError") (T : FeC X.K X.mg CF) (ha : PA X (e :: es) ta)
    (hc : eval (.Call (.Attribute (.Name "FeastError" p1) "__init__" p2) (e :: es) [] pos) X.env = (do
      let ov ← eval (.Name "FeastError" p1) X.env
      standAt p2.atName
      let (f, first) ← holding [ov] (getMethod ov "__init__" pl)
      callWith pos f first (backTo pos (starEach (e :: es) X.env)) (backToKw pos (keywordEach [] X.env))) := by rfl)
    (he : starEach (e :: es) X.env = (false, eval e X.env) :: starEach es X.env := by rfl) (hpl : (backTo pos (starEach es X.env)).any (·.1) = false := by rfl) :
    PE X (.Call (.Attribute (.Name "FeastError" p1) "__init__" p2) (e :: es) [] pos) (tVeI X.K ta) := by
  refine ⟨fun pins s σ H Q I h => ?_⟩
  refine PySem.W.methodCall_KW (ld_glob I hg T.m ?_ (by decide)) hc
  refine PySem.W.method_cls I.kIn T.sp (PySem.W.cls_value I.kIn T.rd T.ini (by decide +kernel) ?_)
  show wpAny _ _ (callWith pos (Value.builtin "ValueError.__init__") [] (backTo pos (starEach (e :: es) X.env)) []) _ _ _
  refine PyProof.Rows.callWith_method1 (thn (ha.run pos pins _ σ H _ (I.tok _) h) fun us s1 ⟨vs, H1, I1, r1, a, C, ws, ev, hl, T, ea, q⟩ => ?_) he hpl
  subst ev
  cases r1 with
  | @cons _ u0 _ ur ra rw' =>
    obtain rfl : u0 = Value.ref a := ra
    have hlen : ur.length ≤ sizeLine := by
      rw [← Paired.length rw', sizeLine_eq]
      omega
    exact oinit_ok T I1 ea hlen fun s' J => ⟨.non, H1, J, rfl, q⟩
end
/-- what the written part says of an error's class with one field -/
structure ErC (K : PySem.W.Frag) (mg : Str → Option Value) (x : Str) (C f : Addr) : Prop where
  m : mg x = some (.ref C)
  ox : OexC K C
  no : PySem.W.findIn K (.ref C) "index" = some none
  ini : PySem.W.findIn K (.ref C) "__init__" = some (some (.ref f))
  ty : PySem.W.typeIn K (.ref f) = some (.type "function")
def spErI (C : Addr) : Sp := fun vs H Q _ => ∃ (a : Addr) (v : V), vs = [.ref a, v] ∧ H a = some (exo a C none) ∧ ∀ d, H d = none → d ≠ a → Q .non (upd (upd H d (exd d [("index", v)])) a (exo a C (some d)))
theorem scIH : FnScope ["self", "index"] ["self", "index"] (defScope sIH) := ⟨rfl, rfl, rfl, by decide +kernel, rfl, by decide +kernel, by decide +kernel⟩
theorem scIR : FnScope ["self", "index"] ["self", "index"] (defScope sIR) := ⟨rfl, rfl, rfl, by decide +kernel, rfl, by decide +kernel, by decide +kernel⟩
theorem scID : FnScope ["self", "index"] ["self", "index"] (defScope sID) := ⟨rfl, rfl, rfl, by decide +kernel, rfl, by decide +kernel, by decide +kernel⟩
section
variable {P : Program} {w : World} {K : PySem.W.Frag} {mg : Str → Option Value} {base : Heap} {CF : Addr}
theorem ok_iH {f C : Addr} {fd : FuncData} (F : Fun K "__init__" "BadHouses.__init__" sIH f fd) (T : FeC K mg CF) (TC : ErC K mg "BadHouses" C f) : FnOk P w K mg base CX0 1 f fd ["self", "index"] (spErI C) := by
  refine F.ok scIH (fun vs H Q E h => ?_) (fun cdv A outer s H vs Q E hr h => ?_)
  · obtain ⟨a, v, rfl, _⟩ := h
    rfl
  obtain ⟨a, v, rfl, ha, q⟩ := h
  refine ⟨_, pss_cons (by exact ps_expr (pe_feinit rfl T (pa_cons (pv 0) (pa_cons pe_str pa_nil)))) (pss_one (by exact ps_ost (pv 0) (pv 1))), ?_⟩
  refine ⟨_, rfl, a, C, [.str _], rfl, (by decide), TC.ox, ha, _, rfl, _, rfl, a, C, rfl, TC.ox, TC.no, .inl ⟨ha, fun d hd n => q d hd n⟩⟩
theorem ok_iR {f C : Addr} {fd : FuncData} (F : Fun K "__init__" "BadRoads.__init__" sIR f fd) (T : FeC K mg CF) (TC : ErC K mg "BadRoads" C f) : FnOk P w K mg base CX0 1 f fd ["self", "index"] (spErI C) := by
  refine F.ok scIR (fun vs H Q E h => ?_) (fun cdv A outer s H vs Q E hr h => ?_)
  · obtain ⟨a, v, rfl, _⟩ := h
    rfl
  obtain ⟨a, v, rfl, ha, q⟩ := h
  refine ⟨_, pss_cons (by exact ps_expr (pe_feinit rfl T (pa_cons (pv 0) (pa_cons pe_str pa_nil)))) (pss_one (by exact ps_ost (pv 0) (pv 1))), ?_⟩
  refine ⟨_, rfl, a, C, [.str _], rfl, (by decide), TC.ox, ha, _, rfl, _, rfl, a, C, rfl, TC.ox, TC.no, .inl ⟨ha, fun d hd n => q d hd n⟩⟩
theorem ok_iD {f C : Addr} {fd : FuncData} (F : Fun K "__init__" "BadHeads.__init__" sID f fd) (T : FeC K mg CF) (TC : ErC K mg "BadHeads" C f) : FnOk P w K mg base CX0 1 f fd ["self", "index"] (spErI C) := by
  refine F.ok scID (fun vs H Q E h => ?_) (fun cdv A outer s H vs Q E hr h => ?_)
  · obtain ⟨a, v, rfl, _⟩ := h
    rfl
  obtain ⟨a, v, rfl, ha, q⟩ := h
  refine ⟨_, pss_cons (by exact ps_expr (pe_feinit rfl T (pa_cons (pv 0) (pa_cons pe_str pa_nil)))) (pss_one (by exact ps_ost (pv 0) (pv 1))), ?_⟩
  refine ⟨_, rfl, a, C, [.str _], rfl, (by decide), TC.ox, ha, _, rfl, _, rfl, a, C, rfl, TC.ox, TC.no, .inl ⟨ha, fun d hd n => q d hd n⟩⟩
end
end K1
end
-- KName
section
set_option Elab.async false
set_option linter.all false
set_option maxRecDepth 100000
set_option maxHeartbeats 4000000
namespace K1
open PySem PySem.Spec PyProof.Rows L2
structure Signs (mg : Str → Option Value) : Prop where
  let_ : ∃ t, mg "LETTERS" = some (.str letters t)
  fig : ∃ t, mg "FIGURES" = some (.str figures t)
  lon : ∃ t, mg "LONGEST_NAME" = some (.int 8 t)
theorem map_take_succ {α β : Type} {l : List α} {f : α → β} {i : Nat} {c : α} (h : l[i]? = some c) : (l.take (i + 1)).map f = (l.take i).map f ++ [f c] := by
  rw [List.take_add_one, h]
  simp
section
variable {P : Program} {w : World} {K : PySem.W.Frag} {mg : Str → Option Value} {base : Heap}
theorem ok_isName {f : Addr} {fd : FuncData} (F : Fun K "is_name" "is_name" sIsName f fd) (B : Bl mg) (S : Signs mg) : FnOk P w K mg base CX0 1 f fd ["thing"] (spIsName K) := by
  refine F.ok scIsName (fun vs H Q E h => ?_) (fun cdv A outer s H vs Q E hr h => ?_)
  · obtain ⟨v, rfl, _⟩ := h
    rfl
  obtain ⟨v, rfl, h⟩ := h
  obtain ⟨t1, mL⟩ := S.let_
  obtain ⟨t2, mF⟩ := S.fig
  obtain ⟨t3, mN⟩ := S.lon
  have nd := scIsName.nd
  refine ⟨_, pss_cons (by exact ps_if (PW.pt (pw_or (pt_not (pt_val (pe_callB call_isi rfl B.isi PyProof.Rows.boot_isinstance (pa_cons (pv 0) (pa_cons (pe_bltn (v := .ty "str") rfl B.str PyProof.Rows.boot_str rfl) pa_nil)))))
      (pw_or1 (pt_not (pt_chain op_le op_le pe_int (pe_callB call_len_str rfl B.len PySem.boot_len (pa_cons (pv 0) pa_nil)) (pe_glob (v := .int 8) rfl mN ⟨_, rfl⟩)))))) (pss_one (ps_ret pe_bl)) pss_nil)
    (pss_one (by exact ps_ret (pe_and (pe_cmpR op_in_sign (pe_ix ix_str (pv 0) pe_int (fun _ _ => rfl)) (pe_glob (v := .str letters) rfl mL ⟨_, rfl⟩) (by with_unfolding_all rfl))
      (pe_one (pe_callB (cr_all rfl) rfl B.all PyProof.Rows.boot_all (pa_cons (pe_lc (own := [("sign", 1)]) (g := gName 1) (tt := tYes) rfl nd (by exact pi_str (pv 0))
        (by exact blkOk_by (N := ["thing", "sign"]) (sc := defScope sIsName) (by decide +kernel)) (fun _ _ _ _ _ => by exact pg_name (i := 1) nd rfl (Or.inl rfl)) (fun _ _ _ _ _ => pts_nil)
        (fun _ _ _ _ _ => by exact pe_or (pe_cmpR op_in_sign (pv 1) (pe_glob (v := .str letters) rfl mL ⟨_, rfl⟩) (by with_unfolding_all rfl)) (pe_one (pe_cmpR op_in_sign (pv 1) (pe_glob (v := .str figures) rfl mF ⟨_, rfl⟩) (by with_unfolding_all rfl))))) pa_nil)))))), ?_⟩
  rcases h with ⟨z, rfl, hz, q⟩ | ⟨t, ty, kt, nt, q⟩
  · have zl : z.length ≤ sizeLine := Nat.le_of_lt (small1000 hz)
    refine ⟨_, rfl, .str z, _, _, _, _, rfl, .ty "str", .base (.str z), kit_str (t := "str") (by decide), _, rfl, ?_⟩
    refine iteF ?_
    refine ⟨_, rfl, z, rfl, zl, ?_⟩
    refine ⟨_, _, rfl, rfl, _, rfl, ?_⟩
    have q0 : ∀ H', Same H H' → nameOk z = false → Q (.bl false) H' := fun H' e n => by rw [← n]; exact q H' e
    refine ite2 (fun c1 => ?_) (fun c1 => ?_)
    · refine ⟨_, _, rfl, rfl, _, rfl, ?_⟩
      by_cases c2 : (z.length : Int) ≤ 8
      · rw [decide_eq_true c2]
        refine iteF ?_
        have c1' : (1 : Int) ≤ (z.length : Int) := of_decide_eq_true c1
        have hlen : z.cps.toList.length = z.length := rfl
        obtain ⟨c, r, hcr⟩ : ∃ c r, z.cps.toList = c :: r := by
          cases e : z.cps.toList with
          | nil => rw [e] at hlen; simp at hlen; omega
          | cons c r => exact ⟨c, r, rfl⟩
        have ec : z.cps.toList[0]? = some c := by rw [hcr]; rfl
        have hnm : nameOk z = (decide (c ∈ letters.cps.toList) && z.cps.toList.all okSign) := by
          unfold nameOk
          have d1 : decide (1 ≤ z.length) = true := decide_eq_true (by omega)
          have d2 : decide (z.length ≤ 8) = true := decide_eq_true (by omega)
          rw [d1, d2, Bool.true_and, Bool.true_and]
          rw [hcr]
          rfl
        refine ⟨_, rfl, z, 0, c, rfl, rfl, zl, atI_nat (j := 0) ec, c, letters, rfl, rfl, _, rfl, ?_⟩
        by_cases cl : c ∈ letters.cps.toList
        · rw [decide_eq_true cl]
          refine iteT ?_
          refine ⟨_, rfl, z, rfl, fun D hD => ?_⟩
          refine lc_it walk_str (fun i Hc => Same H Hc ∧ Hc D = some (.lst (((z.cps.toList.take i).map okSign).map V.bl))) ⟨K1.Same.upd hD, upd_same⟩ (fun _ _ _ _ => True.intro) ?_ ?_
          · rintro i x Hc H' hi ⟨e1, e2⟩ ⟨rfl, d, hd, rfl⟩
            have hd' : z.cps.toList[i]? = some d := by rw [Array.getElem?_toList]; exact hd
            refine ⟨rfl, ?_⟩
            unfold tYes
            refine iteT ?_
            refine ⟨_, rfl, d, letters, rfl, rfl, _, rfl, ?_⟩
            have fin : ∀ b, b = okSign d → ∃ acc, H' D = some (.lst acc) ∧ acc.length < sizeLine ∧ Same H (upd H' D (.lst (acc ++ [.bl b]))) ∧ upd H' D (.lst (acc ++ [.bl b])) D = some (.lst (((z.cps.toList.take (i + 1)).map okSign).map V.bl)) := fun b hb => by
              refine ⟨_, e2, ?_, fun a o n => ?_, ?_⟩
              · rw [List.length_map, List.length_map]
                exact small1000 (Nat.le_trans (List.length_take_le _ _) (by have : i < z.cps.toList.length := hi; omega))
              · rw [upd_ne (ne_of_none n hD)]
                exact e1 a o n
              · rw [upd_same, map_take_succ hd', List.map_append, hb]
                rfl
            by_cases cd : d ∈ letters.cps.toList
            · rw [decide_eq_true cd]
              refine iteT (fin true ?_)
              unfold okSign
              rw [decide_eq_true cd, Bool.true_or]
            · rw [decide_eq_false cd]
              refine iteF ⟨_, rfl, d, figures, rfl, rfl, fin _ ?_⟩
              unfold okSign
              rw [decide_eq_false cd, Bool.false_or]
          · rintro Hc ⟨e1, e2⟩
            refine ⟨D, _, rfl, SqL.of e2, ?_⟩
            have ht : z.cps.toList.take z.cps.size = z.cps.toList := List.take_of_length_le (Nat.le_of_eq hlen)
            have : ((z.cps.toList.take z.cps.size).map okSign).all id = nameOk z := by
              rw [ht, hnm, decide_eq_true cl, Bool.true_and, List.all_map]
              rfl
            rw [this]
            exact q Hc e1
        · rw [decide_eq_false cl]
          refine iteF (q0 H (Same.refl H) ?_)
          rw [hnm, decide_eq_false cl, Bool.false_and]
      · rw [decide_eq_false c2]
        refine iteT (q0 H (Same.refl H) ?_)
        unfold nameOk
        have d2 : decide (z.length ≤ 8) = false := decide_eq_false (by omega)
        rw [d2, Bool.false_and, Bool.and_false]
    · have c1' : ¬ (1 : Int) ≤ (z.length : Int) := of_decide_eq_false (Bool.eq_false_iff.mpr c1)
      refine ⟨_, rfl, iteT (q0 H (Same.refl H) ?_)⟩
      unfold nameOk
      have d2 : decide (1 ≤ z.length) = false := decide_eq_false (by omega)
      rw [d2, Bool.false_and]
  · refine ⟨_, rfl, v, _, _, _, _, rfl, .ty "str", ty, kit_str kt, _, rfl, ?_⟩
    rw [decide_eq_false nt]
    exact iteT (iteT q)
end
end K1
end
-- KEnumT
section
set_option Elab.async false
set_option linter.all false
set_option maxRecDepth 100000
set_option maxHeartbeats 4000000
/-! enumerate over a tuple -/
namespace K1E
open PySem
open AutoSeq1 (wpAny_loadPart')
theorem meets_new (l : Addr) (items : Array Value) (n : Nat) (dct : Option Addr) (sl : Array (Option Value)) :
    Meets (Builtin.«enumerate.__new__» ⟨[.type "enumerate", .ref l], []⟩) (fun _ R s => s.heap.get? l = some { cls := .type "tuple", dict := dct, data := .seq items n, slots := sl } ∧
      R (.ok (.ret (.ref (s.heap.push { cls := .type "tuple_iterator", data := .fields #[.ref l, .int 0 0] }).objs.size)))
        { s with heap := (s.heap.push { cls := .type "tuple_iterator", data := .fields #[.ref l, .int 0 0] }).push { cls := .type "enumerate", data := .fields #[.none, .bool false, .ref s.heap.objs.size, rawInt 0, .none, .none] } }) :=
  .of_wp fun prog w A R s h => by
    obtain ⟨hp, g, d, tk, os⟩ := s; obtain ⟨hl, h⟩ := h
    have hsub := sub_enumerate
    have hT : Heap.IsTuple (Shared.heap ⟨hp, g, d, tk, os⟩) l items := ⟨_, hl, rfl, n, rfl⟩
    wp_walk using wpAny_loadPart' hl
    refine wpAny_stack_any fun st => wpAny_pure ?_
    split
    · rename_i c _ _ _ _ _
      cases (c == Value.type "enumerate")
      · wp_walk using wpAny_loadPart' hl, wpAny_pyIter_tuple hT
        exact ⟨_, rfl, h⟩
      · wp_walk using wpAny_loadPart' hl, wpAny_pyIter_tuple hT
        exact ⟨_, rfl, h⟩
    · wp_walk using wpAny_loadPart' hl, wpAny_pyIter_tuple hT
      exact ⟨_, rfl, h⟩
section
variable {prog : Program} {w : World} {A : Around} {E : Value → Shared → Prop} {s : Shared}
theorem call_enum_tuple {l : Addr} {items : Array Value} {Q : Value → Shared → Prop} (hL : s.heap.IsTuple l items)
    (h : ∀ h', IsEnum h' (s.heap.objs.size + 1) s.heap.objs.size 0 .none → h'.IsTupleIter s.heap.objs.size l 0 → h'.objs.size = s.heap.objs.size + 2 →
      (∀ b o, s.heap.get? b = some o → h'.get? b = some o) → Q (.ref (s.heap.objs.size + 1)) { s with heap := h' }) :
    wpAny (model prog w) A (call (.type "enumerate") [.ref l]) Q E s := by
  obtain ⟨⟨c, dct, dt, sl⟩, hl, hc, n, hd⟩ := hL
  replace hc : c = .type "tuple" := hc
  replace hd : dt = .seq items n := hd
  subst hc hd
  refine callType_new F.called_enumerate (by decide) (F.typeCall_enumerate_1 _) (F.newCall_enumerate_1 _) (fun obj => F.args_object_init_2 obj _) F.entry_enumerate_new (meets_new l items n dct sl) ⟨hl, ?_⟩
  have hz : (s.heap.push { cls := .type "tuple_iterator", data := .fields #[.ref l, .int 0 0] }).objs.size = s.heap.objs.size + 1 := Heap.size_push ..
  show _ ∧ _
  rw [hz]
  have he : IsEnum ((s.heap.push { cls := .type "tuple_iterator", data := .fields #[.ref l, .int 0 0] }).push
      { cls := .type "enumerate", data := .fields #[.none, .bool false, .ref s.heap.objs.size, rawInt 0, .none, .none] }) (s.heap.objs.size + 1) s.heap.objs.size 0 .none := by
    have q := Heap.get?_push_size (s.heap.push { cls := .type "tuple_iterator", data := .fields #[.ref l, .int 0 0] })
      (o := { cls := .type "enumerate", data := .fields #[.none, .bool false, .ref s.heap.objs.size, rawInt 0, .none, .none] }) rfl
    rw [hz] at q
    exact q
  exact ⟨⟨_, he, rfl⟩, h _ he ⟨_, Heap.get?_push_of_some _ (Heap.get?_push_size _ rfl), rfl, rfl⟩ (by rw [Heap.size_push, hz]) fun b o y => Heap.get?_push_of_some _ (Heap.get?_push_of_some _ y)⟩
end
end K1E
namespace K1
open PySem PySem.Spec PyProof.Rows L2
/-- the tuple at a, each item in a new pair -/
def IteT (K : PySem.W.Frag) (a : Addr) : It :=
  ⟨fun i H => ∃ (xs : List V) (x : V), SqT K H a xs ∧ xs[i]? = some x, fun i H v H' => ∃ T x, v = .ref T ∧ H T = none ∧ H' = upd H T (.tup [.int (i : Nat), x]) ∧ ∀ xs, SqT K H a xs → xs[i]? = some x, fun i H => ∃ xs : List V, SqT K H a xs ∧ xs.length ≤ i⟩
theorem turn_enumT {P : Program} {w : World} {K : PySem.W.Frag} {elts : List Expr} {kk : Nat} {tpos : Pos} (a e it : Addr) :
    Turn P w K (.Tuple elts kk tpos) (IteT K a) [e, it] e (fun i h => (∃ old, IsEnum h e it ((i : Nat) : Int) old) ∧ h.IsTupleIter it a i ∧ e ≠ it) where
  mem := by simp
  obj := fun i h st b hb => by
    obtain ⟨⟨old, he⟩, ⟨o, ho, hc, hd⟩, _⟩ := st
    have e' : b = e ∨ b = it := by simpa using hb
    rcases e' with z | z
    · rw [z]; exact ⟨_, he, fun v q => nomatch q⟩
    · rw [z]; exact ⟨o, ho, fun v q => by rw [hd] at q; cases q⟩
  keep := fun i h h' st k => let ⟨⟨old, he⟩, hi, hne⟩ := st; ⟨⟨old, k e (by simp) _ he⟩, hi.at fun o q => k it (by simp) o q, hne⟩
  item := by
    intro X hP hw hK hc i pins s σ H E I hf st hg
    subst hP hw hK
    obtain ⟨⟨old, he⟩, hit, hne⟩ := st
    obtain ⟨xs, x, hq, hx⟩ := hg
    obtain ⟨its, rv, p, hz⟩ := I.tuple hq
    obtain ⟨u, hu, ru⟩ := rv.get hx
    have hel : e < s.heap.objs.size := Heap.lt_size he
    have hil : it < s.heap.objs.size := by obtain ⟨_, q, _⟩ := hit; exact Heap.lt_size q
    have p' : s.heap.IsTuple a its.toArray := p
    have hlt : i < its.toArray.size := by
      have hh : i < its.length := by
        rcases Nat.lt_or_ge i its.length with q | q
        · exact q
        · rw [List.getElem?_eq_none q] at hu; cases hu
      simpa using hh
    have hia : it ≠ a := fun z => by
      obtain ⟨o, q1, q2, _⟩ := hit
      obtain ⟨o2, q3, q4, _⟩ := p'
      rw [z, q3] at q1
      have q5 := Option.some.inj q1
      rw [← q5, q4] at q2
      exact absurd q2 (by decide)
    have hea : e ≠ a := fun z => by
      obtain ⟨o2, q3, q4, _⟩ := p'
      have he' : s.heap.get? e = _ := he
      rw [z, q3] at he'
      have q5 := Option.some.inj he'
      rw [q5] at q4
      exact absurd (show Value.type "enumerate" = Value.type "tuple" from q4) (by decide)
    refine wpAny_pyNext_enum_itemD (Draws.tuple (A := X.A.in1) (show X.A.in1.handled = Option.none from I.ok.hd hc) it a hia.symm its.toArray) he ⟨hit, p'⟩ hlt hne (fun z => ?_) fun y h' tk hy ho hst hT hsz hk => ?_
    · rcases List.mem_cons.mp z with z | z
      · exact hne z
      · exact hea (List.mem_singleton.mp z)
    have hyu : y = u := by
      have h1 : its.toArray[i]? = some u := by simpa using hu
      rw [h1] at hy
      exact (Option.some.inj hy).symm
    subst hyu
    refine ⟨_, rfl, wpAny_letOwnedTupleGo_enum (s := { s with heap := h', toks := tk + 1 }) ho fun h'' he' sb => ?_⟩
    have hT2 : h''.get? s.heap.objs.size = some { cls := .type "tuple", data := .seq #[.int i tk, y] } := (sb.2 _ (Nat.ne_of_gt hel)).trans hT
    have new : ObjOk X.prog X.w (upd H s.heap.objs.size (.tup [.int (i : Nat), x])) h'' s.heap.objs.size (.tup [.int (i : Nat), x]) :=
      ⟨by show 2 ≤ sizeLine; decide, [.int i tk, y], .cons ⟨_, rfl⟩ (.cons ru .nil), ⟨_, hT2, rfl, _, rfl⟩⟩
    have I1 : Inv X pins σ (upd H s.heap.objs.size (.tup [.int (i : Nat), x])) { s with heap := h'', toks := tk + 1 } :=
      I.turnedNew (ch := [e, it]) (fun b ob hb q => (sb.2 b (fun z => hb (by simp [z]))).trans (hk b ob (fun z => hb (by simp [z])) (fun z => hb (by simp [z])) q)) hf (Nat.le_refl _) new
    refine ⟨.ref s.heap.objs.size, _, I1, rfl, ⟨_, x, rfl, I.hok.fresh (Nat.le_refl _), rfl, fun ys hy => by rw [I.tuple_inj hy hq]; exact hx⟩, ⟨⟨y, ?_⟩, hst.1.at fun o q => (sb.2 it (Ne.symm hne)).trans q, hne⟩, fun b hb => ?_⟩
    · have e1 : ((i + 1 : Nat) : Int) = (i : Int) + 1 := by omega
      rw [e1]; exact he'
    · have hb' : b < s.heap.objs.size := by
        have e' : b = e ∨ b = it := by simpa using hb
        rcases e' with z | z
        · rw [z]; exact hel
        · rw [z]; exact hil
      rw [upd_ne (Nat.ne_of_lt hb')]
      exact (hf b hb).1
  done := by
    intro X hP hw hK hc i pins s σ H E I hf st hg
    subst hP hw hK
    obtain ⟨⟨old, he⟩, hit, hne⟩ := st
    obtain ⟨xs, hq, hx⟩ := hg
    obtain ⟨its, rv, p, hz⟩ := I.tuple hq
    obtain ⟨f0, f1, f2, f3, f4, f5⟩ := hf it (by simp)
    have hl := rv.length
    have p' : s.heap.IsTuple a its.toArray := p
    have hT : s.TypeIs (.ref e) "enumerate" := ⟨_, he, rfl⟩
    unfold pyNext
    refine wpAny_bind (wpAny_attempt (wpAny_callSpecial?_slot (name := Str.ofString "__next__") hT F.slot_enumerate_next (wpAny_call_entry F.slot_enumerate_next hT F.entry_enumerate_next ?_ (F.args_enumerate_next_1 _))))
    show wpAny _ _ (field (.ref e) 2 >>= _) _ _ _
    refine wpAny_bind (wpAny_field he rfl (x := .ref it) rfl ?_)
    refine wpAny_bind (wpAny_nextOf_tuple_end (I.ok.hd hc) hit p' (by simp; omega) fun h' x he' hx' => ?_)
    obtain ⟨o, ho, hc2⟩ := hx'
    refine wpAny_bind (wpAny_isInstance (T := "StopIteration") (b := true) ⟨o, ho, hc2⟩ isSubtype_stop ?_)
    exact wpAny_pure ⟨rfl, I.turned (t' := s.toks) (fun b o hb q => he' b o hb q) f0 f1 f3 f4 f5⟩
  self := fun A i s Q E st h => let ⟨⟨_, he⟩, _⟩ := st; wpAny_pyIter_enum he h
def iEnumA (K : PySem.W.Frag) (ta : TA) : TI := fun σ H R => ta σ H fun vs H1 => ∃ a xs, vs = [.ref a] ∧ ((SqL K H1 a xs ∧ R (Ite K a) H1) ∨ (SqT K H1 a xs ∧ R (IteT K a) H1))
theorem pi_enumA {X : Cx} {e : Expr} {ta : TA} {p pos tpos : Pos} {elts : List Expr} {kk : Nat} (hg : Gl X "enumerate") (hm : X.mg "enumerate" = none) (ha : PA X [e] ta) (hs : starEach [e] X.env = [(false, eval e X.env)] := by rfl) :
    PI X (.Tuple elts kk tpos) (.Call (.Name "enumerate" p) [e] [] pos) (iEnumA X.K ta) := by
  refine ⟨fun pins s σ H R I h => ?_⟩
  refine Call_ (ld_blt I hg hm boot_enumerate (PyProof.Rows.callWith_type1 (thn (ha.run pos pins s σ H _ I h) fun us s1 ⟨vs, H1, I1, r1, q1⟩ => ?_) hs rfl))
  obtain ⟨a, xs, ex, hq⟩ := q1
  subst ex
  cases r1 with
  | cons r rr =>
    cases rr
    cases r
    rcases hq with ⟨hq, q⟩ | ⟨hq, q⟩
    · obtain ⟨its, rv, p', hz⟩ := I1.list hq
      refine call_enumerate_list p'.isList fun h' he hit hsz hk => wpAny_pyIter_enum he ?_
      have I2 : Inv X pins σ H1 { s1 with heap := h' } := I1.kept (t' := s1.toks) hk
      refine ⟨s1.heap.objs.size + 1, [s1.heap.objs.size + 1, s1.heap.objs.size], _, _, H1, rfl, I2, turn_enum a (s1.heap.objs.size + 1) s1.heap.objs.size, ⟨⟨.none, he⟩, hit, Nat.succ_ne_self _⟩, fun b hb => ?_, q⟩
      have e' : b = s1.heap.objs.size + 1 ∨ b = s1.heap.objs.size := by simpa using hb
      have hle : s1.heap.objs.size ≤ b := by
        rcases e' with z | z
        · rw [z]; exact Nat.le_add_right _ _
        · rw [z]; exact Nat.le_refl _
      exact I1.fpOk hle (I1.hok.fresh hle)
    · obtain ⟨its, rv, p', hz⟩ := I1.tuple hq
      refine K1E.call_enum_tuple (show s1.heap.IsTuple a its.toArray from p') fun h' he hit hsz hk => wpAny_pyIter_enum he ?_
      have I2 : Inv X pins σ H1 { s1 with heap := h' } := I1.kept (t' := s1.toks) hk
      refine ⟨s1.heap.objs.size + 1, [s1.heap.objs.size + 1, s1.heap.objs.size], _, _, H1, rfl, I2, turn_enumT a (s1.heap.objs.size + 1) s1.heap.objs.size, ⟨⟨.none, he⟩, hit, Nat.succ_ne_self _⟩, fun b hb => ?_, q⟩
      have e' : b = s1.heap.objs.size + 1 ∨ b = s1.heap.objs.size := by simpa using hb
      have hle : s1.heap.objs.size ≤ b := by
        rcases e' with z | z
        · rw [z]; exact Nat.le_add_right _ _
        · rw [z]; exact Nat.le_refl _
      exact I1.fpOk hle (I1.hok.fresh hle)
theorem walk_enumT {K : PySem.W.Frag} {a : Addr} {xs : List V} : Walk (IteT K a) xs.length (fun H => SqT K H a xs) (YPair (fun i => some (.int (i : Nat))) (fun i => xs[i]?)) := by
  refine ⟨fun i _ hi q => ⟨xs, xs[i], q, by simp [hi]⟩, fun _ q => ⟨xs, q, Nat.le_refl _⟩, fun i H v H' _ q y => ?_⟩
  obtain ⟨T, x, h1, h2, h3, h4⟩ := y
  exact ⟨T, .int (i : Nat), x, h1, h2, h3, rfl, h4 xs q⟩
end K1
end
-- KSeq
section
set_option Elab.async false
set_option linter.all false
set_option maxRecDepth 100000
set_option maxHeartbeats 4000000
namespace K1
open PySem PySem.Spec PyProof.Rows L2
/-- a list or a tuple at a, of xs -/
def SqA (K : PySem.W.Frag) (H : Hp) (a : Addr) (xs : List V) : Prop := SqL K H a xs ∨ SqT K H a xs
theorem SqT.same {K : PySem.W.Frag} {H H' : Hp} {a : Addr} {xs : List V} (e : Same H H') (h : SqT K H a xs) : SqT K H' a xs := by
  rcases h with (h | ⟨o, h⟩) | h
  · exact .inl (.inl (e _ _ h))
  · exact .inl (.inr ⟨o, e _ _ h⟩)
  · exact .inr h
theorem SqA.same {K : PySem.W.Frag} {H H' : Hp} {a : Addr} {xs : List V} (h : SqA K H a xs) (e : Same H H') : SqA K H' a xs := h.imp e.seq (SqT.same e)
/-- what stands at a still stands there -/
def At1 (a : Addr) (H H' : Hp) : Prop := ∀ o, H a = some o → H' a = some o
theorem At1.l {K : PySem.W.Frag} {H H' : Hp} {a : Addr} {xs : List V} (e : At1 a H H') (h : SqL K H a xs) : SqL K H' a xs := by
  rcases h with (h | ⟨o, h⟩) | h
  · exact .inl (.inl (e _ h))
  · exact .inl (.inr ⟨o, e _ h⟩)
  · exact .inr h
theorem At1.t {K : PySem.W.Frag} {H H' : Hp} {a : Addr} {xs : List V} (e : At1 a H H') (h : SqT K H a xs) : SqT K H' a xs := by
  rcases h with (h | ⟨o, h⟩) | h
  · exact .inl (.inl (e _ h))
  · exact .inl (.inr ⟨o, e _ h⟩)
  · exact .inr h
/-- enumerate of the list or tuple in slot i: by any walk over new pairs -/
def iEnumV (K : PySem.W.Frag) (i : Nat) : TI := fun σ H R => ∃ a xs, σ[i]? = some (some (.ref a)) ∧ SqA K H a xs ∧
  ∀ J G, Walk J xs.length G (YPair (fun i => some (.int (i : Nat))) (fun i => xs[i]?)) → (∀ H', At1 a H H' → G H') → R J H
/-- the items of the list or tuple in slot i -/
def iSeqV (K : PySem.W.Frag) (i : Nat) : TI := fun σ H R => ∃ a xs, σ[i]? = some (some (.ref a)) ∧ SqA K H a xs ∧ ∀ J G, Walk J xs.length G (YAt xs) → (∀ H', At1 a H H' → G H') → R J H
/-- a reading of arguments may be taken weaker -/
theorem PI.imp {X : Cx} {tg iter : Expr} {wi wi' : TI} (h : PI X tg iter wi) (hw : ∀ σ H R, wi' σ H R → wi σ H R) : PI X tg iter wi' := ⟨fun pins s σ H R I q => h.run pins s σ H R I (hw σ H R q)⟩
theorem PG.imp {X : Cx} {tg : Expr} {g g' : TG} (h : PG X tg g) (hw : ∀ v σ H Q, g' v σ H Q → g v σ H Q) : PG X tg g' := ⟨fun pins s σ H v u Q I r q => h.run pins s σ H v u Q I r (hw v σ H Q q)⟩
theorem pi_enumV {X : Cx} (i : Nat) {x : Str} {p px pos tpos : Pos} {elts : List Expr} {kk : Nat} (hg : Gl X "enumerate") (hm : X.mg "enumerate" = none) (hv : PE X (.Name x px) (tVar i)) (hs : starEach [.Name x px] X.env = [(false, eval (.Name x px) X.env)] := by rfl) :
    PI X (.Tuple elts kk tpos) (.Call (.Name "enumerate" p) [.Name x px] [] pos) (iEnumV X.K i) := by
  refine PI.imp (pi_enumA hg hm (pa_cons hv pa_nil) hs) fun σ H R q => ?_
  obtain ⟨a, xs, hσ, hq, q⟩ := q
  rcases hq with hq | hq
  · exact ⟨_, hσ, a, xs, rfl, .inl ⟨hq, q _ _ walk_enum fun H' h' => At1.l h' hq⟩⟩
  · exact ⟨_, hσ, a, xs, rfl, .inr ⟨hq, q _ _ walk_enumT fun H' h' => At1.t h' hq⟩⟩
theorem pi_seqV {X : Cx} {tg : Expr} (i : Nat) {x : Str} {px : Pos} (hv : PE X (.Name x px) (tVar i)) : PI X tg (.Name x px) (iSeqV X.K i) := by
  refine ⟨fun pins s σ H R I q => ?_⟩
  obtain ⟨a, xs, hσ, hq, q⟩ := q
  rcases hq with hq | hq
  · exact (pi_list hv).run pins s σ H R I ⟨_, hσ, a, rfl, ⟨xs, hq⟩, q _ _ walk_list fun H' h' => At1.l h' hq⟩
  · exact (pi_tup hv).run pins s σ H R I ⟨_, hσ, a, rfl, ⟨xs, hq⟩, q _ _ walk_tup fun H' h' => At1.t h' hq⟩
end K1
end
-- KNeed
section
set_option Elab.async false
set_option linter.all false
set_option maxRecDepth 100000
set_option maxHeartbeats 4000000
namespace K1
open PySem PySem.Spec PyProof.Rows L2
abbrev sNH : Stmt := top 22
/-- an error of the class at C with this index goes out; all that was tracked is as it was -/
def Goes (C : Addr) (i : Int) (H : Hp) (E : XK) : Prop := ∀ (d : Addr) (H' : Hp), Same H H' → H d = none → H' d = some (.xd [("index", .int i)]) → E (.ref C) (some d) H'
theorem Goes.ext {C : Addr} {i : Int} {H H1 : Hp} {E : XK} (g : Goes C i H E) (e : Same H H1) : Goes C i H1 E := fun d H' e2 n h => g d H' (e.trans e2) (e.free n) h
/-- good names -/
def Good (ss : List Str) : Prop := ss.Nodup ∧ ∀ s ∈ ss, nameOk s = true ∧ s.length ≤ 1000
theorem mem_take_succ {α : Type} {l : List α} {i : Nat} {u : α} (h : i < l.length) : u ∈ l.take (i + 1) ↔ u ∈ l.take i ∨ u = l[i] := by
  rw [List.take_add_one, List.getElem?_eq_getElem h, Option.toList, List.mem_append, List.mem_singleton]
/-- no name behind these -/
def BadName (K : PySem.W.Frag) (H : Hp) (ss : List Str) (x : V) : Prop := (∃ t, TyX K H x (.type t) ∧ t ∈ kinds ∧ t ≠ "str") ∨ ∃ s, x = .str s ∧ s.length ≤ 1000 ∧ (nameOk s = false ∨ s ∈ ss)
theorem BadName.ext {K : PySem.W.Frag} {H H' : Hp} {ss : List Str} {x : V} (h : BadName K H ss x) (e : Same H H') : BadName K H' ss x := h.imp (fun ⟨t, a, b⟩ => ⟨t, TyX.ext a e, b⟩) id
def spNH (K : PySem.W.Frag) (C : Addr) : Sp := fun vs H Q E => ∃ v, vs = [v] ∧
  ((NoSeq K H v ∧ Goes C 0 H E) ∨ (SeqV H v [] ∧ Goes C 0 H E) ∨
   (∃ ss, SeqV H v (ss.map V.str) ∧ ss ≠ [] ∧ ss.length ≤ 1000 ∧ Good ss ∧ ∀ H', Same H H' → Q .non H') ∨
   (∃ ss x rest, SeqV H v (ss.map V.str ++ x :: rest) ∧ ss.length ≤ 1000 ∧ Good ss ∧ BadName K H ss x ∧ Goes C (ss.length : Nat) H E))
theorem scNH : FnScope ["houses", "seen", "index", "name"] ["houses"] (defScope sNH) := ⟨rfl, rfl, rfl, by decide +kernel, rfl, by decide +kernel, by decide +kernel⟩
/-- what stands behind an error that was made: its dict -/
theorem made_err {C d a : Addr} {v : V} {H : Hp} : upd (del (upd (upd H d (exd d [("index", v)])) a (exo a C (some d))) a) d (.xd [("index", v)]) d = some (.xd [("index", v)]) := upd_same
section
variable {P : Program} {w : World} {K : PySem.W.Frag} {mg : Str → Option Value} {base : Heap} {CF : Addr}
/-- the reading of X(index), as a raise asks it -/
theorem raise_idx {C : Addr} {E : XK} {H0 H : Hp} {i : Int} (g : Goes C i H0 E) (e : Same H0 H) :
    ∀ a, H a = none → spErI C [V.ref a, V.int i] (upd H a (exo a C none)) (fun v H2 => v = .non ∧ ∃ (d : Addr) (fs : List (Str × V)), H2 a = some (exo a C (some d)) ∧ H2 d = some (exd d fs) ∧ H d = none ∧ E (.ref C) (some d) (upd (del H2 a) d (.xd fs))) (fun _ _ _ => False) := by
  intro a ha
  refine ⟨a, .int i, rfl, upd_same, fun d hd hda => ⟨rfl, d, [("index", .int i)], upd_same, ?_, ?_, ?_⟩⟩
  · rw [upd_ne hda, upd_same]
  · rw [upd_ne hda] at hd
    exact hd
  · rw [upd_ne hda] at hd
    refine g d _ (fun b o n => ?_) (e.free hd) upd_same
    have n1 := e b o n
    have b1 : b ≠ a := ne_of_none n1 ha
    have b2 : b ≠ d := ne_of_none n1 hd
    rw [upd_ne b2, del_ne b1, upd_ne b1, upd_ne b2, upd_ne b1]
    exact n1
theorem ok_NH {f g fN fE C : Addr} {fd gd nd ed : FuncData} (F : Fun K "_need_houses" "_need_houses" sNH f fd) (B : Bl mg) (S : Signs mg) (me : mg "enumerate" = none) (ms : mg "set" = none)
    (FI : Fun K "is_list" "is_list" sIsList g gd) (b : Binds K gd ["thing"] []) (m : mg "is_list" = some (.ref g))
    (FN : Fun K "is_name" "is_name" sIsName fN nd) (bN : Binds K nd ["thing"] []) (mN : mg "is_name" = some (.ref fN))
    (T : FeC K mg CF) (TC : ErC K mg "BadHouses" C fE) (FE : Fun K "__init__" "BadHouses.__init__" sIH fE ed) (bE : Binds K ed ["self", "index"] []) :
    FnOk P w K mg base (L2.CX P w) 4 f fd ["houses"] (spNH K C) := by
  have G := ok_isList (P := P) (w := w) (base := base) FI B
  have GN := ok_isName (P := P) (w := w) (base := base) FN B S
  have GE := ok_iH (P := P) (w := w) (base := base) FE T TC
  refine F.okX scNH (fun vs H Q E h => ?_) (fun cdv A outer s H vs Q E hr h => ?_)
  · obtain ⟨v, rfl, _⟩ := h
    rfl
  obtain ⟨v, rfl, h⟩ := h
  have nd := scNH.nd
  have hu := hu_of hr
  have hr1 : Room 1 _ := hr.mono (by decide)
  have hr2 : Room 2 _ := hr.mono (by decide)
  refine ⟨_, pss_cons (by exact (ps_if (PW.pt (pw_or (pt_not (pt_val (pe_call G hr1 rfl m FI.kp b .nil pass0 (pa_cons (pv 0) pa_nil)))) (pw_or1 (pt_cmpR op_eq (pe_callB call_len_seq rfl B.len PySem.boot_len (pa_cons (pv 0) pa_nil)) pe_int (nomark _)))))
      (pss_one (by exact (ps_raise rfl (takes_of rfl rfl rfl rfl) (pmk_oex TC.ox TC.ini TC.ty GE hr2 bE .nil pass0 rfl TC.m (pa_cons pe_int pa_nil))))) pss_nil))
    (pss_cons (by exact (ps_set (i := 1) nd rfl (.inl rfl) (pe_callTy0 cr_set0K rfl ms PyProof.Rows.boot_set)))
    (pss_one (by exact (ps_for (passes_of rfl) rfl (by exact pi_enumV 0 rfl me (pv 0)) (pg_tup rfl (pgs_cons (pg_name (i := 2) nd rfl (.inl rfl)) (pgs_cons (pg_name (i := 3) nd rfl (.inl rfl)) pgs_nil)))
      (pss_cons (by exact (ps_if (PW.pt (pw_or (pt_not (pt_val (pe_call GN hr1 rfl mN FN.kp bN .nil pass0 (pa_cons (pv 3) pa_nil)))) (pw_or1 (pt_cmpR or_sinK (pv 3) (pv 1) (by with_unfolding_all rfl)))))
          (pss_one (by exact (ps_raise rfl (takes_of rfl rfl rfl rfl) (pmk_oex TC.ox TC.ini TC.ty GE hr2 bE .nil pass0 rfl TC.m (pa_cons (pv 2) pa_nil))))) pss_nil))
        (pss_one (by exact (ps_expr (pe_saddK (pv 1) (pa_cons (pv 3) pa_nil)))))))))), ?_⟩
  have two : ∀ xs, SeqV H v xs → ∃ t, TyX K H v (.type t) ∧ t ∈ kinds ∧ isSeqT t = true := fun xs sv => sv.ty
  rcases h with ⟨⟨t, ty, kt, nt⟩, g⟩ | ⟨sv, g⟩ | h
  · refine ⟨_, rfl, v, t, rfl, ty, kt, fun H' e => ⟨_, rfl, ?_⟩⟩
    rw [nt]
    exact iteT (iteT ⟨by decide, raise_idx g e⟩)
  · obtain ⟨t, ty, kt, st⟩ := sv.ty (K := K)
    refine ⟨_, rfl, v, t, rfl, ty, kt, fun H' e => ⟨_, rfl, ?_⟩⟩
    rw [st]
    obtain ⟨p, rfl, sq⟩ := (sv.ext e).sq (K := K)
    exact iteF ⟨_, rfl, p, [], rfl, sq, rfl, _, rfl, iteT ⟨by decide, raise_idx g e⟩⟩
  · -- names: the good ones ss, then perhaps a bad one
    obtain ⟨ss, xs, sv, hne, hl, good, rest⟩ : ∃ (ss : List Str) (xs : List V), SeqV H v xs ∧ xs ≠ [] ∧ ss.length ≤ 1000 ∧ Good ss ∧
        ((xs = ss.map V.str ∧ ∀ H', Same H H' → Q .non H') ∨ (∃ x r, xs = ss.map V.str ++ x :: r ∧ BadName K H ss x ∧ Goes C (ss.length : Nat) H E)) := by
      rcases h with ⟨ss, sv, hne, hl, good, q⟩ | ⟨ss, x, r, sv, hl, good, bad, g⟩
      · exact ⟨ss, _, sv, by simpa using hne, hl, good, .inl ⟨rfl, q⟩⟩
      · exact ⟨ss, _, sv, by simp, hl, good, .inr ⟨x, r, rfl, bad, g⟩⟩
    obtain ⟨t, ty, kt, st⟩ := sv.ty (K := K)
    refine ⟨_, rfl, v, t, rfl, ty, kt, fun H1 e1 => ⟨_, rfl, ?_⟩⟩
    rw [st]
    refine iteF ?_
    obtain ⟨p, rfl, hp⟩ := sv.ext e1
    have sq : SqA K H1 p xs := hp.imp (fun h => SqL.of h) (fun h => SqT.of h)
    have z0 : decide (V.int (xs.length : Int) = V.int 0) = false := decide_eq_false fun z => hne (List.length_eq_zero_iff.mp (by have := V.int.inj z; omega))
    refine ⟨_, rfl, p, xs, rfl, sq, rfl, _, rfl, ?_⟩
    rw [z0]
    refine iteF ?_
    refine ⟨rfl, fun sA hsA => ?_⟩
    have e2 : Same H (upd H1 sA (SetK P w sA (fun _ => false) 0)) := e1.trans (K1.Same.upd hsA)
    have hsA0 : H sA = none := e1.free hsA
    have sq2 : SqA K (upd H1 sA (SetK P w sA (fun _ => false) 0)) p xs := SqA.same (H := H1) sq (K1.Same.upd hsA)
    refine ⟨p, xs, rfl, sq2, fun J G wk hG => ?_⟩
    have xat : ∀ i (hi : i < ss.length), xs[i]? = some (.str ss[i]) := fun i hi => by
      rcases rest with ⟨rfl, _⟩ | ⟨x, r, rfl, _⟩
      · rw [List.getElem?_map, List.getElem?_eq_getElem hi]; rfl
      · rw [List.getElem?_append_left (by rw [List.length_map]; exact hi), List.getElem?_map, List.getElem?_eq_getElem hi]; rfl
    have lng : ss.length ≤ xs.length := by
      rcases rest with ⟨rfl, _⟩ | ⟨x, r, rfl, _⟩
      · simp
      · simp
    refine for_it wk (fun i σ Hc => i ≤ ss.length ∧ (∃ a b, σ = [some (.ref p), some (.ref sA), a, b]) ∧ Same H Hc ∧ (∀ c o, c ≠ sA → upd H1 sA (SetK P w sA (fun _ => false) 0) c = some o → Hc c = some o) ∧
      ∃ (S : Key → Bool) (k : Nat), Hc sA = some (SetK P w sA S k) ∧ k ≤ i ∧ ∀ u : Str, S (.inr u) = decide (u ∈ ss.take i)) ?_ ?_ ?_ ?_
    · exact ⟨Nat.zero_le _, ⟨_, _, rfl⟩, e2, fun c o _ h => h, _, 0, upd_same, Nat.le_refl _, fun u => by simp⟩
    · rintro i σ Hc hi ⟨h1, h2, h3, h4, h5⟩
      have pn : p ≠ sA := hp.elim (fun h => ne_of_none h hsA) (fun h => ne_of_none h hsA)
      exact hG Hc fun o ho => h4 p o pn ho
    · rintro i x σ Hc H' hi ⟨h1, ⟨sa, sb, rfl⟩, h3, h4, S, k, h5, h6, h7⟩ ⟨T, x1, x2, rfl, hT, rfl, e1', e2'⟩
      obtain rfl : x1 = .int (i : Nat) := (Option.some.inj e1').symm
      have e2' : xs[i]? = some x2 := e2'
      have hT2 := K1.Same.upd (H := Hc) (p := T) (o := .tup [.int (i : Nat), x2]) hT
      have eT : Same H (upd Hc T (.tup [.int (i : Nat), x2])) := h3.trans hT2
      refine ⟨T, _, rfl, SqT.of upd_same, rfl, _, _, rfl, _, _, rfl, rfl, ?_⟩
      by_cases hlt : i < ss.length
      · have ex2 : x2 = .str ss[i] := by
          have := xat i hlt
          rw [this] at e2'
          exact (Option.some.inj e2').symm
        subst ex2
        have gi := good.2 ss[i] (List.getElem_mem hlt)
        refine ⟨_, rfl, .str ss[i], rfl, .inl ⟨ss[i], rfl, gi.2, fun H2 f2 => ⟨_, rfl, ?_⟩⟩⟩
        rw [gi.1]
        refine iteF ?_
        have sA2 := f2 _ _ (hT2 _ _ h5)
        have nin : ¬ ss[i] ∈ ss.take i := fun hm => by
          obtain ⟨j, hj, ej⟩ := List.getElem_of_mem hm
          rw [List.length_take] at hj
          rw [List.getElem_take] at ej
          have := (List.getElem_inj good.1).mp ej
          omega
        refine ⟨_, rfl, _, rfl, .inr ss[i], sA, S, k, rfl, rfl, sA2, _, rfl, ?_⟩
        rw [h7, decide_eq_false nin]
        refine iteF ?_
        refine ⟨_, rfl, ⟨sA, S, k, rfl, sA2⟩, _, rfl, sA, .inr ss[i], S, k, rfl, rfl, sA2, (by show k + 1 < 4096; omega), ?_⟩
        refine ⟨hlt, ⟨_, _, rfl⟩, fun c o n => ?_, fun c o n1 n2 => ?_, _, _, upd_same, ?_, fun u => ?_⟩
        · rw [upd_ne (ne_of_none n hsA0)]
          exact f2 _ _ (eT _ _ n)
        · rw [upd_ne n1]
          exact f2 _ _ (hT2 _ _ (h4 c o n1 n2))
        · split <;> omega
        · show (S (.inr u) || decide ((Sum.inr u : Key) = Sum.inr ss[i])) = decide (u ∈ ss.take (i + 1))
          rw [h7, key_rr, ← Bool.decide_or]
          exact decide_eq_decide.mpr (mem_take_succ hlt).symm
      · rcases rest with ⟨rfl, _⟩ | ⟨x, r, hxs, bad, g⟩
        · rw [List.length_map] at hi
          exact absurd hi hlt
        · have ei : i = ss.length := by omega
          subst ei
          have ex2 : x2 = x := by
            rw [hxs, List.getElem?_append_right (by rw [List.length_map]; exact Nat.le_refl _), List.length_map, Nat.sub_self] at e2'
            exact (Option.some.inj e2').symm
          subst ex2
          rcases bad.ext eT with ⟨t, ty, kt, nt⟩ | ⟨u, rfl, hu1, hu2⟩
          · exact ⟨_, rfl, x2, rfl, .inr ⟨t, ty, kt, nt, _, rfl, iteT (iteT ⟨_, rfl, (by show 1 ≤ 1000; decide), raise_idx g eT⟩)⟩⟩
          · refine ⟨_, rfl, .str u, rfl, .inl ⟨u, rfl, hu1, fun H2 f2 => ⟨_, rfl, ?_⟩⟩⟩
            rcases hu2 with hu2 | hu2
            · rw [hu2]
              exact iteT (iteT ⟨_, rfl, (by show 1 ≤ 1000; decide), raise_idx g (eT.trans f2)⟩)
            · cases hn : nameOk u with
              | false => exact iteT (iteT ⟨_, rfl, (by show 1 ≤ 1000; decide), raise_idx g (eT.trans f2)⟩)
              | true =>
                refine iteF ?_
                refine ⟨_, rfl, _, rfl, .inr u, sA, S, k, rfl, rfl, f2 _ _ (hT2 _ _ h5), _, rfl, ?_⟩
                rw [h7, List.take_of_length_le (Nat.le_refl _), decide_eq_true hu2]
                exact iteT ⟨_, rfl, (by show 1 ≤ 1000; decide), raise_idx g (eT.trans f2)⟩
    · rintro σ Hc ⟨h1, h2, h3, h4, h5⟩
      rcases rest with ⟨rfl, q⟩ | ⟨x, r, rfl, bad, g⟩
      · exact q Hc h3
      · rw [List.length_append, List.length_map, List.length_cons] at h1
        omega
end
end K1
end
-- KUF
section
set_option Elab.async false
set_option linter.all false
set_option maxRecDepth 100000
set_option maxHeartbeats 4000000
namespace K1
open PySem PySem.Spec PyProof.Rows L2
/-- the dict of leaders: rt tells whom one comes to at last, rk falls on the way -/
structure UF (hs : List Str) (kvs : List (Key × V)) (rt : Str → Str) (rk : Str → Nat) : Prop where
  len : kvs.length ≤ hs.length
  ex : ∃ ld : Str → Str, (∀ s, valV kvs (.inr s) = if s ∈ hs then some (.str (ld s)) else none) ∧
    ∀ s ∈ hs, ld s ∈ hs ∧ rt (ld s) = rt s ∧ rt s ∈ hs ∧ (ld s = s → rt s = s) ∧ (ld s ≠ s → rk (ld s) < rk s) ∧ ld (rt s) = rt s
theorem putK_len {kvs : List (Key × V)} {k : Key} {v : V} (h : (valV kvs k).isSome = true) : (putK kvs k v).length = kvs.length := by
  unfold putK
  rw [← valV_any] at h
  rw [if_pos h, List.length_map]
theorem ite_rr {α : Type} (s x : Str) (p q : α) : (if (Sum.inr s : Key) = Sum.inr x then p else q) = if s = x then p else q := by
  by_cases e : s = x
  · rw [if_pos e, if_pos (by rw [e])]
  · rw [if_neg e, if_neg (fun z => e (Sum.inr.inj z))]
/-- the way is made shorter -/
theorem UF.halve {hs : List Str} {kvs : List (Key × V)} {rt : Str → Str} {rk : Str → Nat} {x : Str} (u : UF hs kvs rt rk) (hx : x ∈ hs) :
    ∃ y, valV kvs (.inr x) = some (.str y) ∧ y ∈ hs ∧ (y = x → rt x = x) ∧ (y ≠ x → ∃ z, valV kvs (.inr y) = some (.str z) ∧ z ∈ hs ∧ rk z < rk x ∧ rt z = rt x ∧ UF hs (putK kvs (.inr x) (.str z)) rt rk) := by
  obtain ⟨hl, ld, h1, h2⟩ := u
  have a := h2 x hx
  have b := h2 (ld x) a.1
  refine ⟨ld x, by rw [h1, if_pos hx], a.1, a.2.2.2.1, fun ne => ⟨ld (ld x), by rw [h1, if_pos a.1], b.1, ?_, by rw [b.2.1, a.2.1], ?_⟩⟩
  · have r1 := a.2.2.2.2.1 ne
    by_cases e : ld (ld x) = ld x
    · rw [e]; exact r1
    · exact Nat.lt_trans (b.2.2.2.2.1 e) r1
  · refine ⟨?_, fun s => if s = x then ld (ld x) else ld s, fun s => ?_, fun s hs' => ?_⟩
    · rw [putK_len (by rw [h1, if_pos hx]; rfl)]
      exact hl
    · rw [valV_put, ite_rr]
      show _ = if s ∈ hs then some (V.str (if s = x then ld (ld x) else ld s)) else none
      by_cases e : s = x
      · rw [if_pos e, if_pos e, e, if_pos hx]
      · rw [if_neg e, if_neg e, h1]
    · have c := h2 s hs'
      have rx : rt s ≠ x := fun e => by
        have q := c.2.2.2.2.2
        rw [e] at q
        exact ne q
      by_cases e : s = x
      · subst e
        simp only [if_true]
        refine ⟨b.1, by rw [b.2.1, a.2.1], c.2.2.1, fun e2 => ?_, fun e2 => ?_, by rw [if_neg rx]; exact c.2.2.2.2.2⟩
        · exfalso
          have r1 := a.2.2.2.2.1 ne
          by_cases e3 : ld (ld s) = ld s
          · rw [e3] at e2; exact ne e2
          · have r2 := b.2.2.2.2.1 e3
            rw [e2] at r2
            omega
        · have r1 := a.2.2.2.2.1 ne
          by_cases e3 : ld (ld s) = ld s
          · rw [e3]; exact r1
          · exact Nat.lt_trans (b.2.2.2.2.1 e3) r1
      · simp only [if_neg e, if_neg rx]
        exact c
theorem UF.start {hs : List Str} (nd : hs.Nodup) : UF hs (hs.map fun s => ((.inr s : Key), V.str s)) (fun s => s) (fun _ => 0) := by
  refine ⟨by rw [List.length_map]; exact Nat.le_refl _, fun s => s, fun s => ?_, fun s h => ⟨h, rfl, h, fun _ => rfl, fun e => absurd rfl e, rfl⟩⟩
  induction hs with
  | nil => rfl
  | cons a r ih =>
    have n := List.nodup_cons.mp nd
    by_cases e : a = s
    · subst e
      rw [List.map_cons, valV_pos rfl, if_pos (List.mem_cons_self ..)]
    · rw [List.map_cons, valV_neg (fun q => e (Sum.inr.inj q)), ih n.2]
      by_cases m : s ∈ r
      · rw [if_pos m, if_pos (List.mem_cons_of_mem _ m)]
      · rw [if_neg m, if_neg (fun q => (List.mem_cons.mp q).elim (fun z => e z.symm) m)]
/-- two that lead are joined -/
def joinRt (rt : Str → Str) (a b : Str) : Str → Str := fun s => if rt s = rt a then rt b else rt s
theorem UF.join {hs : List Str} {kvs : List (Key × V)} {rt : Str → Str} {rk : Str → Nat} {a b : Str} (u : UF hs kvs rt rk) (ha : a ∈ hs) (hb : b ∈ hs) (ne : rt a ≠ rt b) :
    ∃ rk', UF hs (putK kvs (.inr (rt a)) (.str (rt b))) (joinRt rt a b) rk' := by
  obtain ⟨hl, ld, h1, h2⟩ := u
  have ca := h2 a ha
  have cb := h2 b hb
  have rra : rt (rt a) = rt a := (h2 _ ca.2.2.1).2.2.2.1 ca.2.2.2.2.2
  have rrb : rt (rt b) = rt b := (h2 _ cb.2.2.1).2.2.2.1 cb.2.2.2.2.2
  refine ⟨fun s => if rt s = rt a then rk s + rk (rt b) + 1 else rk s, ?_, fun s => if s = rt a then rt b else ld s, fun s => ?_, fun s hs' => ?_⟩
  · rw [putK_len (by rw [h1, if_pos ca.2.2.1]; rfl)]
    exact hl
  · rw [valV_put, ite_rr]
    show _ = if s ∈ hs then some (V.str (if s = rt a then rt b else ld s)) else none
    by_cases e : s = rt a
    · rw [if_pos e, if_pos e, e, if_pos ca.2.2.1]
    · rw [if_neg e, if_neg e, h1]
  · have c := h2 s hs'
    unfold joinRt
    by_cases e : s = rt a
    · subst e
      simp only [if_true, rra, rrb, if_neg ne.symm]
      refine ⟨cb.2.2.1, trivial, cb.2.2.1, fun z => z, fun _ => by omega, cb.2.2.2.2.2⟩
    · simp only [if_neg e]
      rw [c.2.1]
      by_cases q : rt s = rt a
      · simp only [if_pos q, if_neg ne.symm, rrb]
        refine ⟨c.1, trivial, cb.2.2.1, fun z => ?_, fun z => ?_, cb.2.2.2.2.2⟩
        · exact absurd ((c.2.2.2.1 z).symm.trans q) e
        · have := c.2.2.2.2.1 z
          omega
      · simp only [if_neg q]
        refine ⟨c.1, trivial, c.2.2.1, c.2.2.2.1, c.2.2.2.2.1, ?_⟩
        exact c.2.2.2.2.2
end K1
end
-- KLead
section
set_option Elab.async false
set_option linter.all false
set_option maxRecDepth 100000
set_option maxHeartbeats 4000000
namespace K1
open PySem PySem.Spec PyProof.Rows L2
abbrev sLead : Stmt := top 25
abbrev sKeys : Stmt := top 24
def spLead : Sp := fun vs H Q _ => ∃ (a : Addr) (h : Str) (kvs : List (Key × V)) (hs : List Str) (rt : Str → Str) (rk : Str → Nat), vs = [.ref a, .str h] ∧ H a = some (.dK kvs) ∧ UF hs kvs rt rk ∧ h ∈ hs ∧ hs.length ≤ 1000 ∧
  ∀ kvs', UF hs kvs' rt rk → Q (.str (rt h)) (upd H a (.dK kvs'))
theorem scLead : FnScope ["leads", "house"] ["leads", "house"] (defScope sLead) := ⟨rfl, rfl, rfl, by decide +kernel, rfl, by decide +kernel, by decide +kernel⟩
def muLead (rk : Str → Nat) (σ : L2.St) : Nat := match σ with
  | [_, some (.str x)] => rk x
  | _ => 0
section
variable {P : Program} {w : World} {K : PySem.W.Frag} {mg : Str → Option Value} {base : Heap}
theorem ok_lead {f : Addr} {fd : FuncData} (F : Fun K "_leader" "_leader" sLead f fd) : FnOk P w K mg base CX0 1 f fd ["leads", "house"] spLead := by
  refine F.ok scLead (fun vs H Q E h => ?_) (fun cdv A outer s H vs Q E hr h => ?_)
  · obtain ⟨a, h, kvs, hs, rt, rk, rfl, _⟩ := h
    rfl
  obtain ⟨a, h, kvs, hs, rt, rk, rfl, ha, u, hh, hl, q⟩ := h
  have nd := scLead.nd
  have hu := hu_of hr
  refine ⟨_, pss_cons (by exact (ps_while PassesOwn.never (pt_cmpR op_ne (pe_dget hu (pv 0) (pv 1) (fun _ _ => rfl)) (pv 1) (nomark _))
      (pss_cons (by exact (ps_dput hu (pv 0) (pv 1) (pe_dget hu (pv 0) (pe_dget hu (pv 0) (pv 1) (fun _ _ => rfl)) (fun _ _ => rfl)) rfl))
      (pss_one (by exact (ps_set (i := 1) nd rfl (.inl rfl) (pe_dget hu (pv 0) (pv 1) (fun _ _ => rfl))))))))
    (pss_one (by exact (ps_ret (pv 1)))), ?_⟩
  refine while_by (fun σ Hc => ∃ kvs' x, σ = [some (.ref a), some (.str x)] ∧ Hc = upd H a (.dK kvs') ∧ UF hs kvs' rt rk ∧ x ∈ hs ∧ rt x = rt h) (fun σ _ => muLead rk σ) ⟨kvs, h, rfl, ?_, u, hh, rfl⟩ ?_ ?_
  · funext b
    by_cases e : b = a
    · rw [e, upd_same, ha]
    · rw [upd_ne e]
  · rintro σ Hc ⟨kvs', x, rfl, rfl, u', hx, er⟩
    obtain ⟨y, g1, hy, e1, e2⟩ := u'.halve hx
    have hd : upd H a (.dK kvs') a = some (.dK kvs') := upd_same
    have dg : ∀ {s z}, valV kvs' (.inr s) = some z → DGet (upd H a (.dK kvs')) a (.str s) (some z) := fun {s z} g => by
      have q := DGet.k (k := .inr s) hd
      rw [g] at q
      exact q
    refine ⟨_, rfl, _, rfl, a, .str y, rfl, dg g1, _, rfl, rfl, _, rfl, ?_⟩
    by_cases e : y = x
    · subst e
      rw [decide_eq_true rfl]
      refine iteF ⟨_, rfl, ?_⟩
      have := q kvs' u'
      rw [← er, e1 rfl] at this
      exact this
    · have ne : (!decide (V.str y = V.str x)) = true := by rw [decide_eq_false (fun z => e (V.str.inj z))]; rfl
      rw [ne]
      refine iteT ?_
      obtain ⟨z, g2, hz, lt, er2, u2⟩ := e2 e
      have dp : DPut (upd H a (.dK kvs')) a (.str x) (.str z) (upd (upd H a (.dK kvs')) a (.dK (putK kvs' (.inr x) (.str z)))) := DPut.k (k := .inr x) hd (Nat.lt_of_le_of_lt u'.len (small1000 hl))
      rw [upd_upd] at dp
      refine ⟨_, rfl, _, rfl, _, rfl, a, .str y, rfl, dg g1, a, .str z, rfl, dg g2, _, rfl, _, rfl, a, _, rfl, dp, ?_⟩
      have g3 : valV (putK kvs' (.inr x) (.str z)) (.inr x) = some (.str z) := by rw [valV_put, if_pos rfl]
      have dg3 : DGet (upd H a (.dK (putK kvs' (.inr x) (.str z)))) a (.str x) (some (.str z)) := by
        have q := DGet.k (k := .inr x) (show upd H a (.dK (putK kvs' (.inr x) (.str z))) a = some (.dK (putK kvs' (.inr x) (.str z))) from upd_same)
        rw [g3] at q
        exact q
      exact ⟨_, rfl, _, rfl, a, .str z, rfl, dg3, ⟨_, z, rfl, rfl, u2, hz, er2.trans er⟩, lt⟩
  · rintro σ Hc Q1 Q2 hQ ⟨v1, h1, v2, h2, a', v3, h3, h4, v5, h5, h6, k, h7, h8⟩
    exact ⟨v1, h1, v2, h2, a', v3, h3, h4, v5, h5, h6, k, h7, hQ _ _ h8⟩
end
end K1
end
-- KKeys
section
set_option Elab.async false
set_option linter.all false
set_option maxRecDepth 100000
set_option maxHeartbeats 4000000
namespace K1
open PySem PySem.Spec PyProof.Rows L2
def isKey (hs : List Str) : V → Bool
  | .str s => decide (s ∈ hs)
  | _ => false
/-- a text, or a value of another known type -/
def TextOr (K : PySem.W.Frag) (H : Hp) (x : V) : Prop := (∃ s, x = .str s) ∨ ∃ t, TyX K H x (.type t) ∧ t ∈ kinds ∧ t ≠ "str"
theorem TextOr.ext {K : PySem.W.Frag} {H H' : Hp} {x : V} (h : TextOr K H x) (e : Same H H') : TextOr K H' x := h.imp id fun ⟨t, a, b⟩ => ⟨t, TyX.ext a e, b⟩
theorem isKey_no {K : PySem.W.Frag} {H : Hp} {hs : List Str} {x : V} {t : String} (h : TyX K H x (.type t)) (n : t ≠ "str") : isKey hs x = false := by
  cases x with
  | str s =>
    exfalso
    cases h with
    | base b =>
      cases b with
      | str y => exact n rfl
  | _ => rfl
theorem dc_it {J : It} {n : Nat} {G : Hp → Prop} {Y : Nat → Hp → V → Hp → Prop} (w : Walk J n G Y) {g : TG} {tt : TT} {tk tv : TE} {vs : List Nat} {σ : L2.St} {H1 : Hp} {D : Addr} {Qd : Hp → Prop} (Pv : Nat → Hp → Prop) (h0 : Pv 0 (upd H1 D (.dK []))) (hG : ∀ i H, i ≤ n → Pv i H → G H)
    (hs : ∀ i x H H', i < n → Pv i H → Y i H x H' → g x (wipe σ vs) H' fun σ2 H2 => wipe σ2 vs = wipe σ vs ∧ tt σ2 H2 fun b H3 =>
      if b = true then tk σ2 H3 fun y H4 => tv σ2 H4 fun z H5 => ∃ kvs k, y = kV k ∧ H5 D = some (.dK kvs) ∧ kvs.length < sizeLine ∧ Pv (i + 1) (upd H5 D (.dK (putK kvs k z))) else Pv (i + 1) H3) (hd : ∀ H, Pv n H → Qd H) :
    ∃ W : Nat → Nat → Hp → Prop, (∃ m, W 0 m (upd H1 D (.dK []))) ∧ ∀ i m H, W i m H →
      (J.stop i H ∧ Qd H) ∨ (J.go i H ∧ ∃ Nx : Hp → Prop, (∀ H', Nx H' → ∃ m', m' < m ∧ W (i + 1) m' H') ∧ ∀ x H', J.yld i H x H' → g x (wipe σ vs) H' fun σ2 H2 => wipe σ2 vs = wipe σ vs ∧ tt σ2 H2 fun b H3 =>
        if b = true then tk σ2 H3 fun y H4 => tv σ2 H4 fun z H5 => ∃ kvs k, y = kV k ∧ H5 D = some (.dK kvs) ∧ kvs.length < sizeLine ∧ Nx (upd H5 D (.dK (putK kvs k z))) else Nx H3) := by
  refine ⟨fun i m H => m = n - i ∧ i ≤ n ∧ Pv i H, ⟨n, by simp, Nat.zero_le _, h0⟩, ?_⟩
  rintro i m H ⟨rfl, hi, p⟩
  have q := hG i H hi p
  by_cases hlt : i < n
  · exact .inr ⟨w.goes i H hlt q, Pv (i + 1), fun H' p' => ⟨n - (i + 1), by omega, rfl, hlt, p'⟩, fun x H' y => hs i x H H' hlt p (w.yields i H x H' hlt q y)⟩
  · have e : i = n := by omega
    subst e
    exact .inl ⟨w.stops H q, hd H p⟩
def spKeys (K : PySem.W.Frag) : Sp := fun vs H Q _ => ∃ (v : V) (d : Addr) (xs : List V) (kvs : List (Key × V)) (hs : List Str), vs = [v, .ref d] ∧ SeqV H v xs ∧ xs.length ≤ 1000 ∧ (∀ x ∈ xs, TextOr K H x) ∧ H d = some (.dK kvs) ∧ (∀ s, (valV kvs (.inr s)).isSome = decide (s ∈ hs)) ∧
  ∀ H', Same H H' → Q (.bl (xs.all (isKey hs))) H'
theorem scKeys : FnScope ["things", "table", "thing"] ["things", "table"] (defScope sKeys) := ⟨rfl, rfl, rfl, by decide +kernel, rfl, by decide +kernel, by decide +kernel⟩
section
variable {P : Program} {w : World} {K : PySem.W.Frag} {mg : Str → Option Value} {base : Heap}
theorem ok_keys {f : Addr} {fd : FuncData} (F : Fun K "_are_keys" "_are_keys" sKeys f fd) (B : Bl mg) : FnOk P w K mg base CX0 1 f fd ["things", "table"] (spKeys K) := by
  refine F.ok scKeys (fun vs H Q E h => ?_) (fun cdv A outer s H vs Q E hr h => ?_)
  · obtain ⟨v, d, xs, kvs, hs, rfl, _⟩ := h
    rfl
  obtain ⟨v, d, xs, kvs, hs, rfl, sv, hl, ht, hd, hk, q⟩ := h
  have nd := scKeys.nd
  have hu := hu_of hr
  refine ⟨_, pss_one (by exact ps_ret (pe_callB (cr_all rfl) rfl B.all PyProof.Rows.boot_all (pa_cons (pe_lc (own := [("thing", 2)]) (g := gName 2) (tt := tYes)
      (te := tAndV (tCB (rIsi K) (tCons (tVar 2) (tCons (tC (.ty "str")) tNil))) (tDIn (tVar 2) (tVar 1))) rfl nd (by exact pi_seqV 0 (pv 0))
        (by exact blkOk_by (N := ["things", "table", "thing"]) (sc := defScope sKeys) (by decide +kernel)) (fun _ _ _ _ _ => by exact pg_name (i := 2) nd rfl (Or.inl rfl)) (fun _ _ _ _ _ => pts_nil)
        (fun _ _ _ _ _ => by exact pe_and (pe_callB call_isi rfl B.isi PyProof.Rows.boot_isinstance (pa_cons (pv 2) (pa_cons (pe_bltn (v := .ty "str") rfl B.str PyProof.Rows.boot_str rfl) pa_nil))) (pe_one (pe_cmp (pc_din hu (pv 2) (pv 1)) (by with_unfolding_all rfl))))) pa_nil))), ?_⟩
  obtain ⟨p, rfl, hp⟩ := sv
  have sq : SqA K H p xs := hp.imp (fun h => SqL.of h) (fun h => SqT.of h)
  refine ⟨p, xs, rfl, sq, fun J G wk hG D hD => ?_⟩
  refine lc_it wk (fun i Hc => Same H Hc ∧ Hc D = some (.lst (((xs.take i).map (isKey hs)).map V.bl))) ⟨K1.Same.upd hD, upd_same⟩ (fun i Hc _ h => hG Hc fun o ho => h.1 _ _ ho) ?_ ?_
  · rintro i x Hc H' hi ⟨e1, e2⟩ ⟨rfl, hx⟩
    refine ⟨rfl, ?_⟩
    unfold tYes
    refine iteT ?_
    have fin : ∀ b, b = isKey hs x → ∃ acc, H' D = some (.lst acc) ∧ acc.length < sizeLine ∧ Same H (upd H' D (.lst (acc ++ [.bl b]))) ∧ upd H' D (.lst (acc ++ [.bl b])) D = some (.lst (((xs.take (i + 1)).map (isKey hs)).map V.bl)) := fun b hb => by
      refine ⟨_, e2, ?_, fun a o n => ?_, ?_⟩
      · rw [List.length_map, List.length_map]
        exact small1000 (Nat.le_trans (List.length_take_le _ _) (by omega))
      · rw [upd_ne (ne_of_none n hD)]
        exact e1 a o n
      · rw [upd_same, map_take_succ hx, List.map_append, hb]
        rfl
    rcases (ht x (List.mem_of_getElem? hx)).ext e1 with ⟨s, rfl⟩ | ⟨t, ty, kt, nt⟩
    · refine ⟨_, rfl, .str s, _, _, _, _, rfl, .ty "str", .base (.str s), kit_str (t := "str") (by decide), _, rfl, ?_⟩
      refine iteT ⟨_, rfl, _, rfl, d, _, rfl, DGet.k (k := .inr s) (e1 _ _ hd), fin _ ?_⟩
      rw [hk]
      rfl
    · refine ⟨_, rfl, x, _, _, _, _, rfl, .ty "str", ty, kit_str kt, _, rfl, ?_⟩
      rw [decide_eq_false nt]
      exact iteF (fin _ (isKey_no ty nt).symm)
  · rintro Hc ⟨e1, e2⟩
    refine ⟨D, _, rfl, SqL.of e2, ?_⟩
    have : ((xs.take xs.length).map (isKey hs)).all id = xs.all (isKey hs) := by
      rw [List.take_length, List.all_map]
      rfl
    rw [this]
    exact q Hc e1
end
end K1
end
-- KRoads
section
set_option Elab.async false
set_option linter.all false
set_option maxRecDepth 100000
set_option maxHeartbeats 4000000
namespace K1
open PySem PySem.Spec PyProof.Rows L2
abbrev sNR : Stmt := top 23
/-- whom one comes to, these roads joined one after another -/
def rtOf (rs : List (Str × Str)) : Str → Str := rs.foldl (fun rt e => joinRt rt e.1 e.2) fun s => s
theorem rtOf_snoc {rs : List (Str × Str)} {e : Str × Str} : rtOf (rs ++ [e]) = joinRt (rtOf rs) e.1 e.2 := by
  unfold rtOf
  rw [List.foldl_append]
  rfl
theorem rtOf_succ {rs : List (Str × Str)} {i : Nat} (h : i < rs.length) : rtOf (rs.take (i + 1)) = joinRt (rtOf (rs.take i)) rs[i].1 rs[i].2 := by
  rw [List.take_add_one, List.getElem?_eq_getElem h]
  exact rtOf_snoc
def EndsIn (ss : List Str) (rs : List (Str × Str)) : Prop := ∀ r ∈ rs, r.1 ∈ ss ∧ r.2 ∈ ss
def Forest (rs : List (Str × Str)) : Prop := ∀ i (h : i < rs.length), rtOf (rs.take i) rs[i].1 ≠ rtOf (rs.take i) rs[i].2
def PairV (H : Hp) (x : V) (r : Str × Str) : Prop := SeqV H x [.str r.1, .str r.2]
def BadRoad (K : PySem.W.Frag) (H : Hp) (ss : List Str) (rs : List (Str × Str)) (x : V) : Prop :=
  NoSeq K H x ∨ (∃ ys, SeqV H x ys ∧ ys.length ≠ 2) ∨ (∃ y z, SeqV H x [y, z] ∧ TextOr K H y ∧ TextOr K H z ∧ (isKey ss y && isKey ss z) = false) ∨
  (∃ a b, SeqV H x [.str a, .str b] ∧ a ∈ ss ∧ b ∈ ss ∧ rtOf rs a = rtOf rs b)
theorem BadRoad.ext {K : PySem.W.Frag} {H H' : Hp} {ss : List Str} {rs : List (Str × Str)} {x : V} (h : BadRoad K H ss rs x) (e : Same H H') : BadRoad K H' ss rs x := by
  rcases h with h | ⟨ys, h, n⟩ | ⟨y, z, h, a, b, c⟩ | ⟨a, b, h, q⟩
  · exact .inl (h.ext e)
  · exact .inr (.inl ⟨ys, h.ext e, n⟩)
  · exact .inr (.inr (.inl ⟨y, z, h.ext e, a.ext e, b.ext e, c⟩))
  · exact .inr (.inr (.inr ⟨a, b, h.ext e, q⟩))
theorem paired_get {α β : Type} {F : α → β → Prop} : ∀ {xs : List α} {ys : List β}, Paired F xs ys → ∀ {i : Nat} (h : i < ys.length), ∃ x, xs[i]? = some x ∧ F x ys[i]
  | _, _, .cons f r, 0, _ => ⟨_, rfl, f⟩
  | _, _, .cons f r, i + 1, h => by
    obtain ⟨x, e, q⟩ := paired_get r (i := i) (by simpa using h)
    exact ⟨x, by simpa using e, q⟩
theorem paired_imp {α β : Type} {F G : α → β → Prop} (h : ∀ a b, F a b → G a b) : ∀ {xs : List α} {ys : List β}, Paired F xs ys → Paired G xs ys
  | _, _, .nil => .nil
  | _, _, .cons f r => .cons (h _ _ f) (paired_imp h r)
theorem ixA {K : PySem.W.Frag} {H : Hp} {v y : V} {xs : List V} {i : Int} {Q : VK} (s : SeqV H v xs) (e : atI xs i = some y) (q : Q y H) : rIx K v (.int i) H Q := by
  obtain ⟨p, rfl, h | h⟩ := s
  · exact .inl ⟨p, xs, i, y, rfl, rfl, SqL.of h, e, q⟩
  · exact .inr (.inl ⟨p, xs, i, y, rfl, rfl, SqT.of h, e, q⟩)
section
variable {X : Cx}
/-- name = {..} on one line, the name a local -/
theorem ps_setDc {i : Nat} {y : Str} {py : Pos} {kx vx tg iter : Expr} {ifs : List Expr} {scope : Scope} {own : List (Str × Nat)} {pos spos : Pos} {wi : TI} {g : TG} {tt : TT} {tk tv : TE} (hc : X.calm = true) (hN : X.N.Nodup) (hy : X.N[i]? = some y) (hyl : X.env.scope.names.lookup y = some .local)
    (hsw : swapsWith (.DictComp kx vx [⟨tg, iter, ifs, 0⟩] scope pos) (some (.Name y py)) spos.line X.env = pure true) (hi : PI X tg iter wi) (ok : BlkOk X.N X.env.scope scope own)
    (hg : ∀ (s : Shared) (H : Hp) (C : Addr) (cl : List (Str × Addr)) (fp : List Addr), PG (X.blk s H scope (compEnvC scope cl C X.env) fp) tg g) (ht : ∀ (s : Shared) (H : Hp) (C : Addr) (cl : List (Str × Addr)) (fp : List Addr), PTs (X.blk s H scope (compEnvC scope cl C X.env) fp) ifs tt)
    (hk : ∀ (s : Shared) (H : Hp) (C : Addr) (cl : List (Str × Addr)) (fp : List Addr), PE (X.blk s H scope (compEnvC scope cl C X.env) fp) kx tk)
    (he : ∀ (s : Shared) (H : Hp) (C : Addr) (cl : List (Str × Addr)) (fp : List Addr), PE (X.blk s H scope (compEnvC scope cl C X.env) fp) vx tv) (hs : ∀ x, foldedSetIterable iter X.env x = pure x := by intro _; rfl) :
    PS X (.Assign [.Name y py] (.DictComp kx vx [⟨tg, iter, ifs, 0⟩] scope pos) spos) (tAsg (tDc wi g tt tk tv (own.map (·.2))) (gName i)) := by
  refine ⟨fun pins s σ H D I h => ?_⟩
  rw [exec_Assign_Name_used _ _ _ _ hsw]
  refine wpAny_bind (wpAny_standAt (wpAny_bind ?_))
  show wpAny _ X.A (do let _ ← comprehension (.DictComp kx vx [⟨tg, iter, ifs, 0⟩] scope pos) scope X.env (firstIterPos [⟨tg, iter, ifs, 0⟩] pos) newDict false (eval iter X.env) (some (assign (.Name y py) X.env))) _ _ s
  have h : tDc wi g tt tk tv (own.map (·.2)) σ H (fun x H1 => gName i x σ H1 D.nx) := h
  refine wpAny_bind (thn (dc_core (Qf := fun _ s' => SP X pins D .next s') hc hN I hi ok hg ht hk he hs h fun L C s' m H' I' q hn f => ?_) fun _ s' hq => wpAny_pure (wpAny_pure hq))
  show wpAny _ _ (assign (.Name y py) X.env (.ref L)) _ _ _
  refine wpAny_assign_Name (store_ok2 (v := V.ref L) I' hN hy (.inl hyl) rfl (fun s2 I2 ⟨a, sb, ha⟩ => ?_) (.inr hyl))
  obtain ⟨f0, f1, f2, f3, f4, f5⟩ := f
  have haC : C ≠ a := by
    rcases ha with z | z
    · rw [z]; exact f1
    · exact fun e => f4 y a z e.symm
  refine ⟨m, hn.sameBut sb haC, fun h3 sb3 => ?_⟩
  exact ⟨_, H', I2.turned (t' := s2.toks) (fun b o hb e => (sb3.2 b hb).trans e) f0 f1 f3 f4 f5, q⟩
theorem sw_trueD {kx vx : Expr} {gs : List Comprehension} {scope : Scope} {pos py : Pos} {y : Str} {l : Nat} {env : Env} (hk : env.scope.kind = .function) (hy : env.scope.names.lookup y = some .local) (hl : (py.line == pos.line) = true)
    (ha : (scope.names.any fun (n, k) => n == y && (k == .local || k == .cell)) = false) : swapsWith (.DictComp kx vx gs scope pos) (some (.Name y py)) l env = pure true := by
  have ky : env.kindOf y = some .local := hy
  have hb : env.blockKind = .function := by unfold Env.blockKind; rw [hk]; rfl
  unfold swapsWith
  simp only [hb, ky, ha, Expr.pos, hl]
  rfl
end
def spNR (K : PySem.W.Frag) (C : Addr) : Sp := fun vs H Q E => ∃ u v ss, vs = [u, v] ∧ SeqV H u (ss.map V.str) ∧ Good ss ∧ ss.length ≤ 1000 ∧
  ((NoSeq K H v ∧ Goes C 0 H E) ∨
   ∃ (vs : List V) (rs : List (Str × Str)) (tail : List V), SeqV H v (vs ++ tail) ∧ Paired (PairV H) vs rs ∧ EndsIn ss rs ∧ Forest rs ∧
    ((tail = [] ∧ rs.length + 1 = ss.length ∧ ∀ H', Same H H' → Q .non H') ∨ (tail = [] ∧ rs.length + 1 ≠ ss.length ∧ Goes C (rs.length : Nat) H E) ∨
     (∃ x rest, tail = x :: rest ∧ BadRoad K H ss rs x ∧ Goes C (rs.length : Nat) H E)))
theorem scNR : FnScope ["houses", "roads", "leads", "index", "road", "one", "other", "house"] ["houses", "roads"] (defScope sNR) := ⟨rfl, rfl, rfl, by decide +kernel, rfl, by decide +kernel, by decide +kernel⟩
section
variable {P : Program} {w : World} {K : PySem.W.Frag} {mg : Str → Option Value} {base : Heap} {CF : Addr}
theorem UF.some {hs : List Str} {kvs : List (Key × V)} {rt : Str → Str} {rk : Str → Nat} (u : UF hs kvs rt rk) (s : Str) : (valV kvs (.inr s)).isSome = decide (s ∈ hs) := by
  obtain ⟨_, ld, h1, _⟩ := u
  rw [h1]
  by_cases e : s ∈ hs
  · rw [if_pos e, decide_eq_true e]; rfl
  · rw [if_neg e, decide_eq_false e]; rfl
theorem nodup_take_not {ss : List Str} (h : ss.Nodup) {i : Nat} (hi : i < ss.length) : ¬ ss[i] ∈ ss.take i := fun hm => by
  obtain ⟨j, hj, ej⟩ := List.getElem_of_mem hm
  rw [List.length_take] at hj
  rw [List.getElem_take] at ej
  have := (List.getElem_inj h).mp ej
  omega
theorem ok_NR {f g fP fK fL fE C : Addr} {fd gd pd kd ld ed : FuncData} (F : Fun K "_need_roads" "_need_roads" sNR f fd) (B : Bl mg) (me : mg "enumerate" = none)
    (FI : Fun K "is_list" "is_list" sIsList g gd) (b : Binds K gd ["thing"] []) (m : mg "is_list" = some (.ref g))
    (FP : Fun K "is_pair" "is_pair" sIsPair fP pd) (bP : Binds K pd ["thing"] []) (mP : mg "is_pair" = some (.ref fP))
    (FK : Fun K "_are_keys" "_are_keys" sKeys fK kd) (bK : Binds K kd ["things", "table"] []) (mK : mg "_are_keys" = some (.ref fK))
    (FL : Fun K "_leader" "_leader" sLead fL ld) (bL : Binds K ld ["leads", "house"] []) (mL : mg "_leader" = some (.ref fL))
    (T : FeC K mg CF) (TC : ErC K mg "BadRoads" C fE) (FE : Fun K "__init__" "BadRoads.__init__" sIR fE ed) (bE : Binds K ed ["self", "index"] []) :
    FnOk P w K mg base (L2.CX P w) 4 f fd ["houses", "roads"] (spNR K C) := by
  have G := ok_isList (P := P) (w := w) (base := base) FI B
  have GP := ok_isPair (P := P) (w := w) (base := base) FP FI b m B
  have GK := ok_keys (P := P) (w := w) (base := base) FK B
  have GL := ok_lead (P := P) (w := w) (mg := mg) (base := base) FL
  have GE := ok_iR (P := P) (w := w) (base := base) FE T TC
  refine F.okX scNR (fun vs H Q E h => ?_) (fun cdv A outer s H vs Q E hr h => ?_)
  · obtain ⟨u, v, ss, rfl, _⟩ := h
    rfl
  obtain ⟨u, v, ss, rfl, su, good, hl, h⟩ := h
  have nd := scNR.nd
  have hu := hu_of hr
  have hr1 : Room 1 _ := hr.mono (by decide)
  have hr2 : Room 2 _ := hr.mono (by decide)
  refine ⟨_, pss_cons (by exact (ps_if (pt_not (pt_val (pe_call G hr1 rfl m FI.kp b .nil pass0 (pa_cons (pv 1) pa_nil))))
      (pss_one (by exact (ps_raise rfl (takes_of rfl rfl rfl rfl) (pmk_oex TC.ox TC.ini TC.ty GE hr2 bE .nil pass0 rfl TC.m (pa_cons pe_int pa_nil))))) pss_nil))
    (pss_cons (by exact (ps_setDc (i := 2) (own := [("house", 7)]) (g := gName 7) (tt := tYes) rfl nd rfl rfl (sw_trueD rfl rfl rfl (by decide +kernel)) (by exact pi_seqV 0 (pv 0))
        (by exact blkOk_by (N := ["houses", "roads", "leads", "index", "road", "one", "other", "house"]) (sc := defScope sNR) (by decide +kernel)) (fun _ _ _ _ _ => by exact pg_name (i := 7) nd rfl (Or.inl rfl)) (fun _ _ _ _ _ => pts_nil) (fun _ _ _ _ _ => pv 7) (fun _ _ _ _ _ => pv 7)))
    (pss_cons (by exact (ps_for (passes_of rfl) rfl (by exact pi_enumV 1 rfl me (pv 1)) (pg_tup rfl (pgs_cons (pg_name (i := 3) nd rfl (.inl rfl)) (pgs_cons (pg_name (i := 4) nd rfl (.inl rfl)) pgs_nil)))
      (pss_cons (by exact (ps_if (PW.pt (pw_or (pt_not (pt_val (pe_call GP hr2 rfl mP FP.kp bP .nil pass0 (pa_cons (pv 4) pa_nil)))) (pw_or1 (pt_not (pt_val (pe_call GK hr1 rfl mK FK.kp bK .nil pass0 (pa_cons (pv 4) (pa_cons (pv 2) pa_nil))))))))
          (pss_one (by exact (ps_raise rfl (takes_of rfl rfl rfl rfl) (pmk_oex TC.ox TC.ini TC.ty GE hr2 bE .nil pass0 rfl TC.m (pa_cons (pv 3) pa_nil))))) pss_nil))
      (pss_cons (by exact (ps_set (i := 5) nd rfl (.inl rfl) (pe_call GL hr1 rfl mL FL.kp bL .nil pass0 (pa_cons (pv 2) (pa_cons (pe_ix ix_seq (pv 4) pe_int (fun _ _ => rfl)) pa_nil)))))
      (pss_cons (by exact (ps_set (i := 6) nd rfl (.inl rfl) (pe_call GL hr1 rfl mL FL.kp bL .nil pass0 (pa_cons (pv 2) (pa_cons (pe_ix ix_seq (pv 4) pe_int (fun _ _ => rfl)) pa_nil)))))
      (pss_cons (by exact (ps_if (pt_cmpR op_eq (pv 5) (pv 6) (nomark _))
          (pss_one (by exact (ps_raise rfl (takes_of rfl rfl rfl rfl) (pmk_oex TC.ox TC.ini TC.ty GE hr2 bE .nil pass0 rfl TC.m (pa_cons (pv 3) pa_nil))))) pss_nil))
      (pss_one (by exact (ps_dput hu (pv 2) (pv 5) (pv 6) rfl)))))))))
    (pss_one (by exact (ps_if (pt_cmpR op_ne (pe_callB call_len_seq rfl B.len PySem.boot_len (pa_cons (pv 1) pa_nil)) (pe_op op_sub (pe_callB call_len_seq rfl B.len PySem.boot_len (pa_cons (pv 0) pa_nil)) pe_int) (nomark _))
          (pss_one (by exact (ps_raise rfl (takes_of rfl rfl rfl rfl) (pmk_oex TC.ox TC.ini TC.ty GE hr2 bE .nil pass0 rfl TC.m (pa_cons (pe_callB call_len_seq rfl B.len PySem.boot_len (pa_cons (pv 1) pa_nil)) pa_nil))))) pss_nil))))), ?_⟩
  rcases h with ⟨⟨t, ty, kt, nt⟩, g⟩ | ⟨vs, rs, tail, sv, prs, ends, forest, rest⟩
  · refine ⟨_, rfl, v, t, rfl, ty, kt, fun H' e => ⟨_, rfl, ?_⟩⟩
    rw [nt]
    exact iteT ⟨(by show 1 ≤ 1000; decide), raise_idx g e⟩
  obtain ⟨t, ty, kt, st⟩ := sv.ty (K := K)
  refine ⟨_, rfl, v, t, rfl, ty, kt, fun H1 e1 => ⟨_, rfl, ?_⟩⟩
  rw [st]
  refine iteF ?_
  obtain ⟨p, rfl, hp⟩ := sv.ext e1
  have sq : SqA K H1 p (vs ++ tail) := hp.imp (fun h => SqL.of h) (fun h => SqT.of h)
  obtain ⟨p2, rfl, hp2⟩ := su.ext e1
  have sq2 : SqA K H1 p2 (ss.map V.str) := hp2.imp (fun h => SqL.of h) (fun h => SqT.of h)
  have lvs : vs.length = rs.length := prs.length
  have prs1 : Paired (PairV H1) vs rs := paired_imp (fun _ _ q => SeqV.ext q e1) prs
  -- the dict of leaders
  refine ⟨p2, _, rfl, sq2, fun J G wk hG L hL => ?_⟩
  refine dc_it wk (fun i Hc => Same H1 Hc ∧ Hc L = some (.dK ((ss.take i).map fun s => ((.inr s : Key), V.str s)))) ⟨K1.Same.upd hL, upd_same⟩ (fun i Hc _ h => hG Hc fun o ho => h.1 _ _ ho) ?_ ?_
  · rintro i x Hc H' hi ⟨f1, f2⟩ ⟨rfl, hx⟩
    rw [List.length_map] at hi
    have ex : x = .str ss[i] := by
      have q : (ss.map V.str)[i]? = some x := hx
      rw [List.getElem?_map, List.getElem?_eq_getElem hi] at q
      exact (Option.some.inj q).symm
    subst ex
    refine ⟨rfl, ?_⟩
    unfold tYes
    refine iteT ?_
    refine ⟨_, rfl, _, rfl, _, .inr ss[i], rfl, f2, ?_, fun a o n => ?_, ?_⟩
    · rw [List.length_map]
      exact small1000 (Nat.le_trans (List.length_take_le _ _) (by omega))
    · rw [upd_ne (ne_of_none n hL)]
      exact f1 a o n
    · have nw : valV ((ss.take i).map fun s => ((.inr s : Key), V.str s)) (.inr ss[i]) = none := by
        have u := (UF.start (hs := ss.take i) (good.1.sublist (List.take_sublist _ _)))
        have := u.some ss[i]
        rw [decide_eq_false (nodup_take_not good.1 hi)] at this
        exact Option.not_isSome_iff_eq_none.mp (by rw [this]; exact Bool.false_ne_true)
      rw [upd_same, putK_new _ nw, map_take_succ (List.getElem?_eq_getElem hi)]
  rintro H2 ⟨f1, f2⟩
  rw [List.length_map, List.take_length] at f2
  have e2 : Same H H2 := e1.trans f1
  have hL0 : H L = none := e1.free hL
  refine ⟨p, _, rfl, SqA.same sq f1, fun J G wk hG => ?_⟩
  have xat : ∀ i (hi : i < rs.length), ∃ x, (vs ++ tail)[i]? = some x ∧ PairV H1 x rs[i] := fun i hi => by
    obtain ⟨x, a, b⟩ := paired_get prs1 hi
    exact ⟨x, by rw [List.getElem?_append_left (by omega)]; exact a, b⟩
  have lng : rs.length ≤ (vs ++ tail).length := by rw [List.length_append]; omega
  refine for_it wk (fun i σ Hc => i ≤ rs.length ∧ (∃ a b c d, σ = [some (.ref p2), some (.ref p), some (.ref L), a, b, c, d, none]) ∧ Same H1 Hc ∧ ∃ kvs rk, Hc L = some (.dK kvs) ∧ UF ss kvs (rtOf (rs.take i)) rk) ?_ ?_ ?_ ?_
  · exact ⟨Nat.zero_le _, ⟨_, _, _, _, rfl⟩, f1, _, _, f2, UF.start good.1⟩
  · rintro i σ Hc hi ⟨h1, h2, h3, h4⟩
    refine hG Hc fun o ho => ?_
    have : ∀ o', H1 p = some o' → Hc p = some o := fun o' q => by
      have q2 := f1 _ _ q
      rw [ho] at q2
      rw [Option.some.inj q2]
      exact h3 _ _ q
    exact hp.elim (this _) (this _)
  · rintro i x σ Hc H' hi ⟨h1, ⟨sa, sb, sc, sd, rfl⟩, h3, kvs, rk, h4, uf⟩ ⟨T, x1, x2, rfl, hT, rfl, e1', e2'⟩
    obtain rfl : x1 = .int (i : Nat) := (Option.some.inj e1').symm
    have e2' : (vs ++ tail)[i]? = some x2 := e2'
    have hT2 := K1.Same.upd (H := Hc) (p := T) (o := .tup [.int (i : Nat), x2]) hT
    have eT : Same H1 (upd Hc T (.tup [.int (i : Nat), x2])) := h3.trans hT2
    refine ⟨T, _, rfl, SqT.of upd_same, rfl, _, _, rfl, _, _, rfl, rfl, ?_⟩
    by_cases hlt : i < rs.length
    · obtain ⟨y, ey, py⟩ := xat i hlt
      have ex2 : x2 = y := Option.some.inj (e2'.symm.trans ey)
      subst ex2
      have ee := ends _ (List.getElem_mem hlt)
      have sx : SeqV (upd Hc T (.tup [.int (i : Nat), x2])) x2 [.str rs[i].1, .str rs[i].2] := SeqV.ext py eT
      refine ⟨_, rfl, x2, rfl, .inl ⟨_, sx, fun H3 g3 => ⟨_, rfl, ?_⟩⟩⟩
      refine iteF ⟨_, rfl, _, rfl, x2, L, _, kvs, ss, rfl, sx.ext g3, (by show 2 ≤ 1000; decide), fun z hz => ?_, g3 _ _ (hT2 _ _ h4), uf.some, fun H4 g4 => ⟨_, rfl, ?_⟩⟩
      · rcases List.mem_cons.mp hz with rfl | hz
        · exact .inl ⟨_, rfl⟩
        · rcases List.mem_cons.mp hz with rfl | hz
          · exact .inl ⟨_, rfl⟩
          · cases hz
      have z1 : ([V.str rs[i].1, V.str rs[i].2].all (isKey ss)) = true := by
        show (decide (rs[i].1 ∈ ss) && (decide (rs[i].2 ∈ ss) && true)) = true
        rw [decide_eq_true ee.1, decide_eq_true ee.2]
        rfl
      rw [z1]
      refine iteF ?_
      have s4 := (sx.ext g3).ext g4
      have L4 : H4 L = some (.dK kvs) := g4 _ _ (g3 _ _ (hT2 _ _ h4))
      have e4 : Same H1 H4 := eT.trans (g3.trans g4)
      refine ⟨_, rfl, _, rfl, ixA s4 rfl ⟨L, _, kvs, ss, _, rk, rfl, L4, uf, ee.1, hl, fun k1 u1 => ?_⟩⟩
      have xL : ∀ {o}, H1 L = some o → False := fun q => by rw [hL] at q; cases q
      have up : ∀ {Hx : Hp} {o : HO}, Same H1 Hx → Same H1 (upd Hx L o) := fun e b o n => by
        rw [upd_ne (ne_of_none n hL)]
        exact e b o n
      have s5 : SeqV (upd H4 L (.dK k1)) x2 [.str rs[i].1, .str rs[i].2] := SeqV.ext py (up e4)
      refine ⟨_, rfl, _, rfl, ixA s5 rfl ⟨L, _, k1, ss, _, rk, rfl, upd_same, u1, ee.2, hl, fun k2 u2 => ?_⟩⟩
      rw [upd_upd]
      refine ⟨_, rfl, _, rfl, rfl, _, rfl, ?_⟩
      have ne := forest i hlt
      rw [decide_eq_false (fun q => ne (V.str.inj q))]
      obtain ⟨rk', u3⟩ := u2.join ee.1 ee.2 ne
      have dp : DPut (upd H4 L (.dK k2)) L (.str (rtOf (rs.take i) rs[i].1)) (.str (rtOf (rs.take i) rs[i].2)) (upd (upd H4 L (.dK k2)) L (.dK (putK k2 (.inr (rtOf (rs.take i) rs[i].1)) (.str (rtOf (rs.take i) rs[i].2))))) := DPut.k (k := .inr _) upd_same (Nat.lt_of_le_of_lt u2.len (small1000 hl))
      rw [upd_upd] at dp
      refine iteF ⟨_, rfl, _, rfl, _, rfl, L, _, rfl, dp, hlt, ⟨_, _, _, _, rfl⟩, up e4, _, rk', upd_same, ?_⟩
      rw [rtOf_succ hlt]
      exact u3
    · have ei : i = rs.length := by omega
      subst ei
      rcases rest with ⟨rfl, _⟩ | ⟨rfl, _⟩ | ⟨x, rst, rfl, bad, g⟩
      · rw [List.append_nil] at hi
        omega
      · rw [List.append_nil] at hi
        omega
      have ex2 : x2 = x := by
        rw [List.getElem?_append_right (by omega), ← lvs, Nat.sub_self] at e2'
        exact (Option.some.inj e2').symm
      subst ex2
      have eT0 := e1.trans eT
      rcases bad.ext eT0 with bad | ⟨ys, sy, ny⟩ | ⟨y, z, sy, ty1, ty2, nk⟩ | ⟨a, b, sy, ha, hb, eq⟩
      · exact ⟨_, rfl, x2, rfl, .inr ⟨bad, fun H3 g3 => ⟨_, rfl, iteT (iteT ⟨_, rfl, (by show 1 ≤ 1000; decide), raise_idx g (eT0.trans g3)⟩)⟩⟩⟩
      · refine ⟨_, rfl, x2, rfl, .inl ⟨ys, sy, fun H3 g3 => ⟨_, rfl, ?_⟩⟩⟩
        rw [decide_eq_false ny]
        exact iteT (iteT ⟨_, rfl, (by show 1 ≤ 1000; decide), raise_idx g (eT0.trans g3)⟩)
      · refine ⟨_, rfl, x2, rfl, .inl ⟨_, sy, fun H3 g3 => ⟨_, rfl, ?_⟩⟩⟩
        refine iteF ⟨_, rfl, _, rfl, x2, L, _, kvs, ss, rfl, sy.ext g3, (by show 2 ≤ 1000; decide), fun q hq => ?_, g3 _ _ (hT2 _ _ h4), uf.some, fun H4 g4 => ⟨_, rfl, ?_⟩⟩
        · rcases List.mem_cons.mp hq with rfl | hq
          · exact ty1.ext g3
          · rcases List.mem_cons.mp hq with rfl | hq
            · exact ty2.ext g3
            · cases hq
        have z1 : ([y, z].all (isKey ss)) = false := by
          show (isKey ss y && (isKey ss z && true)) = false
          rw [Bool.and_true]
          exact nk
        rw [z1]
        exact iteT ⟨_, rfl, (by show 1 ≤ 1000; decide), raise_idx g (eT0.trans (g3.trans g4))⟩
      · refine ⟨_, rfl, x2, rfl, .inl ⟨_, sy, fun H3 g3 => ⟨_, rfl, ?_⟩⟩⟩
        refine iteF ⟨_, rfl, _, rfl, x2, L, _, kvs, ss, rfl, sy.ext g3, (by show 2 ≤ 1000; decide), fun q hq => ?_, g3 _ _ (hT2 _ _ h4), uf.some, fun H4 g4 => ⟨_, rfl, ?_⟩⟩
        · rcases List.mem_cons.mp hq with rfl | hq
          · exact .inl ⟨_, rfl⟩
          · rcases List.mem_cons.mp hq with rfl | hq
            · exact .inl ⟨_, rfl⟩
            · cases hq
        have z1 : ([V.str a, V.str b].all (isKey ss)) = true := by
          show (decide (a ∈ ss) && (decide (b ∈ ss) && true)) = true
          rw [decide_eq_true ha, decide_eq_true hb]
          rfl
        rw [z1]
        refine iteF ?_
        have s4 := (sy.ext g3).ext g4
        have L4 : H4 L = some (.dK kvs) := g4 _ _ (g3 _ _ (hT2 _ _ h4))
        have e4 : Same H H4 := eT0.trans (g3.trans g4)
        have up : ∀ {Hx : Hp} {o : HO}, Same H Hx → Same H (upd Hx L o) := fun e b o n => by
          rw [upd_ne (ne_of_none n hL0)]
          exact e b o n
        have pL : ∀ o, SeqV (upd H4 L o) x2 [.str a, .str b] := fun o => by
          obtain ⟨px, rfl, hx⟩ := s4
          have nx : px ≠ L := fun q => by
            rw [q, L4] at hx
            rcases hx with hx | hx <;> cases hx
          exact ⟨px, rfl, by rw [upd_ne nx]; exact hx⟩
        refine ⟨_, rfl, _, rfl, ixA s4 rfl ⟨L, _, kvs, ss, _, rk, rfl, L4, uf, ha, hl, fun k1 u1 => ?_⟩⟩
        refine ⟨_, rfl, _, rfl, ixA (pL _) rfl ⟨L, _, k1, ss, _, rk, rfl, upd_same, u1, hb, hl, fun k2 u2 => ?_⟩⟩
        rw [upd_upd]
        refine ⟨_, rfl, _, rfl, rfl, _, rfl, ?_⟩
        rw [List.take_length, eq, decide_eq_true rfl]
        exact iteT ⟨_, rfl, (by show 1 ≤ 1000; decide), raise_idx g (up e4)⟩
  · rintro σ Hc ⟨h1, ⟨sa, sb, sc, sd, rfl⟩, h3, kvs, rk, h4, uf⟩
    have g1 := SqA.same sq h3
    have g2 := SqA.same sq2 h3
    have e3 : Same H Hc := e1.trans h3
    refine ⟨_, rfl, p, _, rfl, g1, _, rfl, p2, _, rfl, g2, _, _, rfl, rfl, rfl, _, rfl, ?_⟩
    rcases rest with ⟨rfl, hl2, q⟩ | ⟨rfl, hl2, g⟩ | ⟨x, r, rfl, _⟩
    · have z : decide (V.int (((vs ++ []).length : Nat) : Int) = V.int ((((ss.map V.str).length : Nat) : Int) - 1)) = true := by
        rw [List.append_nil, List.length_map, lvs]
        exact decide_eq_true (by rw [← hl2]; congr 1; omega)
      rw [z]
      exact iteF (q Hc e3)
    · have z : decide (V.int (((vs ++ []).length : Nat) : Int) = V.int ((((ss.map V.str).length : Nat) : Int) - 1)) = false := by
        rw [List.append_nil, List.length_map, lvs]
        exact decide_eq_false (fun q => hl2 (by have := V.int.inj q; omega))
      rw [z]
      have ll : (vs ++ []).length = rs.length := by rw [List.append_nil, lvs]
      refine iteT ⟨_, rfl, p, _, rfl, g1, (by show 1 ≤ 1000; decide), ?_⟩
      rw [ll]
      exact raise_idx g e3
    · rw [List.length_append, List.length_cons] at h1
      omega
end
end K1
end
-- KVal
section
set_option Elab.async false
set_option linter.all false
set_option maxRecDepth 100000
set_option maxHeartbeats 4000000
namespace K1
open PySem PySem.Spec PyProof.Rows L2
abbrev sBW : Stmt := top 27
abbrev sNB : Stmt := top 28
def TupP (H : Hp) (q : Addr) (r : Str × Str) : Prop := H q = some (.tup [.str r.1, .str r.2])
theorem TupP.ext {H H' : Hp} {qs : List Addr} {rs : List (Str × Str)} (h : Paired (TupP H) qs rs) (e : Same H H') : Paired (TupP H') qs rs := paired_imp (fun _ _ q => e _ _ q) h
def spBW : Sp := fun vs H Q _ => ∃ (p : Addr) (qs : List Addr) (rs : List (Str × Str)), vs = [.ref p] ∧ H p = some (.lst (qs.map V.ref)) ∧ Paired (TupP H) qs rs ∧ rs.length ≤ 1000 ∧ ∀ r H', Same H H' → Q (.ref r) H'
theorem scBW : FnScope ["roads", "places", "place", "one", "other"] ["roads"] (defScope sBW) := ⟨rfl, rfl, rfl, by decide +kernel, rfl, by decide +kernel, by decide +kernel⟩
theorem putK_le {κ : Type} [DecidableEq κ] {kvs : List (κ × V)} {k : κ} {v : V} : (putK kvs k v).length ≤ kvs.length + 1 := by
  unfold putK
  split
  · rw [List.length_map]; exact Nat.le_succ _
  · rw [List.length_append]; exact Nat.le_refl _
section
variable {P : Program} {w : World} {K : PySem.W.Frag} {mg : Str → Option Value} {base : Heap}
theorem paired_ref {H : Hp} {qs : List Addr} {rs : List (Str × Str)} (h : Paired (TupP H) qs rs) {i : Nat} (hi : i < rs.length) {x : V} (e : (qs.map V.ref)[i]? = some x) : ∃ q, x = .ref q ∧ H q = some (.tup [.str rs[i].1, .str rs[i].2]) := by
  obtain ⟨q, eq, pq⟩ := paired_get h hi
  rw [List.getElem?_map, eq] at e
  exact ⟨q, (Option.some.inj e).symm, pq⟩
theorem ok_BW {f : Addr} {fd : FuncData} (F : Fun K "_both_ways" "_both_ways" sBW f fd) (me : mg "enumerate" = none) : FnOk P w K mg base CX0 1 f fd ["roads"] spBW := by
  refine F.ok scBW (fun vs H Q E h => ?_) (fun cdv A outer s H vs Q E hr h => ?_)
  · obtain ⟨p, qs, rs, rfl, _⟩ := h
    rfl
  obtain ⟨p, qs, rs, rfl, hp, pr, hl, q⟩ := h
  have nd := scBW.nd
  have hu := hu_of hr
  refine ⟨_, pss_cons (by exact (ps_set (i := 1) nd rfl (.inl rfl) pe_dnewT))
    (pss_cons (by exact (ps_for PassesOwn.never rfl (by exact pi_enumV 0 rfl me (pv 0)) (pg_tup rfl (pgs_cons (pg_name (i := 2) nd rfl (.inl rfl)) (pgs_cons (pg_tup rfl (pgs_cons (pg_name (i := 3) nd rfl (.inl rfl)) (pgs_cons (pg_name (i := 4) nd rfl (.inl rfl)) pgs_nil))) pgs_nil)))
      (pss_cons (by exact (ps_dput hu (pv 1) (pe_tup (pa_cons (pv 3) (pa_cons (pv 4) pa_nil))) (pv 2) rfl))
      (pss_one (by exact (ps_dput hu (pv 1) (pe_tup (pa_cons (pv 4) (pa_cons (pv 3) pa_nil))) (pv 2) rfl))))))
    (pss_one (by exact (ps_ret (pv 1))))), ?_⟩
  intro L hL
  have ep : L ≠ p := fun z => by rw [z, hp] at hL; cases hL
  have lqs : qs.length = rs.length := pr.length
  refine ⟨p, _, rfl, .inl (SqL.of (by rw [upd_ne ep.symm]; exact hp)), fun J G wk hG => ?_⟩
  refine for_it wk (fun i σ Hc => (∃ a b c, σ = [some (.ref p), some (.ref L), a, b, c]) ∧ Same H Hc ∧ ∃ kvs, Hc L = some (.dT kvs) ∧ kvs.length ≤ 2 * i) ⟨⟨_, _, _, rfl⟩, K1.Same.upd hL, _, upd_same, Nat.le_refl _⟩ (fun i σ Hc _ h => hG Hc fun o ho => ?_) ?_ ?_
  · rw [upd_ne ep.symm, hp] at ho
    rw [← Option.some.inj ho]
    exact h.2.1 _ _ hp
  · rintro i x σ Hc H' hi ⟨⟨sa, sb, sc, rfl⟩, h1, kvs, h2, h3⟩ ⟨T, x1, x2, rfl, hT, rfl, e1', e2'⟩
    rw [List.length_map, lqs] at hi
    obtain rfl : x1 = .int (i : Nat) := (Option.some.inj e1').symm
    obtain ⟨t, rfl, ht⟩ := paired_ref pr hi e2'
    have hT2 := K1.Same.upd (H := Hc) (p := T) (o := .tup [.int (i : Nat), .ref t]) hT
    have e1 : Same H (upd Hc T (.tup [.int (i : Nat), .ref t])) := h1.trans hT2
    refine ⟨T, _, rfl, SqT.of upd_same, rfl, _, _, rfl, _, _, rfl, t, _, rfl, SqT.of (e1 _ _ ht), rfl, _, _, rfl, _, _, rfl, rfl, rfl, ?_⟩
    have step : ∀ (H1 : Hp) (kv : List (List Key × V)) (a b : Str), Same H H1 → H1 L = some (.dT kv) → kv.length ≤ 2 * i + 1 → ∀ (R : Hp → Prop), (∀ H2, Same H H2 → (∃ kv', H2 L = some (.dT kv') ∧ kv'.length ≤ kv.length + 1) → R H2) →
        2 ≤ sizeLine ∧ ∀ b', H1 b' = none → ∃ a' H3, V.ref L = .ref a' ∧ DPut (upd H1 b' (.tup [.str a, .str b])) a' (.ref b') (.int (i : Nat)) H3 ∧ R H3 := by
      intro H1 kv a b f1 f2 f3 R hR
      refine ⟨by decide, fun b' hb => ⟨L, _, rfl, DPut.t (k := [.inr a, .inr b]) (by rw [upd_ne (ne_of_none f2 hb)]; exact f2) upd_same (Nat.lt_of_le_of_lt f3 (by show 2 * i + 1 < 2 ^ 24; omega)), hR _ (fun c o n => ?_) ⟨_, upd_same, putK_le⟩⟩⟩
      rw [upd_ne (ne_of_none n hL), upd_ne (ne_of_none (f1 _ _ n) hb)]
      exact f1 _ _ n
    refine ⟨_, rfl, _, rfl, _, rfl, _, rfl, ?_⟩
    refine step _ kvs rs[i].1 rs[i].2 e1 (hT2 _ _ h2) (by omega) _ ?_
    rintro H2 g1 ⟨kv1, g2, g3⟩
    refine ⟨_, rfl, _, rfl, _, rfl, _, rfl, ?_⟩
    refine step H2 kv1 rs[i].2 rs[i].1 g1 g2 (by omega) _ ?_
    rintro H3 k1 ⟨kv2, k2, k3⟩
    exact ⟨⟨_, _, _, rfl⟩, k1, kv2, k2, by omega⟩
  · rintro σ Hc ⟨⟨sa, sb, sc, rfl⟩, h1, _⟩
    exact ⟨_, rfl, q L Hc h1⟩
end
end K1
end
-- KNb
section
set_option Elab.async false
set_option linter.all false
set_option maxRecDepth 100000
set_option maxHeartbeats 4000000
namespace K1
open PySem PySem.Spec PyProof.Rows L2
def spNB : Sp := fun vs H Q _ => ∃ (p1 p2 : Addr) (ss : List Str) (qs : List Addr) (rs : List (Str × Str)), vs = [.ref p1, .ref p2] ∧ H p1 = some (.lst (ss.map V.str)) ∧ ss.length ≤ 1000 ∧ ss.Nodup ∧ H p2 = some (.lst (qs.map V.ref)) ∧ Paired (TupP H) qs rs ∧ EndsIn ss rs ∧ rs.length ≤ 1000 ∧ ∀ r H', Same H H' → Q (.ref r) H'
theorem scNB : FnScope ["houses", "roads", "found", "one", "other", "house", "far"] ["houses", "roads"] (defScope sNB) := ⟨rfl, rfl, rfl, by decide +kernel, rfl, by decide +kernel, by decide +kernel⟩
def dcScope (sc : Scope) : Stmt → Scope
  | .Return (some (.DictComp _ _ _ s _)) _ => s
  | _ => sc
/-- the dicts of the neighbours: each house has its own, found by it -/
def NbAt (H0 Hc : Hp) (D : Addr) (hs : List Str) (n : Nat) : Prop := ∃ kvs : List (Key × V), Hc D = some (.dK kvs) ∧ kvs.length ≤ hs.length ∧ ∀ s ∈ hs, ∃ d m, valV kvs (.inr s) = some (.ref d) ∧ H0 d = none ∧ d ≠ D ∧ Hc d = some (.dK m) ∧ m.length ≤ n
section
variable {P : Program} {w : World} {K : PySem.W.Frag} {mg : Str → Option Value} {base : Heap}
theorem NbAt.put {H0 Hc : Hp} {D : Addr} {hs : List Str} {n : Nat} {s : Str} {d : Addr} {m : List (Key × V)} {k : Key} {v : V} (h : NbAt H0 Hc D hs n) (hd : d ≠ D) (hm : Hc d = some (.dK m)) (hl : m.length ≤ n) : NbAt H0 (upd Hc d (.dK (putK m k v))) D hs (n + 1) := by
  obtain ⟨kvs, h1, h2, h3⟩ := h
  refine ⟨kvs, by rw [upd_ne hd.symm]; exact h1, h2, fun s hs => ?_⟩
  obtain ⟨d', m', a1, a2, a3, a4, a5⟩ := h3 s hs
  by_cases e : d' = d
  · refine ⟨d', _, a1, a2, a3, by rw [e]; exact upd_same, Nat.le_trans putK_le (by omega)⟩
  · exact ⟨d', m', a1, a2, a3, by rw [upd_ne e]; exact a4, by omega⟩
theorem NbAt.keep {H0 Hc H2 : Hp} {D : Addr} {hs : List Str} {n : Nat} (h : NbAt H0 Hc D hs n) (e : Same Hc H2) : NbAt H0 H2 D hs n := by
  obtain ⟨kvs, h1, h2, h3⟩ := h
  refine ⟨kvs, e _ _ h1, h2, fun s hs => ?_⟩
  obtain ⟨d', m', a1, a2, a3, a4, a5⟩ := h3 s hs
  exact ⟨d', m', a1, a2, a3, e _ _ a4, a5⟩
theorem ok_NB {f : Addr} {fd : FuncData} (F : Fun K "_neighbours" "_neighbours" sNB f fd) : FnOk P w K mg base CX0 1 f fd ["houses", "roads"] spNB := by
  refine F.ok scNB (fun vs H Q E h => ?_) (fun cdv A outer s H vs Q E hr h => ?_)
  · obtain ⟨p1, p2, ss, qs, rs, rfl, _⟩ := h
    rfl
  obtain ⟨p1, p2, ss, qs, rs, rfl, h1, hl, hN, h2, pr, ends, hlr, q⟩ := h
  have nd := scNB.nd
  have hu := hu_of hr
  refine ⟨_, pss_cons (by exact (ps_set (i := 2) nd rfl (.inr rfl) (pe_dc (own := [("house", 5)]) (g := gName 5) (tt := tYes) rfl nd (by exact pi_seqV 0 (pv 0))
        (by exact blkOk_by (N := ["houses", "roads", "found", "one", "other", "house", "far"]) (sc := defScope sNB) (by decide +kernel)) (fun _ _ _ _ _ => by exact pg_name (i := 5) nd rfl (Or.inl rfl)) (fun _ _ _ _ _ => pts_nil) (fun _ _ _ _ _ => pv 5) (fun _ _ _ _ _ => pe_dnewK))))
    (pss_cons (by exact (ps_for PassesOwn.never rfl (by exact pi_seqV 1 (pv 1)) (pg_tup rfl (pgs_cons (pg_name (i := 3) nd rfl (.inl rfl)) (pgs_cons (pg_name (i := 4) nd rfl (.inl rfl)) pgs_nil)))
      (pss_cons (by exact (ps_dput hu (pe_dget hu (pv 2) (pv 3) (fun _ _ => rfl)) (pv 4) pe_bl rfl))
      (pss_one (by exact (ps_dput hu (pe_dget hu (pv 2) (pv 4) (fun _ _ => rfl)) (pv 3) pe_bl rfl))))))
    (pss_one (by exact (ps_ret (pe_dc (own := [("house", 5)]) (g := gName 5) (tt := tYes) (tk := tVar 5) (tv := tLc (iSeqV K 0) (gName 6) (tB (tDIn (tVar 6) (tDGet (tVar 2) (tVar 5)))) (tVar 6) [6]) rfl nd (by exact pi_seqV 0 (pv 0))
        (by exact blkOk_by (N := ["houses", "roads", "found", "one", "other", "house", "far"]) (sc := defScope sNB) (by decide +kernel)) (fun _ _ _ _ _ => by exact pg_name (i := 5) nd rfl (Or.inr rfl)) (fun _ _ _ _ _ => pts_nil) (fun _ _ _ _ _ => by exact pv 5)
        (fun _ _ _ _ _ => by
          refine pe_lc (own := [("far", 6)]) ?_ ?_ ?_ ?_ ?_ ?_ ?_ ?_
          · rfl
          · exact nd
          · exact pi_seqV 0 (pv 0)
          · exact blkOk_by (by with_unfolding_all rfl)
          · intro _ _ _ _ _
            exact pg_name (i := 6) nd rfl (Or.inl rfl)
          · intro _ _ _ _ _
            exact pts_one (pt_cmp (pc_din hu (pv 6) (pe_dget hu (pv 2) (pv 5) (fun _ _ => rfl))) (by with_unfolding_all rfl))
          · intro _ _ _ _ _
            exact pv 6
          · intro _
            rfl)))))), ?_⟩
  have lqs : qs.length = rs.length := pr.length
  -- the dict of dicts
  refine ⟨p1, _, rfl, .inl (SqL.of h1), fun J G wk hG D hD => ?_⟩
  have up : ∀ {Hx : Hp} {d : Addr} {o : HO}, H d = none → Same H Hx → Same H (upd Hx d o) := fun n e b o nn => by
    rw [upd_ne (ne_of_none nn n)]
    exact e b o nn
  have at_ : ∀ i x, (ss.map V.str)[i]? = some x → ∃ h : i < ss.length, x = .str ss[i] := fun i x e => by
    rw [List.getElem?_map] at e
    rcases Nat.lt_or_ge i ss.length with hi | hi
    · rw [List.getElem?_eq_getElem hi] at e
      exact ⟨hi, (Option.some.inj e).symm⟩
    · rw [List.getElem?_eq_none hi] at e
      cases e
  refine dc_it wk (fun i Hc => Same H Hc ∧ NbAt H Hc D (ss.take i) 0) ⟨K1.Same.upd hD, [], upd_same, Nat.zero_le _, fun s hs => absurd hs (by simp)⟩ (fun i Hc _ h => hG Hc fun o ho => h.1 _ _ ho) ?_ ?_
  · rintro i x Hc H' hi ⟨f1, kvs, f2, f3, f4⟩ ⟨rfl, hx⟩
    obtain ⟨hi', rfl⟩ := at_ i x hx
    refine ⟨rfl, ?_⟩
    unfold tYes
    refine iteT ?_
    refine ⟨_, rfl, fun d hd => ?_⟩
    have dD : d ≠ D := fun z => by rw [z, f2] at hd; cases hd
    have d0 : H d = none := f1.free hd
    refine ⟨kvs, .inr ss[i], rfl, by rw [upd_ne dD.symm]; exact f2, Nat.lt_of_le_of_lt f3 (small1000 (Nat.le_trans (List.length_take_le _ _) (by omega))), up hD (up d0 f1), putK kvs (.inr ss[i]) (.ref d), upd_same, ?_, fun s hs => ?_⟩
    · refine Nat.le_trans putK_le ?_
      rw [List.length_take] at f3 ⊢
      omega
    · rcases (mem_take_succ hi').mp hs with hs | rfl
      · obtain ⟨d', m, a1, a2, a3, a4, a5⟩ := f4 s hs
        have ne : ¬ (Sum.inr s : Key) = .inr ss[i] := fun z => nodup_take_not hN hi' (by rw [← Sum.inr.inj z]; exact hs)
        have ne2 : d' ≠ d := fun z => by rw [z, hd] at a4; cases a4
        exact ⟨d', m, by rw [valV_put, if_neg ne]; exact a1, a2, a3, by rw [upd_ne a3, upd_ne ne2]; exact a4, a5⟩
      · exact ⟨d, [], by rw [valV_put, if_pos rfl], d0, dD, by rw [upd_ne dD, upd_same], Nat.le_refl _⟩
  rintro H1 ⟨e1, nb⟩
  have nb : NbAt H H1 D ss 0 := by
    rw [List.length_map, List.take_length] at nb
    exact nb
  -- the roads
  refine ⟨p2, _, rfl, .inl (SqL.of (e1 _ _ h2)), fun J G wk hG => ?_⟩
  refine for_it wk (fun i σ Hc => (∃ a b, σ = [some (.ref p1), some (.ref p2), some (.ref D), a, b, none, none]) ∧ Same H Hc ∧ NbAt H Hc D ss (2 * i)) ⟨⟨_, _, rfl⟩, e1, nb⟩ (fun i σ Hc _ h => hG Hc fun o ho => by
    rw [e1 _ _ h2] at ho
    rw [← Option.some.inj ho]
    exact h.2.1 _ _ h2) ?_ ?_
  · rintro i x σ Hc H' hi ⟨⟨sa, sb, rfl⟩, g1, g2⟩ ⟨rfl, hx⟩
    rw [List.length_map, lqs] at hi
    obtain ⟨t, rfl, ht⟩ := paired_ref pr hi hx
    refine ⟨t, _, rfl, SqT.of (g1 _ _ ht), rfl, _, _, rfl, _, _, rfl, rfl, ?_⟩
    have ee := ends _ (List.getElem_mem hi)
    obtain ⟨kvs, b1, b2, b3⟩ := id g2
    obtain ⟨d, m, a1, a2, a3, a4, a5⟩ := b3 rs[i].1 ee.1
    have dg1 := DGet.k (k := .inr rs[i].1) b1
    rw [a1] at dg1
    have g3 := NbAt.put (s := rs[i].1) (k := .inr rs[i].2) (v := .bl true) g2 a3 a4 a5
    have g4 : Same H (upd H' d (.dK (putK m (.inr rs[i].2) (.bl true)))) := up a2 g1
    refine ⟨_, rfl, _, rfl, D, _, rfl, dg1, _, rfl, d, _, rfl, DPut.k (k := .inr rs[i].2) a4 (by show m.length < 2 ^ 24; omega), ?_⟩
    obtain ⟨kvs', c1, c2, c3⟩ := id g3
    obtain ⟨d', m', x1, x2, x3, x4, x5⟩ := c3 rs[i].2 ee.2
    have dg2 := DGet.k (k := .inr rs[i].2) c1
    rw [x1] at dg2
    refine ⟨_, rfl, _, rfl, D, _, rfl, dg2, _, rfl, d', _, rfl, DPut.k (k := .inr rs[i].1) x4 (by show m'.length < 2 ^ 24; omega), ⟨_, _, rfl⟩, up x2 g4, ?_⟩
    exact NbAt.put (s := rs[i].2) g3 x3 x4 x5
  rintro σ H2 ⟨⟨sa, sb, rfl⟩, g1, g2⟩
  -- the dict of lists
  obtain ⟨kvs, b1, b2, b3⟩ := id g2
  refine ⟨p1, _, rfl, .inl (SqL.of (g1 _ _ h1)), fun J G wk hG D2 hD2 => ?_⟩
  have hD20 : H D2 = none := g1.free hD2
  refine dc_it wk (fun i Hc => Same H2 Hc ∧ ∃ kv, Hc D2 = some (.dK kv) ∧ kv.length ≤ i) ⟨K1.Same.upd hD2, [], upd_same, Nat.zero_le _⟩ (fun i Hc _ h => hG Hc fun o ho => h.1 _ _ ho) ?_ ?_
  · rintro i x Hc H' hi ⟨f1, kv, f2, f3⟩ ⟨rfl, hx⟩
    obtain ⟨hi', rfl⟩ := at_ i x hx
    refine ⟨rfl, ?_⟩
    unfold tYes
    refine iteT ?_
    refine ⟨_, rfl, ?_⟩
    refine ⟨p1, _, rfl, .inl (SqL.of (f1 _ _ (g1 _ _ h1))), fun J2 G2 wk2 hG2 L hL => ?_⟩
    refine lc_it wk2 (fun j Hd => Same H' Hd ∧ ∃ acc, Hd L = some (.lst acc) ∧ acc.length ≤ j) ⟨K1.Same.upd hL, [], upd_same, Nat.zero_le _⟩ (fun j Hd _ h => hG2 Hd fun o ho => h.1 _ _ ho) ?_ ?_
    · rintro j y Hd H'' hj ⟨k1, acc, k2, k3⟩ ⟨rfl, hy⟩
      rw [List.length_map] at hj
      obtain ⟨hj', rfl⟩ := at_ j y hy
      refine ⟨rfl, ?_⟩
      obtain ⟨d, m, a1, a2, a3, a4, a5⟩ := b3 ss[i] (List.getElem_mem hi')
      have dg := DGet.k (k := .inr ss[i]) (k1 _ _ (f1 _ _ b1))
      rw [a1] at dg
      refine ⟨_, rfl, _, rfl, _, rfl, D, _, rfl, dg, d, _, rfl, DGet.k (k := .inr ss[j]) (k1 _ _ (f1 _ _ a4)), _, rfl, ?_⟩
      refine ite2 (fun c => ?_) (fun c => ?_)
      · refine ⟨_, rfl, acc, k2, by show acc.length < 2 ^ 24; omega, fun b o n => ?_, _, upd_same, by rw [List.length_append]; simp; omega⟩
        rw [upd_ne (ne_of_none n hL)]
        exact k1 b o n
      · exact ⟨k1, acc, k2, by omega⟩
    · rintro Hd ⟨k1, acc, k2, k3⟩
      have LD : L ≠ D2 := fun z => by rw [z, f2] at hL; cases hL
      refine ⟨kv, .inr ss[i], rfl, k1 _ _ f2, by show kv.length < 2 ^ 24; rw [List.length_map] at hi; omega, fun b o n => ?_, _, upd_same, Nat.le_trans putK_le (by omega)⟩
      rw [upd_ne (ne_of_none n hD2)]
      exact k1 b o (f1 b o n)
  · rintro Hc ⟨f1, _⟩
    exact q D2 Hc (g1.trans f1)
end
end K1
end
-- NVal
section
set_option Elab.async false
set_option linter.all false
set_option maxRecDepth 100000
set_option maxHeartbeats 4000000
namespace K1
open PySem PySem.Spec PyProof.Rows L2
/-- the place of a road, either way round -/
def plOf (rs : List (Str × Str)) (a b : Str) : Option Nat := rs.findIdx? fun r => decide (r = (a, b) ∨ r = (b, a))
theorem joinRt_one {rt : Str → Str} {a b : Str} : joinRt rt a b a = joinRt rt a b b := by
  unfold joinRt
  by_cases e : rt a = rt b
  · simp [e]
  · simp [e]
theorem joinRt_keep {rt : Str → Str} {a b u v : Str} (h : rt u = rt v) : joinRt rt a b u = joinRt rt a b v := by
  unfold joinRt
  rw [h]
theorem rt_joined {rs : List (Str × Str)} {j : Nat} (hj : j < rs.length) : ∀ i, j < i → i ≤ rs.length → rtOf (rs.take i) rs[j].1 = rtOf (rs.take i) rs[j].2
  | 0, h, _ => absurd h (Nat.not_lt_zero j)
  | i + 1, h, hi => by
    rw [rtOf_succ hi]
    by_cases e : j = i
    · subst e
      exact joinRt_one
    · exact joinRt_keep (rt_joined hj i (by omega) (by omega))
theorem Forest.ne {rs : List (Str × Str)} (f : Forest rs) {i : Nat} (hi : i < rs.length) : rs[i].1 ≠ rs[i].2 := fun e => f i hi (by rw [e])
theorem Forest.fresh {rs : List (Str × Str)} (f : Forest rs) {i : Nat} (hi : i < rs.length) : plOf (rs.take i) rs[i].1 rs[i].2 = none := by
  unfold plOf
  rw [List.findIdx?_eq_none_iff]
  intro r hr
  obtain ⟨j, hj, rfl⟩ := List.getElem_of_mem hr
  have hj2 : j < i := by rw [List.length_take] at hj; omega
  have e := rt_joined (rs := rs) (j := j) (by omega) i hj2 (by omega)
  rw [List.getElem_take]
  refine decide_eq_false fun h => ?_
  rcases h with h | h
  · rw [h] at e; exact f i hi e
  · rw [h] at e; exact f i hi e.symm
theorem plOf_swap {rs : List (Str × Str)} {a b : Str} : plOf rs a b = plOf rs b a := by
  unfold plOf
  congr 1
  funext r
  exact decide_eq_decide.mpr ⟨Or.symm, Or.symm⟩
theorem plOf_succ {rs : List (Str × Str)} {i : Nat} (hi : i < rs.length) (a b : Str) : plOf (rs.take (i + 1)) a b = match plOf (rs.take i) a b with | some j => some j | none => if rs[i] = (a, b) ∨ rs[i] = (b, a) then some i else none := by
  unfold plOf
  rw [List.take_succ, List.getElem?_eq_getElem hi, List.findIdx?_append]
  have hl : (rs.take i).length = i := by rw [List.length_take]; omega
  cases e : (rs.take i).findIdx? fun r => decide (r = (a, b) ∨ r = (b, a)) with
  | some j => simp
  | none =>
    by_cases h : rs[i] = (a, b) ∨ rs[i] = (b, a)
    · rw [if_pos h]
      simp [List.findIdx?_cons, h, hl]
    · rw [if_neg h]
      simp [List.findIdx?_cons, h]
/-- what the dict of places tells -/
def PlacesAt (rs : List (Str × Str)) (kvs : List (List Key × V)) : Prop := ∀ a b : Str, valV kvs [.inr a, .inr b] = (plOf rs a b).map fun i => V.int (i : Nat)
theorem key2 {a b x y : Str} : ([.inr a, .inr b] : List Key) = [.inr x, .inr y] ↔ a = x ∧ b = y := by
  constructor
  · intro h
    injection h with h1 h2
    injection h2 with h3 _
    exact ⟨Sum.inr.inj h1, Sum.inr.inj h3⟩
  · rintro ⟨rfl, rfl⟩
    rfl
theorem PlacesAt.step {rs : List (Str × Str)} (f : Forest rs) {i : Nat} (hi : i < rs.length) {kvs : List (List Key × V)} (h : PlacesAt (rs.take i) kvs) :
    PlacesAt (rs.take (i + 1)) (putK (putK kvs [.inr rs[i].1, .inr rs[i].2] (.int (i : Nat))) [.inr rs[i].2, .inr rs[i].1] (.int (i : Nat))) := by
  intro a b
  rw [valV_put, valV_put, plOf_succ hi, h a b]
  have fr := f.fresh hi
  by_cases e1 : a = rs[i].2 ∧ b = rs[i].1
  · obtain ⟨rfl, rfl⟩ := e1
    rw [if_pos rfl, plOf_swap, fr]
    simp
  · rw [if_neg fun z => e1 (key2.mp z)]
    by_cases e2 : a = rs[i].1 ∧ b = rs[i].2
    · obtain ⟨rfl, rfl⟩ := e2
      rw [if_pos rfl, fr]
      simp
    · rw [if_neg fun z => e2 (key2.mp z)]
      have n : ¬ (rs[i] = (a, b) ∨ rs[i] = (b, a)) := by
        rintro (h | h)
        · exact e2 ⟨by rw [h], by rw [h]⟩
        · exact e1 ⟨by rw [h], by rw [h]⟩
      rw [if_neg n]
      cases plOf (rs.take i) a b <;> rfl
def spBW2 : Sp := fun vs H Q _ => ∃ (p : Addr) (qs : List Addr) (rs : List (Str × Str)), vs = [.ref p] ∧ H p = some (.lst (qs.map V.ref)) ∧ Paired (TupP H) qs rs ∧ Forest rs ∧ rs.length ≤ 1000 ∧
  ∀ r kvs H', Same H H' → H r = none → H' r = some (.dT kvs) → PlacesAt rs kvs → kvs.length ≤ 2 * rs.length → Q (.ref r) H'
section
variable {P : Program} {w : World} {K : PySem.W.Frag} {mg : Str → Option Value} {base : Heap}
theorem ok_BW2 {f : Addr} {fd : FuncData} (F : Fun K "_both_ways" "_both_ways" sBW f fd) (me : mg "enumerate" = none) : FnOk P w K mg base CX0 1 f fd ["roads"] spBW2 := by
  refine F.ok scBW (fun vs H Q E h => ?_) (fun cdv A outer s H vs Q E hr h => ?_)
  · obtain ⟨p, qs, rs, rfl, _⟩ := h
    rfl
  obtain ⟨p, qs, rs, rfl, hp, pr, fo, hl, q⟩ := h
  have nd := scBW.nd
  have hu := hu_of hr
  refine ⟨_, pss_cons (by exact (ps_set (i := 1) nd rfl (.inl rfl) pe_dnewT))
    (pss_cons (by exact (ps_for PassesOwn.never rfl (by exact pi_enumV 0 rfl me (pv 0)) (pg_tup rfl (pgs_cons (pg_name (i := 2) nd rfl (.inl rfl)) (pgs_cons (pg_tup rfl (pgs_cons (pg_name (i := 3) nd rfl (.inl rfl)) (pgs_cons (pg_name (i := 4) nd rfl (.inl rfl)) pgs_nil))) pgs_nil)))
      (pss_cons (by exact (ps_dput hu (pv 1) (pe_tup (pa_cons (pv 3) (pa_cons (pv 4) pa_nil))) (pv 2) rfl))
      (pss_one (by exact (ps_dput hu (pv 1) (pe_tup (pa_cons (pv 4) (pa_cons (pv 3) pa_nil))) (pv 2) rfl))))))
    (pss_one (by exact (ps_ret (pv 1))))), ?_⟩
  intro L hL
  have ep : L ≠ p := fun z => by rw [z, hp] at hL; cases hL
  have lqs : qs.length = rs.length := pr.length
  refine ⟨p, _, rfl, .inl (SqL.of (by rw [upd_ne ep.symm]; exact hp)), fun J G wk hG => ?_⟩
  refine for_it wk (fun i σ Hc => (∃ a b c, σ = [some (.ref p), some (.ref L), a, b, c]) ∧ Same H Hc ∧ ∃ kvs, Hc L = some (.dT kvs) ∧ kvs.length ≤ 2 * i ∧ PlacesAt (rs.take i) kvs) ⟨⟨_, _, _, rfl⟩, K1.Same.upd hL, _, upd_same, Nat.le_refl _, fun a b => rfl⟩ (fun i σ Hc _ h => hG Hc fun o ho => ?_) ?_ ?_
  · rw [upd_ne ep.symm, hp] at ho
    rw [← Option.some.inj ho]
    exact h.2.1 _ _ hp
  · rintro i x σ Hc H' hi ⟨⟨sa, sb, sc, rfl⟩, h1, kvs, h2, h3, h4⟩ ⟨T, x1, x2, rfl, hT, rfl, e1', e2'⟩
    rw [List.length_map, lqs] at hi
    obtain rfl : x1 = .int (i : Nat) := (Option.some.inj e1').symm
    obtain ⟨t, rfl, ht⟩ := paired_ref pr hi e2'
    have hT2 := K1.Same.upd (H := Hc) (p := T) (o := .tup [.int (i : Nat), .ref t]) hT
    have e1 : Same H (upd Hc T (.tup [.int (i : Nat), .ref t])) := h1.trans hT2
    refine ⟨T, _, rfl, SqT.of upd_same, rfl, _, _, rfl, _, _, rfl, t, _, rfl, SqT.of (e1 _ _ ht), rfl, _, _, rfl, _, _, rfl, rfl, rfl, ?_⟩
    have step : ∀ (H1 : Hp) (kv : List (List Key × V)) (a b : Str), Same H H1 → H1 L = some (.dT kv) → kv.length ≤ 2 * i + 1 → ∀ (R : Hp → Prop), (∀ H2, Same H H2 → H2 L = some (.dT (putK kv [.inr a, .inr b] (.int (i : Nat)))) → R H2) →
        2 ≤ sizeLine ∧ ∀ b', H1 b' = none → ∃ a' H3, V.ref L = .ref a' ∧ DPut (upd H1 b' (.tup [.str a, .str b])) a' (.ref b') (.int (i : Nat)) H3 ∧ R H3 := by
      intro H1 kv a b f1 f2 f3 R hR
      refine ⟨by decide, fun b' hb => ⟨L, _, rfl, DPut.t (k := [.inr a, .inr b]) (by rw [upd_ne (ne_of_none f2 hb)]; exact f2) upd_same (Nat.lt_of_le_of_lt f3 (by show 2 * i + 1 < 2 ^ 24; omega)), hR _ (fun c o n => ?_) upd_same⟩⟩
      rw [upd_ne (ne_of_none n hL), upd_ne (ne_of_none (f1 _ _ n) hb)]
      exact f1 _ _ n
    refine ⟨_, rfl, _, rfl, _, rfl, _, rfl, ?_⟩
    refine step _ kvs rs[i].1 rs[i].2 e1 (hT2 _ _ h2) (by omega) _ ?_
    rintro H2 g1 g2
    refine ⟨_, rfl, _, rfl, _, rfl, _, rfl, ?_⟩
    have l1 : (putK kvs [.inr rs[i].1, .inr rs[i].2] (V.int (i : Nat))).length ≤ kvs.length + 1 := putK_le
    refine step H2 _ rs[i].2 rs[i].1 g1 g2 (by omega) _ ?_
    rintro H3 k1 k2
    exact ⟨⟨_, _, _, rfl⟩, k1, _, k2, by have := putK_le (kvs := putK kvs [.inr rs[i].1, .inr rs[i].2] (V.int (i : Nat))) (k := [.inr rs[i].2, .inr rs[i].1]) (v := V.int (i : Nat)); omega, h4.step fo hi⟩
  · rintro σ Hc ⟨⟨sa, sb, sc, rfl⟩, h1, kvs, h2, h3, h4⟩
    rw [List.length_map, lqs] at h3 h4
    rw [List.take_length] at h4
    exact ⟨_, rfl, q L kvs Hc h1 hL h2 h4 h3⟩
end
end K1
end
-- NNb
section
set_option Elab.async false
set_option linter.all false
set_option maxRecDepth 100000
set_option maxHeartbeats 4000000
namespace K1
open PySem PySem.Spec PyProof.Rows L2
/-- whether a road joins two houses -/
def nbB (rs : List (Str × Str)) (s t : Str) : Bool := rs.any fun r => decide (r = (s, t) ∨ r = (t, s))
/-- the houses beside one, in the valley's order -/
def nbs (ss : List Str) (rs : List (Str × Str)) (s : Str) : List Str := ss.filter fun t => nbB rs s t
def addNb (nb : Str → Str → Bool) (s t : Str) : Str → Str → Bool := fun a b => nb a b || (decide (a = s) && decide (b = t))
theorem nbB_succ {rs : List (Str × Str)} {i : Nat} (hi : i < rs.length) : addNb (addNb (nbB (rs.take i)) rs[i].1 rs[i].2) rs[i].2 rs[i].1 = nbB (rs.take (i + 1)) := by
  funext a b
  unfold addNb nbB
  rw [List.take_succ, List.getElem?_eq_getElem hi, List.any_append]
  simp only [Option.toList, List.any_cons, List.any_nil, Bool.or_false, Bool.or_assoc]
  congr 1
  rw [Bool.eq_iff_iff]
  simp only [Bool.or_eq_true, Bool.and_eq_true, decide_eq_true_eq]
  constructor
  · rintro (⟨rfl, rfl⟩ | ⟨rfl, rfl⟩)
    · exact .inl rfl
    · exact .inr rfl
  · rintro (h | h)
    · exact .inl ⟨by rw [h], by rw [h]⟩
    · exact .inr ⟨by rw [h], by rw [h]⟩
/-- the dicts of the neighbours: each house has its own, with these -/
def NbS (H0 Hc : Hp) (D : Addr) (hs : List Str) (n : Nat) (nb : Str → Str → Bool) : Prop := ∃ (kvs : List (Key × V)) (own : Str → Addr), Hc D = some (.dK kvs) ∧ kvs.length ≤ hs.length ∧
  (∀ s ∈ hs, valV kvs (.inr s) = some (.ref (own s)) ∧ H0 (own s) = none ∧ own s ≠ D ∧ ∃ m, Hc (own s) = some (.dK m) ∧ m.length ≤ n ∧ ∀ t : Str, (valV m (.inr t)).isSome = nb s t) ∧ ∀ s ∈ hs, ∀ t ∈ hs, own s = own t → s = t
theorem NbS.keep {H0 Hc H2 : Hp} {D : Addr} {hs : List Str} {n : Nat} {nb : Str → Str → Bool} (h : NbS H0 Hc D hs n nb) (e : Same Hc H2) : NbS H0 H2 D hs n nb := by
  obtain ⟨kvs, own, h1, h2, h3, h4⟩ := h
  refine ⟨kvs, own, e _ _ h1, h2, fun s hs => ?_, h4⟩
  obtain ⟨a1, a2, a3, m, a4, a5⟩ := h3 s hs
  exact ⟨a1, a2, a3, m, e _ _ a4, a5⟩
/-- one neighbour more -/
theorem NbS.put {H0 Hc : Hp} {D : Addr} {hs : List Str} {n : Nat} {nb : Str → Str → Bool} (h : NbS H0 Hc D hs n nb) {s t : Str} (hs' : s ∈ hs) :
    ∃ d m kvs, Hc D = some (.dK kvs) ∧ valV kvs (.inr s) = some (.ref d) ∧ H0 d = none ∧ d ≠ D ∧ Hc d = some (.dK m) ∧ m.length ≤ n ∧ NbS H0 (upd Hc d (.dK (putK m (.inr t) (.bl true)))) D hs (n + 1) (addNb nb s t) := by
  obtain ⟨kvs, own, h1, h2, h3, h4⟩ := h
  obtain ⟨a1, a2, a3, m, a4, a5, a6⟩ := h3 s hs'
  refine ⟨own s, m, kvs, h1, a1, a2, a3, a4, a5, kvs, own, by rw [upd_ne a3.symm]; exact h1, h2, fun u hu => ?_, h4⟩
  obtain ⟨b1, b2, b3, m', b4, b5, b6⟩ := h3 u hu
  refine ⟨b1, b2, b3, ?_⟩
  by_cases e : u = s
  · subst e
    refine ⟨_, upd_same, Nat.le_trans putK_le (by omega), fun v => ?_⟩
    rw [valV_put]
    unfold addNb
    by_cases ev : v = t
    · subst ev
      rw [if_pos rfl]
      simp
    · rw [if_neg fun z => ev (Sum.inr.inj z), a6 v]
      simp [ev]
  · refine ⟨m', by rw [upd_ne fun z => e (h4 _ hu _ hs' z)]; exact b4, by omega, fun v => ?_⟩
    rw [b6 v]
    unfold addNb
    simp [e]
def spNB2 : Sp := fun vs H Q _ => ∃ (p1 p2 : Addr) (ss : List Str) (qs : List Addr) (rs : List (Str × Str)), vs = [.ref p1, .ref p2] ∧ H p1 = some (.lst (ss.map V.str)) ∧ ss.length ≤ 1000 ∧ ss.Nodup ∧ H p2 = some (.lst (qs.map V.ref)) ∧ Paired (TupP H) qs rs ∧ EndsIn ss rs ∧ rs.length ≤ 1000 ∧
  ∀ r kv H', Same H H' → H r = none → H' r = some (.dK kv) → kv.length ≤ ss.length → (∀ s ∈ ss, ∃ d, valV kv (.inr s) = some (.ref d) ∧ H d = none ∧ H' d = some (.lst ((nbs ss rs s).map V.str))) → Q (.ref r) H'
section
variable {P : Program} {w : World} {K : PySem.W.Frag} {mg : Str → Option Value} {base : Heap}
theorem ok_NB2 {f : Addr} {fd : FuncData} (F : Fun K "_neighbours" "_neighbours" sNB f fd) : FnOk P w K mg base CX0 1 f fd ["houses", "roads"] spNB2 := by
  refine F.ok scNB (fun vs H Q E h => ?_) (fun cdv A outer s H vs Q E hr h => ?_)
  · obtain ⟨p1, p2, ss, qs, rs, rfl, _⟩ := h
    rfl
  obtain ⟨p1, p2, ss, qs, rs, rfl, h1, hl, hN, h2, pr, ends, hlr, q⟩ := h
  have nd := scNB.nd
  have hu := hu_of hr
  refine ⟨_, pss_cons (by exact (ps_set (i := 2) nd rfl (.inr rfl) (pe_dc (own := [("house", 5)]) (g := gName 5) (tt := tYes) rfl nd (by exact pi_seqV 0 (pv 0))
        (by exact blkOk_by (N := ["houses", "roads", "found", "one", "other", "house", "far"]) (sc := defScope sNB) (by decide +kernel)) (fun _ _ _ _ _ => by exact pg_name (i := 5) nd rfl (Or.inl rfl)) (fun _ _ _ _ _ => pts_nil) (fun _ _ _ _ _ => pv 5) (fun _ _ _ _ _ => pe_dnewK))))
    (pss_cons (by exact (ps_for PassesOwn.never rfl (by exact pi_seqV 1 (pv 1)) (pg_tup rfl (pgs_cons (pg_name (i := 3) nd rfl (.inl rfl)) (pgs_cons (pg_name (i := 4) nd rfl (.inl rfl)) pgs_nil)))
      (pss_cons (by exact (ps_dput hu (pe_dget hu (pv 2) (pv 3) (fun _ _ => rfl)) (pv 4) pe_bl rfl))
      (pss_one (by exact (ps_dput hu (pe_dget hu (pv 2) (pv 4) (fun _ _ => rfl)) (pv 3) pe_bl rfl))))))
    (pss_one (by exact (ps_ret (pe_dc (own := [("house", 5)]) (g := gName 5) (tt := tYes) (tk := tVar 5) (tv := tLc (iSeqV K 0) (gName 6) (tB (tDIn (tVar 6) (tDGet (tVar 2) (tVar 5)))) (tVar 6) [6]) rfl nd (by exact pi_seqV 0 (pv 0))
        (by exact blkOk_by (N := ["houses", "roads", "found", "one", "other", "house", "far"]) (sc := defScope sNB) (by decide +kernel)) (fun _ _ _ _ _ => by exact pg_name (i := 5) nd rfl (Or.inr rfl)) (fun _ _ _ _ _ => pts_nil) (fun _ _ _ _ _ => by exact pv 5)
        (fun _ _ _ _ _ => by
          refine pe_lc (own := [("far", 6)]) ?_ ?_ ?_ ?_ ?_ ?_ ?_ ?_
          · rfl
          · exact nd
          · exact pi_seqV 0 (pv 0)
          · exact blkOk_by (by with_unfolding_all rfl)
          · intro _ _ _ _ _
            exact pg_name (i := 6) nd rfl (Or.inl rfl)
          · intro _ _ _ _ _
            exact pts_one (pt_cmp (pc_din hu (pv 6) (pe_dget hu (pv 2) (pv 5) (fun _ _ => rfl))) (by with_unfolding_all rfl))
          · intro _ _ _ _ _
            exact pv 6
          · intro _
            rfl)))))), ?_⟩
  have lqs : qs.length = rs.length := pr.length
  -- the dict of dicts
  refine ⟨p1, _, rfl, .inl (SqL.of h1), fun J G wk hG D hD => ?_⟩
  have up : ∀ {Hx : Hp} {d : Addr} {o : HO}, H d = none → Same H Hx → Same H (upd Hx d o) := fun n e b o nn => by
    rw [upd_ne (ne_of_none nn n)]
    exact e b o nn
  have at_ : ∀ i x, (ss.map V.str)[i]? = some x → ∃ h : i < ss.length, x = .str ss[i] := fun i x e => by
    rw [List.getElem?_map] at e
    rcases Nat.lt_or_ge i ss.length with hi | hi
    · rw [List.getElem?_eq_getElem hi] at e
      exact ⟨hi, (Option.some.inj e).symm⟩
    · rw [List.getElem?_eq_none hi] at e
      cases e
  refine dc_it wk (fun i Hc => Same H Hc ∧ NbS H Hc D (ss.take i) 0 (nbB [])) ⟨K1.Same.upd hD, [], fun _ => 0, upd_same, Nat.zero_le _, fun s hs => absurd hs (by simp), fun s hs => absurd hs (by simp)⟩ (fun i Hc _ h => hG Hc fun o ho => h.1 _ _ ho) ?_ ?_
  · rintro i x Hc H' hi ⟨f1, kvs, own, f2, f3, f4, f5⟩ ⟨rfl, hx⟩
    obtain ⟨hi', rfl⟩ := at_ i x hx
    refine ⟨rfl, ?_⟩
    unfold tYes
    refine iteT ?_
    refine ⟨_, rfl, fun d hd => ?_⟩
    have dD : d ≠ D := fun z => by rw [z, f2] at hd; cases hd
    have d0 : H d = none := f1.free hd
    have nw : ∀ s ∈ ss.take i, s ≠ ss[i] := fun s hs z => nodup_take_not hN hi' (by rw [← z]; exact hs)
    have dn : ∀ s ∈ ss.take i, own s ≠ d := fun s hs z => by
      obtain ⟨_, _, _, m, a4, _⟩ := f4 s hs
      rw [z, hd] at a4
      cases a4
    refine ⟨kvs, .inr ss[i], rfl, by rw [upd_ne dD.symm]; exact f2, Nat.lt_of_le_of_lt f3 (small1000 (Nat.le_trans (List.length_take_le _ _) (by omega))), up hD (up d0 f1), putK kvs (.inr ss[i]) (.ref d), fun s => if s = ss[i] then d else own s, upd_same, ?_, fun s hs => ?_, fun s hs t ht e => ?_⟩
    · refine Nat.le_trans putK_le ?_
      rw [List.length_take] at f3 ⊢
      omega
    · rcases (mem_take_succ hi').mp hs with hs | rfl
      · obtain ⟨a1, a2, a3, m, a4, a5, a6⟩ := f4 s hs
        have ne : ¬ (Sum.inr s : Key) = .inr ss[i] := fun z => nw s hs (Sum.inr.inj z)
        simp only [if_neg (nw s hs)]
        exact ⟨by rw [valV_put, if_neg ne]; exact a1, a2, a3, m, by rw [upd_ne a3, upd_ne (dn s hs)]; exact a4, a5, a6⟩
      · simp only [if_true]
        exact ⟨by rw [valV_put, if_pos rfl], d0, dD, [], by rw [upd_ne dD, upd_same], Nat.le_refl _, fun t => rfl⟩
    · rcases (mem_take_succ hi').mp hs with hs | rfl <;> rcases (mem_take_succ hi').mp ht with ht | rfl
      · simp only [if_neg (nw s hs), if_neg (nw t ht)] at e
        exact f5 s hs t ht e
      · simp only [if_neg (nw s hs), if_true] at e
        exact absurd e (dn s hs)
      · simp only [if_neg (nw t ht), if_true] at e
        exact absurd e.symm (dn t ht)
      · rfl
  rintro H1 ⟨e1, nb⟩
  have nb : NbS H H1 D ss 0 (nbB []) := by
    rw [List.length_map, List.take_length] at nb
    exact nb
  -- the roads
  refine ⟨p2, _, rfl, .inl (SqL.of (e1 _ _ h2)), fun J G wk hG => ?_⟩
  refine for_it wk (fun i σ Hc => (∃ a b, σ = [some (.ref p1), some (.ref p2), some (.ref D), a, b, none, none]) ∧ Same H Hc ∧ NbS H Hc D ss (2 * i) (nbB (rs.take i))) ⟨⟨_, _, rfl⟩, e1, nb⟩ (fun i σ Hc _ h => hG Hc fun o ho => by
    rw [e1 _ _ h2] at ho
    rw [← Option.some.inj ho]
    exact h.2.1 _ _ h2) ?_ ?_
  · rintro i x σ Hc H' hi ⟨⟨sa, sb, rfl⟩, g1, g2⟩ ⟨rfl, hx⟩
    rw [List.length_map, lqs] at hi
    obtain ⟨t, rfl, ht⟩ := paired_ref pr hi hx
    refine ⟨t, _, rfl, SqT.of (g1 _ _ ht), rfl, _, _, rfl, _, _, rfl, rfl, ?_⟩
    have ee := ends _ (List.getElem_mem hi)
    obtain ⟨d, m, kvs, b1, a1, a2, a3, a4, a5, g3⟩ := g2.put (t := rs[i].2) ee.1
    have dg1 := DGet.k (k := .inr rs[i].1) b1
    rw [a1] at dg1
    have g4 : Same H (upd H' d (.dK (putK m (.inr rs[i].2) (.bl true)))) := up a2 g1
    refine ⟨_, rfl, _, rfl, D, _, rfl, dg1, _, rfl, d, _, rfl, DPut.k (k := .inr rs[i].2) a4 (by show m.length < 2 ^ 24; omega), ?_⟩
    obtain ⟨d', m', kvs', c1, x1, x2, x3, x4, x5, g5⟩ := g3.put (t := rs[i].1) ee.2
    have dg2 := DGet.k (k := .inr rs[i].2) c1
    rw [x1] at dg2
    refine ⟨_, rfl, _, rfl, D, _, rfl, dg2, _, rfl, d', _, rfl, DPut.k (k := .inr rs[i].1) x4 (by show m'.length < 2 ^ 24; omega), ⟨_, _, rfl⟩, up x2 g4, ?_⟩
    rw [nbB_succ hi] at g5
    exact g5
  rintro σ H2 ⟨⟨sa, sb, rfl⟩, g1, g2⟩
  have g2 : NbS H H2 D ss (2 * rs.length) (nbB rs) := by
    rw [List.length_map, lqs, List.take_length] at g2
    exact g2
  -- the dict of lists
  obtain ⟨kvs, own, b1, b2, b3, _⟩ := id g2
  refine ⟨p1, _, rfl, .inl (SqL.of (g1 _ _ h1)), fun J G wk hG D2 hD2 => ?_⟩
  have hD20 : H D2 = none := g1.free hD2
  refine dc_it wk (fun i Hc => Same H2 Hc ∧ ∃ kv, Hc D2 = some (.dK kv) ∧ kv.length ≤ i ∧ ∀ s ∈ ss.take i, ∃ d, valV kv (.inr s) = some (.ref d) ∧ H2 d = none ∧ d ≠ D2 ∧ Hc d = some (.lst ((nbs ss rs s).map V.str))) ⟨K1.Same.upd hD2, [], upd_same, Nat.zero_le _, fun s hs => absurd hs (by simp)⟩ (fun i Hc _ h => hG Hc fun o ho => h.1 _ _ ho) ?_ ?_
  · rintro i x Hc H' hi ⟨f1, kv, f2, f3, f4⟩ ⟨rfl, hx⟩
    obtain ⟨hi', rfl⟩ := at_ i x hx
    refine ⟨rfl, ?_⟩
    unfold tYes
    refine iteT ?_
    refine ⟨_, rfl, ?_⟩
    refine ⟨p1, _, rfl, .inl (SqL.of (f1 _ _ (g1 _ _ h1))), fun J2 G2 wk2 hG2 L hL => ?_⟩
    refine lc_it wk2 (fun j Hd => Same H' Hd ∧ Hd L = some (.lst ((((ss.take j).filter fun t => nbB rs ss[i] t)).map V.str))) ⟨K1.Same.upd hL, upd_same⟩ (fun j Hd _ h => hG2 Hd fun o ho => h.1 _ _ ho) ?_ ?_
    · rintro j y Hd H'' hj ⟨k1, k2⟩ ⟨rfl, hy⟩
      rw [List.length_map] at hj
      obtain ⟨hj', rfl⟩ := at_ j y hy
      refine ⟨rfl, ?_⟩
      obtain ⟨a1, a2, a3, m, a4, a5, a6⟩ := b3 ss[i] (List.getElem_mem hi')
      have dg := DGet.k (k := .inr ss[i]) (k1 _ _ (f1 _ _ b1))
      rw [a1] at dg
      refine ⟨_, rfl, _, rfl, _, rfl, D, _, rfl, dg, own ss[i], _, rfl, DGet.k (k := .inr ss[j]) (k1 _ _ (f1 _ _ a4)), _, rfl, ?_⟩
      have tk : (ss.take (j + 1)).filter (fun t => nbB rs ss[i] t) = (ss.take j).filter (fun t => nbB rs ss[i] t) ++ if nbB rs ss[i] ss[j] = true then [ss[j]] else [] := by
        rw [List.take_succ, List.getElem?_eq_getElem hj', List.filter_append]
        congr 1
        by_cases c : nbB rs ss[i] ss[j] = true
        · simp [c]
        · simp [c]
      have ll : ((ss.take j).filter fun t => nbB rs ss[i] t).length ≤ 1000 := Nat.le_trans (List.length_filter_le _ _) (Nat.le_trans (List.length_take_le _ _) (by omega))
      refine ite2 (fun c => ?_) (fun c => ?_)
      · rw [a6] at c
        refine ⟨_, rfl, _, k2, by rw [List.length_map]; show _ < 2 ^ 24; omega, fun b o n => ?_, ?_⟩
        · rw [upd_ne (ne_of_none n hL)]
          exact k1 b o n
        · rw [upd_same, tk, if_pos c, List.map_append]
          rfl
      · rw [a6] at c
        exact ⟨k1, by rw [tk, if_neg c, List.append_nil]; exact k2⟩
    · rintro Hd ⟨k1, k2⟩
      rw [List.length_map, List.take_length] at k2
      have LD : L ≠ D2 := fun z => by rw [z, f2] at hL; cases hL
      have hL2 : H2 L = none := f1.free hL
      refine ⟨kv, .inr ss[i], rfl, k1 _ _ f2, by show kv.length < 2 ^ 24; rw [List.length_map] at hi; omega, fun b o n => ?_, _, upd_same, Nat.le_trans putK_le (by omega), fun s hs => ?_⟩
      · rw [upd_ne (ne_of_none n hD2)]
        exact k1 b o (f1 b o n)
      · rcases (mem_take_succ hi').mp hs with hs | rfl
        · obtain ⟨d, c1, c2, c3, c4⟩ := f4 s hs
          have ne : ¬ (Sum.inr s : Key) = .inr ss[i] := fun z => nodup_take_not hN hi' (by rw [← Sum.inr.inj z]; exact hs)
          exact ⟨d, by rw [valV_put, if_neg ne]; exact c1, c2, c3, by rw [upd_ne c3]; exact k1 _ _ c4⟩
        · exact ⟨L, by rw [valV_put, if_pos rfl], hL2, LD, by rw [upd_ne LD]; exact k2⟩
  · rintro Hc ⟨f1, kv, f2, f3, f4⟩
    rw [List.length_map] at f3 f4
    rw [List.take_length] at f4
    refine q D2 kv Hc (g1.trans f1) hD20 f2 f3 fun s hs => ?_
    obtain ⟨d, c1, c2, _, c4⟩ := f4 s hs
    exact ⟨d, c1, g1.free c2, c4⟩
end
end K1
end
-- KHeads
section
set_option Elab.async false
set_option linter.all false
set_option maxRecDepth 100000
set_option maxHeartbeats 4000000
namespace K1
open PySem PySem.Spec PyProof.Rows L2
abbrev sND : Stmt := top 26
/-- no head -/
def BadHead (K : PySem.W.Frag) (H : Hp) (x : V) : Prop := (∃ t, TyX K H x (.type t) ∧ t ∈ kinds ∧ t ≠ "int") ∨ ∃ i, x = .int i ∧ i < 1
theorem BadHead.ext {K : PySem.W.Frag} {H H' : Hp} {x : V} (h : BadHead K H x) (e : Same H H') : BadHead K H' x := h.imp (fun ⟨t, a, b⟩ => ⟨t, TyX.ext a e, b⟩) id
def spND (K : PySem.W.Frag) (C : Addr) : Sp := fun vs H Q E => ∃ u v hs, vs = [u, v] ∧ SeqV H u hs ∧
  ((NoSeq K H v ∧ Goes C 0 H E) ∨
   (∃ ns : List Int, SeqV H v (ns.map V.int) ∧ (∀ n ∈ ns, 1 ≤ n) ∧ ns.length = hs.length ∧ ∀ H', Same H H' → Q .non H') ∨
   (∃ ns : List Int, SeqV H v (ns.map V.int) ∧ (∀ n ∈ ns, 1 ≤ n) ∧ ns.length < hs.length ∧ Goes C (ns.length : Nat) H E) ∨
   (∃ (ns : List Int) (x : V) (rest : List V), SeqV H v (ns.map V.int ++ x :: rest) ∧ (∀ n ∈ ns, 1 ≤ n) ∧ ns.length ≤ hs.length ∧ (ns.length = hs.length ∨ BadHead K H x) ∧ Goes C (ns.length : Nat) H E))
theorem scND : FnScope ["houses", "heads", "index", "many"] ["houses", "heads"] (defScope sND) := ⟨rfl, rfl, rfl, by decide +kernel, rfl, by decide +kernel, by decide +kernel⟩
section
variable {P : Program} {w : World} {K : PySem.W.Frag} {mg : Str → Option Value} {base : Heap} {CF : Addr}
theorem ok_ND {f g fN fI fE C : Addr} {fd gd nd id' ed : FuncData} (F : Fun K "_need_heads" "_need_heads" sND f fd) (B : Bl mg) (me : mg "enumerate" = none)
    (FI : Fun K "is_list" "is_list" sIsList g gd) (b : Binds K gd ["thing"] []) (m : mg "is_list" = some (.ref g))
    (FN : Fun K "is_from_one" "is_from_one" sFromOne fN nd) (bN : Binds K nd ["thing"] []) (mN : mg "is_from_one" = some (.ref fN))
    (FJ : Fun K "is_integer" "is_integer" sIsInt fI id') (bJ : Binds K id' ["thing"] []) (mJ : mg "is_integer" = some (.ref fI))
    (T : FeC K mg CF) (TC : ErC K mg "BadHeads" C fE) (FE : Fun K "__init__" "BadHeads.__init__" sID fE ed) (bE : Binds K ed ["self", "index"] []) :
    FnOk P w K mg base (L2.CX P w) 4 f fd ["houses", "heads"] (spND K C) := by
  have G := ok_isList (P := P) (w := w) (base := base) FI B
  have GN := ok_fromOne (P := P) (w := w) (base := base) FN FJ bJ mJ B
  have GE := ok_iD (P := P) (w := w) (base := base) FE T TC
  refine F.okX scND (fun vs H Q E h => ?_) (fun cdv A outer s H vs Q E hr h => ?_)
  · obtain ⟨u, v, hs, rfl, _⟩ := h
    rfl
  obtain ⟨u, v, hs, rfl, su, h⟩ := h
  have nd := scND.nd
  have hr1 : Room 1 _ := hr.mono (by decide)
  have hr2 : Room 2 _ := hr.mono (by decide)
  refine ⟨_, pss_cons (by exact (ps_if (pt_not (pt_val (pe_call G hr1 rfl m FI.kp b .nil pass0 (pa_cons (pv 1) pa_nil))))
      (pss_one (by exact (ps_raise rfl (takes_of rfl rfl rfl rfl) (pmk_oex TC.ox TC.ini TC.ty GE hr2 bE .nil pass0 rfl TC.m (pa_cons pe_int pa_nil))))) pss_nil))
    (pss_cons (by exact (ps_for (passes_of rfl) rfl (by exact pi_enumV 1 rfl me (pv 1)) (pg_tup rfl (pgs_cons (pg_name (i := 2) nd rfl (.inl rfl)) (pgs_cons (pg_name (i := 3) nd rfl (.inl rfl)) pgs_nil)))
      (pss_one (by exact (ps_if (PW.pt (pw_or (pt_cmpR op_ge (pv 2) (pe_callB call_len_seq rfl B.len PySem.boot_len (pa_cons (pv 0) pa_nil)) (nomark _)) (pw_or1 (pt_not (pt_val (pe_call GN hr2 rfl mN FN.kp bN .nil pass0 (pa_cons (pv 3) pa_nil)))))))
          (pss_one (by exact (ps_raise rfl (takes_of rfl rfl rfl rfl) (pmk_oex TC.ox TC.ini TC.ty GE hr2 bE .nil pass0 rfl TC.m (pa_cons (pv 2) pa_nil))))) pss_nil)))))
    (pss_one (by exact (ps_if (pt_cmpR op_lt (pe_callB call_len_seq rfl B.len PySem.boot_len (pa_cons (pv 1) pa_nil)) (pe_callB call_len_seq rfl B.len PySem.boot_len (pa_cons (pv 0) pa_nil)) (nomark _))
          (pss_one (by exact (ps_raise rfl (takes_of rfl rfl rfl rfl) (pmk_oex TC.ox TC.ini TC.ty GE hr2 bE .nil pass0 rfl TC.m (pa_cons (pe_callB call_len_seq rfl B.len PySem.boot_len (pa_cons (pv 1) pa_nil)) pa_nil))))) pss_nil)))), ?_⟩
  rcases h with ⟨⟨t, ty, kt, nt⟩, g⟩ | h
  · refine ⟨_, rfl, v, t, rfl, ty, kt, fun H' e => ⟨_, rfl, ?_⟩⟩
    rw [nt]
    exact iteT ⟨(by show 1 ≤ 1000; decide), raise_idx g e⟩
  obtain ⟨ns, xs, sv, good, hle, rest⟩ : ∃ (ns : List Int) (xs : List V), SeqV H v xs ∧ (∀ n ∈ ns, 1 ≤ n) ∧ ns.length ≤ hs.length ∧
      ((xs = ns.map V.int ∧ ns.length = hs.length ∧ ∀ H', Same H H' → Q .non H') ∨ (xs = ns.map V.int ∧ ns.length < hs.length ∧ Goes C (ns.length : Nat) H E) ∨
        (∃ x r, xs = ns.map V.int ++ x :: r ∧ (ns.length = hs.length ∨ BadHead K H x) ∧ Goes C (ns.length : Nat) H E)) := by
    rcases h with ⟨ns, sv, a, b, q⟩ | ⟨ns, sv, a, b, q⟩ | ⟨ns, x, r, sv, a, b, c, q⟩
    · exact ⟨ns, _, sv, a, Nat.le_of_eq b, .inl ⟨rfl, b, q⟩⟩
    · exact ⟨ns, _, sv, a, Nat.le_of_lt b, .inr (.inl ⟨rfl, b, q⟩)⟩
    · exact ⟨ns, _, sv, a, b, .inr (.inr ⟨x, r, rfl, c, q⟩)⟩
  obtain ⟨t, ty, kt, st⟩ := sv.ty (K := K)
  refine ⟨_, rfl, v, t, rfl, ty, kt, fun H1 e1 => ⟨_, rfl, ?_⟩⟩
  rw [st]
  refine iteF ?_
  obtain ⟨p, rfl, hp⟩ := sv.ext e1
  have sq : SqA K H1 p xs := hp.imp (fun h => SqL.of h) (fun h => SqT.of h)
  obtain ⟨p2, rfl, sq2⟩ := (su.ext e1).sq (K := K)
  have sq2' : SqA K H1 p2 hs := sq2
  have xat : ∀ i (hi : i < ns.length), xs[i]? = some (.int ns[i]) := fun i hi => by
    rcases rest with ⟨rfl, _⟩ | ⟨rfl, _⟩ | ⟨x, r, rfl, _⟩
    · rw [List.getElem?_map, List.getElem?_eq_getElem hi]; rfl
    · rw [List.getElem?_map, List.getElem?_eq_getElem hi]; rfl
    · rw [List.getElem?_append_left (by rw [List.length_map]; exact hi), List.getElem?_map, List.getElem?_eq_getElem hi]; rfl
  refine ⟨p, xs, rfl, sq, fun J G wk hG => ?_⟩
  refine for_it wk (fun i σ Hc => i ≤ ns.length ∧ (∃ a b, σ = [some (.ref p2), some (.ref p), a, b]) ∧ Same H1 Hc) ⟨Nat.zero_le _, ⟨_, _, rfl⟩, Same.refl _⟩ (fun i σ Hc hi h => hG Hc fun o ho => h.2.2 _ _ ho) ?_ ?_
  · rintro i x σ Hc H' hi ⟨h1, ⟨sa, sb, rfl⟩, h3⟩ ⟨T, x1, x2, rfl, hT, rfl, e1', e2'⟩
    obtain rfl : x1 = .int (i : Nat) := (Option.some.inj e1').symm
    have e2' : xs[i]? = some x2 := e2'
    have eT : Same H1 (upd Hc T (.tup [.int (i : Nat), x2])) := h3.trans (K1.Same.upd hT)
    refine ⟨T, _, rfl, SqT.of upd_same, rfl, _, _, rfl, _, _, rfl, rfl, ?_⟩
    refine ⟨_, rfl, _, rfl, p2, hs, rfl, SqA.same sq2' eT, _, _, rfl, rfl, _, rfl, ?_⟩
    by_cases hlt : i < ns.length
    · have ex2 : x2 = .int ns[i] := by
        have q := xat i hlt
        rw [q] at e2'
        exact (Option.some.inj e2').symm
      subst ex2
      rw [decide_eq_false (show ¬ ((hs.length : Nat) : Int) ≤ ((i : Nat) : Int) by omega)]
      refine iteF ⟨_, rfl, .int ns[i], rfl, .inl ⟨ns[i], rfl, _, rfl, ?_⟩⟩
      rw [decide_eq_true (good _ (List.getElem_mem hlt))]
      exact iteF ⟨hlt, ⟨_, _, rfl⟩, eT⟩
    · obtain ⟨x, r, hxs, bad, g⟩ : ∃ x r, xs = ns.map V.int ++ x :: r ∧ (ns.length = hs.length ∨ BadHead K H x) ∧ Goes C (ns.length : Nat) H E := by
        rcases rest with ⟨rfl, _⟩ | ⟨rfl, _⟩ | q
        · rw [List.length_map] at hi
          exact absurd hi hlt
        · rw [List.length_map] at hi
          exact absurd hi hlt
        · exact q
      have ei : i = ns.length := by omega
      subst ei
      have ex2 : x2 = x := by
        rw [hxs, List.getElem?_append_right (by rw [List.length_map]; exact Nat.le_refl _), List.length_map, Nat.sub_self] at e2'
        exact (Option.some.inj e2').symm
      subst ex2
      by_cases hh : ns.length = hs.length
      · rw [decide_eq_true (show ((hs.length : Nat) : Int) ≤ ((ns.length : Nat) : Int) by omega)]
        exact iteT (iteT ⟨_, rfl, (by show 1 ≤ 1000; decide), raise_idx g (e1.trans eT)⟩)
      · rw [decide_eq_false (show ¬ ((hs.length : Nat) : Int) ≤ ((ns.length : Nat) : Int) by omega)]
        rcases bad with q | bad
        · exact absurd q hh
        rcases bad.ext (e1.trans eT) with ⟨t, ty, kt, nt⟩ | ⟨j, rfl, hj⟩
        · exact iteF ⟨_, rfl, x2, rfl, .inr ⟨t, ty, kt, nt, _, rfl, iteT ⟨_, rfl, (by show 1 ≤ 1000; decide), raise_idx g (e1.trans eT)⟩⟩⟩
        · refine iteF ⟨_, rfl, .int j, rfl, .inl ⟨j, rfl, _, rfl, ?_⟩⟩
          rw [decide_eq_false (by omega)]
          exact iteT ⟨_, rfl, (by show 1 ≤ 1000; decide), raise_idx g (e1.trans eT)⟩
  · rintro σ Hc ⟨h1, ⟨sa, sb, rfl⟩, h3⟩
    have f1 := SqA.same sq h3
    have f2 := SqA.same sq2' h3
    refine ⟨_, rfl, p, xs, rfl, f1, _, rfl, p2, hs, rfl, f2, _, _, rfl, rfl, _, rfl, ?_⟩
    rcases rest with ⟨rfl, hl, q⟩ | ⟨rfl, hl, g⟩ | ⟨x, r, rfl, _⟩
    · rw [List.length_map, hl, decide_eq_false (by omega)]
      exact iteF (q Hc (e1.trans h3))
    · rw [List.length_map, decide_eq_true (by omega)]
      refine iteT ⟨_, rfl, p, _, rfl, f1, (by show 1 ≤ 1000; decide), ?_⟩
      rw [List.length_map]
      exact raise_idx g (e1.trans h3)
    · rw [List.length_append, List.length_map, List.length_cons] at h1
      omega
end
end K1
end
-- KDraw
section
set_option Elab.async false
set_option linter.all false
set_option maxRecDepth 100000
set_option maxHeartbeats 4000000
namespace K1
open PySem PySem.Spec PyProof.Rows L2
/-- the spring at a, with at most n draws by mixed numbers -/
def Spr (H : Hp) (a : Addr) (n : Nat) : Prop := ∃ x y z : Int, H a = some (.lst [.int x, .int y, .int z]) ∧ 0 ≤ x ∧ 0 ≤ y ∧ y < 2147483647 ∧ 0 ≤ z ∧ z ≤ (n : Int)
/-- all but what stands at a is as it was -/
def Kept (a : Addr) (H H' : Hp) : Prop := ∀ b o, b ≠ a → H b = some o → H' b = some o
theorem Kept.refl {a : Addr} {H : Hp} : Kept a H H := fun _ _ _ h => h
theorem Kept.trans {a : Addr} {H H1 H2 : Hp} (p : Kept a H H1) (q : Kept a H1 H2) : Kept a H H2 := fun b o n h => q b o n (p b o n h)
theorem Kept.upd {a : Addr} {H : Hp} {o : HO} : Kept a H (L2.upd H a o) := fun b u n h => by rw [upd_ne n]; exact h
theorem Kept.new {a p : Addr} {H : Hp} {o : HO} (h : H p = none) : Kept a H (L2.upd H p o) := fun b u n e => by rw [upd_ne (ne_of_none e h)]; exact e
theorem Kept.same {a : Addr} {H H1 : Hp} (e : Same H H1) : Kept a H H1 := fun b o _ h => e b o h
def spDraw : Sp := fun vs H Q _ => ∃ (a : Addr) (many : Int) (n : Nat), vs = [.ref a, .int many] ∧ Spr H a n ∧ n ≤ 1000000 ∧ 0 < many ∧ many.natAbs < 2 ^ 100 ∧
  ∀ (d : Int) (H' : Hp), 0 ≤ d → d < many → Kept a H H' → Spr H' a (n + 1) → Q (.int d) H'
theorem scDraw : FnScope ["spring", "many", "digit", "mixed"] ["spring", "many"] (defScope sDraw) := ⟨rfl, rfl, rfl, by decide +kernel, rfl, by decide +kernel, by decide +kernel⟩
section
variable {P : Program} {w : World} {K : PySem.W.Frag} {mg : Str → Option Value} {base : Heap}
theorem ok_draw {f : Addr} {fd : FuncData} (F : Fun K "_law_draw" "_law_draw" sDraw f fd) (mI : mg "int" = none) : FnOk P w K mg base CX0 1 f fd ["spring", "many"] spDraw := by
  refine F.ok scDraw (fun vs H Q E h => ?_) (fun cdv A outer s H vs Q E hr h => ?_)
  · obtain ⟨a, many, n, rfl, _⟩ := h
    rfl
  obtain ⟨a, many, n, rfl, ⟨x, y, z, ha, hx, hy, hy2, hz, hz2⟩, hn, hm, hm2, q⟩ := h
  have nd := scDraw.nd
  refine ⟨_, pss_cons (ps_if (pt_cmpR op_gt (pe_ix ix_list (pv 0) pe_int (fun _ _ => rfl)) pe_int (nomark _))
      (pss_cons (ps_set (i := 2) nd rfl (.inl rfl) (pe_op op_mod (pe_callTy call_int1 rfl mI PyProof.Rows.boot_int (pa_cons (pe_ix ix_list (pv 0) pe_int (fun _ _ => rfl)) pa_nil)) (pv 1)))
      (pss_cons (ps_asg (by exact pe_op op_fdivW (pe_ix ix_list (pv 0) pe_int (fun _ _ => rfl)) (pv 1)) (by exact pg_sub (pv 0) pe_int set_list))
      (pss_one (ps_ret (pv 2))))) pss_nil)
    (pss_cons (by exact ps_asg (by exact pe_op op_add (pe_ix ix_list (pv 0) pe_int (fun _ _ => rfl)) pe_int) (by exact pg_sub (pv 0) pe_int set_list))
    (pss_cons (by exact ps_set (i := 3) nd rfl (.inl rfl) (pe_op op_mod (pe_op op_pow (pe_callTy call_int1 rfl mI PyProof.Rows.boot_int (pa_cons
        (pe_op op_add (pe_op op_add (pe_ix ix_list (pv 0) pe_int (fun _ _ => rfl)) (pe_op op_mul pe_int (pe_ix ix_list (pv 0) pe_int (fun _ _ => rfl)))) pe_int) pa_nil)) pe_int) pe_int))
    (pss_one (by exact ps_ret (pe_op op_mod (pe_op op_fdiv (pe_op op_mod (pe_op op_pow (pe_callTy call_int1 rfl mI PyProof.Rows.boot_int (pa_cons
        (pe_op op_add (pe_op op_mul (pv 3) pe_int) (pe_op op_mul pe_int (pe_ix ix_list (pv 0) pe_int (fun _ _ => rfl)))) pa_nil)) pe_int) pe_int) pe_int) (pv 1)))))), ?_⟩
  have at0 : atI ([.int x, .int y, .int z] : List V) 0 = some (.int x) := rfl
  have at1 : atI ([.int x, .int y, .int z] : List V) 1 = some (.int y) := rfl
  have at2 : atI ([.int x, .int y, .int z] : List V) 2 = some (.int z) := rfl
  refine ⟨_, rfl, a, _, _, _, rfl, rfl, SqL.of ha, at0, _, _, rfl, rfl, _, rfl, ?_⟩
  refine ite2 (fun c => ?_) (fun c => ?_)
  · have c' : x > 0 := of_decide_eq_true c
    refine ⟨_, rfl, a, _, _, _, rfl, rfl, SqL.of ha, at0, .inl ⟨_, rfl, _, rfl, _, _, rfl, rfl, hm, ?_⟩⟩
    refine ⟨_, rfl, a, _, _, _, rfl, rfl, SqL.of ha, at0, _, rfl, _, _, rfl, rfl, wide_div hm hm2 (by decide) (by decide), _, rfl, a, _, _, _, rfl, rfl, ha, rfl, ?_⟩
    refine ⟨_, rfl, q _ _ (Int.emod_nonneg _ (by omega)) (Int.emod_lt_of_pos _ hm) Kept.upd ?_⟩
    exact ⟨x / many, y, z, upd_same, Int.ediv_nonneg hx (by omega), hy, hy2, hz, by omega⟩
  · have ha1 : upd H a (.lst [.int x, .int y, .int (z + 1)]) a = some (.lst [.int x, .int y, .int (z + 1)]) := upd_same
    have e0 : atI ([.int x, .int y, .int (z + 1)] : List V) 1 = some (.int y) := rfl
    have e2 : atI ([.int x, .int y, .int (z + 1)] : List V) 2 = some (.int (z + 1)) := rfl
    refine ⟨_, rfl, a, _, _, _, rfl, rfl, SqL.of ha, at2, _, _, rfl, rfl, _, rfl, a, _, _, _, rfl, rfl, ha, rfl, ?_⟩
    refine ⟨_, rfl, a, _, _, _, rfl, rfl, SqL.of ha1, e0, _, rfl, a, _, _, _, rfl, rfl, SqL.of ha1, e2, _, _, rfl, rfl, .inl (by constructor <;> decide), _, _, rfl, rfl, _, _, rfl, rfl,
      .inl ⟨_, rfl, _, _, rfl, rfl, ⟨by decide, by decide, ?_⟩, _, _, rfl, rfl, (by show (0 : Int) < 2147483647; decide), ?_⟩⟩
    · omega
    refine ⟨_, rfl, _, _, rfl, rfl, .inr (by constructor <;> decide), _, rfl, a, _, _, _, rfl, rfl, SqL.of ha1, e2, _, _, rfl, rfl, .inl (by constructor <;> decide), _, _, rfl, rfl,
      .inl ⟨_, rfl, _, _, rfl, rfl, ⟨by decide, by decide, ?_⟩, _, _, rfl, rfl, (by show (0 : Int) < 2147483629; decide), _, _, rfl, rfl, (by constructor <;> decide), _, rfl, _, _, rfl, rfl, hm, ?_⟩⟩
    · generalize hg : (y + 6364137 * (z + 1) + 1442695) ^ ((3 : Int).toNat) = g
      have g1 := Int.emod_nonneg g (show (2147483647 : Int) ≠ 0 by decide)
      have g2 := Int.emod_lt_of_pos g (show (0 : Int) < 2147483647 by decide)
      omega
    · exact q _ _ (Int.emod_nonneg _ (by omega)) (Int.emod_lt_of_pos _ hm) Kept.upd ⟨x, y, z + 1, upd_same, hx, hy, hy2, by omega, by omega⟩
end
end K1
end
-- KDraw2
section
set_option Elab.async false
set_option linter.all false
set_option maxRecDepth 100000
set_option maxHeartbeats 4000000
namespace K1
open PySem PySem.Spec PyProof.Rows L2
def spPick : Sp := fun vs H Q _ => ∃ (a p : Addr) (xs : List V) (n : Nat), vs = [.ref a, .ref p] ∧ Spr H a n ∧ n ≤ 1000000 ∧ H p = some (.lst xs) ∧ p ≠ a ∧ xs ≠ [] ∧ xs.length ≤ 1000 ∧
  ∀ (x : V) (H' : Hp), x ∈ xs → Kept a H H' → Spr H' a (n + 1) → Q x H'
def spMixed : Sp := fun vs H Q _ => ∃ (a p : Addr) (xs : List V) (n : Nat), vs = [.ref a, .ref p] ∧ Spr H a n ∧ n + 1000 ≤ 1000000 ∧ H p = some (.lst xs) ∧ p ≠ a ∧ xs.length ≤ 1000 ∧
  ∀ (r : Addr) (ys : List V) (H' : Hp), ys.Perm xs → H r = none → r ≠ a → H' r = some (.lst ys) → Kept a H H' → Spr H' a (n + xs.length) → Q (.ref r) H'
theorem scPick : FnScope ["spring", "some"] ["spring", "some"] (defScope sPick) := ⟨rfl, rfl, rfl, by decide +kernel, rfl, by decide +kernel, by decide +kernel⟩
theorem scMixed : FnScope ["spring", "some", "left", "k"] ["spring", "some"] (defScope sMixed) := ⟨rfl, rfl, rfl, by decide +kernel, rfl, by decide +kernel, by decide +kernel⟩
theorem Spr.kept {H : Hp} {a : Addr} {n : Nat} (h : Spr H a n) : H a ≠ none := by
  obtain ⟨x, y, z, e, _⟩ := h
  rw [e]
  exact Option.some_ne_none _
theorem Spr.upd {H : Hp} {a p : Addr} {n : Nat} {o : HO} (h : Spr H a n) (hp : p ≠ a) : Spr (L2.upd H p o) a n := by
  obtain ⟨x, y, z, e, q⟩ := h
  exact ⟨x, y, z, by rw [upd_ne hp.symm]; exact e, q⟩
theorem Spr.ne {H : Hp} {a p : Addr} {n : Nat} (h : Spr H a n) (hp : H p = none) : p ≠ a := fun e => by
  rw [e] at hp
  exact h.kept hp
theorem Spr.mono {H : Hp} {a : Addr} {n m : Nat} (h : Spr H a n) (l : n ≤ m) : Spr H a m := by
  obtain ⟨x, y, z, e, h1, h2, h3, h4, h5⟩ := h
  exact ⟨x, y, z, e, h1, h2, h3, h4, by omega⟩
theorem at_mem {xs : List V} {d : Int} (h0 : 0 ≤ d) (h1 : d < (xs.length : Int)) : ∃ x, atI xs d = some x ∧ x ∈ xs ∧ xs[d.toNat]? = some x := by
  have hk : d.toNat < xs.length := by omega
  have ek : d = ((d.toNat : Nat) : Int) := by omega
  refine ⟨xs[d.toNat], ?_, List.getElem_mem _, List.getElem?_eq_getElem hk⟩
  have q := atI_nat (xs := xs) (j := d.toNat) (v := xs[d.toNat]) (List.getElem?_eq_getElem hk)
  rwa [← ek] at q
section
variable {P : Program} {w : World} {K : PySem.W.Frag} {mg : Str → Option Value} {base : Heap} {fD : Addr} {fdD : FuncData}
theorem ok_pick {f : Addr} {fd : FuncData} (F : Fun K "_law_pick" "_law_pick" sPick f fd) (G : FnOk P w K mg base CX0 1 fD fdD ["spring", "many"] spDraw) (b : Binds K fdD ["spring", "many"] []) (k : PySem.W.keepIn K (.ref fD) = true) (m : mg "_law_draw" = some (.ref fD)) (ml : mg "len" = none) :
    FnOk P w K mg base CX0 2 f fd ["spring", "some"] spPick := by
  refine F.ok scPick (fun vs H Q E h => ?_) (fun cdv A outer s H vs Q E hr h => ?_)
  · obtain ⟨a, p, xs, n, rfl, _⟩ := h
    rfl
  obtain ⟨a, p, xs, n, rfl, hs, hn, hp, hpa, hne, hlen, q⟩ := h
  refine ⟨_, pss_one (by exact ps_ret (pe_ix ix_list (pv 1) (pe_call G hr rfl m k b .nil pass0 (pa_cons (pv 0) (pa_cons (pe_callB call_len_seq rfl ml PySem.boot_len (pa_cons (pv 1) pa_nil)) pa_nil))) (fun _ _ => rfl))), ?_⟩
  have hpos : 0 < xs.length := List.length_pos_iff.mpr hne
  refine ⟨_, rfl, _, rfl, _, rfl, p, _, rfl, .inl (SqL.of hp), a, _, n, rfl, hs, hn, by omega, ?_, fun d H' h0 h1 kp s' => ?_⟩
  · show ((xs.length : Nat) : Int).natAbs < 2 ^ 100
    rw [Int.natAbs_natCast]
    exact Nat.lt_of_le_of_lt hlen (by decide)
  obtain ⟨x, e1, e2, _⟩ := at_mem h0 h1
  exact ⟨p, xs, d, x, rfl, rfl, SqL.of (kp p _ hpa hp), e1, q x H' e2 kp s'⟩
theorem perm_pop {acc ls xs : List V} {i : Nat} {x : V} (h : (acc ++ ls).Perm xs) (e : ls[i]? = some x) : (acc ++ [x] ++ ls.eraseIdx i).Perm xs := by
  refine List.Perm.trans ?_ h
  rw [List.append_assoc]
  refine List.Perm.append_left acc ?_
  obtain ⟨hi, rfl⟩ := List.getElem?_eq_some_iff.mp e
  have e : ls = ls.take i ++ ls[i] :: ls.drop (i + 1) := by
    rw [← List.drop_eq_getElem_cons hi, List.take_append_drop]
  rw [List.eraseIdx_eq_take_drop_succ]
  conv => rhs; rw [e]
  exact (List.perm_middle (l₁ := ls.take i) (a := ls[i]) (l₂ := ls.drop (i + 1))).symm
def rLen (K : PySem.W.Frag) : List V → Hp → VK → Prop := fun xs H Q => ∃ p ys, xs = [.ref p] ∧ (SqL K H p ys ∨ SqT K H p ys) ∧ Q (.int (ys.length : Int)) H
theorem call_len' {X : Cx} : CallR X (.builtin "len") (rLen X.K) := call_len_seq
theorem ok_mixed {f : Addr} {fd : FuncData} (F : Fun K "_law_mixed" "_law_mixed" sMixed f fd) (G : FnOk P w K mg base CX0 1 fD fdD ["spring", "many"] spDraw) (b : Binds K fdD ["spring", "many"] []) (k : PySem.W.keepIn K (.ref fD) = true) (m : mg "_law_draw" = some (.ref fD)) (ml : mg "len" = none) (mL : mg "list" = none) (mr : mg "range" = none) :
    FnOk P w K mg base CX0 2 f fd ["spring", "some"] spMixed := by
  refine F.ok scMixed (fun vs H Q E h => ?_) (fun cdv A outer s H vs Q E hr h => ?_)
  · obtain ⟨a, p, xs, n, rfl, _⟩ := h
    rfl
  obtain ⟨a, p, xs, n, rfl, hs, hn, hp, hpa, hlen, q⟩ := h
  have nd := scMixed.nd
  refine ⟨_, pss_cons (by exact ps_set (i := 2) nd rfl (Or.inr rfl) (pe_callTy call_list_of rfl mL PyProof.Rows.boot_list (pa_cons (pv 1) pa_nil)))
    (pss_one (by exact ps_ret (pe_lc (own := [("k", 3)]) (g := gName 3) (tt := tYes) (te := tBM K "list" rPopAt (tVar 2) (tCons (tCall spDraw [] E0 (tCons (tVar 0) (tCons (tCB (rLen K) (tCons (tVar 2) tNil)) tNil))) tNil)) rfl nd (by exact pi_range1 rfl mr (pa_cons (pe_callB call_len_seq rfl ml PySem.boot_len (pa_cons (pv 2) pa_nil)) pa_nil))
      (by exact blkOk_by (N := ["spring", "some", "left", "k"]) (sc := defScope sMixed) (by decide +kernel)) (fun _ _ _ _ _ => by exact pg_name (i := 3) nd rfl (Or.inl rfl)) (fun _ _ _ _ _ => pts_nil)
      (fun _ _ _ _ _ => by exact pe_bm PySem.F.plainAttrs_list PySem.F.slot_list_pop PySem.F.type_list_pop mt_popAt (pv 2) (by exact pa_cons (pe_call G hr rfl m k b .nil pass0 (pa_cons (pv 0) (pa_cons (pe_callB call_len' rfl ml PySem.boot_len (pa_cons (pv 2) pa_nil)) pa_nil))) pa_nil))))), ?_⟩
  refine ⟨_, rfl, p, xs, rfl, .inl (SqL.of hp), fun l hl => ?_⟩
  have hla := hs.ne hl
  have hl1 : L2.upd H l (.lst xs) l = some (.lst xs) := upd_same
  refine ⟨_, rfl, l, xs, rfl, .inl (SqL.of hl1), _, rfl, by omega, by omega, fun D hD => ?_⟩
  have hDl : D ≠ l := fun e => by rw [e, upd_same] at hD; cases hD
  have hDH : H D = none := by rw [upd_ne hDl] at hD; exact hD
  have hDa := hs.ne hDH
  rw [Int.toNat_natCast]
  refine lc_range (fun i Hc => ∃ ls acc : List V, Hc l = some (.lst ls) ∧ Hc D = some (.lst acc) ∧ (acc ++ ls).Perm xs ∧ acc.length = i ∧ Kept a H Hc ∧ Spr Hc a (n + i)) ?_ ?_ ?_
  · exact ⟨xs, [], by rw [upd_ne hDl.symm]; exact hl1, upd_same, List.Perm.refl _, rfl, (Kept.new hl).trans (Kept.new hD), (hs.upd hla).upd hDa⟩
  · rintro i Hc hi ⟨ls, acc, h1, h2, h3, h4, h5, h6⟩
    have hlen2 : acc.length + ls.length = xs.length := by rw [← List.length_append]; exact h3.length_eq
    refine ⟨rfl, ?_⟩
    unfold tYes
    refine iteT ?_
    refine ⟨_, rfl, .inl ⟨rfl, _, SqL.of h1⟩, _, rfl, _, rfl, l, _, rfl, .inl (SqL.of h1), a, _, n + i, rfl, h6, by omega, by omega, ?_, fun d H' g0 g1 kp s' => ?_⟩
    · show ((ls.length : Nat) : Int).natAbs < 2 ^ 100
      rw [Int.natAbs_natCast]
      exact Nat.lt_of_le_of_lt (show ls.length ≤ 1000 by omega) (by decide)
    obtain ⟨x, e1, e2, e3⟩ := at_mem g0 g1
    have hl2 : H' l = some (.lst ls) := kp l _ hla h1
    have hD2 : H' D = some (.lst acc) := kp D _ hDa h2
    refine ⟨l, ls, d, d.toNat, x, rfl, rfl, hl2, by omega, by omega, ?_, e3, acc, by rw [upd_ne hDl]; exact hD2, small1000 (by omega), ?_⟩
    · have hneg : ¬ d < 0 := by omega
      unfold seqIndex?
      simp [hneg, g0, g1]
    · refine ⟨ls.eraseIdx d.toNat, acc ++ [x], by rw [upd_ne hDl.symm, upd_same], upd_same, perm_pop h3 e3, by rw [List.length_append, h4]; rfl, fun c o n1 n2 => ?_, ?_⟩
      · have c1 : c ≠ l := fun z => by rw [z, hl] at n2; cases n2
        have c2 : c ≠ D := fun z => by rw [z, hDH] at n2; cases n2
        rw [upd_ne c2, upd_ne c1]
        exact kp c o n1 (h5 c o n1 n2)
      · exact (s'.upd hla).upd hDa
  · rintro Hc ⟨ls, acc, h1, h2, h3, h4, h5, h6⟩
    have hlen2 : acc.length + ls.length = xs.length := by rw [← List.length_append]; exact h3.length_eq
    have e : ls = [] := List.length_eq_zero_iff.mp (by omega)
    subst e
    rw [List.append_nil] at h3
    exact q D acc Hc h3 hDH hDa h2 h5 h6
end
end K1
end
-- KInit
section
set_option Elab.async false
set_option linter.all false
set_option maxRecDepth 100000
set_option maxHeartbeats 4000000
namespace K1
open PySem PySem.Spec PyProof.Rows L2
abbrev sVI : Stmt := inClass (top 21) 0
def HousesBad (K : PySem.W.Frag) (H : Hp) (h : V) (i : Nat) : Prop := (NoSeq K H h ∧ i = 0) ∨ (SeqV H h [] ∧ i = 0) ∨ ∃ ss x rest, SeqV H h (ss.map V.str ++ x :: rest) ∧ ss.length ≤ 1000 ∧ Good ss ∧ BadName K H ss x ∧ i = ss.length
def HousesOk (H : Hp) (h : V) (ss : List Str) : Prop := SeqV H h (ss.map V.str) ∧ ss ≠ [] ∧ ss.length ≤ 1000 ∧ Good ss
def RoadsOk (H : Hp) (ss : List Str) (r : V) (rs : List (Str × Str)) : Prop := ∃ vs, SeqV H r vs ∧ Paired (PairV H) vs rs ∧ EndsIn ss rs ∧ Forest rs ∧ rs.length + 1 = ss.length
def RoadsBad (K : PySem.W.Frag) (H : Hp) (ss : List Str) (r : V) (i : Nat) : Prop := (NoSeq K H r ∧ i = 0) ∨ ∃ (vs : List V) (rs : List (Str × Str)) (tail : List V), SeqV H r (vs ++ tail) ∧ Paired (PairV H) vs rs ∧ EndsIn ss rs ∧ Forest rs ∧ i = rs.length ∧
  ((tail = [] ∧ rs.length + 1 ≠ ss.length) ∨ ∃ x rest, tail = x :: rest ∧ BadRoad K H ss rs x)
def HeadsOk (H : Hp) (ss : List Str) (g : V) (ns : List Int) : Prop := SeqV H g (ns.map V.int) ∧ (∀ n ∈ ns, 1 ≤ n) ∧ ns.length = ss.length
def HeadsBad (K : PySem.W.Frag) (H : Hp) (ss : List Str) (g : V) (i : Nat) : Prop := (NoSeq K H g ∧ i = 0) ∨ (∃ ns : List Int, SeqV H g (ns.map V.int) ∧ (∀ n ∈ ns, 1 ≤ n) ∧ ns.length < ss.length ∧ i = ns.length) ∨
  ∃ (ns : List Int) (x : V) (rest : List V), SeqV H g (ns.map V.int ++ x :: rest) ∧ (∀ n ∈ ns, 1 ≤ n) ∧ ns.length ≤ ss.length ∧ (ns.length = ss.length ∨ BadHead K H x) ∧ i = ns.length
/-- a Valley at x, which keeps these three lists -/
structure ValI (C : Addr) (H : Hp) (x l1 l2 l3 : Addr) (qs : List Addr) (ss : List Str) (rs : List (Str × Str)) (ns : List Int) : Prop where
  ins : ∃ dx fs, H x = some (.ins C dx fs) ∧ fs.lookup ("_houses" : Str) = some (V.ref l1) ∧ fs.lookup ("_roads" : Str) = some (V.ref l2) ∧ fs.lookup ("_heads" : Str) = some (V.ref l3) ∧ ∀ m : Str, m ≠ "_houses" → m ≠ "_roads" → m ≠ "_heads" → m ≠ "_people" → m ≠ "_places" → m ≠ "_beside" → fs.lookup m = none
  h1 : H l1 = some (.lst (ss.map V.str))
  h2 : H l2 = some (.lst (qs.map V.ref))
  pr : Paired (TupP H) qs rs
  h3 : H l3 = some (.lst (ns.map V.int))
structure VcT (K : PySem.W.Frag) (C : Addr) : Prop where
  cl : Cls K C
  n1 : NoAttr K C "_houses"
  n2 : NoAttr K C "_roads"
  n3 : NoAttr K C "_heads"
  n4 : NoAttr K C "_people"
  n5 : NoAttr K C "_places"
  n6 : NoAttr K C "_beside"
def spVI (K : PySem.W.Frag) (C CH CR CD : Addr) : Sp := fun vs H Q E => ∃ x h r g dx, vs = [.ref x, h, r, g] ∧ H x = some (.ins C dx []) ∧
  ((∃ i : Nat, HousesBad K H h i ∧ Goes CH i H E) ∨ (∃ ss, ∃ i : Nat, HousesOk H h ss ∧ RoadsBad K H ss r i ∧ Goes CR i H E) ∨ (∃ ss rs, ∃ i : Nat, HousesOk H h ss ∧ RoadsOk H ss r rs ∧ HeadsBad K H ss g i ∧ Goes CD i H E) ∨
   (∃ ss rs ns, HousesOk H h ss ∧ RoadsOk H ss r rs ∧ HeadsOk H ss g ns ∧ ∀ H' l1 l2 l3 qs, Kept x H H' → ValI C H' x l1 l2 l3 qs ss rs ns → H l1 = none → H l2 = none → H l3 = none → (∀ q ∈ qs, H q = none) → Q .non H'))
theorem scVI : FnScope ["self", "houses", "roads", "heads", "one", "other", "house", "index"] ["self", "houses", "roads", "heads"] (defScope sVI) := ⟨rfl, rfl, rfl, by decide +kernel, rfl, by decide +kernel, by decide +kernel⟩
/-- a written tuple of targets, a list or a tuple handed in -/
def gSeq (K : PySem.W.Frag) (n : Nat) (t : TGs) : TG := fun v σ H Q => ∃ a xs, v = .ref a ∧ SqA K H a xs ∧ xs.length = n ∧ t xs σ H Q
theorem pg_seq {X : Cx} {pos : Pos} {es : List Expr} {k : Nat} {t : TGs} {n : Nat} (hc : X.calm = true) (h : PGs X es t) (hn : (assignEach es X.env).length = n := by rfl) (hst : (assignEach es X.env).findIdx? (·.1) = none := by rfl) : PG X (.Tuple es k pos) (gSeq X.K n t) := by
  refine ⟨fun pins s σ H v u Q I r q => ?_⟩
  obtain ⟨a, xs, rfl, hq | hq, l, q⟩ := q
  · exact (pg_lst hc h hn hst).run pins s σ H _ u Q I r ⟨a, xs, rfl, hq, l, q⟩
  · exact (pg_tup hc h hn hst).run pins s σ H _ u Q I r ⟨a, xs, rfl, hq, l, q⟩
theorem SeqV.kept {H H' : Hp} {v : V} {xs : List V} {x C dx : Addr} {fs : List (Str × V)} (h : SeqV H v xs) (hx : H x = some (.ins C dx fs)) (k : Kept x H H') : SeqV H' v xs := by
  obtain ⟨p, rfl, h⟩ := h
  have ne : p ≠ x := fun z => by
    rw [z, hx] at h
    rcases h with h | h <;> cases h
  exact ⟨p, rfl, h.imp (k _ _ ne) (k _ _ ne)⟩
theorem PairV.kept {H H' : Hp} {vs : List V} {rs : List (Str × Str)} {x C dx : Addr} {fs : List (Str × V)} (h : Paired (PairV H) vs rs) (hx : H x = some (.ins C dx fs)) (k : Kept x H H') : Paired (PairV H') vs rs := paired_imp (fun _ _ q => SeqV.kept q hx k) h
section
variable {P : Program} {w : World} {K : PySem.W.Frag} {mg : Str → Option Value} {base : Heap} {CF C CH CR CD : Addr}
theorem ok_VI {f fN fR fD fB fG : Addr} {fd nd_ rd_ dd_ bd gd : FuncData} (F : Fun K "__init__" "Valley.__init__" sVI f fd) (B : Bl mg) (me : mg "enumerate" = none) (T : VcT K C)
    (GN : FnOk P w K mg base (L2.CX P w) 4 fN nd_ ["houses"] (spNH K CH)) (kN : PySem.W.keepIn K (.ref fN) = true) (bN : Binds K nd_ ["houses"] []) (mN : mg "_need_houses" = some (.ref fN))
    (GR : FnOk P w K mg base (L2.CX P w) 4 fR rd_ ["houses", "roads"] (spNR K CR)) (kR : PySem.W.keepIn K (.ref fR) = true) (bR : Binds K rd_ ["houses", "roads"] []) (mR : mg "_need_roads" = some (.ref fR))
    (GD : FnOk P w K mg base (L2.CX P w) 4 fD dd_ ["houses", "heads"] (spND K CD)) (kD : PySem.W.keepIn K (.ref fD) = true) (bD : Binds K dd_ ["houses", "heads"] []) (mD : mg "_need_heads" = some (.ref fD))
    (FB : Fun K "_both_ways" "_both_ways" sBW fB bd) (bB : Binds K bd ["roads"] []) (mB : mg "_both_ways" = some (.ref fB))
    (FG : Fun K "_neighbours" "_neighbours" sNB fG gd) (bG : Binds K gd ["houses", "roads"] []) (mG : mg "_neighbours" = some (.ref fG)) :
    FnOk P w K mg base (L2.CX P w) 5 f fd ["self", "houses", "roads", "heads"] (spVI K C CH CR CD) := by
  have GB := ok_BW (P := P) (w := w) (base := base) FB me
  have GG := ok_NB (P := P) (w := w) (mg := mg) (base := base) FG
  refine F.okX scVI (fun vs H Q E h => ?_) (fun cdv A outer s H vs Q E hr h => ?_)
  · obtain ⟨x, hh, r, g, dx, rfl, _⟩ := h
    rfl
  obtain ⟨x, hh, r, g, dx, rfl, hx, h⟩ := h
  have nd := scVI.nd
  have hu := hu_of hr
  have hr1 : Room 1 _ := hr.mono (by decide)
  refine ⟨_, pss_cons (by exact (ps_expr (pe_call GN hr rfl mN kN bN .nil (passes_call (takes_of rfl rfl rfl rfl) (fun _ _ _ _ h => h)) (pa_cons (pv 1) pa_nil))))
    (pss_cons (by exact (ps_expr (pe_call GR hr rfl mR kR bR .nil (passes_call (takes_of rfl rfl rfl rfl) (fun _ _ _ _ h => h)) (pa_cons (pv 1) (pa_cons (pv 2) pa_nil)))))
    (pss_cons (by exact (ps_expr (pe_call GD hr rfl mD kD bD .nil (passes_call (takes_of rfl rfl rfl rfl) (fun _ _ _ _ h => h)) (pa_cons (pv 1) (pa_cons (pv 3) pa_nil)))))
    (pss_cons (by exact (ps_fld (pv 0) (pe_callTy call_list_of rfl B.list PyProof.Rows.boot_list (pa_cons (pv 1) pa_nil)) rfl))
    (pss_cons (by exact (ps_fld (pv 0) (pe_lc (own := [("one", 4), ("other", 5)]) (g := gSeq K 2 (gCons (gName 4) (gCons (gName 5) gNil))) (tt := tYes) (te := tTup (tCons (tVar 4) (tCons (tVar 5) tNil))) rfl nd (by exact pi_seqV 2 (pv 2))
        (by exact blkOk_by (N := ["self", "houses", "roads", "heads", "one", "other", "house", "index"]) (sc := defScope sVI) (by decide +kernel)) (fun _ _ _ _ _ => by exact pg_seq rfl (pgs_cons (pg_name (i := 4) nd rfl (.inl rfl)) (pgs_cons (pg_name (i := 5) nd rfl (.inl rfl)) pgs_nil)))
        (fun _ _ _ _ _ => pts_nil) (fun _ _ _ _ _ => by exact pe_tup (pa_cons (pv 4) (pa_cons (pv 5) pa_nil)))) rfl))
    (pss_cons (by exact (ps_fld (pv 0) (pe_callTy call_list_of rfl B.list PyProof.Rows.boot_list (pa_cons (pv 3) pa_nil)) rfl))
    (pss_cons (by exact (ps_fld (pv 0) (pe_dc (own := [("house", 6), ("index", 7)]) (g := gTup K 2 (gCons (gName 7) (gCons (gName 6) gNil))) (tt := tYes) (tk := tVar 6) (tv := tOp (rIx K) (tVar 3) (tVar 7)) rfl nd (by exact pi_enumV 1 rfl me (pv 1))
        (by exact blkOk_by (N := ["self", "houses", "roads", "heads", "one", "other", "house", "index"]) (sc := defScope sVI) (by decide +kernel)) (fun _ _ _ _ _ => by exact pg_tup rfl (pgs_cons (pg_name (i := 7) nd rfl (.inl rfl)) (pgs_cons (pg_name (i := 6) nd rfl (.inl rfl)) pgs_nil)))
        (fun _ _ _ _ _ => pts_nil) (fun _ _ _ _ _ => by exact pv 6) (fun _ _ _ _ _ => by exact pe_ix ix_seq (pv 3) (pv 7) (fun _ _ => rfl))) rfl))
    (pss_cons (by exact (ps_fld (pv 0) (pe_call GB hr1 rfl mB FB.kp bB .nil pass0 (pa_cons (pe_fld (pv 0) rfl) pa_nil)) rfl))
    (pss_one (by exact (ps_fld (pv 0) (pe_call GG hr1 rfl mG FG.kp bG .nil pass0 (pa_cons (pe_fld (pv 0) rfl) (pa_cons (pe_fld (pv 0) rfl) pa_nil))) rfl)))))))))), ?_⟩
  rcases h with ⟨i, bad, go⟩ | h
  · refine ⟨_, rfl, hh, rfl, ?_⟩
    rcases bad with ⟨n, rfl⟩ | ⟨n, rfl⟩ | ⟨ss, y, rest, a1, a2, a3, a4, rfl⟩
    · exact .inl ⟨n, go⟩
    · exact .inr (.inl ⟨n, go⟩)
    · exact .inr (.inr (.inr ⟨ss, y, rest, a1, a2, a3, a4, go⟩))
  obtain ⟨ss, ⟨sh, hne, hl, good⟩, h⟩ : ∃ ss, HousesOk H hh ss ∧ ((∃ i : Nat, RoadsBad K H ss r i ∧ Goes CR i H E) ∨ (∃ rs, ∃ i : Nat, RoadsOk H ss r rs ∧ HeadsBad K H ss g i ∧ Goes CD i H E) ∨
      (∃ rs ns, RoadsOk H ss r rs ∧ HeadsOk H ss g ns ∧ ∀ H' l1 l2 l3 qs, Kept x H H' → ValI C H' x l1 l2 l3 qs ss rs ns → H l1 = none → H l2 = none → H l3 = none → (∀ q ∈ qs, H q = none) → Q .non H')) := by
    rcases h with ⟨ss, i, a, b, c⟩ | ⟨ss, rs, i, a, b, c, d⟩ | ⟨ss, rs, ns, a, b, c, d⟩
    · exact ⟨ss, a, .inl ⟨i, b, c⟩⟩
    · exact ⟨ss, a, .inr (.inl ⟨rs, i, b, c, d⟩)⟩
    · exact ⟨ss, a, .inr (.inr ⟨rs, ns, b, c, d⟩)⟩
  refine ⟨_, rfl, hh, rfl, .inr (.inr (.inl ⟨ss, sh, hne, hl, good, fun H1 e1 => ?_⟩))⟩
  rcases h with ⟨i, bad, go⟩ | h
  · refine ⟨_, rfl, _, rfl, hh, r, ss, rfl, sh.ext e1, good, hl, ?_⟩
    rcases bad with ⟨n, rfl⟩ | ⟨vs, rs, tail, a1, a2, a3, a4, rfl, a5⟩
    · exact .inl ⟨n.ext e1, go.ext e1⟩
    · refine .inr ⟨vs, rs, tail, a1.ext e1, paired_imp (fun _ _ q => SeqV.ext q e1) a2, a3, a4, ?_⟩
      rcases a5 with ⟨rfl, n⟩ | ⟨y, rest, rfl, b⟩
      · exact .inr (.inl ⟨rfl, n, go.ext e1⟩)
      · exact .inr (.inr ⟨y, rest, rfl, b.ext e1, go.ext e1⟩)
  obtain ⟨rs, ⟨vs, sr, pr, ends, forest, hrl⟩, h⟩ : ∃ rs, RoadsOk H ss r rs ∧ ((∃ i : Nat, HeadsBad K H ss g i ∧ Goes CD i H E) ∨
      (∃ ns, HeadsOk H ss g ns ∧ ∀ H' l1 l2 l3 qs, Kept x H H' → ValI C H' x l1 l2 l3 qs ss rs ns → H l1 = none → H l2 = none → H l3 = none → (∀ q ∈ qs, H q = none) → Q .non H')) := by
    rcases h with ⟨rs, i, b, c, d⟩ | ⟨rs, ns, b, c, d⟩
    · exact ⟨rs, b, .inl ⟨i, c, d⟩⟩
    · exact ⟨rs, b, .inr ⟨ns, c, d⟩⟩
  refine ⟨_, rfl, _, rfl, hh, r, ss, rfl, sh.ext e1, good, hl, .inr ⟨vs, rs, [], by rw [List.append_nil]; exact sr.ext e1, paired_imp (fun _ _ q => SeqV.ext q e1) pr, ends, forest, .inl ⟨rfl, hrl, fun H2 e2' => ?_⟩⟩⟩
  have e2 := e1.trans e2'
  rcases h with ⟨i, bad, go⟩ | ⟨ns, ⟨sg, hn1, hnl⟩, q⟩
  · refine ⟨_, rfl, _, rfl, hh, g, ss.map V.str, rfl, sh.ext e2, ?_⟩
    rcases bad with ⟨n, rfl⟩ | ⟨ns, a1, a2, a3, rfl⟩ | ⟨ns, y, rest, a1, a2, a3, a4, rfl⟩
    · exact .inl ⟨n.ext e2, go.ext e2⟩
    · exact .inr (.inr (.inl ⟨ns, a1.ext e2, a2, by rw [List.length_map]; exact a3, go.ext e2⟩))
    · exact .inr (.inr (.inr ⟨ns, y, rest, a1.ext e2, a2, by rw [List.length_map]; exact a3, by rw [List.length_map]; exact a4.imp id fun b => b.ext e2, go.ext e2⟩))
  refine ⟨_, rfl, _, rfl, hh, g, ss.map V.str, rfl, sh.ext e2, .inr (.inl ⟨ns, sg.ext e2, hn1, by rw [List.length_map]; exact hnl, fun H3 e3' => ?_⟩)⟩
  have e3 := e2.trans e3'
  have x3 := e3 _ _ hx
  have k3 : Kept x H H3 := Kept.same e3
  -- list(houses)
  obtain ⟨p1, rfl, q1⟩ := (sh.ext e3).sq (K := K)
  refine ⟨_, rfl, p1, _, rfl, q1, fun l1 hl1 => ?_⟩
  have n1 : l1 ≠ x := fun z => by rw [z, x3] at hl1; cases hl1
  have l1H : H l1 = none := e3.free hl1
  refine ⟨_, rfl, x, C, dx, [], rfl, (by rw [upd_ne n1.symm]; exact x3), T.cl, T.n1, (by decide), ?_⟩
  have k4 : Kept x H3 (upd (upd H3 l1 (.lst (ss.map V.str))) x (.ins C dx (putF "_houses" (.ref l1) []))) := (Kept.new hl1).trans Kept.upd
  have f1 : upd (upd H3 l1 (.lst (ss.map V.str))) x (.ins C dx (putF "_houses" (.ref l1) [])) l1 = some (.lst (ss.map V.str)) := by rw [upd_ne n1, upd_same]
  have x4 : upd (upd H3 l1 (.lst (ss.map V.str))) x (.ins C dx (putF "_houses" (.ref l1) [])) x = some (.ins C dx (putF "_houses" (.ref l1) [])) := upd_same
  generalize upd (upd H3 l1 (.lst (ss.map V.str))) x (.ins C dx (putF "_houses" (.ref l1) [])) = H4 at k4 f1 x4 ⊢
  have k04 := k3.trans k4
  have fr : ∀ {Hz : Hp} {l : Addr}, Kept x H Hz → Hz l = none → l ≠ x → H l = none := fun {Hz l} k n ne => by
    cases e : H l with
    | none => rfl
    | some o => rw [k _ _ ne e] at n; cases n
  -- the roads' pairs
  obtain ⟨p2, rfl, q2⟩ := sr.kept hx k04
  have sq2 : SqA K H4 p2 vs := q2.imp (fun h => SqL.of h) (fun h => SqT.of h)
  refine ⟨p2, _, rfl, sq2, fun J G wk hG l2 hl2 => ?_⟩
  have n2 : l2 ≠ x := fun z => by rw [z, x4] at hl2; cases hl2
  have lvs : vs.length = rs.length := pr.length
  refine lc_it wk (fun i Hc => Same H4 Hc ∧ ∃ qs, Hc l2 = some (.lst (qs.map V.ref)) ∧ Paired (TupP Hc) qs (rs.take i) ∧ (∀ z ∈ qs, H4 z = none ∧ z ≠ l2)) ⟨K1.Same.upd hl2, [], upd_same, .nil, fun z hz => absurd hz (by simp)⟩ (fun i Hc _ h => hG Hc fun o ho => h.1 _ _ ho) ?_ ?_
  · rintro i y Hc H' hi ⟨a1, qs, a2, a3, a4⟩ ⟨rfl, hy⟩
    rw [lvs] at hi
    obtain ⟨y', ey, py⟩ := paired_get (PairV.kept pr hx k04) hi
    have : y = y' := Option.some.inj (hy.symm.trans ey)
    subst this
    obtain ⟨py1, rfl, py2⟩ := SeqV.ext py a1
    refine ⟨py1, _, rfl, py2.imp (fun h => SqL.of h) (fun h => SqT.of h), rfl, _, _, rfl, _, _, rfl, rfl, rfl, ?_⟩
    unfold tYes
    refine iteT ?_
    refine ⟨_, rfl, _, rfl, (by show 2 ≤ sizeLine; decide), fun b hb => ?_⟩
    have bl : b ≠ l2 := fun z => by rw [z, a2] at hb; cases hb
    have lq : qs.length ≤ rs.length := by rw [a3.length, List.length_take]; omega
    have sb := K1.Same.upd (H := H') (p := b) (o := .tup [.str rs[i].1, .str rs[i].2]) hb
    refine ⟨qs.map V.ref, by rw [upd_ne bl.symm]; exact a2, by rw [List.length_map]; exact small1000 (by omega), ?_, qs ++ [b], by rw [upd_same, List.map_append]; rfl, ?_, fun z hz => ?_⟩
    · intro c o n
      rw [upd_ne (ne_of_none n hl2)]
      exact sb _ _ (a1 _ _ n)
    · have up2 : ∀ z o, z ≠ l2 → upd H' b (.tup [.str rs[i].1, .str rs[i].2]) z = some o → upd (upd H' b (.tup [.str rs[i].1, .str rs[i].2])) l2 (.lst (qs.map V.ref ++ [.ref b])) z = some o := fun z o n e => by rw [upd_ne n]; exact e
      rw [List.take_add_one, List.getElem?_eq_getElem hi]
      have pz : ∀ {as : List Addr} {bs : List (Str × Str)}, Paired (TupP H') as bs → (∀ z ∈ as, z ≠ l2) → Paired (TupP (upd (upd H' b (.tup [.str rs[i].1, .str rs[i].2])) l2 (.lst (qs.map V.ref ++ [.ref b])))) (as ++ [b]) (bs ++ [rs[i]]) := by
        intro as bs h
        induction h with
        | nil => intro _; exact .cons (up2 _ _ bl upd_same) .nil
        | cons f1 f2 ih =>
          intro nz
          exact .cons (up2 _ _ (nz _ (List.mem_cons_self ..)) (sb _ _ f1)) (ih fun z hz => nz z (List.mem_cons_of_mem _ hz))
      exact pz a3 fun z hz => (a4 z hz).2
    · rcases List.mem_append.mp hz with hz | hz
      · exact a4 z hz
      · rw [List.mem_singleton.mp hz]
        exact ⟨a1.free hb, bl⟩
  rintro H5 ⟨e5, qs, a2, a3, a4⟩
  rw [lvs, List.take_length] at a3
  have x5 := e5 _ _ x4
  refine ⟨_, rfl, x, C, dx, _, rfl, x5, T.cl, T.n2, (Nat.lt_of_le_of_lt (length_putF _ _ _) (by decide)), ?_⟩
  have k5 : Kept x H (upd H5 x (.ins C dx (putF "_roads" (.ref l2) (putF "_houses" (.ref l1) [])))) := (k04.trans (Kept.same e5)).trans Kept.upd
  have up5 : ∀ z o, z ≠ x → H5 z = some o → upd H5 x (.ins C dx (putF "_roads" (.ref l2) (putF "_houses" (.ref l1) []))) z = some o := fun z o n e => by rw [upd_ne n]; exact e
  have g1 := up5 _ _ n1 (e5 _ _ f1)
  have g2 := up5 _ _ n2 a2
  have nq : ∀ z ∈ qs, z ≠ x := fun z hz e => by rw [e] at hz; rw [(a4 x hz).1] at x4; cases x4
  have pq : ∀ {Hz : Hp}, Kept x H5 Hz → Paired (TupP Hz) qs rs := fun {Hz} k => by
    have : ∀ {as : List Addr} {bs : List (Str × Str)}, Paired (TupP H5) as bs → (∀ z ∈ as, z ≠ x) → Paired (TupP Hz) as bs := by
      intro as bs h
      induction h with
      | nil => intro _; exact .nil
      | cons f1 f2 ih => intro nz; exact .cons (k _ _ (nz _ (List.mem_cons_self ..)) f1) (ih fun z hz => nz z (List.mem_cons_of_mem _ hz))
    exact this a3 nq
  have k56 : Kept x H5 (upd H5 x (.ins C dx (putF "_roads" (.ref l2) (putF "_houses" (.ref l1) [])))) := Kept.upd
  have x6 : upd H5 x (.ins C dx (putF "_roads" (.ref l2) (putF "_houses" (.ref l1) []))) x = some (.ins C dx (putF "_roads" (.ref l2) (putF "_houses" (.ref l1) []))) := upd_same
  generalize upd H5 x (.ins C dx (putF "_roads" (.ref l2) (putF "_houses" (.ref l1) []))) = H6 at k5 g1 g2 k56 x6 ⊢
  clear up5
  -- list(heads)
  obtain ⟨p3, rfl, q3⟩ := (sg.kept hx k5).sq (K := K)
  refine ⟨_, rfl, p3, _, rfl, q3, fun l3 hl3 => ?_⟩
  have n3 : l3 ≠ x := fun z => by rw [z, x6] at hl3; cases hl3
  refine ⟨_, rfl, x, C, dx, _, rfl, (by rw [upd_ne n3.symm]; exact x6), T.cl, T.n3, (Nat.lt_of_le_of_lt (Nat.le_trans (length_putF _ _ _) (Nat.succ_le_succ (length_putF _ _ _))) (by decide)), ?_⟩
  have k67 : Kept x H6 (upd (upd H6 l3 (.lst (ns.map V.int))) x (.ins C dx (putF "_heads" (.ref l3) (putF "_roads" (.ref l2) (putF "_houses" (.ref l1) []))))) := (Kept.new hl3).trans Kept.upd
  have g3 : upd (upd H6 l3 (.lst (ns.map V.int))) x (.ins C dx (putF "_heads" (.ref l3) (putF "_roads" (.ref l2) (putF "_houses" (.ref l1) [])))) l3 = some (.lst (ns.map V.int)) := by rw [upd_ne n3, upd_same]
  have x7 : upd (upd H6 l3 (.lst (ns.map V.int))) x (.ins C dx (putF "_heads" (.ref l3) (putF "_roads" (.ref l2) (putF "_houses" (.ref l1) [])))) x = some (.ins C dx (putF "_heads" (.ref l3) (putF "_roads" (.ref l2) (putF "_houses" (.ref l1) [])))) := upd_same
  have l3H : H l3 = none := fr k5 hl3 n3
  generalize upd (upd H6 l3 (.lst (ns.map V.int))) x (.ins C dx (putF "_heads" (.ref l3) (putF "_roads" (.ref l2) (putF "_houses" (.ref l1) [])))) = H7 at k67 g3 x7 ⊢
  have k07 := k5.trans k67
  -- the people
  obtain ⟨p1', e1', q1'⟩ := sh.kept hx k07
  cases e1'
  obtain ⟨p3', e3'', q3'⟩ := sg.kept hx k07
  cases e3''
  have sq7 : SqA K H7 p1 (ss.map V.str) := q1'.imp (fun h => SqL.of h) (fun h => SqT.of h)
  refine ⟨p1, _, rfl, sq7, fun J G wk hG D hD => ?_⟩
  have nD : D ≠ x := fun z => by rw [z, x7] at hD; cases hD
  refine dc_it wk (fun i Hc => Same H7 Hc ∧ ∃ kv, Hc D = some (.dK kv) ∧ kv.length ≤ i) ⟨K1.Same.upd hD, [], upd_same, Nat.zero_le _⟩ (fun i Hc _ h => hG Hc fun o ho => h.1 _ _ ho) ?_ ?_
  · rintro i y Hc H' hi ⟨b1, kv, b2, b3⟩ ⟨Tp, x1, x2, rfl, hT, rfl, ex1, ex2⟩
    rw [List.length_map] at hi
    obtain rfl : x1 = .int (i : Nat) := (Option.some.inj ex1).symm
    have ex2 : (ss.map V.str)[i]? = some x2 := ex2
    rw [List.getElem?_map, List.getElem?_eq_getElem hi] at ex2
    obtain rfl : x2 = .str ss[i] := (Option.some.inj ex2).symm
    have hT2 := K1.Same.upd (H := Hc) (p := Tp) (o := .tup [.int (i : Nat), .str ss[i]]) hT
    refine ⟨Tp, _, rfl, SqT.of upd_same, rfl, _, _, rfl, _, _, rfl, rfl, rfl, ?_⟩
    unfold tYes
    refine iteT ?_
    have hi2 : i < ns.length := by omega
    have sv : SeqV (upd Hc Tp (.tup [.int (i : Nat), .str ss[i]])) (.ref p3) (ns.map V.int) := SeqV.ext (SeqV.ext ⟨p3, rfl, q3'⟩ b1) hT2
    refine ⟨_, rfl, _, rfl, _, rfl, ixA sv (atI_nat (j := i) (v := .int ns[i]) (by rw [List.getElem?_map, List.getElem?_eq_getElem hi2]; rfl)) ?_⟩
    refine ⟨kv, .inr ss[i], rfl, hT2 _ _ b2, small1000 (by omega), fun c o n => ?_, _, upd_same, Nat.le_trans putK_le (by omega)⟩
    rw [upd_ne (ne_of_none n hD)]
    exact hT2 _ _ (b1 _ _ n)
  rintro H8 ⟨e8, _⟩
  have x8 := e8 _ _ x7
  refine ⟨_, rfl, x, C, dx, _, rfl, x8, T.cl, T.n4, (Nat.lt_of_le_of_lt (Nat.le_trans (length_putF _ _ _) (Nat.succ_le_succ (Nat.le_trans (length_putF _ _ _) (Nat.succ_le_succ (length_putF _ _ _))))) (by decide)), ?_⟩
  have k79 : Kept x H7 (upd H8 x (.ins C dx (putF "_people" (.ref D) (putF "_heads" (.ref l3) (putF "_roads" (.ref l2) (putF "_houses" (.ref l1) [])))))) := (Kept.same e8).trans Kept.upd
  have x9 : upd H8 x (.ins C dx (putF "_people" (.ref D) (putF "_heads" (.ref l3) (putF "_roads" (.ref l2) (putF "_houses" (.ref l1) []))))) x = some (.ins C dx (putF "_people" (.ref D) (putF "_heads" (.ref l3) (putF "_roads" (.ref l2) (putF "_houses" (.ref l1) []))))) := upd_same
  generalize upd H8 x (.ins C dx (putF "_people" (.ref D) (putF "_heads" (.ref l3) (putF "_roads" (.ref l2) (putF "_houses" (.ref l1) []))))) = H9 at k79 x9 ⊢
  have k69 := k67.trans k79
  have k59 := k56.trans k69
  have o2 := k69 _ _ n2 g2
  have p9 := pq k59
  have lk2 : (putF "_people" (V.ref D) (putF "_heads" (.ref l3) (putF "_roads" (.ref l2) (putF "_houses" (.ref l1) [])))).lookup ("_roads" : Str) = some (.ref l2) := by
    rw [lookup_putF, if_neg (by decide +kernel), lookup_putF, if_neg (by decide +kernel), lookup_putF, if_pos rfl]
  refine ⟨_, rfl, x, C, dx, _, _, rfl, x9, T.cl, T.n2, lk2, l2, qs, rs, rfl, o2, p9, by omega, fun r1 H10 e10 => ?_⟩
  have x10 := e10 _ _ x9
  refine ⟨_, rfl, x, C, dx, _, rfl, x10, T.cl, T.n5, (Nat.lt_of_le_of_lt (Nat.le_trans (length_putF _ _ _) (Nat.succ_le_succ (Nat.le_trans (length_putF _ _ _) (Nat.succ_le_succ (Nat.le_trans (length_putF _ _ _) (Nat.succ_le_succ (length_putF _ _ _))))))) (by decide)), ?_⟩
  have k911 : Kept x H9 (upd H10 x (.ins C dx (putF "_places" (.ref r1) (putF "_people" (.ref D) (putF "_heads" (.ref l3) (putF "_roads" (.ref l2) (putF "_houses" (.ref l1) []))))))) := (Kept.same e10).trans Kept.upd
  have x11 : upd H10 x (.ins C dx (putF "_places" (.ref r1) (putF "_people" (.ref D) (putF "_heads" (.ref l3) (putF "_roads" (.ref l2) (putF "_houses" (.ref l1) [])))))) x = some (.ins C dx (putF "_places" (.ref r1) (putF "_people" (.ref D) (putF "_heads" (.ref l3) (putF "_roads" (.ref l2) (putF "_houses" (.ref l1) [])))))) := upd_same
  generalize upd H10 x (.ins C dx (putF "_places" (.ref r1) (putF "_people" (.ref D) (putF "_heads" (.ref l3) (putF "_roads" (.ref l2) (putF "_houses" (.ref l1) [])))))) = H11 at k911 x11 ⊢
  have k6_11 := k69.trans k911
  have k5_11 := k56.trans k6_11
  have lk1 : (putF "_places" (V.ref r1) (putF "_people" (V.ref D) (putF "_heads" (.ref l3) (putF "_roads" (.ref l2) (putF "_houses" (.ref l1) []))))).lookup ("_houses" : Str) = some (.ref l1) := by
    rw [lookup_putF, if_neg (by decide +kernel), lookup_putF, if_neg (by decide +kernel), lookup_putF, if_neg (by decide +kernel), lookup_putF, if_neg (by decide +kernel), lookup_putF, if_pos rfl]
  have lk2' : (putF "_places" (V.ref r1) (putF "_people" (V.ref D) (putF "_heads" (.ref l3) (putF "_roads" (.ref l2) (putF "_houses" (.ref l1) []))))).lookup ("_roads" : Str) = some (.ref l2) := by
    rw [lookup_putF, if_neg (by decide +kernel)]
    exact lk2
  refine ⟨_, rfl, x, C, dx, _, _, rfl, x11, T.cl, T.n1, lk1, _, rfl, x, C, dx, _, _, rfl, x11, T.cl, T.n2, lk2', l1, l2, ss, qs, rs, rfl, k6_11 _ _ n1 g1, hl, good.1, k6_11 _ _ n2 g2, pq k5_11, ends, by omega, fun r2 H12 e12 => ?_⟩
  have x12 := e12 _ _ x11
  refine ⟨_, rfl, x, C, dx, _, rfl, x12, T.cl, T.n6, (Nat.lt_of_le_of_lt (Nat.le_trans (length_putF _ _ _) (Nat.succ_le_succ (Nat.le_trans (length_putF _ _ _) (Nat.succ_le_succ (Nat.le_trans (length_putF _ _ _) (Nat.succ_le_succ (Nat.le_trans (length_putF _ _ _) (Nat.succ_le_succ (length_putF _ _ _))))))))) (by decide)), ?_⟩
  have k11_13 : Kept x H11 (upd H12 x (.ins C dx (putF "_beside" (.ref r2) (putF "_places" (.ref r1) (putF "_people" (.ref D) (putF "_heads" (.ref l3) (putF "_roads" (.ref l2) (putF "_houses" (.ref l1) [])))))))) := (Kept.same e12).trans Kept.upd
  have k6_13 := k6_11.trans k11_13
  refine q _ l1 l2 l3 qs (k5.trans k6_13) ⟨⟨dx, _, upd_same, ?_, ?_, ?_, fun m m1 m2 m3 m4 m5 m6 => ?_⟩, k6_13 _ _ n1 g1, k6_13 _ _ n2 g2, pq (k56.trans k6_13), (k79.trans (k911.trans k11_13)) _ _ n3 g3⟩ l1H (fr k04 hl2 n2) l3H (fun z hz => fr k04 (a4 z hz).1 (nq z hz))
  · rw [lookup_putF, if_neg (by decide +kernel)]
    exact lk1
  · rw [lookup_putF, if_neg (by decide +kernel)]
    exact lk2'
  · rw [lookup_putF, if_neg (by decide +kernel), lookup_putF, if_neg (by decide +kernel), lookup_putF, if_neg (by decide +kernel), lookup_putF, if_pos rfl]
  · rw [lookup_putF, if_neg m6, lookup_putF, if_neg m5, lookup_putF, if_neg m4, lookup_putF, if_neg m3, lookup_putF, if_neg m2, lookup_putF, if_neg m1]
    rfl
end
end K1
end
-- NInit
section
set_option Elab.async false
set_option linter.all false
set_option maxRecDepth 100000
set_option maxHeartbeats 4000000
namespace K1
open PySem PySem.Spec PyProof.Rows L2
/-- the dict of people, item by item -/
def peo (ss : List Str) (ns : List Int) : List (Key × V) := (ss.zip ns).map fun p => (Sum.inr p.1, V.int p.2)
theorem peo_none {s : Str} : ∀ {ss : List Str} {ns : List Int}, s ∉ ss → valV (peo ss ns) (.inr s) = none
  | [], _, _ => rfl
  | _ :: _, [], _ => rfl
  | a :: as, b :: bs, h => by
    have e : ¬ (Sum.inr a : Key) = .inr s := fun z => h (by rw [Sum.inr.inj z]; exact List.mem_cons_self ..)
    show valV ((Sum.inr a, V.int b) :: peo as bs) _ = none
    rw [valV_neg e]
    exact peo_none fun z => h (List.mem_cons_of_mem _ z)
theorem peo_some {s : Str} : ∀ {ss : List Str} {ns : List Int}, ss.length = ns.length → s ∈ ss → ∃ n, valV (peo ss ns) (.inr s) = some (.int n)
  | [], _, _, h => absurd h (by simp)
  | _ :: _, [], l, _ => by cases l
  | a :: as, b :: bs, l, h => by
    by_cases e : (Sum.inr a : Key) = .inr s
    · exact ⟨b, valV_pos (p := (Sum.inr a, V.int b)) e⟩
    · obtain ⟨n, h'⟩ := peo_some (s := s) (ss := as) (ns := bs) (Nat.succ.inj l) ((List.mem_cons.mp h).resolve_left fun z => e (by rw [z]))
      exact ⟨n, (valV_neg (p := (Sum.inr a, V.int b)) e).trans h'⟩
theorem peo_in {s : Str} {ss : List Str} {ns : List Int} (l : ss.length = ns.length) : (valV (peo ss ns) (.inr s)).isSome = decide (s ∈ ss) := by
  by_cases h : s ∈ ss
  · obtain ⟨n, e⟩ := peo_some l h
    rw [e, decide_eq_true h]
    rfl
  · rw [peo_none h, decide_eq_false h]
    rfl
theorem peo_succ {ss : List Str} {ns : List Int} {i : Nat} (hi : i < ss.length) (hj : i < ns.length) : peo (ss.take (i + 1)) ns = peo (ss.take i) ns ++ [(Sum.inr ss[i], V.int ns[i])] := by
  unfold peo
  have e : (ss.take (i + 1)).zip ns = (ss.take i).zip ns ++ [(ss[i], ns[i])] := by
    have a : ∀ (m : Nat) (ss : List Str) (ns : List Int), (ss.take m).zip ns = (ss.zip ns).take m := by
      intro m
      induction m with
      | zero => intro ss ns; simp
      | succ m ih =>
        intro ss ns
        cases ss with
        | nil => simp
        | cons a as => cases ns with
          | nil => simp
          | cons b bs => simp [ih as bs]
    rw [a, a, List.take_succ, List.getElem?_eq_getElem (by rw [List.length_zip]; omega)]
    simp
  rw [e, List.map_append]
  rfl
/-- a Valley: its lists and its dicts -/
structure ValS (C : Addr) (H : Hp) (x l1 l2 l3 d1 d2 d3 : Addr) (qs : List Addr) (bs : Str → Addr) (ss : List Str) (rs : List (Str × Str)) (ns : List Int) : Prop where
  ins : ∃ dx fs, H x = some (.ins C dx fs) ∧ fs.lookup ("_houses" : Str) = some (V.ref l1) ∧ fs.lookup ("_roads" : Str) = some (V.ref l2) ∧ fs.lookup ("_heads" : Str) = some (V.ref l3) ∧ fs.lookup ("_people" : Str) = some (V.ref d1) ∧ fs.lookup ("_places" : Str) = some (V.ref d2) ∧ fs.lookup ("_beside" : Str) = some (V.ref d3) ∧
    ∀ m : Str, m ≠ "_houses" → m ≠ "_roads" → m ≠ "_heads" → m ≠ "_people" → m ≠ "_places" → m ≠ "_beside" → fs.lookup m = none
  h1 : H l1 = some (.lst (ss.map V.str))
  h2 : H l2 = some (.lst (qs.map V.ref))
  pr : Paired (TupP H) qs rs
  h3 : H l3 = some (.lst (ns.map V.int))
  p1 : H d1 = some (.dK (peo ss ns))
  p2 : ∃ kv, H d2 = some (.dT kv) ∧ PlacesAt rs kv ∧ kv.length ≤ 2 * rs.length
  p3 : ∃ kv, H d3 = some (.dK kv) ∧ kv.length ≤ ss.length ∧ ∀ s ∈ ss, valV kv (.inr s) = some (.ref (bs s))
  nb : ∀ s ∈ ss, H (bs s) = some (.lst ((nbs ss rs s).map V.str))
theorem ValS.toI {C : Addr} {H : Hp} {x l1 l2 l3 d1 d2 d3 : Addr} {qs : List Addr} {bs : Str → Addr} {ss : List Str} {rs : List (Str × Str)} {ns : List Int} (v : ValS C H x l1 l2 l3 d1 d2 d3 qs bs ss rs ns) : ValI C H x l1 l2 l3 qs ss rs ns := by
  obtain ⟨dx, fs, a, b1, b2, b3, _, _, _, c⟩ := v.ins
  exact ⟨⟨dx, fs, a, b1, b2, b3, c⟩, v.h1, v.h2, v.pr, v.h3⟩
/-- all its objects are new -/
def NewV (H : Hp) (l1 l2 l3 d1 d2 d3 : Addr) (qs : List Addr) (bs : Str → Addr) (ss : List Str) : Prop := H l1 = none ∧ H l2 = none ∧ H l3 = none ∧ H d1 = none ∧ H d2 = none ∧ H d3 = none ∧ (∀ q ∈ qs, H q = none) ∧ ∀ s ∈ ss, H (bs s) = none
/-- a Valley's __init__, when all is as it should be -/
def spVS (K : PySem.W.Frag) (C : Addr) : Sp := fun vs H Q E => ∃ x h r g dx ss rs ns, vs = [.ref x, h, r, g] ∧ H x = some (.ins C dx []) ∧ HousesOk H h ss ∧ RoadsOk H ss r rs ∧ HeadsOk H ss g ns ∧
  ∀ H' l1 l2 l3 d1 d2 d3 qs bs, Kept x H H' → ValS C H' x l1 l2 l3 d1 d2 d3 qs bs ss rs ns → NewV H l1 l2 l3 d1 d2 d3 qs bs ss → Q .non H'
theorem choose_at {ss : List Str} {R : Str → Addr → Prop} (h : ∀ s ∈ ss, ∃ d, R s d) : ∃ f : Str → Addr, ∀ s ∈ ss, R s (f s) := by
  classical
  refine ⟨fun s => if h' : s ∈ ss then (h s h').choose else 0, fun s hs => ?_⟩
  simp only [dif_pos hs]
  exact (h s hs).choose_spec
section
variable {P : Program} {w : World} {K : PySem.W.Frag} {mg : Str → Option Value} {base : Heap} {CF C CH CR CD : Addr}
theorem ok_VS {f fN fR fD fB fG : Addr} {fd nd_ rd_ dd_ bd gd : FuncData} (F : Fun K "__init__" "Valley.__init__" sVI f fd) (B : Bl mg) (me : mg "enumerate" = none) (T : VcT K C)
    (GN : FnOk P w K mg base (L2.CX P w) 4 fN nd_ ["houses"] (spNH K CH)) (kN : PySem.W.keepIn K (.ref fN) = true) (bN : Binds K nd_ ["houses"] []) (mN : mg "_need_houses" = some (.ref fN))
    (GR : FnOk P w K mg base (L2.CX P w) 4 fR rd_ ["houses", "roads"] (spNR K CR)) (kR : PySem.W.keepIn K (.ref fR) = true) (bR : Binds K rd_ ["houses", "roads"] []) (mR : mg "_need_roads" = some (.ref fR))
    (GD : FnOk P w K mg base (L2.CX P w) 4 fD dd_ ["houses", "heads"] (spND K CD)) (kD : PySem.W.keepIn K (.ref fD) = true) (bD : Binds K dd_ ["houses", "heads"] []) (mD : mg "_need_heads" = some (.ref fD))
    (FB : Fun K "_both_ways" "_both_ways" sBW fB bd) (bB : Binds K bd ["roads"] []) (mB : mg "_both_ways" = some (.ref fB))
    (FG : Fun K "_neighbours" "_neighbours" sNB fG gd) (bG : Binds K gd ["houses", "roads"] []) (mG : mg "_neighbours" = some (.ref fG)) :
    FnOk P w K mg base (L2.CX P w) 5 f fd ["self", "houses", "roads", "heads"] (spVS K C) := by
  have GB := ok_BW2 (P := P) (w := w) (base := base) FB me
  have GG := ok_NB2 (P := P) (w := w) (mg := mg) (base := base) FG
  refine F.okX scVI (fun vs H Q E h => ?_) (fun cdv A outer s H vs Q E hr h => ?_)
  · obtain ⟨x, hh, r, g, dx, ss, rs, ns, rfl, _⟩ := h
    rfl
  obtain ⟨x, hh, r, g, dx, ss, rs, ns, rfl, hx, ⟨sh, hne, hl, good⟩, ⟨vs, sr, pr, ends, forest, hrl⟩, ⟨sg, hn1, hnl⟩, q⟩ := h
  have nd := scVI.nd
  have hu := hu_of hr
  have hr1 : Room 1 _ := hr.mono (by decide)
  refine ⟨_, pss_cons (by exact (ps_expr (pe_call GN hr rfl mN kN bN .nil (passes_call (takes_of rfl rfl rfl rfl) (fun _ _ _ _ h => h)) (pa_cons (pv 1) pa_nil))))
    (pss_cons (by exact (ps_expr (pe_call GR hr rfl mR kR bR .nil (passes_call (takes_of rfl rfl rfl rfl) (fun _ _ _ _ h => h)) (pa_cons (pv 1) (pa_cons (pv 2) pa_nil)))))
    (pss_cons (by exact (ps_expr (pe_call GD hr rfl mD kD bD .nil (passes_call (takes_of rfl rfl rfl rfl) (fun _ _ _ _ h => h)) (pa_cons (pv 1) (pa_cons (pv 3) pa_nil)))))
    (pss_cons (by exact (ps_fld (pv 0) (pe_callTy call_list_of rfl B.list PyProof.Rows.boot_list (pa_cons (pv 1) pa_nil)) rfl))
    (pss_cons (by exact (ps_fld (pv 0) (pe_lc (own := [("one", 4), ("other", 5)]) (g := gSeq K 2 (gCons (gName 4) (gCons (gName 5) gNil))) (tt := tYes) (te := tTup (tCons (tVar 4) (tCons (tVar 5) tNil))) rfl nd (by exact pi_seqV 2 (pv 2))
        (by exact blkOk_by (N := ["self", "houses", "roads", "heads", "one", "other", "house", "index"]) (sc := defScope sVI) (by decide +kernel)) (fun _ _ _ _ _ => by exact pg_seq rfl (pgs_cons (pg_name (i := 4) nd rfl (.inl rfl)) (pgs_cons (pg_name (i := 5) nd rfl (.inl rfl)) pgs_nil)))
        (fun _ _ _ _ _ => pts_nil) (fun _ _ _ _ _ => by exact pe_tup (pa_cons (pv 4) (pa_cons (pv 5) pa_nil)))) rfl))
    (pss_cons (by exact (ps_fld (pv 0) (pe_callTy call_list_of rfl B.list PyProof.Rows.boot_list (pa_cons (pv 3) pa_nil)) rfl))
    (pss_cons (by exact (ps_fld (pv 0) (pe_dc (own := [("house", 6), ("index", 7)]) (g := gTup K 2 (gCons (gName 7) (gCons (gName 6) gNil))) (tt := tYes) (tk := tVar 6) (tv := tOp (rIx K) (tVar 3) (tVar 7)) rfl nd (by exact pi_enumV 1 rfl me (pv 1))
        (by exact blkOk_by (N := ["self", "houses", "roads", "heads", "one", "other", "house", "index"]) (sc := defScope sVI) (by decide +kernel)) (fun _ _ _ _ _ => by exact pg_tup rfl (pgs_cons (pg_name (i := 7) nd rfl (.inl rfl)) (pgs_cons (pg_name (i := 6) nd rfl (.inl rfl)) pgs_nil)))
        (fun _ _ _ _ _ => pts_nil) (fun _ _ _ _ _ => by exact pv 6) (fun _ _ _ _ _ => by exact pe_ix ix_seq (pv 3) (pv 7) (fun _ _ => rfl))) rfl))
    (pss_cons (by exact (ps_fld (pv 0) (pe_call GB hr1 rfl mB FB.kp bB .nil pass0 (pa_cons (pe_fld (pv 0) rfl) pa_nil)) rfl))
    (pss_one (by exact (ps_fld (pv 0) (pe_call GG hr1 rfl mG FG.kp bG .nil pass0 (pa_cons (pe_fld (pv 0) rfl) (pa_cons (pe_fld (pv 0) rfl) pa_nil))) rfl)))))))))), ?_⟩
  refine ⟨_, rfl, hh, rfl, .inr (.inr (.inl ⟨ss, sh, hne, hl, good, fun H1 e1 => ?_⟩))⟩
  refine ⟨_, rfl, _, rfl, hh, r, ss, rfl, sh.ext e1, good, hl, .inr ⟨vs, rs, [], by rw [List.append_nil]; exact sr.ext e1, paired_imp (fun _ _ q => SeqV.ext q e1) pr, ends, forest, .inl ⟨rfl, hrl, fun H2 e2' => ?_⟩⟩⟩
  have e2 := e1.trans e2'
  refine ⟨_, rfl, _, rfl, hh, g, ss.map V.str, rfl, sh.ext e2, .inr (.inl ⟨ns, sg.ext e2, hn1, by rw [List.length_map]; exact hnl, fun H3 e3' => ?_⟩)⟩
  have e3 := e2.trans e3'
  have x3 := e3 _ _ hx
  have k3 : Kept x H H3 := Kept.same e3
  -- list(houses)
  obtain ⟨p1, rfl, q1⟩ := (sh.ext e3).sq (K := K)
  refine ⟨_, rfl, p1, _, rfl, q1, fun l1 hl1 => ?_⟩
  have n1 : l1 ≠ x := fun z => by rw [z, x3] at hl1; cases hl1
  have l1H : H l1 = none := e3.free hl1
  refine ⟨_, rfl, x, C, dx, [], rfl, (by rw [upd_ne n1.symm]; exact x3), T.cl, T.n1, (by decide), ?_⟩
  have k4 : Kept x H3 (upd (upd H3 l1 (.lst (ss.map V.str))) x (.ins C dx (putF "_houses" (.ref l1) []))) := (Kept.new hl1).trans Kept.upd
  have f1 : upd (upd H3 l1 (.lst (ss.map V.str))) x (.ins C dx (putF "_houses" (.ref l1) [])) l1 = some (.lst (ss.map V.str)) := by rw [upd_ne n1, upd_same]
  have x4 : upd (upd H3 l1 (.lst (ss.map V.str))) x (.ins C dx (putF "_houses" (.ref l1) [])) x = some (.ins C dx (putF "_houses" (.ref l1) [])) := upd_same
  generalize upd (upd H3 l1 (.lst (ss.map V.str))) x (.ins C dx (putF "_houses" (.ref l1) [])) = H4 at k4 f1 x4 ⊢
  have k04 := k3.trans k4
  have fr : ∀ {Hz : Hp} {l : Addr}, Kept x H Hz → Hz l = none → l ≠ x → H l = none := fun {Hz l} k n ne => by
    cases e : H l with
    | none => rfl
    | some o => rw [k _ _ ne e] at n; cases n
  -- the roads' pairs
  obtain ⟨p2, rfl, q2⟩ := sr.kept hx k04
  have sq2 : SqA K H4 p2 vs := q2.imp (fun h => SqL.of h) (fun h => SqT.of h)
  refine ⟨p2, _, rfl, sq2, fun J G wk hG l2 hl2 => ?_⟩
  have n2 : l2 ≠ x := fun z => by rw [z, x4] at hl2; cases hl2
  have lvs : vs.length = rs.length := pr.length
  refine lc_it wk (fun i Hc => Same H4 Hc ∧ ∃ qs, Hc l2 = some (.lst (qs.map V.ref)) ∧ Paired (TupP Hc) qs (rs.take i) ∧ (∀ z ∈ qs, H4 z = none ∧ z ≠ l2)) ⟨K1.Same.upd hl2, [], upd_same, .nil, fun z hz => absurd hz (by simp)⟩ (fun i Hc _ h => hG Hc fun o ho => h.1 _ _ ho) ?_ ?_
  · rintro i y Hc H' hi ⟨a1, qs, a2, a3, a4⟩ ⟨rfl, hy⟩
    rw [lvs] at hi
    obtain ⟨y', ey, py⟩ := paired_get (PairV.kept pr hx k04) hi
    have : y = y' := Option.some.inj (hy.symm.trans ey)
    subst this
    obtain ⟨py1, rfl, py2⟩ := SeqV.ext py a1
    refine ⟨py1, _, rfl, py2.imp (fun h => SqL.of h) (fun h => SqT.of h), rfl, _, _, rfl, _, _, rfl, rfl, rfl, ?_⟩
    unfold tYes
    refine iteT ?_
    refine ⟨_, rfl, _, rfl, (by show 2 ≤ sizeLine; decide), fun b hb => ?_⟩
    have bl : b ≠ l2 := fun z => by rw [z, a2] at hb; cases hb
    have lq : qs.length ≤ rs.length := by rw [a3.length, List.length_take]; omega
    have sb := K1.Same.upd (H := H') (p := b) (o := .tup [.str rs[i].1, .str rs[i].2]) hb
    refine ⟨qs.map V.ref, by rw [upd_ne bl.symm]; exact a2, by rw [List.length_map]; exact small1000 (by omega), ?_, qs ++ [b], by rw [upd_same, List.map_append]; rfl, ?_, fun z hz => ?_⟩
    · intro c o n
      rw [upd_ne (ne_of_none n hl2)]
      exact sb _ _ (a1 _ _ n)
    · have up2 : ∀ z o, z ≠ l2 → upd H' b (.tup [.str rs[i].1, .str rs[i].2]) z = some o → upd (upd H' b (.tup [.str rs[i].1, .str rs[i].2])) l2 (.lst (qs.map V.ref ++ [.ref b])) z = some o := fun z o n e => by rw [upd_ne n]; exact e
      rw [List.take_add_one, List.getElem?_eq_getElem hi]
      have pz : ∀ {as : List Addr} {bs : List (Str × Str)}, Paired (TupP H') as bs → (∀ z ∈ as, z ≠ l2) → Paired (TupP (upd (upd H' b (.tup [.str rs[i].1, .str rs[i].2])) l2 (.lst (qs.map V.ref ++ [.ref b])))) (as ++ [b]) (bs ++ [rs[i]]) := by
        intro as bs h
        induction h with
        | nil => intro _; exact .cons (up2 _ _ bl upd_same) .nil
        | cons f1 f2 ih =>
          intro nz
          exact .cons (up2 _ _ (nz _ (List.mem_cons_self ..)) (sb _ _ f1)) (ih fun z hz => nz z (List.mem_cons_of_mem _ hz))
      exact pz a3 fun z hz => (a4 z hz).2
    · rcases List.mem_append.mp hz with hz | hz
      · exact a4 z hz
      · rw [List.mem_singleton.mp hz]
        exact ⟨a1.free hb, bl⟩
  rintro H5 ⟨e5, qs, a2, a3, a4⟩
  rw [lvs, List.take_length] at a3
  have x5 := e5 _ _ x4
  refine ⟨_, rfl, x, C, dx, _, rfl, x5, T.cl, T.n2, (Nat.lt_of_le_of_lt (length_putF _ _ _) (by decide)), ?_⟩
  have k5 : Kept x H (upd H5 x (.ins C dx (putF "_roads" (.ref l2) (putF "_houses" (.ref l1) [])))) := (k04.trans (Kept.same e5)).trans Kept.upd
  have up5 : ∀ z o, z ≠ x → H5 z = some o → upd H5 x (.ins C dx (putF "_roads" (.ref l2) (putF "_houses" (.ref l1) []))) z = some o := fun z o n e => by rw [upd_ne n]; exact e
  have g1 := up5 _ _ n1 (e5 _ _ f1)
  have g2 := up5 _ _ n2 a2
  have nq : ∀ z ∈ qs, z ≠ x := fun z hz e => by rw [e] at hz; rw [(a4 x hz).1] at x4; cases x4
  have pq : ∀ {Hz : Hp}, Kept x H5 Hz → Paired (TupP Hz) qs rs := fun {Hz} k => by
    have : ∀ {as : List Addr} {bs : List (Str × Str)}, Paired (TupP H5) as bs → (∀ z ∈ as, z ≠ x) → Paired (TupP Hz) as bs := by
      intro as bs h
      induction h with
      | nil => intro _; exact .nil
      | cons f1 f2 ih => intro nz; exact .cons (k _ _ (nz _ (List.mem_cons_self ..)) f1) (ih fun z hz => nz z (List.mem_cons_of_mem _ hz))
    exact this a3 nq
  have k56 : Kept x H5 (upd H5 x (.ins C dx (putF "_roads" (.ref l2) (putF "_houses" (.ref l1) [])))) := Kept.upd
  have x6 : upd H5 x (.ins C dx (putF "_roads" (.ref l2) (putF "_houses" (.ref l1) []))) x = some (.ins C dx (putF "_roads" (.ref l2) (putF "_houses" (.ref l1) []))) := upd_same
  generalize upd H5 x (.ins C dx (putF "_roads" (.ref l2) (putF "_houses" (.ref l1) []))) = H6 at k5 g1 g2 k56 x6 ⊢
  clear up5
  -- list(heads)
  obtain ⟨p3, rfl, q3⟩ := (sg.kept hx k5).sq (K := K)
  refine ⟨_, rfl, p3, _, rfl, q3, fun l3 hl3 => ?_⟩
  have n3 : l3 ≠ x := fun z => by rw [z, x6] at hl3; cases hl3
  refine ⟨_, rfl, x, C, dx, _, rfl, (by rw [upd_ne n3.symm]; exact x6), T.cl, T.n3, (Nat.lt_of_le_of_lt (Nat.le_trans (length_putF _ _ _) (Nat.succ_le_succ (length_putF _ _ _))) (by decide)), ?_⟩
  have k67 : Kept x H6 (upd (upd H6 l3 (.lst (ns.map V.int))) x (.ins C dx (putF "_heads" (.ref l3) (putF "_roads" (.ref l2) (putF "_houses" (.ref l1) []))))) := (Kept.new hl3).trans Kept.upd
  have g3 : upd (upd H6 l3 (.lst (ns.map V.int))) x (.ins C dx (putF "_heads" (.ref l3) (putF "_roads" (.ref l2) (putF "_houses" (.ref l1) [])))) l3 = some (.lst (ns.map V.int)) := by rw [upd_ne n3, upd_same]
  have x7 : upd (upd H6 l3 (.lst (ns.map V.int))) x (.ins C dx (putF "_heads" (.ref l3) (putF "_roads" (.ref l2) (putF "_houses" (.ref l1) [])))) x = some (.ins C dx (putF "_heads" (.ref l3) (putF "_roads" (.ref l2) (putF "_houses" (.ref l1) [])))) := upd_same
  have l3H : H l3 = none := fr k5 hl3 n3
  generalize upd (upd H6 l3 (.lst (ns.map V.int))) x (.ins C dx (putF "_heads" (.ref l3) (putF "_roads" (.ref l2) (putF "_houses" (.ref l1) [])))) = H7 at k67 g3 x7 ⊢
  have k07 := k5.trans k67
  -- the people
  obtain ⟨p1', e1', q1'⟩ := sh.kept hx k07
  cases e1'
  obtain ⟨p3', e3'', q3'⟩ := sg.kept hx k07
  cases e3''
  have sq7 : SqA K H7 p1 (ss.map V.str) := q1'.imp (fun h => SqL.of h) (fun h => SqT.of h)
  refine ⟨p1, _, rfl, sq7, fun J G wk hG D hD => ?_⟩
  have nD : D ≠ x := fun z => by rw [z, x7] at hD; cases hD
  refine dc_it wk (fun i Hc => Same H7 Hc ∧ Hc D = some (.dK (peo (ss.take i) ns))) ⟨K1.Same.upd hD, upd_same⟩ (fun i Hc _ h => hG Hc fun o ho => h.1 _ _ ho) ?_ ?_
  · rintro i y Hc H' hi ⟨b1, b2⟩ ⟨Tp, x1, x2, rfl, hT, rfl, ex1, ex2⟩
    rw [List.length_map] at hi
    obtain rfl : x1 = .int (i : Nat) := (Option.some.inj ex1).symm
    have ex2 : (ss.map V.str)[i]? = some x2 := ex2
    rw [List.getElem?_map, List.getElem?_eq_getElem hi] at ex2
    obtain rfl : x2 = .str ss[i] := (Option.some.inj ex2).symm
    have hT2 := K1.Same.upd (H := Hc) (p := Tp) (o := .tup [.int (i : Nat), .str ss[i]]) hT
    refine ⟨Tp, _, rfl, SqT.of upd_same, rfl, _, _, rfl, _, _, rfl, rfl, rfl, ?_⟩
    unfold tYes
    refine iteT ?_
    have hi2 : i < ns.length := by omega
    have sv : SeqV (upd Hc Tp (.tup [.int (i : Nat), .str ss[i]])) (.ref p3) (ns.map V.int) := SeqV.ext (SeqV.ext ⟨p3, rfl, q3'⟩ b1) hT2
    refine ⟨_, rfl, _, rfl, _, rfl, ixA sv (atI_nat (j := i) (v := .int ns[i]) (by rw [List.getElem?_map, List.getElem?_eq_getElem hi2]; rfl)) ?_⟩
    have pl : (peo (ss.take i) ns).length ≤ 1000 := by
      unfold peo
      rw [List.length_map, List.length_zip, List.length_take]
      omega
    refine ⟨_, .inr ss[i], rfl, hT2 _ _ b2, small1000 pl, fun c o n => ?_, ?_⟩
    · rw [upd_ne (ne_of_none n hD)]
      exact hT2 _ _ (b1 _ _ n)
    · rw [upd_same, putK_new _ (peo_none fun z => nodup_take_not good.1 hi z), peo_succ hi hi2]
  rintro H8 ⟨e8, pe8⟩
  rw [List.length_map, List.take_length] at pe8
  have x8 := e8 _ _ x7
  refine ⟨_, rfl, x, C, dx, _, rfl, x8, T.cl, T.n4, (Nat.lt_of_le_of_lt (Nat.le_trans (length_putF _ _ _) (Nat.succ_le_succ (Nat.le_trans (length_putF _ _ _) (Nat.succ_le_succ (length_putF _ _ _))))) (by decide)), ?_⟩
  have k79 : Kept x H7 (upd H8 x (.ins C dx (putF "_people" (.ref D) (putF "_heads" (.ref l3) (putF "_roads" (.ref l2) (putF "_houses" (.ref l1) [])))))) := (Kept.same e8).trans Kept.upd
  have x9 : upd H8 x (.ins C dx (putF "_people" (.ref D) (putF "_heads" (.ref l3) (putF "_roads" (.ref l2) (putF "_houses" (.ref l1) []))))) x = some (.ins C dx (putF "_people" (.ref D) (putF "_heads" (.ref l3) (putF "_roads" (.ref l2) (putF "_houses" (.ref l1) []))))) := upd_same
  have pe9 : upd H8 x (.ins C dx (putF "_people" (.ref D) (putF "_heads" (.ref l3) (putF "_roads" (.ref l2) (putF "_houses" (.ref l1) []))))) D = some (.dK (peo ss ns)) := by rw [upd_ne nD]; exact pe8
  generalize upd H8 x (.ins C dx (putF "_people" (.ref D) (putF "_heads" (.ref l3) (putF "_roads" (.ref l2) (putF "_houses" (.ref l1) []))))) = H9 at k79 x9 pe9 ⊢
  have k69 := k67.trans k79
  have k59 := k56.trans k69
  have o2 := k69 _ _ n2 g2
  have p9 := pq k59
  have lk2 : (putF "_people" (V.ref D) (putF "_heads" (.ref l3) (putF "_roads" (.ref l2) (putF "_houses" (.ref l1) [])))).lookup ("_roads" : Str) = some (.ref l2) := by
    rw [lookup_putF, if_neg (by decide +kernel), lookup_putF, if_neg (by decide +kernel), lookup_putF, if_pos rfl]
  refine ⟨_, rfl, x, C, dx, _, _, rfl, x9, T.cl, T.n2, lk2, l2, qs, rs, rfl, o2, p9, forest, by omega, fun r1 kv1 H10 e10 nr1 hr1' pl1 ll1 => ?_⟩
  have x10 := e10 _ _ x9
  refine ⟨_, rfl, x, C, dx, _, rfl, x10, T.cl, T.n5, (Nat.lt_of_le_of_lt (Nat.le_trans (length_putF _ _ _) (Nat.succ_le_succ (Nat.le_trans (length_putF _ _ _) (Nat.succ_le_succ (Nat.le_trans (length_putF _ _ _) (Nat.succ_le_succ (length_putF _ _ _))))))) (by decide)), ?_⟩
  have k911 : Kept x H9 (upd H10 x (.ins C dx (putF "_places" (.ref r1) (putF "_people" (.ref D) (putF "_heads" (.ref l3) (putF "_roads" (.ref l2) (putF "_houses" (.ref l1) []))))))) := (Kept.same e10).trans Kept.upd
  have x11 : upd H10 x (.ins C dx (putF "_places" (.ref r1) (putF "_people" (.ref D) (putF "_heads" (.ref l3) (putF "_roads" (.ref l2) (putF "_houses" (.ref l1) [])))))) x = some (.ins C dx (putF "_places" (.ref r1) (putF "_people" (.ref D) (putF "_heads" (.ref l3) (putF "_roads" (.ref l2) (putF "_houses" (.ref l1) [])))))) := upd_same
  have pl11 : upd H10 x (.ins C dx (putF "_places" (.ref r1) (putF "_people" (.ref D) (putF "_heads" (.ref l3) (putF "_roads" (.ref l2) (putF "_houses" (.ref l1) [])))))) r1 = some (.dT kv1) := by rw [upd_ne fun z => by rw [z, x9] at nr1; cases nr1]; exact hr1'
  generalize upd H10 x (.ins C dx (putF "_places" (.ref r1) (putF "_people" (.ref D) (putF "_heads" (.ref l3) (putF "_roads" (.ref l2) (putF "_houses" (.ref l1) [])))))) = H11 at k911 x11 pl11 ⊢
  have k6_11 := k69.trans k911
  have k5_11 := k56.trans k6_11
  have lk1 : (putF "_places" (V.ref r1) (putF "_people" (V.ref D) (putF "_heads" (.ref l3) (putF "_roads" (.ref l2) (putF "_houses" (.ref l1) []))))).lookup ("_houses" : Str) = some (.ref l1) := by
    rw [lookup_putF, if_neg (by decide +kernel), lookup_putF, if_neg (by decide +kernel), lookup_putF, if_neg (by decide +kernel), lookup_putF, if_neg (by decide +kernel), lookup_putF, if_pos rfl]
  have lk2' : (putF "_places" (V.ref r1) (putF "_people" (V.ref D) (putF "_heads" (.ref l3) (putF "_roads" (.ref l2) (putF "_houses" (.ref l1) []))))).lookup ("_roads" : Str) = some (.ref l2) := by
    rw [lookup_putF, if_neg (by decide +kernel)]
    exact lk2
  refine ⟨_, rfl, x, C, dx, _, _, rfl, x11, T.cl, T.n1, lk1, _, rfl, x, C, dx, _, _, rfl, x11, T.cl, T.n2, lk2', l1, l2, ss, qs, rs, rfl, k6_11 _ _ n1 g1, hl, good.1, k6_11 _ _ n2 g2, pq k5_11, ends, by omega, fun r2 kv2 H12 e12 nr2 hr2' ll2 nb2 => ?_⟩
  have x12 := e12 _ _ x11
  refine ⟨_, rfl, x, C, dx, _, rfl, x12, T.cl, T.n6, (Nat.lt_of_le_of_lt (Nat.le_trans (length_putF _ _ _) (Nat.succ_le_succ (Nat.le_trans (length_putF _ _ _) (Nat.succ_le_succ (Nat.le_trans (length_putF _ _ _) (Nat.succ_le_succ (Nat.le_trans (length_putF _ _ _) (Nat.succ_le_succ (length_putF _ _ _))))))))) (by decide)), ?_⟩
  have k11_13 : Kept x H11 (upd H12 x (.ins C dx (putF "_beside" (.ref r2) (putF "_places" (.ref r1) (putF "_people" (.ref D) (putF "_heads" (.ref l3) (putF "_roads" (.ref l2) (putF "_houses" (.ref l1) [])))))))) := (Kept.same e12).trans Kept.upd
  have k6_13 := k6_11.trans k11_13
  obtain ⟨bs, hbs⟩ := choose_at nb2
  have d1x : D ≠ x := nD
  have d2x : r1 ≠ x := fun z => by rw [z, x9] at nr1; cases nr1
  have d3x : r2 ≠ x := fun z => by rw [z, x11] at nr2; cases nr2
  have bsx : ∀ s ∈ ss, bs s ≠ x := fun s hs z => by
    have := (hbs s hs).2.1
    rw [z, x11] at this
    cases this
  have k0_11 : Kept x H H11 := k5.trans k6_11
  refine q _ l1 l2 l3 D r1 r2 qs bs (k5.trans k6_13) ⟨⟨dx, _, upd_same, ?_, ?_, ?_, ?_, ?_, ?_, fun m m1 m2 m3 m4 m5 m6 => ?_⟩, k6_13 _ _ n1 g1, k6_13 _ _ n2 g2, pq (k56.trans k6_13), (k79.trans (k911.trans k11_13)) _ _ n3 g3, ?_, ⟨kv1, ?_, pl1, ll1⟩, ⟨kv2, ?_, ll2, fun s hs => (hbs s hs).1⟩, fun s hs => ?_⟩
    ⟨l1H, fr k04 hl2 n2, l3H, fr k07 hD nD, fr (k5.trans k69) nr1 d2x, fr k0_11 nr2 d3x, fun z hz => fr k04 (a4 z hz).1 (nq z hz), fun s hs => fr k0_11 (hbs s hs).2.1 (bsx s hs)⟩
  · rw [lookup_putF, if_neg (by decide +kernel)]
    exact lk1
  · rw [lookup_putF, if_neg (by decide +kernel)]
    exact lk2'
  · rw [lookup_putF, if_neg (by decide +kernel), lookup_putF, if_neg (by decide +kernel), lookup_putF, if_neg (by decide +kernel), lookup_putF, if_pos rfl]
  · rw [lookup_putF, if_neg (by decide +kernel), lookup_putF, if_neg (by decide +kernel), lookup_putF, if_pos rfl]
  · rw [lookup_putF, if_neg (by decide +kernel), lookup_putF, if_pos rfl]
  · rw [lookup_putF, if_pos rfl]
  · rw [lookup_putF, if_neg m6, lookup_putF, if_neg m5, lookup_putF, if_neg m4, lookup_putF, if_neg m3, lookup_putF, if_neg m2, lookup_putF, if_neg m1]
    rfl
  · exact (k911.trans k11_13) _ _ d1x pe9
  · exact k11_13 _ _ d2x pl11
  · rw [upd_ne d3x]
    exact hr2'
  · rw [upd_ne (bsx s hs)]
    exact (hbs s hs).2.2
end
end K1
end
-- KFun
section
set_option Elab.async false
set_option linter.all false
set_option maxRecDepth 100000
set_option maxHeartbeats 4000000
/-! isinstance of a def -/
namespace K1F
open PySem
theorem slotGa : Slot "function" "__getattribute__" "object.__getattribute__" :=
  .of (owner := "object") (n := "__getattribute__") (by rw [typeLookup_type, builtinLookup_eq_fast]; kernel_rfl) (by decide +kernel) (by decide +kernel) (by decide +kernel)
    (by first | exact .inl (by decide +kernel) | exact .inr (by decide +kernel)) (by rw [isSubtype_type]; kernel_rfl)
theorem entryGa : entryFor table "object.__getattribute__" = some Builtin.«object.__getattribute__» := entryFor_of_tree (by kernel_rfl)
theorem lkClass : typeLookup (.type "function") "__class__" = pure (some (.builtin "object.__class__")) := by rw [typeLookup_type, builtinLookup_eq_fast]; kernel_rfl
theorem ownClass : isSubtype (.type "function") (.type (".".intercalate ("object.__class__".cutAt '.').dropLast)) = pure true := by
  rw [F.owner_object_class, isSubtype_type]; kernel_rfl
theorem argsGa (a b : Value) : argsOk "object.__getattribute__" ⟨[a, b], []⟩ := by
  unfold argsOk; kernel_rfl
section
variable {prog : Program} {w : World} {A : Around} {E : Value → Shared → Prop} {h : Heap} {g : Array GenState} {d : Drawn} {t : Nat} {os : OsState} {a : Addr} {o : Obj}
theorem fnGet {R : Result → Shared → Prop} (hx : h.get? a = some o) (hc : o.cls = .type "function") (hq : R (.ok (.ret (.type "function"))) ⟨h, g, d, t, os⟩) :
    codeAny (model prog w) A (.call (.builtin "getset_descriptor.__get__") ⟨[.builtin "object.__class__", .ref a, .type "function"], []⟩) R ⟨h, g, d, t, os⟩ := by
  have z1 : (⟨h, g, d, t, os⟩ : Shared).TypeIs (.ref a) "function" := ⟨_, hx, hc⟩
  have z2 : (⟨h, g, d, t, os⟩ : Shared).TypeIs (.builtin "object.__class__") "getset_descriptor" := F.typeOf_object_class
  have z3 := ownClass
  refine codeAny_call_builtin F.slot_gs_get.plain F.entry_gs_get (F.slot_gs_get.check _ _ _ _ _ _ _ _ z2 (F.args_gs_get _ _ _) ?_)
  repeat (any_goals (first | assumption | wp_step))
  refine ⟨Code.quiet_builtin _ (by decide +kernel), codeAny_builtin F.entry_object_class ?_⟩
  repeat (any_goals (first | assumption | wp_step))
theorem fnEntry {tk : Tok} {Q : Fin → Shared → Prop} (hx : h.get? a = some o) (hc : o.cls = .type "function") (hq : Q (.done (.ret (.type "function"))) ⟨h, g, d, t, os⟩) :
    wpAny (model prog w) A (Builtin.«object.__getattribute__» ⟨[.ref a, .str "__class__" tk], []⟩) Q E ⟨h, g, d, t, os⟩ := by
  have z1 : (⟨h, g, d, t, os⟩ : Shared).TypeIs (.ref a) "function" := ⟨_, hx, hc⟩
  have z2 : (⟨h, g, d, t, os⟩ : Shared).TypeIs (.builtin "object.__class__") "getset_descriptor" := F.typeOf_object_class
  have z3 := lkClass
  have z4 := F.typeOf_object_class
  have z5 := F.slot_gs_get.lookup
  have z6 := F.slot_gs_set.lookup
  repeat (any_goals (first | assumption | wp_step))
  refine fnGet hx hc ?_
  repeat (any_goals (first | assumption | wp_step))
theorem fnCall {tk : Tok} {R : Result → Shared → Prop} (hx : h.get? a = some o) (hc : o.cls = .type "function") (hq : R (.ok (.ret (.type "function"))) ⟨h, g, d, t, os⟩) :
    codeAny (model prog w) A (.call (.builtin "object.__getattribute__") ⟨[.ref a, .str "__class__" tk], []⟩) R ⟨h, g, d, t, os⟩ :=
  codeAny_call_builtin slotGa.plain entryGa (slotGa.check _ _ _ _ _ _ _ _ (show (⟨h, g, d, t, os⟩ : Shared).TypeIs (.ref a) "function" from ⟨_, hx, hc⟩) (argsGa _ _) (fnEntry hx hc hq))
theorem fnBy {tk : Tok} {Q : Value → Shared → Prop} (hx : h.get? a = some o) (hc : o.cls = .type "function") (hq : Q (.type "function") ⟨h, g, d, t, os⟩) : wpAny (model prog w) A (getAttrBy (.ref a) (.str "__class__" tk) false) Q E ⟨h, g, d, t, os⟩ := by
  have z1 : (⟨h, g, d, t, os⟩ : Shared).TypeIs (.ref a) "function" := ⟨_, hx, hc⟩
  have z2 := slotGa.lookup
  have z3 := slotGa.bind (.ref a)
  repeat (any_goals (first | assumption | wp_step))
  refine fnCall hx hc ?_
  repeat (any_goals (first | assumption | wp_step))
theorem fnAttr {Q : Option Value → Shared → Prop} (hx : h.get? a = some o) (hc : o.cls = .type "function") (hq : Q (some (.type "function")) ⟨h, g, d, t + 1, os⟩) : wpAny (model prog w) A (getAttr? (.ref a) "__class__") Q E ⟨h, g, d, t, os⟩ := by
  unfold getAttr? getAttrBy?
  repeat (any_goals (first | assumption | with_reducible apply fnBy hx hc | wp_step))
end
theorem kitFn {K : PySem.W.Frag} {a : Addr} : PySem.W.KitX K (.ref a) (.type "function") (PySem.W.KitAt a "function") :=
  PySem.W.kitx_of PySem.W.kitAt_ty (fun {_ _ _ _ _ s} p k => by obtain ⟨h, g, d, t, os⟩ := s; obtain ⟨o, h1, h2⟩ := p; exact fnAttr h1 h2 k)
end K1F
end
-- KOwn
section
set_option Elab.async false
set_option linter.all false
set_option maxRecDepth 100000
set_option maxHeartbeats 4000000
/-! == and != by an own __eq__, whatever it says and whatever stands on the right; isinstance of a def -/
namespace K1
open PySem PySem.Spec PyProof.Rows L2
/-- as TyX, defs too -/
def TyF (K : PySem.W.Frag) (H : Hp) (x : V) (t : Value) : Prop := TyX K H x t ∨ ∃ f o, x = .ref f ∧ K.lookup f = some o ∧ o.cls = .type "function" ∧ t = .type "function"
section
variable {X : Cx} {pins : List (Addr × Obj)} {σ : L2.St} {H : Hp} {s : Shared}
theorem kit_ofF {x : V} {u t : Value} (I : Inv X pins σ H s) (rx : RelV x u) (ty : TyF X.K H x t) : ∃ P : Heap → Prop, PySem.W.KitX X.K u t P ∧ P s.heap ∧ u ≠ .builtin "__main__.__loader__#opaque" := by
  rcases ty with ty | ⟨f, o, rfl, hl, hc, rfl⟩
  · exact kit_of I rx ty
  · cases (show u = Value.ref f from rx)
    exact ⟨_, K1F.kitFn, ⟨o, I.kIn _ _ hl, hc⟩, fun z => nomatch z⟩
def rIsiF (K : PySem.W.Frag) : List V → Hp → VK → Prop := fun xs H Q => ∃ (x c : V) (t u : Value) (b : Bool), xs = [x, c] ∧ ClsV c u ∧ TyF K H x t ∧ PySem.W.kitOne K t u = some b ∧ Q (.bl b) H
theorem call_isiF : CallR X (.builtin "isinstance") (rIsiF X.K) := by
  intro pins s σ H xs us Q I r h
  obtain ⟨x, c, t, u, b, rfl, k, ty, e, q⟩ := h
  obtain ⟨u1, u2, rfl, r1, r2⟩ := vals2 r
  obtain rfl := ClsV.eq k r2
  obtain ⟨P, Z, p, hx⟩ := kit_ofF I r1 ty
  exact PySem.W.kia_one Z I.kIn p e hx fun tk => ⟨.bl b, H, I.tok tk, rfl, q⟩
/-- the own __eq__, called -/
theorem callOwn {CX : CXT} {f a : Addr} {fd : FuncData} {ps : List Str} {sp : Sp} {E : XK} {n : Nat} {A : Around} {y : V} {u : Value} {R : Bool → Hp → Prop} (F : FnOk X.prog X.w X.K X.mg X.base CX n f fd ps sp) (hb : L2.Binds X.K fd ps []) (hx : Passes CX X E)
    (hr : Room n A) (hfr : A.frames = X.A.frames) (I : Inv X pins σ H s) (ry : RelV y u) (hsp : sp [.ref a, y] H (fun v H' => ∃ b, v = .bl b ∧ R b H') E) :
    wpAny (model X.prog X.w) A (call (.ref f) [.ref a, u]) (fun r s' => ∃ b H', r = .bool b ∧ Inv X pins σ H' s' ∧ R b H') X.xe s := by
  have e0 : Env0 X.prog X.w X.K X.mg X.base A X.stack s H := by
    have e := I.env0
    exact ⟨by rw [hfr]; exact e.frames, e.mod, e.bs, e.bsz, e.funs, e.frf, e.hok, e.bare⟩
  have hl := F.len _ _ _ _ hsp
  have r2 : Vals [V.ref a, y] [Value.ref a, u] := .cons rfl (.cons ry .nil)
  refine wpAny_call (codeAny_mono (F.run A X.stack s H ⟨[.ref a, u], []⟩ [.ref a, u] [.ref a, y] _ E hr e0 (by
    have := hb s [.ref a, u] I.kIn (by simpa using hl)
    simpa using this) r2 hsp) fun r s' hq => ?_)
  cases r with
  | error e => exact hx pins σ H s e s' I hq
  | ok fl =>
    cases fl with
    | ret w =>
      obtain ⟨z, H', I', rz, b, ez, q⟩ := I.after hq
      subst ez
      cases rz
      exact ⟨b, H', rfl, I', q⟩
    | next => exact False.elim hq
    | brk => exact False.elim hq
    | cont => exact False.elim hq
def rOwn (K : PySem.W.Frag) (C : Addr) (sp : Sp) (E : XK) (g : Bool → Bool) : R2 := fun x y H Q => ∃ a dx fs t, x = .ref a ∧ H a = some (.ins C dx fs) ∧ TyF K H y t ∧ PySem.W.notFirst K C t = true ∧ sp [x, y] H (fun v H' => ∃ b, v = .bl b ∧ Q (.bl (g b)) H') E
theorem op_eqOwn {CX : CXT} {C f : Addr} {fd : FuncData} {ps : List Str} {sp : Sp} {E : XK} {n : Nat} (F : FnOk X.prog X.w X.K X.mg X.base CX n f fd ps sp)
    (hs : PySem.W.findIn X.K (.ref C) "__eq__" = some (some (.ref f))) (hf : PySem.W.isFn X.K (.ref f) = true) (hb : L2.Binds X.K fd ps []) (hx : Passes CX X E) (hr : Room n X.A) : OpR X (compareOp .Eq) (rOwn X.K C sp E id) := by
  intro pins s σ H x y v u Q I rx ry hq
  obtain ⟨a, dx, fs, t, rfl, ha, ty, nf, hsp⟩ := hq
  cases rx
  obtain ⟨mA, J, _⟩ := ins_get I.hok ha
  obtain ⟨od, J, _⟩ := J.look
  obtain ⟨P, Z, p, _⟩ := kit_ofF I ry ty
  obtain ⟨m, hF⟩ := I.fr
  show wpAny (model X.prog X.w) X.A (richCompare .Eq (.ref a) u) (EP X pins σ Q) X.xe s
  refine PySem.W.cmp_K (op := .Eq) (tb := t) hr.units0 hF I.ok.mod.kin J (Z.ty _ _ I.kIn p) nf hs hf ?_
  refine wpAny_mono (callOwn (R := fun b H' => Q (.bl b) H') F hb hx hr rfl I ry hsp) (fun r s' q => ?_) fun _ _ z => z
  obtain ⟨b, H', rfl, I', q⟩ := q
  exact ⟨.bl b, H', I', rfl, q⟩
theorem op_neOwn {CX : CXT} {C f : Addr} {fd : FuncData} {ps : List Str} {sp : Sp} {E : XK} {n : Nat} (F : FnOk X.prog X.w X.K X.mg X.base CX n f fd ps sp)
    (hs : PySem.W.findIn X.K (.ref C) "__eq__" = some (some (.ref f))) (hn : PySem.W.findIn X.K (.ref C) "__ne__" = some (some (.builtin "object.__ne__"))) (hob : PySem.W.mroIn X.K C (.type "object") = some true)
    (hf : PySem.W.isFn X.K (.ref f) = true) (hb : L2.Binds X.K fd ps []) (hx : Passes CX X E) (hr : Room (n + 1) X.A) : OpR X (compareOp .NotEq) (rOwn X.K C sp E not) := by
  intro pins s σ H x y v u Q I rx ry hq
  obtain ⟨a, dx, fs, t, rfl, ha, ty, nf, hsp⟩ := hq
  cases rx
  obtain ⟨mA, J, _⟩ := ins_get I.hok ha
  obtain ⟨od, J, _⟩ := J.look
  obtain ⟨P, Z, p, _⟩ := kit_ofF I ry ty
  have hy := Z.ty (model X.prog X.w) _ I.kIn p
  have sp1 : PySem.W.Looks (model X.prog X.w) s.heap (specialOf (.ref a) "__ne__") (some (.builtin "object.__ne__")) := J.type.andThen (PySem.W.looks_findIn I.kIn hn)
  have inst : PySem.W.Looks (model X.prog X.w) s.heap (isInstance (.ref a) (.type "object")) true := J.type.andThen (PySem.W.looks_mroIn I.kIn hob)
  have one : wpAny (model X.prog X.w) X.A (tryCompare (.ref a) "__ne__" u) (fun r s' => ∃ b H', r = some (.bool (!b)) ∧ Inv X pins σ H' s' ∧ Q (.bl (!b)) H') X.xe s := by
    unfold tryCompare
    refine wpAny_bind (NtL.csib sp1 (PySem.F.cmp_object.ne.bind _) ?_)
    refine wpAny_call (codeAny_call_builtin PySem.F.cmp_object.ne.plain PySem.F.cmpEntry_ne (@PySem.W.check_slot (model X.prog X.w) _ _ _ "object.__ne__" "object" "__ne__" (.ref a) [u] [] _ PySem.F.cmpKind_ne PySem.F.cmpSplit_ne inst (PySem.F.cmpArgs_ne _ _) ?_))
    unfold Builtin.«object.__ne__»
    have hr1 : Room n X.A.in1 := hr.in1
    show wpAny (model X.prog X.w) X.A.in1 (do
      cRoomFor "comparison" [.ref a, u]
      match ← callSpecialIfBound? (.ref a) "__eq__" [u] with
      | some .notImplemented | none => ret .notImplemented
      | some r => ret (.bool (!(← truthy r)))) _ _ s
    refine wpAny_bind (wpAny_cRoomFor hr1.units0 ?_)
    refine wpAny_bind (PySem.W.ifBound_K I.kIn J hs hf (wpAny_mono (callOwn (R := fun b H' => Q (.bl (!b)) H') F hb hx hr1 rfl I ry hsp) (fun r s' q => ?_) fun _ _ z => z))
    obtain ⟨b, H', rfl, I', q⟩ := q
    cases b
    · exact wpAny_pure (wpAny_pure ⟨false, H', rfl, I', q⟩)
    · exact wpAny_pure (wpAny_pure ⟨true, H', rfl, I', q⟩)
  show wpAny (model X.prog X.w) X.A (richCompare .NotEq (.ref a) u) (EP X pins σ Q) X.xe s
  unfold richCompare
  simp only [oneThing_ref]
  refine wpAny_holding (wpAny_bind (wpAny_cRoomFor hr.units0 ?_))
  refine wpAny_bind (J.type.here (wpAny_bind (hy.here ?_)))
  split
  · rename_i q
    have e : PySem.W.subIn X.K t (.ref C) = some false := by
      rcases Bool.or_eq_true_iff.mp nf with e | e
      · rw [beq_iff_eq.mp e] at q; simp at q
      · exact beq_iff_eq.mp e
    refine wpAny_bind ((PySem.W.looks_subIn I.kIn e).here ?_)
    simp only [Bool.false_eq_true, if_false]
    refine wpAny_bind (wpAny_mono one (fun r s' z => ?_) fun _ _ e => e)
    obtain ⟨b, H', rfl, I', hq⟩ := z
    exact wpAny_pure ⟨.bl _, H', I', rfl, hq⟩
  · refine wpAny_bind (wpAny_pure ?_)
    simp only [Bool.false_eq_true, if_false]
    refine wpAny_bind (wpAny_mono one (fun r s' z => ?_) fun _ _ e => e)
    obtain ⟨b, H', rfl, I', hq⟩ := z
    exact wpAny_pure ⟨.bl _, H', I', rfl, hq⟩
end
end K1
end
-- KEq
section
set_option Elab.async false
set_option linter.all false
set_option maxRecDepth 100000
set_option maxHeartbeats 4000000
namespace K1
open PySem PySem.Spec PyProof.Rows L2
abbrev sVE : Stmt := inClass (top 21) 1
abbrev sVH : Stmt := inClass (top 21) 2
abbrev sVR : Stmt := inClass (top 21) 3
abbrev sVD : Stmt := inClass (top 21) 4
def dN (ss : List Str) : PyData := .list (ss.map PyData.str)
def dR (rs : List (Str × Str)) : PyData := .list (rs.map fun r => .tuple [.str r.1, .str r.2])
def dI (ns : List Int) : PyData := .list (ns.map PyData.int)
theorem eqvAll_map {α : Type} [DecidableEq α] {f : α → PyData} (h : ∀ a b, PyData.eqv (f a) (f b) = decide (a = b)) : ∀ xs ys : List α, PyData.eqvAll (xs.map f) (ys.map f) = decide (xs = ys)
  | [], [] => rfl
  | [], _ :: _ => rfl
  | _ :: _, [] => rfl
  | x :: xs, y :: ys => by
    show (PyData.eqv (f x) (f y) && PyData.eqvAll (xs.map f) (ys.map f)) = _
    rw [h, eqvAll_map h xs ys, ← Bool.decide_and]
    exact decide_eq_decide.mpr (by rw [List.cons.injEq])
theorem eqv_str (a b : Str) : PyData.eqv (.str a) (.str b) = decide (a = b) := by
  show (a == b) = _
  by_cases e : a = b
  · rw [decide_eq_true e, e]; exact beq_self_eq_true b
  · rw [decide_eq_false e]; exact beq_eq_false_iff_ne.mpr e
theorem eqv_int (a b : Int) : PyData.eqv (.int a) (.int b) = decide (a = b) := by
  show (a == b) = _
  by_cases e : a = b
  · rw [decide_eq_true e, e]; exact beq_self_eq_true b
  · rw [decide_eq_false e]; exact beq_eq_false_iff_ne.mpr e
theorem eqv_pair (a b : Str × Str) : PyData.eqv (.tuple [.str a.1, .str a.2]) (.tuple [.str b.1, .str b.2]) = decide (a = b) := by
  show (PyData.eqv (.str a.1) (.str b.1) && (PyData.eqv (.str a.2) (.str b.2) && true)) = _
  rw [eqv_str, eqv_str, Bool.and_true, ← Bool.decide_and]
  exact decide_eq_decide.mpr (by rw [Prod.ext_iff])
theorem eqv_dN (a b : List Str) : PyData.eqv (dN a) (dN b) = decide (a = b) := eqvAll_map eqv_str a b
theorem eqv_dR (a b : List (Str × Str)) : PyData.eqv (dR a) (dR b) = decide (a = b) := eqvAll_map eqv_pair a b
theorem eqv_dI (a b : List Int) : PyData.eqv (dI a) (dI b) = decide (a = b) := eqvAll_map eqv_int a b
theorem strOk_of {s : Str} (h : nameOk s = true) : PyData.strOk s = true := by
  unfold nameOk at h
  have h2 := (Bool.and_eq_true_iff.mp (Bool.and_eq_true_iff.mp (Bool.and_eq_true_iff.mp h).2).2).2
  unfold PyData.strOk
  rw [← Array.all_toList]
  rw [List.all_eq_true] at h2 ⊢
  intro c hc
  have q := h2 c hc
  unfold okSign at q
  have l1 : ∀ c ∈ letters.cps.toList, c < 0x110000 := by decide +kernel
  have l2 : ∀ c ∈ figures.cps.toList, c < 0x110000 := by decide +kernel
  rcases Bool.or_eq_true_iff.mp q with q | q
  · exact decide_eq_true (l1 c (of_decide_eq_true q))
  · exact decide_eq_true (l2 c (of_decide_eq_true q))
theorem lay_map {α : Type} {f : α → PyData} : ∀ {xs : List α}, (∀ x ∈ xs, (f x).canLay0 = true) → PyData.canLayAll0 (xs.map f) = true
  | [], _ => rfl
  | x :: xs, h => by
    show ((f x).canLay0 && PyData.canLayAll0 (xs.map f)) = true
    rw [h x (List.mem_cons_self ..), lay_map fun y hy => h y (List.mem_cons_of_mem _ hy)]
    rfl
theorem dep_map {α : Type} {f : α → PyData} {n : Nat} : ∀ {xs : List α}, (∀ x ∈ xs, (f x).depth ≤ n) → PyData.depthAll (xs.map f) ≤ n
  | [], _ => Nat.zero_le _
  | x :: xs, h => by
    show max (f x).depth (PyData.depthAll (xs.map f)) ≤ n
    exact Nat.max_le.mpr ⟨h x (List.mem_cons_self ..), dep_map fun y hy => h y (List.mem_cons_of_mem _ hy)⟩
theorem shaped_list {α : Type} {f : α → PyData} {xs : List α} (h1 : ∀ x ∈ xs, (f x).canLay0 = true) (h2 : ∀ x ∈ xs, (f x).depth ≤ 5) : SeqAt.shaped (.list (xs.map f)) = true := by
  show (PyData.canLayAll0 (xs.map f) && decide (PyData.depthAll (xs.map f) + 1 ≤ 64)) = true
  have := dep_map h2
  rw [lay_map h1, decide_eq_true (by omega)]
  rfl
theorem shaped_dN {ss : List Str} (h : ∀ s ∈ ss, nameOk s = true) : SeqAt.shaped (dN ss) = true := shaped_list (fun s hs => strOk_of (h s hs)) (fun _ _ => by show 0 ≤ 5; decide)
theorem shaped_dI (ns : List Int) : SeqAt.shaped (dI ns) = true := shaped_list (fun _ _ => rfl) (fun _ _ => by show 0 ≤ 5; decide)
theorem shaped_dR {rs : List (Str × Str)} (h : ∀ r ∈ rs, nameOk r.1 = true ∧ nameOk r.2 = true) : SeqAt.shaped (dR rs) = true := shaped_list (fun r hr => by
  show (PyData.strOk r.1 && (PyData.strOk r.2 && true)) = true
  rw [strOk_of (h r hr).1, strOk_of (h r hr).2]
  rfl) (fun _ _ => by show max 0 (max 0 0) + 1 ≤ 5; decide)
theorem dpAll {α : Type} {K : PySem.W.Frag} {H : Hp} {f : α → V} {g : α → PyData} (h : ∀ x, Dp K H (f x) (g x)) : ∀ xs : List α, DpAll K H (xs.map f) (xs.map g)
  | [] => .nil
  | x :: xs => .cons (h x) (dpAll h xs)
theorem dp_dN {K : PySem.W.Frag} {H : Hp} {l : Addr} {ss : List Str} (h : H l = some (.lst (ss.map V.str))) : Dp K H (.ref l) (dN ss) := .lst (SqL.of h) (dpAll (fun s => .str s) ss)
theorem dp_dI {K : PySem.W.Frag} {H : Hp} {l : Addr} {ns : List Int} (h : H l = some (.lst (ns.map V.int))) : Dp K H (.ref l) (dI ns) := .lst (SqL.of h) (dpAll (fun s => .int s) ns)
theorem dp_dR {K : PySem.W.Frag} {H : Hp} {l : Addr} {qs : List Addr} {rs : List (Str × Str)} (h : H l = some (.lst (qs.map V.ref))) (p : Paired (TupP H) qs rs) : Dp K H (.ref l) (dR rs) := by
  refine .lst (SqL.of h) ?_
  clear h
  induction p with
  | nil => exact .nil
  | cons f1 f2 ih => exact .cons (.tup (SqT.of f1) (.cons (.str _) (.cons (.str _) .nil))) ih
/-- what the text says of Valley beyond its fields -/
structure VcE (K : PySem.W.Frag) (C : Addr) : Prop extends VcT K C where
  ha : PySem.W.findIn K (.ref C) "__class__" = some (some (.builtin "object.__class__"))
  hn : PySem.W.specialIn K (.builtin "object.__class__") "__get__" = some (some (.builtin "getset_descriptor.__get__"))
  htk : PySem.W.takesIn K (.builtin "object.__class__") = some true
  hm : PySem.W.mroIn K C (.type "object") = some true
  own : PySem.W.kitOne K (.ref C) (.ref C) = some true
  no : ∀ t ∈ kinds ++ ["function"], PySem.W.kitOne K (.type t) (.ref C) = some false
def GoodV (ss : List Str) (rs : List (Str × Str)) : Prop := (∀ s ∈ ss, nameOk s = true) ∧ EndsIn ss rs
theorem GoodV.roads {ss : List Str} {rs : List (Str × Str)} (g : GoodV ss rs) : ∀ r ∈ rs, nameOk r.1 = true ∧ nameOk r.2 = true := fun r hr => ⟨g.1 _ (g.2 r hr).1, g.1 _ (g.2 r hr).2⟩
def spVE (K : PySem.W.Frag) (C : Addr) : Sp := fun vs H Q _ => ∃ x l1 l2 l3 qs ss rs ns y, vs = [.ref x, y] ∧ ValI C H x l1 l2 l3 qs ss rs ns ∧ GoodV ss rs ∧
  ((∃ t, TyF K H y (.type t) ∧ t ∈ kinds ++ ["function"] ∧ Q (.bl false) H) ∨ (∃ z m1 m2 m3 qs' ss' rs' ns', y = .ref z ∧ ValI C H z m1 m2 m3 qs' ss' rs' ns' ∧ GoodV ss' rs' ∧ Q (.bl (decide (ss = ss' ∧ rs = rs' ∧ ns = ns'))) H))
theorem scVE : FnScope ["self", "other"] ["self", "other"] (defScope sVE) := ⟨rfl, rfl, rfl, by decide +kernel, rfl, by decide +kernel, by decide +kernel⟩
theorem scVH : FnScope ["self"] ["self"] (defScope sVH) := ⟨rfl, rfl, rfl, by decide +kernel, rfl, by decide +kernel, by decide +kernel⟩
theorem scVR : FnScope ["self"] ["self"] (defScope sVR) := ⟨rfl, rfl, rfl, by decide +kernel, rfl, by decide +kernel, by decide +kernel⟩
theorem scVD : FnScope ["self"] ["self"] (defScope sVD) := ⟨rfl, rfl, rfl, by decide +kernel, rfl, by decide +kernel, by decide +kernel⟩
def spVH (C : Addr) : Sp := fun vs H Q _ => ∃ x l1 l2 l3 qs ss rs ns, vs = [.ref x] ∧ ValI C H x l1 l2 l3 qs ss rs ns ∧ ∀ l, H l = none → Q (.ref l) (upd H l (.lst (ss.map V.str)))
def spVR (C : Addr) : Sp := fun vs H Q _ => ∃ x l1 l2 l3 qs ss rs ns, vs = [.ref x] ∧ ValI C H x l1 l2 l3 qs ss rs ns ∧ ∀ l, H l = none → Q (.ref l) (upd H l (.lst (qs.map V.ref)))
def spVD (C : Addr) : Sp := fun vs H Q _ => ∃ x l1 l2 l3 qs ss rs ns, vs = [.ref x] ∧ ValI C H x l1 l2 l3 qs ss rs ns ∧ ∀ l, H l = none → Q (.ref l) (upd H l (.lst (ns.map V.int)))
section
variable {P : Program} {w : World} {K : PySem.W.Frag} {mg : Str → Option Value} {base : Heap} {C : Addr}
theorem ok_VE {f : Addr} {fd : FuncData} (F : Fun K "__eq__" "Valley.__eq__" sVE f fd) (B : Bl mg) (T : VcE K C) (mV : mg "Valley" = some (.ref C)) : FnOk P w K mg base CX0 1 f fd ["self", "other"] (spVE K C) := by
  refine F.ok scVE (fun vs H Q E h => ?_) (fun cdv A outer s H vs Q E hr h => ?_)
  · obtain ⟨x, l1, l2, l3, qs, ss, rs, ns, y, rfl, _⟩ := h
    rfl
  obtain ⟨x, l1, l2, l3, qs, ss, rs, ns, y, rfl, vx, gx, h⟩ := h
  have hu := hr.units
  refine ⟨_, pss_cons (by exact (ps_if (pt_not (pt_val (pe_callB call_isiF rfl B.isi PyProof.Rows.boot_isinstance (pa_cons (pv 1) (pa_cons (pe_glob (v := .ref C) rfl mV rfl) pa_nil)))))
      (pss_one (ps_ret pe_bl)) pss_nil))
    (pss_one (by exact (ps_ret (pe_and (pe_cmpR (op_eqD hu) (pe_fld (pv 0) rfl) (pe_fld (pv 1) rfl) (nomark _)) (pe_and (pe_cmpR (op_eqD hu) (pe_fld (pv 0) rfl) (pe_fld (pv 1) rfl) (nomark _)) (pe_one (pe_cmpR (op_eqD hu) (pe_fld (pv 0) rfl) (pe_fld (pv 1) rfl) (nomark _)))))))), ?_⟩
  rcases h with ⟨t, ty, kt, q⟩ | ⟨z, m1, m2, m3, qs', ss', rs', ns', rfl, vz, gz, q⟩
  · exact ⟨_, rfl, y, _, _, _, _, rfl, .own C, ty, T.no t kt, _, rfl, iteT q⟩
  · obtain ⟨dz, fz, iz, z1, z2, z3, _⟩ := vz.ins
    obtain ⟨dx, fx, ix, x1, x2, x3, _⟩ := vx.ins
    refine ⟨_, rfl, .ref z, _, _, _, _, rfl, .own C, .inl (.base (.ins iz T.cl T.ha T.hn T.htk T.hm)), T.own, _, rfl, iteF ?_⟩
    refine ⟨_, rfl, x, C, dx, fx, _, rfl, ix, T.cl, T.n1, x1, _, rfl, z, C, dz, fz, _, rfl, iz, T.cl, T.n1, z1, dN ss, dN ss', dp_dN vx.h1, dp_dN vz.h1, shaped_dN gx.1, shaped_dN gz.1, _, rfl, ?_⟩
    rw [eqv_dN]
    by_cases e1 : ss = ss'
    · rw [decide_eq_true e1]
      refine iteT ⟨_, rfl, x, C, dx, fx, _, rfl, ix, T.cl, T.n2, x2, _, rfl, z, C, dz, fz, _, rfl, iz, T.cl, T.n2, z2, dR rs, dR rs', dp_dR vx.h2 vx.pr, dp_dR vz.h2 vz.pr, shaped_dR gx.roads, shaped_dR gz.roads, _, rfl, ?_⟩
      rw [eqv_dR]
      by_cases e2 : rs = rs'
      · rw [decide_eq_true e2]
        refine iteT ⟨_, rfl, x, C, dx, fx, _, rfl, ix, T.cl, T.n3, x3, _, rfl, z, C, dz, fz, _, rfl, iz, T.cl, T.n3, z3, dI ns, dI ns', dp_dI vx.h3, dp_dI vz.h3, shaped_dI ns, shaped_dI ns', ?_⟩
        rw [eqv_dI]
        have e : decide (ss = ss' ∧ rs = rs' ∧ ns = ns') = decide (ns = ns') := decide_eq_decide.mpr ⟨fun h => h.2.2, fun h => ⟨e1, e2, h⟩⟩
        rw [e] at q
        exact q
      · rw [decide_eq_false e2]
        rw [decide_eq_false (fun h => e2 h.2.1)] at q
        exact iteF q
    · rw [decide_eq_false e1]
      rw [decide_eq_false (fun h => e1 h.1)] at q
      exact iteF q
theorem ok_VH {f : Addr} {fd : FuncData} (F : Fun K "houses" "Valley.houses" sVH f fd) (B : Bl mg) (T : VcE K C) : FnOk P w K mg base CX0 1 f fd ["self"] (spVH C) := by
  refine F.ok scVH (fun vs H Q E h => ?_) (fun cdv A outer s H vs Q E hr h => ?_)
  · obtain ⟨x, l1, l2, l3, qs, ss, rs, ns, rfl, _⟩ := h
    rfl
  obtain ⟨x, l1, l2, l3, qs, ss, rs, ns, rfl, vx, q⟩ := h
  obtain ⟨dx, fx, ix, x1, x2, x3, _⟩ := vx.ins
  refine ⟨_, pss_one (by exact (ps_ret (pe_callTy call_list_of rfl B.list PyProof.Rows.boot_list (pa_cons (pe_fld (pv 0) rfl) pa_nil)))), ?_⟩
  exact ⟨_, rfl, x, C, dx, fx, _, rfl, ix, T.cl, T.n1, x1, l1, _, rfl, .inl (SqL.of vx.h1), q⟩
theorem ok_VR {f : Addr} {fd : FuncData} (F : Fun K "roads" "Valley.roads" sVR f fd) (B : Bl mg) (T : VcE K C) : FnOk P w K mg base CX0 1 f fd ["self"] (spVR C) := by
  refine F.ok scVR (fun vs H Q E h => ?_) (fun cdv A outer s H vs Q E hr h => ?_)
  · obtain ⟨x, l1, l2, l3, qs, ss, rs, ns, rfl, _⟩ := h
    rfl
  obtain ⟨x, l1, l2, l3, qs, ss, rs, ns, rfl, vx, q⟩ := h
  obtain ⟨dx, fx, ix, x1, x2, x3, _⟩ := vx.ins
  refine ⟨_, pss_one (by exact (ps_ret (pe_callTy call_list_of rfl B.list PyProof.Rows.boot_list (pa_cons (pe_fld (pv 0) rfl) pa_nil)))), ?_⟩
  exact ⟨_, rfl, x, C, dx, fx, _, rfl, ix, T.cl, T.n2, x2, l2, _, rfl, .inl (SqL.of vx.h2), q⟩
theorem ok_VD {f : Addr} {fd : FuncData} (F : Fun K "heads" "Valley.heads" sVD f fd) (B : Bl mg) (T : VcE K C) : FnOk P w K mg base CX0 1 f fd ["self"] (spVD C) := by
  refine F.ok scVD (fun vs H Q E h => ?_) (fun cdv A outer s H vs Q E hr h => ?_)
  · obtain ⟨x, l1, l2, l3, qs, ss, rs, ns, rfl, _⟩ := h
    rfl
  obtain ⟨x, l1, l2, l3, qs, ss, rs, ns, rfl, vx, q⟩ := h
  obtain ⟨dx, fx, ix, x1, x2, x3, _⟩ := vx.ins
  refine ⟨_, pss_one (by exact (ps_ret (pe_callTy call_list_of rfl B.list PyProof.Rows.boot_list (pa_cons (pe_fld (pv 0) rfl) pa_nil)))), ?_⟩
  exact ⟨_, rfl, x, C, dx, fx, _, rfl, ix, T.cl, T.n3, x3, l3, _, rfl, .inl (SqL.of vx.h3), q⟩
end
end K1
end
-- KMisc
section
set_option Elab.async false
set_option linter.all false
set_option maxRecDepth 100000
set_option maxHeartbeats 4000000
/-! d.update(d2) of keys that are ints or texts; (x, y)[::-1] -/
namespace K1
open PySem PySem.Spec PyProof.Rows L2

theorem KV_merge {kvs : List (Key × V)} {vs : List (Key × Value)} (r : KV kvs vs) : ∀ {ms : List (Key × V)} {ws : List (Key × Value)}, KV ms ws → KV (mergeK kvs ms) (merged vs ws) := by
  intro ms ws h
  induction h generalizing kvs vs with
  | nil => exact r
  | @cons x y l1 l2 f1 f2 ih =>
    obtain ⟨e1, e2⟩ := f1
    refine ih ?_
    have q := KV.put r x.1 e2
    show KV (putK kvs x.1 x.2) (stored vs y.1 y.2)
    rw [← e1]
    exact q
theorem mergeK_len (kvs ms : List (Key × V)) : (mergeK kvs ms).length ≤ kvs.length + ms.length := by
  induction ms generalizing kvs with
  | nil => exact Nat.le_refl _
  | cons m r ih =>
    have := ih (putK kvs m.1 m.2)
    have h2 := length_putK kvs m.1 m.2
    show (mergeK (putK kvs m.1 m.2) r).length ≤ _
    rw [List.length_cons]
    omega
def rUpdK : V → List V → Hp → VK → Prop := fun x xs H Q => ∃ (a b : Addr) (kvs ms : List (Key × V)), x = .ref a ∧ xs = [.ref b] ∧ a ≠ b ∧ H a = some (.dK kvs) ∧ H b = some (.dK ms) ∧ kvs.length + ms.length ≤ 100000 ∧ Q .non (upd H a (.dK (mergeK kvs ms)))
theorem mt_updK {X : Cx} : MtR X "dict.update" rUpdK := by
  intro pins s σ H x xs v us Q I rx r h
  obtain ⟨a, b, kvs, ms, rfl, rfl, ne, ha, hb, hl, q⟩ := h
  obtain ⟨u1, rfl, r1⟩ := vals1 r
  cases rx
  cases r1
  obtain ⟨z1, s1, vs, rel, d1⟩ := dk_of I.hok ha
  obtain ⟨z2, s2, ws, rel2, d2⟩ := dk_of I.hok hb
  have l1 : vs.length = kvs.length := rel.length.symm
  have l2 : ws.length = ms.length := rel2.length.symm
  refine call_meetsIn PySem.F.slot_dict_update d1.typeIs PySem.F.entry_dict_update (PySem.F.args_dict_update_2 _ _) (meets_dict_update (mixKind X.prog X.w) a b ne s2) ⟨vs, ws, d1, d2, by rw [l1, l2]; exact Nat.le_trans hl (by decide), fun h' e1 e2 sb => ?_⟩
  have he : ∃ o, h'.get? a = some o := let ⟨o, _, _, ho, _⟩ := e1; ⟨o, ho⟩
  have hln : (mergeK kvs ms).length ≤ sizeLine := Nat.le_trans (mergeK_len kvs ms) (Nat.le_trans hl (by decide))
  exact ⟨.non, _, d_write I (by rw [ha]; exact True.intro) sb he (dk_new hln s1 (KV_merge rel rel2) e1), rfl, q⟩
end K1
namespace K1S
open PySem PySem.Spec PyProof.Rows L2 HT
section
variable {prog : Program} {w : World} {A : Around} {E : Value → Shared → Prop} {s : Shared}
theorem backApplied {sl : Addr} {vl vu vs : Value} {Q : Int × Int × Nat → Shared → Prop} (hs : s.heap.IsSliceOf sl vl vu vs) (pl : IsPart vl none) (pu : IsPart vu none) (ps : IsPart vs (some (-1)))
    (h : Q (1, -1, 2) s) : wpAny (model prog w) A (Builtin.Slice.sliceApplied (.ref sl) (pure ((2 : Nat) : Int))) Q E s := by
  obtain ⟨os, hos, hcs, hds⟩ := id hs
  unfold Builtin.Slice.sliceApplied Builtin.Slice.sliceFields
  refine wpAny_bind (wpAny_bind (wpAny_field hos hds (x := vl) rfl (wpAny_bind (wpAny_field hos hds (x := vu) rfl (wpAny_bind (wpAny_field hos hds (x := vs) rfl (wpAny_pure ?_)))))))
  refine wpAny_bind (slicePart_ ps ?_)
  show wpAny _ _ (if ((-1 : Int) == 0) = true then _ else _) _ _ s
  rw [if_neg (by decide)]
  refine wpAny_bind (slicePart_ pl (wpAny_bind (slicePart_ pu (wpAny_bind (wpAny_pure ?_)))))
  exact wpAny_pure h
theorem back2 {t sl : Addr} {x y : Value} {vl vu vs : Value} {Q : Value → Shared → Prop} (ht : IsTup s.heap t #[x, y]) (hs : s.heap.IsSliceOf sl vl vu vs) (pl : IsPart vl none) (pu : IsPart vu none) (ps : IsPart vs (some (-1)))
    (h : Q (.ref s.heap.objs.size) { s with heap := s.heap.push { cls := .type "tuple", data := .seq #[y, x] } }) : wpAny (model prog w) A (getItem (.ref t) (.ref sl)) Q E s := by
  have htake : sizeOk (.seq #[y, x]) := by show 2 ≤ sizeLine; decide
  obtain ⟨os, hos, hcs, hds⟩ := id hs
  have hTs : s.TypeIs (.ref sl) "slice" := ⟨os, hos, hcs⟩
  unfold getItem
  try with_reducible refine wpAny_holding ?_
  first | refine wpAny_bind (wpAny_pure ?_) | skip
  refine wpAny_bind (wpAny_sequenceKey ht.typeIs (by decide) ?_)
  refine wpAny_bind (wpAny_callSpecial?_slot (name := Str.ofString "__getitem__") ht.typeIs PyProof.Rows.slot_tuple_getitem
    (wpAny_call_entry PyProof.Rows.slot_tuple_getitem ht.typeIs entry_tuple_getitem ?_ (args_tuple_getitem _ _)))
  show wpAny _ _ (Builtin.Tuple.tupleItemsOf (.ref t) >>= _) _ _ s
  refine wpAny_bind (tupleItemsOf_ ht ?_)
  refine wpAny_bind (wpAny_typeOf hTs ?_)
  rw [if_pos (by decide)]
  refine wpAny_bind (backApplied hs pl pu ps ?_)
  first
    | exact wpAny_bind (m := Builtin.Tuple.tupleExact _) (wpAny_newObj_type (wpAny_pure ⟨_, rfl, wpAny_pure h⟩) htake)
    | exact wpAny_bind (m := Builtin.Tuple.tupleExact _) (wpAny_newObj_type (wpAny_bind (wpAny_pure (wpAny_pure ⟨_, rfl, wpAny_pure h⟩))) htake)
    | exact wpAny_bind (wpAny_bind (m := Builtin.Tuple.tupleExact _) (wpAny_newObj_type (wpAny_pure (wpAny_pure ⟨_, rfl, wpAny_pure h⟩)) htake))
    | exact wpAny_bind (wpAny_bind (m := Builtin.Tuple.tupleExact _) (wpAny_newObj_type (wpAny_pure ⟨_, rfl, wpAny_pure h⟩) htake))
end
end K1S
namespace K1
open PySem PySem.Spec PyProof.Rows L2
def tBack (K : PySem.W.Frag) (te : TE) : TE := fun σ H Q => te σ H fun v H1 => ∃ a x y, v = .ref a ∧ SqT K H1 a [x, y] ∧ ∀ p, H1 p = none → Q (.ref p) (upd H1 p (.tup [y, x]))
theorem pe_back {X : Cx} {e : Expr} {te : TE} {k : Nat} {p1 p2 p3 pos : Pos} (he : PE X e te) : PE X (.Subscript e (.Slice none none (some (.UnaryOp .USub (.Constant (.int 1) k p1) p2)) p3) pos) (tBack X.K te) := by
  refine ⟨fun pins s σ H Q I h => ?_⟩
  refine Subscript_ (thn (he.run pins s σ H _ I h) fun v s1 ⟨v1, H1, I1, r1, q1⟩ => ?_)
  obtain ⟨a, x, y, ex, hx, q⟩ := q1
  subst ex
  cases r1
  have hst : PO X (some (.UnaryOp .USub (.Constant (.int 1) k p1) p2)) (tPart (tUn (rU fun i => .int (-i)) (tC (.int 1)))) := po_some (pe_un un_neg pe_int)
  refine wpAny_Slice (thn (po_none.run pins s1 σ H1 (fun o H2 => o = none ∧ H2 = H1) I1 ⟨rfl, rfl⟩) fun vl s2 ⟨l, H2, I2, pl, el, e2⟩ => ?_)
  subst el e2
  refine thn (po_none.run pins s2 σ H2 (fun o H3 => o = none ∧ H3 = H2) I2 ⟨rfl, rfl⟩) fun vu s3 ⟨u, H3, I3, pu, eu, e3⟩ => ?_
  subst eu e3
  refine thn (hst.run pins s3 σ H3 (fun o H4 => o = some (-1) ∧ H4 = H3) I3 ⟨1, rfl, -1, rfl, rfl, rfl⟩) fun vs s4 ⟨o, H4, I4, ps, eo, e4⟩ => ?_
  subst eo e4
  have I5 : Inv X pins σ H4 { s4 with heap := s4.heap.push { cls := .type "slice", data := .fields #[vl, vu, vs] } } := I4.kept (t' := s4.toks) fun b ob q => Heap.get?_push_of_some _ q
  obtain ⟨its, r, ht, hz⟩ := I5.tuple hx
  obtain ⟨u1, u2, rfl, ra, rb⟩ := vals2 r
  show wpAny (model X.prog X.w) X.A (subscriptTail e (.Slice none none (some (.UnaryOp .USub (.Constant (.int 1) k p1) p2)) p3) (.ref a) (.ref s4.heap.objs.size)) (EP X pins σ Q) X.xe { s4 with heap := s4.heap.push { cls := .type "slice", data := .fields #[vl, vu, vs] } }
  refine tail_any (ops := [.ref a, .ref s4.heap.objs.size]) ht.typeIs (PyProof.Rows.slot_tuple_getitem.lookup) ?_ (by with_unfolding_all rfl)
  refine K1S.back2 ht (Heap.IsSliceOf.new _ vl vu vs) pl pu ps ?_
  refine ⟨.ref _, _, I5.laid (t' := s4.toks) (o := .tup [y, x]) (fun b ob q => Heap.get?_push_of_some _ q) (Nat.le_refl _) ?_, rfl, q _ (I5.hok.fresh (Nat.le_refl _))⟩
  exact ⟨by show 2 ≤ sizeLine; decide, [u2, u1], .cons rb (.cons ra .nil), IsTup.new _ _⟩
end K1
end
-- KCut
section
set_option Elab.async false
set_option linter.all false
set_option maxRecDepth 100000
set_option maxHeartbeats 4000000
namespace K1
open PySem PySem.Spec PyProof.Rows L2
/-- each road parts its two ends, and no other road's -/
def Cut (rs : List (Str × Str)) : Prop := rs.Nodup ∧ ∀ e ∈ rs, ∃ c : Str → Bool, c e.1 ≠ c e.2 ∧ ∀ e' ∈ rs, e' ≠ e → c e'.1 = c e'.2
theorem Cut.nil : Cut [] := ⟨List.nodup_nil, fun e he => absurd he (by simp)⟩
theorem Cut.perm {as bs : List (Str × Str)} (h : Cut bs) (p : as.Perm bs) : Cut as := by
  refine ⟨p.nodup_iff.mpr h.1, fun e he => ?_⟩
  obtain ⟨c, h1, h2⟩ := h.2 e (p.mem_iff.mp he)
  exact ⟨c, h1, fun e' he' n => h2 e' (p.mem_iff.mp he') n⟩
theorem Cut.add {rs : List (Str × Str)} {u v : Str} {e0 : Str × Str} (h : Cut rs) (hv : ∀ r ∈ rs, r.1 ≠ v ∧ r.2 ≠ v) (huv : u ≠ v) (he : e0 = (u, v) ∨ e0 = (v, u)) : Cut (rs ++ [e0]) := by
  have ends : (e0.1 = u ∧ e0.2 = v) ∨ (e0.1 = v ∧ e0.2 = u) := he.imp (fun h => by rw [h]; exact ⟨rfl, rfl⟩) (fun h => by rw [h]; exact ⟨rfl, rfl⟩)
  have n0 : ¬ e0 ∈ rs := fun hm => by
    rcases ends with ⟨_, z⟩ | ⟨z, _⟩
    · exact (hv e0 hm).2 z
    · exact (hv e0 hm).1 z
  refine ⟨?_, fun e hm => ?_⟩
  · rw [List.nodup_append]
    refine ⟨h.1, by simp, fun x hx y hy => ?_⟩
    rw [List.mem_singleton.mp hy]
    intro z
    rw [z] at hx
    exact n0 hx
  · rcases List.mem_append.mp hm with hm | hm
    · obtain ⟨c, h1, h2⟩ := h.2 e hm
      refine ⟨fun s => if s = v then c u else c s, ?_, fun e' he' n => ?_⟩
      · show (if e.1 = v then c u else c e.1) ≠ (if e.2 = v then c u else c e.2)
        rw [if_neg (hv e hm).1, if_neg (hv e hm).2]
        exact h1
      · show (if e'.1 = v then c u else c e'.1) = (if e'.2 = v then c u else c e'.2)
        rcases List.mem_append.mp he' with he' | he'
        · rw [if_neg (hv e' he').1, if_neg (hv e' he').2]
          exact h2 e' he' n
        · rw [List.mem_singleton.mp he']
          rcases ends with ⟨z1, z2⟩ | ⟨z1, z2⟩
          · rw [z1, z2, if_neg huv, if_pos rfl]
          · rw [z1, z2, if_neg huv, if_pos rfl]
    · rw [List.mem_singleton.mp hm]
      refine ⟨fun s => decide (s = v), ?_, fun e' he' n => ?_⟩
      · show decide (e0.1 = v) ≠ decide (e0.2 = v)
        rcases ends with ⟨z1, z2⟩ | ⟨z1, z2⟩
        · rw [z1, z2, decide_eq_false huv, decide_eq_true rfl]; decide
        · rw [z1, z2, decide_eq_false huv, decide_eq_true rfl]; decide
      · show decide (e'.1 = v) = decide (e'.2 = v)
        rcases List.mem_append.mp he' with he' | he'
        · rw [decide_eq_false (hv e' he').1, decide_eq_false (hv e' he').2]
        · exact absurd (List.mem_singleton.mp he') n
theorem nodup_take_not' {α : Type} {ss : List α} (h : ss.Nodup) {i : Nat} (hi : i < ss.length) : ¬ ss[i] ∈ ss.take i := fun hm => by
  obtain ⟨j, hj, ej⟩ := List.getElem_of_mem hm
  rw [List.length_take] at hj
  rw [List.getElem_take] at ej
  have := (List.getElem_inj h).mp ej
  omega
theorem col_join {c : Str → Bool} {rt : Str → Str} {a b : Str} (h : ∀ s, c (rt s) = c s) (e : c a = c b) (s : Str) : c (joinRt rt a b s) = c s := by
  unfold joinRt
  by_cases z : rt s = rt a
  · rw [if_pos z, h, ← e, ← h a, ← z, h]
  · rw [if_neg z, h]
theorem col_rt {c : Str → Bool} : ∀ (n : Nat) {rs : List (Str × Str)}, rs.length = n → (∀ e ∈ rs, c e.1 = c e.2) → ∀ s, c (rtOf rs s) = c s
  | 0, rs, h0, _, s => by rw [List.length_eq_zero_iff.mp h0]; rfl
  | n + 1, rs, h0, h, s => by
    have hne : rs ≠ [] := fun z => by rw [z] at h0; cases h0
    have e := List.dropLast_concat_getLast hne
    rw [← e, rtOf_snoc]
    refine col_join (fun t => col_rt n (by rw [List.length_dropLast]; omega) (fun e he => h e ((List.dropLast_sublist _).mem he)) t) (h _ (List.getLast_mem hne)) s
theorem Cut.forest {rs : List (Str × Str)} (h : Cut rs) : Forest rs := by
  intro i hi z
  obtain ⟨c, h1, h2⟩ := h.2 rs[i] (List.getElem_mem hi)
  have hc : ∀ s, c (rtOf (rs.take i) s) = c s := col_rt _ rfl fun e he => h2 e (List.mem_of_mem_take he) (fun q => nodup_take_not' h.1 hi (by rw [← q]; exact he))
  exact h1 (by rw [← hc rs[i].1, z, hc])
theorem at4 {a0 a1 a2 a3 s : Int} (h0 : 0 ≤ s) (h1 : s < 4) : ∃ x : Int, atI [V.int a0, V.int a1, V.int a2, V.int a3] s = some (.int x) ∧ (x = a0 ∨ x = a1 ∨ x = a2 ∨ x = a3) := by
  have : s = 0 ∨ s = 1 ∨ s = 2 ∨ s = 3 := by omega
  rcases this with rfl | rfl | rfl | rfl
  · exact ⟨a0, rfl, .inl rfl⟩
  · exact ⟨a1, rfl, .inr (.inl rfl)⟩
  · exact ⟨a2, rfl, .inr (.inr (.inl rfl))⟩
  · exact ⟨a3, rfl, .inr (.inr (.inr rfl))⟩
def unR : V → Addr
  | .ref a => a
  | _ => 0
theorem paired_perm {H : Hp} {qs : List Addr} {rs : List (Str × Str)} (h : Paired (TupP H) qs rs) {ys : List V} (p : ys.Perm (qs.map V.ref)) : ∃ qs' rs', ys = qs'.map V.ref ∧ qs'.Perm qs ∧ rs'.Perm rs ∧ Paired (TupP H) qs' rs' := by
  have e1 : ys = (ys.map unR).map V.ref := by
    rw [List.map_map]
    have : ∀ y ∈ ys, (V.ref ∘ unR) y = y := fun y hy => by
      obtain ⟨s, _, rfl⟩ := List.mem_map.mp (p.mem_iff.mp hy)
      rfl
    exact (List.map_congr_left this).trans (List.map_id _) |>.symm
  have p2 : (ys.map unR).Perm qs := by
    have := p.map unR
    rw [List.map_map] at this
    exact this.trans (List.Perm.of_eq (List.map_id _))
  have key : ∀ {as bs : List Addr}, as.Perm bs → ∀ {ts : List (Str × Str)}, Paired (TupP H) bs ts → ∃ us, us.Perm ts ∧ Paired (TupP H) as us := by
    intro as bs pm
    induction pm with
    | nil => intro ts h; cases h; exact ⟨[], .nil, .nil⟩
    | cons x _ ih =>
      intro ts h
      cases h with
      | cons f r =>
        obtain ⟨us, q1, q2⟩ := ih r
        exact ⟨_ :: us, q1.cons _, .cons f q2⟩
    | swap x y l =>
      intro ts h
      cases h with
      | cons f r =>
        cases r with
        | cons f2 r2 => exact ⟨_ :: _ :: _, .swap _ _ _, .cons f2 (.cons f r2)⟩
    | trans _ _ ih1 ih2 =>
      intro ts h
      obtain ⟨us, q1, q2⟩ := ih2 h
      obtain ⟨ws, q3, q4⟩ := ih1 q2
      exact ⟨ws, q3.trans q1, q4⟩
  obtain ⟨us, q1, q2⟩ := key p2 h
  exact ⟨_, us, e1, p2, q1, q2⟩
theorem Spr.tup {H : Hp} {a q : Addr} {n : Nat} {xs : List V} (h : Spr H a n) (e : H q = some (.tup xs)) : q ≠ a := fun z => by
  obtain ⟨x, y, z2, e2, _⟩ := h
  rw [z, e2] at e
  cases e
theorem TupP.kept {H H' : Hp} {a : Addr} {n : Nat} {qs : List Addr} {rs : List (Str × Str)} (h : Paired (TupP H) qs rs) (s : Spr H a n) (k : Kept a H H') : Paired (TupP H') qs rs := paired_imp (fun _ _ q => k _ _ (s.tup q) q) h
end K1
end
-- NMath
section
set_option Elab.async false
set_option linter.all false
set_option maxRecDepth 100000
set_option maxHeartbeats 1000000
namespace K1
open PySem PySem.Spec PyProof.Rows L2
/-! trees: one root, the cut of a road, the reach of a house without another, the way -/
theorem rt_fold {ss : List Str} : ∀ (rs : List (Str × Str)) (rt : Str → Str), EndsIn ss rs → (∀ s, rt (rt s) = rt s) → (∀ s ∈ ss, rt s ∈ ss) →
    (∀ s, (rs.foldl (fun rt e => joinRt rt e.1 e.2) rt) ((rs.foldl (fun rt e => joinRt rt e.1 e.2) rt) s) = (rs.foldl (fun rt e => joinRt rt e.1 e.2) rt) s) ∧ ∀ s ∈ ss, (rs.foldl (fun rt e => joinRt rt e.1 e.2) rt) s ∈ ss
  | [], rt, _, h1, h2 => ⟨h1, h2⟩
  | e :: rs, rt, he, h1, h2 => by
    have he1 := he e (List.mem_cons_self ..)
    refine rt_fold rs (joinRt rt e.1 e.2) (fun r hr => he r (List.mem_cons_of_mem _ hr)) (fun s => ?_) (fun s hs => ?_)
    · unfold joinRt
      by_cases z : rt s = rt e.1
      · rw [if_pos z]
        by_cases z2 : rt (rt e.2) = rt e.1
        · rw [if_pos z2]
        · rw [if_neg z2, h1]
      · rw [if_neg z, if_neg (by rw [h1]; exact z), h1]
    · unfold joinRt
      by_cases z : rt s = rt e.1
      · rw [if_pos z]; exact h2 _ he1.2
      · rw [if_neg z]; exact h2 _ hs
theorem rt_idem {rs : List (Str × Str)} (s : Str) : rtOf rs (rtOf rs s) = rtOf rs s := by
  refine (rt_fold (ss := rs.map (·.1) ++ rs.map (·.2)) rs (fun s => s) (fun r hr => ⟨?_, ?_⟩) (fun _ => rfl) fun _ h => h).1 s
  · exact List.mem_append_left _ (List.mem_map.mpr ⟨r, hr, rfl⟩)
  · exact List.mem_append_right _ (List.mem_map.mpr ⟨r, hr, rfl⟩)
theorem rt_in {ss : List Str} {rs : List (Str × Str)} (he : EndsIn ss rs) {s : Str} (hs : s ∈ ss) : rtOf rs s ∈ ss := (rt_fold rs (fun s => s) he (fun _ => rfl) fun _ h => h).2 s hs
theorem filter_ne_len {α : Type} [DecidableEq α] {a : α} : ∀ {l : List α}, l.Nodup → a ∈ l → (l.filter fun x => decide (x ≠ a)).length + 1 = l.length
  | [], _, h => absurd h (by simp)
  | b :: l, nd, h => by
    have n := List.nodup_cons.mp nd
    by_cases e : b = a
    · subst e
      have : l.filter (fun x => decide (x ≠ b)) = l := List.filter_eq_self.mpr fun x hx => decide_eq_true fun z => n.1 (by rw [← z]; exact hx)
      rw [List.filter_cons, if_neg (by simp), this]
      rfl
    · rw [List.filter_cons, if_pos (decide_eq_true e), List.length_cons, List.length_cons, filter_ne_len n.2 ((List.mem_cons.mp h).resolve_left fun z => e z.symm)]
def rootsOf (ss : List Str) (rs : List (Str × Str)) : List Str := ss.filter fun s => decide (rtOf rs s = s)
theorem roots_len {ss : List Str} {rs : List (Str × Str)} (hn : ss.Nodup) (he : EndsIn ss rs) (f : Forest rs) : ∀ i, i ≤ rs.length → (rootsOf ss (rs.take i)).length + i = ss.length
  | 0, _ => by
    have : rootsOf ss (rs.take 0) = ss := List.filter_eq_self.mpr fun s _ => decide_eq_true rfl
    rw [this]
    rfl
  | i + 1, hi => by
    have ih := roots_len hn he f i (Nat.le_of_succ_le hi)
    have ee := he _ (List.getElem_mem hi)
    have et : EndsIn ss (rs.take i) := fun r hr => he r (List.mem_of_mem_take hr)
    have ne := f i hi
    have e : rootsOf ss (rs.take (i + 1)) = (rootsOf ss (rs.take i)).filter fun x => decide (x ≠ rtOf (rs.take i) rs[i].1) := by
      unfold rootsOf
      rw [List.filter_filter]
      refine List.filter_congr fun s _ => ?_
      rw [rtOf_succ hi]
      unfold joinRt
      rw [Bool.eq_iff_iff, Bool.and_eq_true, decide_eq_true_eq, decide_eq_true_eq, decide_eq_true_eq]
      by_cases z : rtOf (rs.take i) s = rtOf (rs.take i) rs[i].1
      · rw [if_pos z]
        constructor
        · intro h
          have h2 := rt_idem (rs := rs.take i) rs[i].2
          rw [h, z] at h2
          exact absurd (h2.trans h.symm) ne
        · rintro ⟨h1, h2⟩
          exact absurd (h2.symm.trans z) h1
      · rw [if_neg z]
        constructor
        · intro h
          exact ⟨fun q => z (h.trans q), h⟩
        · exact fun h => h.2
    have hm : rtOf (rs.take i) rs[i].1 ∈ rootsOf ss (rs.take i) := List.mem_filter.mpr ⟨rt_in et ee.1, decide_eq_true (rt_idem _)⟩
    have := filter_ne_len (List.Pairwise.filter _ hn) hm
    rw [e]
    unfold rootsOf at this ih ⊢
    omega
/-- what a tree of roads is here -/
structure Tree (ss : List Str) (rs : List (Str × Str)) : Prop where
  nd : ss.Nodup
  ends : EndsIn ss rs
  cut : Cut rs
  len : rs.length + 1 = ss.length
theorem Tree.root {ss : List Str} {rs : List (Str × Str)} (T : Tree ss rs) {s t : Str} (hs : s ∈ ss) (ht : t ∈ ss) : rtOf rs s = rtOf rs t := by
  have h := roots_len T.nd T.ends T.cut.forest rs.length (Nat.le_refl _)
  rw [List.take_length] at h
  have l1 : (rootsOf ss rs).length = 1 := by have := T.len; omega
  obtain ⟨r, hr⟩ := List.length_eq_one_iff.mp l1
  have a : ∀ u ∈ ss, rtOf rs u = r := fun u hu => by
    have : rtOf rs u ∈ rootsOf ss rs := List.mem_filter.mpr ⟨rt_in T.ends hu, decide_eq_true (rt_idem _)⟩
    rw [hr] at this
    exact List.mem_singleton.mp this
  rw [a s hs, a t ht]
/-- what is alike at both ends of each road is alike everywhere -/
theorem Tree.all {ss : List Str} {rs : List (Str × Str)} (T : Tree ss rs) {S : Str → Prop} (h : ∀ e ∈ rs, S e.1 ↔ S e.2) {s t : Str} (hs : s ∈ ss) (ht : t ∈ ss) (q : S s) : S t := by
  classical
  have c := col_rt (c := fun u => decide (S u)) _ (rfl : rs.length = rs.length) fun e he => decide_eq_decide.mpr (h e he)
  have e1 := c s
  have e2 := c t
  rw [T.root hs ht] at e1
  have := e1.symm.trans e2
  exact (decide_eq_decide.mp this).mp q
theorem nbB_iff {rs : List (Str × Str)} {s t : Str} : nbB rs s t = true ↔ (s, t) ∈ rs ∨ (t, s) ∈ rs := by
  unfold nbB
  rw [List.any_eq_true]
  constructor
  · rintro ⟨r, hr, h⟩
    rcases of_decide_eq_true h with h | h
    · exact .inl (h ▸ hr)
    · exact .inr (h ▸ hr)
  · rintro (h | h)
    · exact ⟨_, h, decide_eq_true (.inl rfl)⟩
    · exact ⟨_, h, decide_eq_true (.inr rfl)⟩
theorem nbB_swap {rs : List (Str × Str)} {s t : Str} : nbB rs s t = nbB rs t s := by
  rw [Bool.eq_iff_iff, nbB_iff, nbB_iff]
  exact Or.comm
theorem EndsIn.nb {ss : List Str} {rs : List (Str × Str)} (h : EndsIn ss rs) {s t : Str} (e : nbB rs s t = true) : s ∈ ss ∧ t ∈ ss := by
  rcases nbB_iff.mp e with e | e
  · exact h _ e
  · exact (h _ e).symm
theorem mem_nbs {ss : List Str} {rs : List (Str × Str)} (h : EndsIn ss rs) {s t : Str} : t ∈ nbs ss rs s ↔ nbB rs s t = true := by
  unfold nbs
  rw [List.mem_filter]
  exact ⟨fun h => h.2, fun e => ⟨(h.nb e).2, e⟩⟩
/-- the two sides of a road, as colours -/
theorem Cut.side {rs : List (Str × Str)} (h : Cut rs) {a b : Str} (e : nbB rs a b = true) : ∃ c : Str → Bool, c a ≠ c b ∧ ∀ s t, nbB rs s t = true → ¬ (s = a ∧ t = b) → ¬ (s = b ∧ t = a) → c s = c t := by
  have hx : ∀ e0 : Str × Str, e0 ∈ rs → (e0 = (a, b) ∨ e0 = (b, a)) → ∃ c : Str → Bool, c a ≠ c b ∧ ∀ s t, nbB rs s t = true → ¬ (s = a ∧ t = b) → ¬ (s = b ∧ t = a) → c s = c t := by
    intro e0 he0 w
    obtain ⟨c, h1, h2⟩ := h.2 e0 he0
    refine ⟨c, ?_, fun s t q n1 n2 => ?_⟩
    · rcases w with w | w
      · rw [w] at h1; exact h1
      · rw [w] at h1; exact h1.symm
    · have nn : ∀ x y : Str, ¬ (x = a ∧ y = b) → ¬ (x = b ∧ y = a) → (x, y) ≠ e0 := fun x y m1 m2 z => by
        rcases w with w | w
        · rw [w] at z; exact m1 ⟨congrArg Prod.fst z, congrArg Prod.snd z⟩
        · rw [w] at z; exact m2 ⟨congrArg Prod.fst z, congrArg Prod.snd z⟩
      rcases nbB_iff.mp q with q | q
      · exact h2 _ q (nn _ _ n1 n2)
      · exact (h2 _ q (nn _ _ (fun m => n2 ⟨m.2, m.1⟩) (fun m => n1 ⟨m.2, m.1⟩))).symm
  rcases nbB_iff.mp e with e | e
  · exact hx _ e (.inl rfl)
  · exact hx _ e (.inr rfl)
theorem Cut.irr {rs : List (Str × Str)} (h : Cut rs) {a b : Str} (e : nbB rs a b = true) : a ≠ b := by
  obtain ⟨c, h1, _⟩ := h.side e
  exact fun z => h1 (by rw [z])
/-- what is reached from other without coming into one -/
inductive Rch (rs : List (Str × Str)) (one other : Str) : Str → Prop
  | base : Rch rs one other other
  | step {s t : Str} : Rch rs one other s → nbB rs s t = true → t ≠ one → Rch rs one other t
theorem Rch.ne {rs : List (Str × Str)} {one other t : Str} (ne : other ≠ one) (h : Rch rs one other t) : t ≠ one := by
  cases h with
  | base => exact ne
  | step _ _ n => exact n
theorem Rch.mem {ss : List Str} {rs : List (Str × Str)} {one other t : Str} (he : EndsIn ss rs) (ho : other ∈ ss) (h : Rch rs one other t) : t ∈ ss := by
  cases h with
  | base => exact ho
  | step _ q _ => exact (he.nb q).2
theorem Rch.col {rs : List (Str × Str)} {one other t : Str} {c : Str → Bool} (ne : other ≠ one) (hc : ∀ s t, nbB rs s t = true → ¬ (s = one ∧ t = other) → ¬ (s = other ∧ t = one) → c s = c t) (h : Rch rs one other t) : c t = c other := by
  induction h with
  | base => rfl
  | @step s t h q n ih => rw [← ih]; exact (hc s t q (fun z => h.ne ne z.1) (fun z => n z.2)).symm
/-- the sides of a road: none in both, all in one of them -/
theorem Tree.sides {ss : List Str} {rs : List (Str × Str)} (T : Tree ss rs) {one other : Str} (e : nbB rs one other = true) {t : Str} (ht : t ∈ ss) : Rch rs other one t ↔ ¬ Rch rs one other t := by
  obtain ⟨c, h1, h2⟩ := T.cut.side e
  have ne : one ≠ other := T.cut.irr e
  constructor
  · intro a b
    have c1 := a.col (c := c) ne (fun s t q n1 n2 => h2 s t q n2 n1)
    have c2 := b.col (c := c) ne.symm h2
    exact h1 (c1.symm.trans c2)
  · intro nb
    refine (?_ : Rch rs one other t ∨ Rch rs other one t).resolve_left nb
    have st : ∀ a b, nbB rs a b = true → (Rch rs one other a ∨ Rch rs other one a) → (Rch rs one other b ∨ Rch rs other one b) := by
      intro a b q h
      rcases h with h | h
      · by_cases z : b = one
        · rw [z]; exact .inr .base
        · exact .inl (h.step q z)
      · by_cases z : b = other
        · rw [z]; exact .inl .base
        · exact .inr (h.step q z)
    refine T.all (S := fun u => Rch rs one other u ∨ Rch rs other one u) (fun r hr => ?_) (T.ends.nb e).2 ht (.inl .base)
    have q : nbB rs r.1 r.2 = true := nbB_iff.mpr (.inl hr)
    exact ⟨st _ _ q, st _ _ (by rw [nbB_swap]; exact q)⟩
/-- a way: no house twice -/
inductive Pt (rs : List (Str × Str)) : Str → List Str → Str → Prop
  | one (s : Str) : Pt rs s [s] s
  | cons {s u t : Str} {l : List Str} : nbB rs s u = true → Pt rs u l t → s ∉ l → Pt rs s (s :: l) t
theorem Pt.head {rs : List (Str × Str)} {s t : Str} {l : List Str} (h : Pt rs s l t) : ∃ r, l = s :: r := by
  cases h with
  | one => exact ⟨_, rfl⟩
  | cons _ _ _ => exact ⟨_, rfl⟩
theorem Pt.last {rs : List (Str × Str)} {s t : Str} {l : List Str} (h : Pt rs s l t) : l.getLast? = some t := by
  induction h with
  | one => rfl
  | cons _ h _ ih =>
    obtain ⟨r, rfl⟩ := h.head
    rw [List.getLast?_cons_cons]
    exact ih
theorem Pt.end_mem {rs : List (Str × Str)} {s t : Str} {l : List Str} (h : Pt rs s l t) : t ∈ l := List.mem_of_getLast? h.last
theorem Pt.nd {rs : List (Str × Str)} {s t : Str} {l : List Str} (h : Pt rs s l t) : l.Nodup := by
  induction h with
  | one => simp
  | cons _ _ n ih => exact List.nodup_cons.mpr ⟨n, ih⟩
theorem Pt.mem {ss : List Str} {rs : List (Str × Str)} (he : EndsIn ss rs) {s t : Str} {l : List Str} (h : Pt rs s l t) (ht : t ∈ ss) : ∀ u ∈ l, u ∈ ss := by
  induction h with
  | one => intro u hu; rw [List.mem_singleton.mp hu]; exact ht
  | cons q _ _ ih =>
    intro u hu
    rcases List.mem_cons.mp hu with rfl | hu
    · exact (he.nb q).1
    · exact ih ht u hu
/-- off a house, along a way that does not come through it, the colour stays -/
theorem Pt.col {rs : List (Str × Str)} {s t a b : Str} {l : List Str} {c : Str → Bool} (hc : ∀ s t, nbB rs s t = true → ¬ (s = a ∧ t = b) → ¬ (s = b ∧ t = a) → c s = c t) (h : Pt rs s l t) (n : a ∉ l) : c s = c t := by
  induction h with
  | one => rfl
  | @cons s u t l q h m ih =>
    have hu : u ∈ l := by
      obtain ⟨r, rfl⟩ := h.head
      exact List.mem_cons_self ..
    rw [← ih fun z => n (List.mem_cons_of_mem _ z)]
    exact hc s u q (fun z => n (by rw [z.1]; exact List.mem_cons_self ..)) (fun z => n (by rw [← z.2]; exact List.mem_cons_of_mem _ hu))
/-- there is one way at most -/
theorem Pt.uniq {rs : List (Str × Str)} (hcut : Cut rs) {s t : Str} {l : List Str} (h : Pt rs s l t) : ∀ {l' : List Str}, Pt rs s l' t → l = l' := by
  induction h with
  | one s =>
    intro l' h'
    cases h' with
    | one => rfl
    | cons _ h n => exact absurd h.end_mem n
  | @cons s u t l q h m ih =>
    intro l' h'
    cases h' with
    | one => exact absurd h.end_mem m
    | @cons _ v _ l2 q2 h2 m2 =>
      by_cases e : u = v
      · subst e
        rw [ih h2]
      · obtain ⟨c, c1, c2⟩ := hcut.side q
        have k1 := h.col (a := s) (b := u) c2 m
        have k2 := h2.col (a := s) (b := u) c2 m2
        have ne := hcut.irr q
        have k3 := c2 s v q2 (fun z => e z.2.symm) (fun z => ne z.1)
        exact absurd (k3.trans (k2.trans k1.symm)) c1
theorem Pt.tail {rs : List (Str × Str)} {s t y : Str} {l : List Str} (h : Pt rs s l t) (hy : y ∈ l) : ∃ l', Pt rs y l' t ∧ ∀ u ∈ l', u ∈ l := by
  induction h with
  | one s => rw [List.mem_singleton.mp hy]; exact ⟨_, .one s, fun _ h => h⟩
  | @cons s u t l q h m ih =>
    rcases List.mem_cons.mp hy with rfl | hy
    · exact ⟨_, .cons q h m, fun _ h => h⟩
    · obtain ⟨l', a, b⟩ := ih hy
      exact ⟨l', a, fun u hu => List.mem_cons_of_mem _ (b u hu)⟩
theorem Pt.snoc {rs : List (Str × Str)} {s x y : Str} {l : List Str} (h : Pt rs s l x) (q : nbB rs x y = true) (n : y ∉ l) : Pt rs s (l ++ [y]) y := by
  induction h with
  | one s => exact .cons q (.one y) (fun z => n (by rw [List.mem_singleton.mp z]; exact List.mem_cons_self ..))
  | @cons s u t l q2 h m ih =>
    refine .cons q2 (ih q fun z => n (List.mem_cons_of_mem _ z)) fun z => ?_
    rcases List.mem_append.mp z with z | z
    · exact m z
    · exact n (by rw [← List.mem_singleton.mp z]; exact List.mem_cons_self ..)
theorem Tree.way {ss : List Str} {rs : List (Str × Str)} (T : Tree ss rs) {s t : Str} (hs : s ∈ ss) (ht : t ∈ ss) : ∃ l, Pt rs s l t := by
  have st : ∀ a b, nbB rs a b = true → (∃ l, Pt rs a l t) → ∃ l, Pt rs b l t := by
    rintro a b q ⟨l, h⟩
    by_cases z : b ∈ l
    · obtain ⟨l', h', _⟩ := h.tail z
      exact ⟨l', h'⟩
    · exact ⟨_, .cons (by rw [nbB_swap]; exact q) h z⟩
  refine T.all (S := fun u => ∃ l, Pt rs u l t) (fun r hr => ?_) ht hs ⟨_, .one t⟩
  have q : nbB rs r.1 r.2 = true := nbB_iff.mpr (.inl hr)
  exact ⟨st _ _ q, st _ _ (by rw [nbB_swap]; exact q)⟩
end K1
end
-- NErr
section
set_option Elab.async false
set_option linter.all false
set_option maxRecDepth 100000
set_option maxHeartbeats 4000000
namespace K1
open PySem PySem.Spec PyProof.Rows L2
abbrev sIN : Stmt := inClass (top 8) 0
abbrev sIO : Stmt := inClass (top 9) 0
/-- an error's class, with these fields -/
structure ErF (K : PySem.W.Frag) (mg : Str → Option Value) (x : Str) (C f : Addr) (fs : List Str) : Prop where
  m : mg x = some (.ref C)
  ox : OexC K C
  no : ∀ n ∈ fs, PySem.W.findIn K (.ref C) n = some none
  ini : PySem.W.findIn K (.ref C) "__init__" = some (some (.ref f))
  ty : PySem.W.typeIn K (.ref f) = some (.type "function")
def spEr1 (C : Addr) (n : Str) : Sp := fun vs H Q _ => ∃ (a : Addr) (v : V), vs = [.ref a, v] ∧ H a = some (exo a C none) ∧ ∀ d, H d = none → d ≠ a → Q .non (upd (upd H d (exd d [(n, v)])) a (exo a C (some d)))
def spEr2 (C : Addr) : Sp := fun vs H Q _ => ∃ (a : Addr) (v u : V), vs = [.ref a, v, u] ∧ H a = some (exo a C none) ∧ ∀ d, H d = none → d ≠ a → Q .non (upd (upd (upd H d (exd d [("one", v)])) a (exo a C (some d))) d (exd d [("other", u), ("one", v)]))
theorem scIN : FnScope ["self", "house"] ["self", "house"] (defScope sIN) := ⟨rfl, rfl, rfl, by decide +kernel, rfl, by decide +kernel, by decide +kernel⟩
theorem scIO : FnScope ["self", "one", "other"] ["self", "one", "other"] (defScope sIO) := ⟨rfl, rfl, rfl, by decide +kernel, rfl, by decide +kernel, by decide +kernel⟩
/-- what goes out: a new error of the class, with these fields -/
def GoesF (C : Addr) (fs : List (Str × V)) (H : Hp) (E : XK) : Prop := ∀ (d : Addr) (H' : Hp), Same H H' → H d = none → H' d = some (.xd fs) → E (.ref C) (some d) H'
theorem GoesF.ext {C : Addr} {fs : List (Str × V)} {H H1 : Hp} {E : XK} (g : GoesF C fs H E) (e : Same H H1) : GoesF C fs H1 E := fun d H' e2 n h => g d H' (e.trans e2) (e.free n) h
theorem raise_one {C : Addr} {E : XK} {H0 H : Hp} {n : Str} {v : V} (g : GoesF C [(n, v)] H0 E) (e : Same H0 H) :
    ∀ a, H a = none → spEr1 C n [V.ref a, v] (upd H a (exo a C none)) (fun v H2 => v = .non ∧ ∃ (d : Addr) (fs : List (Str × V)), H2 a = some (exo a C (some d)) ∧ H2 d = some (exd d fs) ∧ H d = none ∧ E (.ref C) (some d) (upd (del H2 a) d (.xd fs))) (fun _ _ _ => False) := by
  intro a ha
  refine ⟨a, v, rfl, upd_same, fun d hd hda => ⟨rfl, d, [(n, v)], upd_same, ?_, ?_, ?_⟩⟩
  · rw [upd_ne hda, upd_same]
  · rw [upd_ne hda] at hd
    exact hd
  · rw [upd_ne hda] at hd
    refine g d _ (fun b o n => ?_) (e.free hd) upd_same
    have n1 := e b o n
    have b1 : b ≠ a := ne_of_none n1 ha
    have b2 : b ≠ d := ne_of_none n1 hd
    rw [upd_ne b2, del_ne b1, upd_ne b1, upd_ne b2, upd_ne b1]
    exact n1
theorem raise_two {C : Addr} {E : XK} {H0 H : Hp} {v u : V} (g : GoesF C [("other", u), ("one", v)] H0 E) (e : Same H0 H) :
    ∀ a, H a = none → spEr2 C [V.ref a, v, u] (upd H a (exo a C none)) (fun v H2 => v = .non ∧ ∃ (d : Addr) (fs : List (Str × V)), H2 a = some (exo a C (some d)) ∧ H2 d = some (exd d fs) ∧ H d = none ∧ E (.ref C) (some d) (upd (del H2 a) d (.xd fs))) (fun _ _ _ => False) := by
  intro a ha
  refine ⟨a, v, u, rfl, upd_same, fun d hd hda => ⟨rfl, d, [("other", u), ("one", v)], ?_, upd_same, ?_, ?_⟩⟩
  · rw [upd_ne hda.symm, upd_same]
  · rw [upd_ne hda] at hd
    exact hd
  · rw [upd_ne hda] at hd
    refine g d _ (fun b o n => ?_) (e.free hd) upd_same
    have n1 := e b o n
    have b1 : b ≠ a := ne_of_none n1 ha
    have b2 : b ≠ d := ne_of_none n1 hd
    rw [upd_ne b2, del_ne b1, upd_ne b2, upd_ne b1, upd_ne b2, upd_ne b1]
    exact n1
section
variable {P : Program} {w : World} {K : PySem.W.Frag} {mg : Str → Option Value} {base : Heap} {CF : Addr}
theorem ok_iN {f C : Addr} {fd : FuncData} (F : Fun K "__init__" "NoHouse.__init__" sIN f fd) (T : FeC K mg CF) (TC : ErF K mg "NoHouse" C f ["house"]) : FnOk P w K mg base CX0 1 f fd ["self", "house"] (spEr1 C "house") := by
  refine F.ok scIN (fun vs H Q E h => ?_) (fun cdv A outer s H vs Q E hr h => ?_)
  · obtain ⟨a, v, rfl, _⟩ := h
    rfl
  obtain ⟨a, v, rfl, ha, q⟩ := h
  refine ⟨_, pss_cons (by exact ps_expr (pe_feinit rfl T (pa_cons (pv 0) (pa_cons pe_str pa_nil)))) (pss_one (by exact ps_ost (pv 0) (pv 1))), ?_⟩
  refine ⟨_, rfl, a, C, [.str _], rfl, (by decide), TC.ox, ha, _, rfl, _, rfl, a, C, rfl, TC.ox, TC.no _ (by simp), .inl ⟨ha, fun d hd n => q d hd n⟩⟩
theorem ok_iO {f C : Addr} {fd : FuncData} (F : Fun K "__init__" "NoRoad.__init__" sIO f fd) (T : FeC K mg CF) (TC : ErF K mg "NoRoad" C f ["one", "other"]) : FnOk P w K mg base CX0 1 f fd ["self", "one", "other"] (spEr2 C) := by
  refine F.ok scIO (fun vs H Q E h => ?_) (fun cdv A outer s H vs Q E hr h => ?_)
  · obtain ⟨a, v, u, rfl, _⟩ := h
    rfl
  obtain ⟨a, v, u, rfl, ha, q⟩ := h
  refine ⟨_, pss_cons (by exact ps_expr (pe_feinit rfl T (pa_cons (pv 0) (pa_cons pe_str pa_nil)))) (pss_cons (by exact ps_ost (pv 0) (pv 1)) (pss_one (by exact ps_ost (pv 0) (pv 2)))), ?_⟩
  refine ⟨_, rfl, a, C, [.str _], rfl, (by decide), TC.ox, ha, _, rfl, _, rfl, a, C, rfl, TC.ox, TC.no _ (by simp), .inl ⟨ha, fun d hd n => ?_⟩⟩
  refine ⟨_, rfl, _, rfl, a, C, rfl, TC.ox, TC.no _ (by simp), .inr ⟨d, [("one", v)], upd_same, by rw [upd_ne n]; exact upd_same, (by show 1 ≤ 900; decide), q d hd n⟩⟩
end
end K1
end
-- NMeth
section
set_option Elab.async false
set_option linter.all false
set_option maxRecDepth 100000
set_option maxHeartbeats 4000000
namespace K1
open PySem PySem.Spec PyProof.Rows L2
abbrev sWa : Stmt := inClass (top 21) 6
abbrev sSi : Stmt := inClass (top 21) 7
abbrev sIs : Stmt := inClass (top 21) 8
abbrev sNe : Stmt := inClass (top 21) 10
abbrev sPl : Stmt := inClass (top 21) 11
abbrev sNr : Stmt := inClass (top 21) 12
/-- a Valley of these houses, roads, heads -/
def IsV (C : Addr) (H : Hp) (x : Addr) (ss : List Str) (rs : List (Str × Str)) (ns : List Int) : Prop := ss.length = ns.length ∧ ∃ l1 l2 l3 d1 d2 d3 qs bs, ValS C H x l1 l2 l3 d1 d2 d3 qs bs ss rs ns
/-- no house -/
def NoHo (K : PySem.W.Frag) (H : Hp) (ss : List Str) (v : V) : Prop := (∃ s, v = .str s ∧ s ∉ ss) ∨ ∃ t, TyX K H v (.type t) ∧ t ∈ kinds ∧ t ≠ "str"
theorem NoHo.ext {K : PySem.W.Frag} {H H' : Hp} {ss : List Str} {v : V} (h : NoHo K H ss v) (e : Same H H') : NoHo K H' ss v := h.imp id fun ⟨t, a, b⟩ => ⟨t, TyX.ext a e, b⟩
def spIs (K : PySem.W.Frag) (C : Addr) : Sp := fun vs H Q _ => ∃ x v ss rs ns, vs = [.ref x, v] ∧ IsV C H x ss rs ns ∧ ((∃ s, v = .str s ∧ s ∈ ss ∧ Q (.bl true) H) ∨ (NoHo K H ss v ∧ Q (.bl false) H))
def spNe (K : PySem.W.Frag) (C CN : Addr) : Sp := fun vs H Q E => ∃ x v ss rs ns, vs = [.ref x, v] ∧ IsV C H x ss rs ns ∧ ((∃ s, v = .str s ∧ s ∈ ss ∧ Q .non H) ∨ (NoHo K H ss v ∧ GoesF CN [("house", v)] H E))
def spPl (K : PySem.W.Frag) (C CN CO : Addr) : Sp := fun vs H Q E => ∃ x v u ss rs ns, vs = [.ref x, v, u] ∧ IsV C H x ss rs ns ∧ ((NoHo K H ss v ∧ GoesF CN [("house", v)] H E) ∨ (∃ s, v = .str s ∧ s ∈ ss ∧ ((NoHo K H ss u ∧ GoesF CN [("house", u)] H E) ∨
  (∃ t, u = .str t ∧ t ∈ ss ∧ ((plOf rs s t = none ∧ GoesF CO [("other", .str t), ("one", .str s)] H E) ∨ (∃ i : Nat, plOf rs s t = some i ∧ ∀ H', Same H H' → Q (.int (i : Nat)) H'))))))
theorem scIs : FnScope ["self", "thing"] ["self", "thing"] (defScope sIs) := ⟨rfl, rfl, rfl, by decide +kernel, rfl, by decide +kernel, by decide +kernel⟩
theorem scNe : FnScope ["self", "house"] ["self", "house"] (defScope sNe) := ⟨rfl, rfl, rfl, by decide +kernel, rfl, by decide +kernel, by decide +kernel⟩
theorem scPl : FnScope ["self", "one", "other"] ["self", "one", "other"] (defScope sPl) := ⟨rfl, rfl, rfl, by decide +kernel, rfl, by decide +kernel, by decide +kernel⟩
section
variable {P : Program} {w : World} {K : PySem.W.Frag} {mg : Str → Option Value} {base : Heap} {CF C CN CO : Addr}
theorem ok_Is {f : Addr} {fd : FuncData} (F : Fun K "is_house" "Valley.is_house" sIs f fd) (B : Bl mg) (T : VcT K C) : FnOk P w K mg base CX0 1 f fd ["self", "thing"] (spIs K C) := by
  refine F.ok scIs (fun vs H Q E h => ?_) (fun cdv A outer s H vs Q E hr h => ?_)
  · obtain ⟨x, v, ss, rs, ns, rfl, _⟩ := h
    rfl
  obtain ⟨x, v, ss, rs, ns, rfl, ⟨ln, l1, l2, l3, d1, d2, d3, qs, bs, vx⟩, h⟩ := h
  have hu := hu_of hr
  obtain ⟨dx, fx, ix, f1, f2, f3, f4, f5, f6, f0⟩ := vx.ins
  refine ⟨_, pss_one (by exact ps_ret (pe_and (pe_callB call_isi rfl B.isi PyProof.Rows.boot_isinstance (pa_cons (pv 1) (pa_cons (pe_bltn (v := .ty "str") rfl B.str PyProof.Rows.boot_str rfl) pa_nil))) (pe_one (pe_cmp (pc_din hu (pv 1) (pe_fld (pv 0) rfl)) (by with_unfolding_all rfl))))), ?_⟩
  have st : ∀ s : Str, v = .str s → Q (.bl (decide (s ∈ ss))) H → _ := fun s e q => (⟨s, e, q⟩ : ∃ s, v = .str s ∧ Q (.bl (decide (s ∈ ss))) H)
  have go : (∃ s, v = .str s ∧ Q (.bl (decide (s ∈ ss))) H) ∨ (∃ t, TyX K H v (.type t) ∧ t ∈ kinds ∧ t ≠ "str" ∧ Q (.bl false) H) := by
    rcases h with ⟨s, rfl, hs, q⟩ | ⟨⟨s, rfl, hs⟩ | ⟨t, ty, kt, nt⟩, q⟩
    · exact .inl ⟨s, rfl, by rw [decide_eq_true hs]; exact q⟩
    · exact .inl ⟨s, rfl, by rw [decide_eq_false hs]; exact q⟩
    · exact .inr ⟨t, ty, kt, nt, q⟩
  rcases go with ⟨s, rfl, q⟩ | ⟨t, ty, kt, nt, q⟩
  · refine ⟨_, rfl, .str s, _, _, _, _, rfl, .ty "str", .base (.str s), kit_str (t := "str") (by decide), _, rfl, ?_⟩
    refine iteT ⟨_, rfl, _, rfl, x, C, dx, fx, _, rfl, ix, T.cl, T.n4, f4, d1, _, rfl, DGet.k (k := .inr s) vx.p1, ?_⟩
    rw [peo_in ln]
    exact q
  · refine ⟨_, rfl, v, _, _, _, _, rfl, .ty "str", ty, kit_str kt, _, rfl, ?_⟩
    rw [decide_eq_false nt]
    exact iteF q
theorem ok_Ne {f fI fE : Addr} {fd id' ed : FuncData} (F : Fun K "need_house" "Valley.need_house" sNe f fd) (B : Bl mg) (T : VcT K C)
    (FI : Fun K "is_house" "Valley.is_house" sIs fI id') (hI : Meth K C "is_house" fI) (bI : Binds K id' ["self", "thing"] [])
    (TF : FeC K mg CF) (TC : ErF K mg "NoHouse" CN fE ["house"]) (FE : Fun K "__init__" "NoHouse.__init__" sIN fE ed) (bE : Binds K ed ["self", "house"] []) :
    FnOk P w K mg base (L2.CX P w) 3 f fd ["self", "house"] (spNe K C CN) := by
  have GI := ok_Is (P := P) (w := w) (base := base) FI B T
  have GE := ok_iN (P := P) (w := w) (base := base) FE TF TC
  refine F.okX scNe (fun vs H Q E h => ?_) (fun cdv A outer s H vs Q E hr h => ?_)
  · obtain ⟨x, v, ss, rs, ns, rfl, _⟩ := h
    rfl
  obtain ⟨x, v, ss, rs, ns, rfl, vx, h⟩ := h
  have hr1 : Room 1 _ := hr.mono (by decide)
  have hr2 : Room 2 _ := hr.mono (by decide)
  refine ⟨_, pss_one (by exact (ps_if (pt_not (pt_val (pe_meth (pv 0) T.cl hI GI hr1 bI .nil pass0 (pa_cons (pv 1) pa_nil))))
    (pss_one (by exact (ps_raise rfl (takes_of rfl rfl rfl rfl) (pmk_oex TC.ox TC.ini TC.ty GE hr2 bE .nil pass0 rfl TC.m (pa_cons (pv 1) pa_nil))))) pss_nil)), ?_⟩
  obtain ⟨dx, fx, ix, _, _, _, _, _, _, f0⟩ := vx.2.choose_spec.choose_spec.choose_spec.choose_spec.choose_spec.choose_spec.choose_spec.choose_spec.ins
  refine ⟨_, rfl, x, dx, fx, rfl, ix, f0 _ (by decide +kernel) (by decide +kernel) (by decide +kernel) (by decide +kernel) (by decide +kernel) (by decide +kernel), _, rfl, x, v, ss, rs, ns, rfl, vx, ?_⟩
  rcases h with ⟨s, rfl, hs, q⟩ | ⟨n, g⟩
  · exact .inl ⟨s, rfl, hs, _, rfl, iteF q⟩
  · exact .inr ⟨n, _, rfl, iteT ⟨_, rfl, (by show 1 ≤ 1000; decide), raise_one g (Same.refl _)⟩⟩
theorem ok_Pl {f fN fE : Addr} {fd nd_ ed : FuncData} (F : Fun K "place" "Valley.place" sPl f fd) (B : Bl mg) (T : VcT K C)
    (GN : FnOk P w K mg base (L2.CX P w) 3 fN nd_ ["self", "house"] (spNe K C CN)) (hN : Meth K C "need_house" fN) (bN : Binds K nd_ ["self", "house"] [])
    (TF : FeC K mg CF) (TC : ErF K mg "NoRoad" CO fE ["one", "other"]) (FE : Fun K "__init__" "NoRoad.__init__" sIO fE ed) (bE : Binds K ed ["self", "one", "other"] []) :
    FnOk P w K mg base (L2.CX P w) 4 f fd ["self", "one", "other"] (spPl K C CN CO) := by
  have GE := ok_iO (P := P) (w := w) (base := base) FE TF TC
  refine F.okX scPl (fun vs H Q E h => ?_) (fun cdv A outer s H vs Q E hr h => ?_)
  · obtain ⟨x, v, u, ss, rs, ns, rfl, _⟩ := h
    rfl
  obtain ⟨x, v, u, ss, rs, ns, rfl, iv, h⟩ := h
  obtain ⟨ln, l1, l2, l3, d1, d2, d3, qs, bs, vx⟩ := id iv
  obtain ⟨dx, fx, ix, f1, f2, f3, f4, f5, f6, f0⟩ := vx.ins
  have hu := hu_of hr
  have hr3 : Room 3 _ := hr.mono (by decide)
  have hr2 : Room 2 _ := hr.mono (by decide)
  have nN : fx.lookup ("need_house" : Str) = none := f0 _ (by decide +kernel) (by decide +kernel) (by decide +kernel) (by decide +kernel) (by decide +kernel) (by decide +kernel)
  refine ⟨_, pss_cons (by exact (ps_expr (pe_meth (pv 0) T.cl hN GN hr3 bN .nil (passes_call (takes_of rfl rfl rfl rfl) (fun _ _ _ _ h => h)) (pa_cons (pv 1) pa_nil))))
    (pss_cons (by exact (ps_expr (pe_meth (pv 0) T.cl hN GN hr3 bN .nil (passes_call (takes_of rfl rfl rfl rfl) (fun _ _ _ _ h => h)) (pa_cons (pv 2) pa_nil))))
    (pss_cons (by exact (ps_if (pt_cmp (pc_dnotin hu (pe_tup (pa_cons (pv 1) (pa_cons (pv 2) pa_nil))) (pe_fld (pv 0) rfl)) (by with_unfolding_all rfl))
      (pss_one (by exact (ps_raise rfl (takes_of rfl rfl rfl rfl) (pmk_oex TC.ox TC.ini TC.ty GE hr2 bE .nil pass0 rfl TC.m (pa_cons (pv 1) (pa_cons (pv 2) pa_nil)))))) pss_nil))
    (pss_one (by exact (ps_ret (pe_dget hu (pe_fld (pv 0) rfl) (pe_tup (pa_cons (pv 1) (pa_cons (pv 2) pa_nil))) (fun _ _ => rfl))))))), ?_⟩
  refine ⟨_, rfl, x, dx, fx, rfl, ix, nN, _, rfl, x, v, ss, rs, ns, rfl, iv, ?_⟩
  rcases h with ⟨n, g⟩ | ⟨s, rfl, hs, h⟩
  · exact .inr ⟨n, g⟩
  refine .inl ⟨s, rfl, hs, _, rfl, x, dx, fx, rfl, ix, nN, _, rfl, x, u, ss, rs, ns, rfl, iv, ?_⟩
  rcases h with ⟨n, g⟩ | ⟨t, rfl, ht, h⟩
  · exact .inr ⟨n, g⟩
  obtain ⟨kv, k1, k2, k3⟩ := vx.p2
  refine .inl ⟨t, rfl, ht, _, rfl, _, rfl, (by show 2 ≤ sizeLine; decide), fun b hb => ?_⟩
  have eb := K1.Same.upd (H := H) (p := b) (o := .tup [.str s, .str t]) hb
  refine ⟨_, rfl, x, C, dx, fx, _, rfl, eb _ _ ix, T.cl, T.n5, f5, d2, _, rfl, DGet.t (k := [.inr s, .inr t]) (eb _ _ k1) upd_same, ?_⟩
  rw [k2 s t]
  rcases h with ⟨n, g⟩ | ⟨i, n, q⟩
  · rw [n]
    exact ⟨_, rfl, iteT ⟨_, rfl, _, rfl, (by show 2 ≤ 1000; decide), raise_two g eb⟩⟩
  · rw [n]
    refine ⟨_, rfl, iteF ⟨_, rfl, x, C, dx, fx, _, rfl, eb _ _ ix, T.cl, T.n5, f5, _, rfl, _, rfl, (by show 2 ≤ sizeLine; decide), fun b2 hb2 => ?_⟩⟩
    have eb2 := K1.Same.upd (H := upd H b (.tup [.str s, .str t])) (p := b2) (o := .tup [.str s, .str t]) hb2
    have dg := DGet.t (k := [.inr s, .inr t]) (eb2 _ _ (eb _ _ k1)) upd_same
    rw [k2 s t, n] at dg
    exact ⟨d2, _, rfl, dg, q _ (eb.trans eb2)⟩
end
end K1
end
-- NNear
section
set_option Elab.async false
set_option linter.all false
set_option maxRecDepth 100000
set_option maxHeartbeats 4000000
namespace K1
open PySem PySem.Spec PyProof.Rows L2
theorem nodup_len {α : Type} [DecidableEq α] : ∀ {xs ys : List α}, xs.Nodup → (∀ x ∈ xs, x ∈ ys) → xs.length ≤ ys.length
  | [], _, _, _ => Nat.zero_le _
  | x :: xs, ys, n, h => by
    rw [List.nodup_cons] at n
    have hx := h x (List.mem_cons_self ..)
    have ih := nodup_len (ys := ys.erase x) n.2 fun y hy => (List.mem_erase_of_ne (fun z => n.1 (by rw [← z]; exact hy))).mpr (h y (List.mem_cons_of_mem _ hy))
    rw [List.length_erase_of_mem hx] at ih
    have := List.length_pos_of_mem hx
    rw [List.length_cons]
    omega
/-- while, with a measure that stands in the invariant -/
theorem while_gh {c : TT} {tb : TS} {D : Ends} {σ : L2.St} {H : Hp} (Pv : Nat → L2.St → Hp → Prop) (m0 : Nat) (h0 : Pv m0 σ H)
    (hs : ∀ m σ H, Pv m σ H → c σ H fun b H1 => if b = true then tb { D with nx := fun σ' H' => ∃ m', m' < m ∧ Pv m' σ' H', ct := fun σ' H' => ∃ m', m' < m ∧ Pv m' σ' H', bk := D.nx } σ H1 else D.nx σ H1)
    (mono : ∀ σ H Q Q', (∀ b H1, Q b H1 → Q' b H1) → c σ H Q → c σ H Q') : tWhile c tb D σ H := by
  refine ⟨Pv, ⟨m0, h0⟩, fun m σ H p => mono σ H _ _ (fun b H1 q => ?_) (hs m σ H p)⟩
  cases b with
  | true => exact ⟨_, fun σ' H' z => z, q⟩
  | false => exact q
theorem gN {i : Nat} {v : V} {σ : L2.St} {H : Hp} {Q : L2.St → Hp → Prop} (h : Q (σ.set i (some v)) H) : gName i v σ H Q := h
theorem sQ {t u : TS} {D : Ends} {σ : L2.St} {H : Hp} (h : t { D with nx := u D } σ H) : tSeq t u D σ H := h
/-- a search outward from a house: those gone through, those that wait, and the next house towards the start -/
structure SeaN (ss : List Str) (rs : List (Str × Str)) (o : Str) (done wt : List Str) (kvs : List (Key × V)) : Prop where
  nd : (done ++ wt).Nodup
  ins : ∀ s ∈ done ++ wt, s ∈ ss
  keys : ∀ s, (valV kvs (.inr s)).isSome = decide (s ∈ done ++ wt)
  len : kvs.length ≤ (done ++ wt).length
  st : o ∈ done ++ wt
  path : ∀ s ∈ done ++ wt, ∃ l, Pt rs s l o ∧ (∀ z ∈ l, z ∈ done ++ wt) ∧ (s ≠ o → ∃ u r, l = s :: u :: r ∧ valV kvs (.inr s) = some (.str u))
def Clo (rs : List (Str × Str)) (all : List Str) (s : Str) : Prop := ∀ t, nbB rs s t = true → t ∈ all
theorem SeaN.le {ss : List Str} {rs : List (Str × Str)} {o : Str} {done wt : List Str} {kvs : List (Key × V)} (S : SeaN ss rs o done wt kvs) : (done ++ wt).length ≤ ss.length := nodup_len S.nd S.ins
theorem SeaN.init {ss : List Str} {rs : List (Str × Str)} {o : Str} (ho : o ∈ ss) : SeaN ss rs o [] [o] [(.inr o, .non)] := by
  refine ⟨by simp, fun s hs => by rw [List.mem_singleton.mp hs]; exact ho, fun s => ?_, Nat.le_refl _, by simp, fun s hs => ?_⟩
  · by_cases e : s = o
    · subst e
      rw [valV_pos (p := (Sum.inr s, V.non)) rfl]
      simp
    · rw [valV_neg (p := (Sum.inr o, V.non)) (fun z => e (Sum.inr.inj z).symm)]
      simp [e, valV_nil]
  · have e := List.mem_singleton.mp hs
    subst e
    exact ⟨_, .one s, fun z hz => hz, fun n => absurd rfl n⟩
/-- the last one that waits is taken up -/
theorem SeaN.take {ss : List Str} {rs : List (Str × Str)} {o : Str} {done wt : List Str} {h : Str} {kvs : List (Key × V)} (S : SeaN ss rs o done (wt ++ [h]) kvs) : SeaN ss rs o (done ++ [h]) wt kvs := by
  have p : (done ++ (wt ++ [h])).Perm (done ++ [h] ++ wt) := by
    rw [List.append_assoc]
    exact List.Perm.append_left _ List.perm_append_comm
  have m : ∀ z, z ∈ done ++ (wt ++ [h]) ↔ z ∈ done ++ [h] ++ wt := fun z => p.mem_iff
  refine ⟨p.nodup_iff.mp S.nd, fun s hs => S.ins s ((m s).mpr hs), fun s => ?_, by rw [← p.length_eq]; exact S.len, (m o).mp S.st, fun s hs => ?_⟩
  · rw [S.keys s]
    exact decide_eq_decide.mpr (m s)
  · obtain ⟨l, a, b, c⟩ := S.path s ((m s).mpr hs)
    exact ⟨l, a, fun z hz => (m z).mp (b z hz), c⟩
/-- a house is found from one that was taken up -/
theorem SeaN.add {ss : List Str} {rs : List (Str × Str)} {o : Str} {done wt : List Str} {h f : Str} {kvs : List (Key × V)} (S : SeaN ss rs o done wt kvs) (hh : h ∈ done ++ wt) (he : EndsIn ss rs) (q : nbB rs h f = true) (n : f ∉ done ++ wt) :
    SeaN ss rs o done (wt ++ [f]) (putK kvs (.inr f) (.str h)) := by
  have m : ∀ z, z ∈ done ++ (wt ++ [f]) ↔ z ∈ done ++ wt ∨ z = f := fun z => by
    rw [← List.append_assoc, List.mem_append, List.mem_singleton]
  have vn : valV kvs (.inr f) = none := by
    have := S.keys f
    rw [decide_eq_false n] at this
    cases e : valV kvs (.inr f) with
    | none => rfl
    | some v => rw [e] at this; cases this
  refine ⟨?_, fun s hs => ?_, fun s => ?_, ?_, (m o).mpr (.inl S.st), fun s hs => ?_⟩
  · rw [← List.append_assoc, List.nodup_append]
    exact ⟨S.nd, by simp, fun x hx y hy => by rw [List.mem_singleton.mp hy]; intro z; exact n (by rw [← z]; exact hx)⟩
  · rcases (m s).mp hs with hs | rfl
    · exact S.ins s hs
    · exact (he.nb q).2
  · rw [valV_put]
    by_cases e : s = f
    · subst e
      rw [if_pos rfl, decide_eq_true ((m s).mpr (.inr rfl))]
      rfl
    · rw [if_neg fun z => e (Sum.inr.inj z), S.keys s]
      exact decide_eq_decide.mpr ⟨fun h => (m s).mpr (.inl h), fun h => ((m s).mp h).resolve_right e⟩
  · rw [putK_new _ vn, List.length_append, ← List.append_assoc, List.length_append]
    have := S.len
    simp only [List.length_singleton]
    omega
  · rcases (m s).mp hs with hs | rfl
    · obtain ⟨l, a, b, c⟩ := S.path s hs
      refine ⟨l, a, fun z hz => (m z).mpr (.inl (b z hz)), fun ne => ?_⟩
      obtain ⟨u, r, e1, e2⟩ := c ne
      exact ⟨u, r, e1, by rw [valV_put, if_neg fun z => n (by rw [← Sum.inr.inj z]; exact hs)]; exact e2⟩
    · obtain ⟨l, a, b, c⟩ := S.path h hh
      have nl : s ∉ l := fun z => n (b s z)
      obtain ⟨r, rfl⟩ := a.head
      refine ⟨s :: h :: r, .cons (by rw [nbB_swap]; exact q) a nl, fun z hz => ?_, fun _ => ⟨h, r, rfl, by rw [valV_put, if_pos rfl]⟩⟩
      rcases List.mem_cons.mp hz with rfl | hz
      · exact (m z).mpr (.inr rfl)
      · exact (m z).mpr (.inl (b z hz))
def spNr (C : Addr) : Sp := fun vs H Q _ => ∃ x o ss rs ns, vs = [.ref x, .str o] ∧ IsV C H x ss rs ns ∧ Tree ss rs ∧ ss.length ≤ 1000 ∧ o ∈ ss ∧
  ∀ r kvs H', Same H H' → H r = none → H' r = some (.dK kvs) → (∀ s ∈ ss, s ≠ o → ∃ u l, valV kvs (.inr s) = some (.str u) ∧ Pt rs s (s :: u :: l) o) → Q (.ref r) H'
theorem scNr : FnScope ["self", "start", "found", "waiting", "house", "far"] ["self", "start"] (defScope sNr) := ⟨rfl, rfl, rfl, by decide +kernel, rfl, by decide +kernel, by decide +kernel⟩
section
variable {P : Program} {w : World} {K : PySem.W.Frag} {mg : Str → Option Value} {base : Heap} {CF C CN CO : Addr}
theorem ok_Nr {f : Addr} {fd : FuncData} (F : Fun K "nearer" "Valley.nearer" sNr f fd) (T : VcT K C) : FnOk P w K mg base CX0 1 f fd ["self", "start"] (spNr C) := by
  refine F.ok scNr (fun vs H Q E h => ?_) (fun cdv A outer s H vs Q E hr h => ?_)
  · obtain ⟨x, o, ss, rs, ns, rfl, _⟩ := h
    rfl
  obtain ⟨x, o, ss, rs, ns, rfl, ⟨ln, l1, l2, l3, d1, d2, d3, qs, bs, vx⟩, tr, hl, ho, q⟩ := h
  have nd := scNr.nd
  have hu := hu_of hr
  obtain ⟨dx, fx, ix, f1, f2, f3, f4, f5, f6, f0⟩ := vx.ins
  refine ⟨_, (pss_cons (by exact (ps_set (i := 2) nd rfl (.inl rfl) (pe_disp (pps_cons (pv 1) pe_non pps_nil) (by rfl) (by rfl) (fun z => by cases z) (by decide))))
  (pss_cons (by exact (ps_set (i := 3) nd rfl (.inl rfl) (pe_lst (pa_cons (pv 1) pa_nil))))
  (pss_cons (by exact (ps_while PassesOwn.never (pt_truth (pv 3) (fun _ => rfl)) (pss_cons (by exact (ps_set (i := 4) nd rfl (.inl rfl) (pe_bm0 PySem.F.plainAttrs_list PySem.F.slot_list_pop PySem.F.type_list_pop mt_pop (pv 3))))
  (pss_one (by exact (ps_for PassesOwn.never rfl (by exact pi_list (pe_dget hu (pe_fld (pv 0) rfl) (pv 4) (fun _ _ => rfl))) (pg_name (i := 5) nd rfl (.inl rfl)) (pss_one (by exact (ps_if (pt_cmp (pc_dnotin hu (pv 5) (pv 2)) (by with_unfolding_all rfl)) (pss_cons (by exact (ps_dput hu (pv 2) (pv 5) (pv 4) rfl))
  (pss_one (by exact (ps_expr (pe_bm PySem.F.plainAttrs_list PySem.F.slot_list_append PySem.F.type_list_append mt_append (pv 3) (pa_cons (pv 5) pa_nil)))))) pss_nil)))))))))
  (pss_one (by exact (ps_ret (pv 2))))))), ?_⟩
  intro D hD
  refine ⟨_, rfl, upd_same, [(.inr o, .non)], rfl, (by show 1 ≤ 15; decide), ?_⟩
  have eD : Same H (upd (upd H D (.dK [])) D (.dK (mergeK [] [(Sum.inr o, V.non)]))) := fun b u n => by
    rw [upd_ne (ne_of_none n hD), upd_ne (ne_of_none n hD)]
    exact n
  have gD : upd (upd H D (.dK [])) D (.dK (mergeK [] [(Sum.inr o, V.non)])) D = some (.dK [(.inr o, .non)]) := upd_same
  generalize upd (upd H D (.dK [])) D (.dK (mergeK [] [(Sum.inr o, V.non)])) = H1 at eD gD ⊢
  refine ⟨_, rfl, (by show 1 ≤ sizeLine; decide), fun W hW => ?_⟩
  have WD : W ≠ D := fun z => by rw [z, gD] at hW; cases hW
  have hW0 : H W = none := eD.free hW
  refine gN ?_
  with_reducible refine sQ ?_

  refine while_gh (fun m σ Hc => (∃ a b, σ = [some (.ref x), some (.str o), some (.ref D), some (.ref W), a, b]) ∧ Same H Hc ∧ ∃ done wt kvs, Hc D = some (.dK kvs) ∧ Hc W = some (.lst (wt.map V.str)) ∧ SeaN ss rs o done wt kvs ∧ (∀ s ∈ done, Clo rs (done ++ wt) s) ∧ m = ss.length - done.length) ss.length
    ⟨⟨_, _, rfl⟩, fun b u n => by rw [upd_ne (ne_of_none n hW0)]; exact eD b u n, [], [o], _, by rw [upd_ne WD.symm]; exact gD, upd_same, SeaN.init ho, fun s hs => absurd hs (by simp), by simp⟩ ?_ ?_
  · rintro m σ Hc ⟨⟨ya, yb, rfl⟩, e1, done, wt, kvs, g1, g2, S, C1, rfl⟩
    refine ⟨_, rfl, _, .inl ⟨_, SqL.of g2, rfl⟩, ?_⟩
    rcases List.eq_nil_or_concat wt with rfl | ⟨wt, h, rfl⟩
    · refine iteF ⟨_, rfl, q D kvs Hc e1 hD g1 fun s hs ne => ?_⟩
      rw [List.append_nil] at C1
      have hin : ∀ t ∈ ss, t ∈ done := fun t ht => by
        refine tr.all (S := fun u => u ∈ done) (fun e he => ?_) ho ht (by have := S.st; rw [List.append_nil] at this; exact this)
        have q1 : nbB rs e.1 e.2 = true := nbB_iff.mpr (.inl he)
        exact ⟨fun h => C1 _ h _ q1, fun h => C1 _ h _ (by rw [nbB_swap]; exact q1)⟩
      obtain ⟨l, a, _, c⟩ := S.path s (by rw [List.append_nil]; exact hin s hs)
      obtain ⟨u, r, rfl, c2⟩ := c ne
      exact ⟨u, r, c2, a⟩
    · rw [List.concat_eq_append] at g2 S C1 ⊢
      have ne : (!((wt ++ [h]).map V.str).isEmpty) = true := by cases wt <;> rfl
      rw [ne]
      refine iteT ?_
      have lt1 : done.length < ss.length := by
        have := S.le
        rw [List.length_append, List.length_append] at this
        simp only [List.length_singleton] at this
        omega
      have hlast : ((wt ++ [h]).map V.str)[((wt ++ [h]).map V.str).length - 1]? = some (.str h) := by
        rw [List.map_append]
        simp
      refine ⟨_, rfl, .inl ⟨rfl, _, SqL.of g2⟩, W, _, .str h, rfl, rfl, g2, hlast, ?_⟩
      have dl : ((wt ++ [h]).map V.str).dropLast = wt.map V.str := by rw [List.map_append]; exact List.dropLast_concat
      rw [dl]
      have S1 := S.take
      have e2 : Same H (upd Hc W (.lst (wt.map V.str))) := fun b u n => by rw [upd_ne (ne_of_none n hW0)]; exact e1 b u n
      have gD2 : upd Hc W (.lst (wt.map V.str)) D = some (.dK kvs) := by rw [upd_ne WD.symm]; exact g1
      have gW2 : upd Hc W (.lst (wt.map V.str)) W = some (.lst (wt.map V.str)) := upd_same
      generalize upd Hc W (.lst (wt.map V.str)) = Hd at e2 gD2 gW2 ⊢
      have hss : h ∈ ss := S1.ins h (by simp)
      obtain ⟨kv3, k1, k2, k3⟩ := vx.p3
      have dg := DGet.k (k := .inr h) (e2 _ _ k1)
      rw [k3 h hss] at dg
      refine gN ?_
      refine ⟨_, rfl, x, C, dx, fx, _, rfl, e2 _ _ ix, T.cl, T.n6, f6, _, rfl, d3, _, rfl, dg, bs h, rfl, ⟨_, SqL.of (e2 _ _ (vx.nb h hss))⟩, ?_⟩
      refine for_it walk_list (fun i σ Hd => (∃ b, σ = [some (.ref x), some (.str o), some (.ref D), some (.ref W), some (.str h), b]) ∧ Same H Hd ∧ ∃ wt' kvs', Hd D = some (.dK kvs') ∧ Hd W = some (.lst (wt'.map V.str)) ∧ SeaN ss rs o (done ++ [h]) wt' kvs' ∧ (∀ s ∈ done, Clo rs (done ++ [h] ++ wt') s) ∧ ∀ t ∈ (nbs ss rs h).take i, t ∈ done ++ [h] ++ wt')
        ⟨⟨_, rfl⟩, e2, wt, kvs, gD2, gW2, S1, fun s hs t ht => ?_, fun t ht => absurd ht (by simp)⟩ (fun i σ Hd _ hh => SqL.of (hh.2.1 _ _ (vx.nb h hss))) ?_ ?_
      · have := C1 s hs t ht
        simp only [List.mem_append, List.mem_singleton] at this ⊢
        rcases this with a | a | a
        · exact .inl (.inl a)
        · exact .inr a
        · exact .inl (.inr a)
      · rintro i y σ Hd' H' hi ⟨⟨b, rfl⟩, e3, wt', kvs', gD3, gW3, S3, C3, N3⟩ ⟨rfl, hy⟩
        rw [List.length_map] at hi
        rw [List.getElem?_map, List.getElem?_eq_getElem hi] at hy
        obtain rfl := Option.some.inj hy
        have hf : (nbs ss rs h)[i] ∈ nbs ss rs h := List.getElem_mem hi
        have nf := (mem_nbs tr.ends).mp hf
        have lk : (done ++ [h] ++ wt').length ≤ 1000 := Nat.le_trans S3.le hl
        refine ⟨_, rfl, _, rfl, D, _, rfl, DGet.k (k := .inr (nbs ss rs h)[i]) gD3, _, rfl, ?_⟩
        rw [S3.keys]
        refine ite2 (fun c => ?_) (fun c => ?_)
        · have c2 : (nbs ss rs h)[i] ∉ done ++ [h] ++ wt' := fun z => by rw [decide_eq_true z] at c; cases c
          refine ⟨_, rfl, _, rfl, _, rfl, D, _, rfl, DPut.k (k := .inr (nbs ss rs h)[i]) gD3 (Nat.lt_of_le_of_lt S3.len (small1000 lk)), ?_⟩
          have gW4 : upd H' D (.dK (putK kvs' (.inr (nbs ss rs h)[i]) (.str h))) W = some (.lst (wt'.map V.str)) := by rw [upd_ne WD]; exact gW3
          have lw : wt'.length ≤ 1000 := by rw [List.length_append] at lk; omega
          refine ⟨_, rfl, .inl ⟨rfl, _, SqL.of gW4⟩, _, rfl, W, _, _, rfl, rfl, gW4, by rw [List.length_map]; exact small1000 lw, ?_⟩
          refine ⟨⟨_, rfl⟩, fun b u n => ?_, wt' ++ [(nbs ss rs h)[i]], _, by rw [upd_ne WD.symm]; exact upd_same, by rw [upd_same, List.map_append]; rfl, S3.add (by simp) tr.ends nf c2, fun s hs t ht => ?_, fun t ht => ?_⟩
          · rw [upd_ne (ne_of_none n hW0), upd_ne (ne_of_none n hD)]
            exact e3 b u n
          · rw [← List.append_assoc]
            exact List.mem_append_left _ (C3 s hs t ht)
          · rw [← List.append_assoc]
            rcases (mem_take_succ hi).mp ht with ht | rfl
            · exact List.mem_append_left _ (N3 t ht)
            · exact List.mem_append_right _ (by simp)
        · have c2 : (nbs ss rs h)[i] ∈ done ++ [h] ++ wt' := by
            by_cases z : (nbs ss rs h)[i] ∈ done ++ [h] ++ wt'
            · exact z
            · rw [decide_eq_false z] at c
              exact absurd rfl c
          refine ⟨⟨_, rfl⟩, e3, wt', kvs', gD3, gW3, S3, C3, fun t ht => ?_⟩
          rcases (mem_take_succ hi).mp ht with ht | rfl
          · exact N3 t ht
          · exact c2
      · rintro σ Hd' ⟨⟨b, rfl⟩, e3, wt', kvs', gD3, gW3, S3, C3, N3⟩
        rw [List.length_map, List.take_length] at N3
        refine ⟨ss.length - (done ++ [h]).length, by rw [List.length_append, List.length_singleton]; omega, ⟨_, _, rfl⟩, e3, done ++ [h], wt', kvs', gD3, gW3, S3, fun s hs => ?_, rfl⟩
        rcases List.mem_append.mp hs with hs | hs
        · exact C3 s hs
        · rw [List.mem_singleton.mp hs]
          exact fun t ht => N3 t ((mem_nbs tr.ends).mpr ht)
  · rintro σ Hc Q1 Q2 hq ⟨v, hv, k, tk, z⟩
    exact ⟨v, hv, k, tk, hq _ _ z⟩
end
end K1
end
-- NWay
section
set_option Elab.async false
set_option linter.all false
set_option maxRecDepth 100000
set_option maxHeartbeats 4000000
namespace K1
open PySem PySem.Spec PyProof.Rows L2
/-- two houses, or which of them is none -/
def spWa (K : PySem.W.Frag) (C CN : Addr) : Sp := fun vs H Q E => ∃ x v u ss rs ns, vs = [.ref x, v, u] ∧ IsV C H x ss rs ns ∧ Tree ss rs ∧ ss.length ≤ 1000 ∧ ((NoHo K H ss v ∧ GoesF CN [("house", v)] H E) ∨ (∃ s, v = .str s ∧ s ∈ ss ∧ ((NoHo K H ss u ∧ GoesF CN [("house", u)] H E) ∨
  (∃ t, u = .str t ∧ t ∈ ss ∧ ∀ r l H', Same H H' → H r = none → Pt rs s l t → H' r = some (.lst (l.map V.str)) → Q (.ref r) H'))))
theorem scWa : FnScope ["self", "one", "other", "nearer", "through"] ["self", "one", "other"] (defScope sWa) := ⟨rfl, rfl, rfl, by decide +kernel, rfl, by decide +kernel, by decide +kernel⟩
theorem Pt.tl {rs : List (Str × Str)} {s t u : Str} {l : List Str} (h : Pt rs s (s :: u :: l) t) : Pt rs u (u :: l) t := by
  cases h with
  | cons q h n =>
    obtain ⟨r, e⟩ := h.head
    injection e with e1 e2
    subst e1
    exact h
theorem Pt.here {rs : List (Str × Str)} (hc : Cut rs) {s : Str} {r : List Str} (h : Pt rs s (s :: r) s) : r = [] := by
  have := h.uniq hc (.one s)
  injection this with _ e
theorem same_upd {H Hc : Hp} {L : Addr} {o : HO} (e : Same H Hc) (n : H L = none) : Same H (L2.upd Hc L o) := fun b u h => by
  rw [upd_ne (ne_of_none h n)]
  exact e b u h
section
variable {P : Program} {w : World} {K : PySem.W.Frag} {mg : Str → Option Value} {base : Heap} {CF C CN CO : Addr}
theorem ok_Wa {f fN fR : Addr} {fd nd_ rd_ : FuncData} (F : Fun K "way" "Valley.way" sWa f fd) (T : VcT K C)
    (GN : FnOk P w K mg base (L2.CX P w) 3 fN nd_ ["self", "house"] (spNe K C CN)) (hN : Meth K C "need_house" fN) (bN : Binds K nd_ ["self", "house"] [])
    (GR : FnOk P w K mg base CX0 1 fR rd_ ["self", "start"] (spNr C)) (hR : Meth K C "nearer" fR) (bR : Binds K rd_ ["self", "start"] []) :
    FnOk P w K mg base (L2.CX P w) 4 f fd ["self", "one", "other"] (spWa K C CN) := by
  refine F.okX scWa (fun vs H Q E h => ?_) (fun cdv A outer s H vs Q E hr h => ?_)
  · obtain ⟨x, v, u, ss, rs, ns, rfl, _⟩ := h
    rfl
  obtain ⟨x, v, u, ss, rs, ns, rfl, iv, tr, hl, h⟩ := h
  obtain ⟨ln, l1, l2, l3, d1, d2, d3, qs, bs, vx⟩ := id iv
  obtain ⟨dx, fx, ix, f1, f2, f3, f4, f5, f6, f0⟩ := vx.ins
  have nd := scWa.nd
  have hu := hu_of hr
  have hr3 : Room 3 _ := hr.mono (by decide)
  have hr1 : Room 1 _ := hr.mono (by decide)
  have nN : fx.lookup ("need_house" : Str) = none := f0 _ (by decide +kernel) (by decide +kernel) (by decide +kernel) (by decide +kernel) (by decide +kernel) (by decide +kernel)
  have nR : fx.lookup ("nearer" : Str) = none := f0 _ (by decide +kernel) (by decide +kernel) (by decide +kernel) (by decide +kernel) (by decide +kernel) (by decide +kernel)
  refine ⟨_, (pss_cons (by exact (ps_expr (pe_meth (pv 0) T.cl hN GN hr3 bN .nil (passes_call (takes_of rfl rfl rfl rfl) (fun _ _ _ _ h => h)) (pa_cons (pv 1) pa_nil))))
  (pss_cons (by exact (ps_expr (pe_meth (pv 0) T.cl hN GN hr3 bN .nil (passes_call (takes_of rfl rfl rfl rfl) (fun _ _ _ _ h => h)) (pa_cons (pv 2) pa_nil))))
  (pss_cons (by exact (ps_set (i := 3) nd rfl (.inl rfl) (pe_meth (pv 0) T.cl hR GR hr1 bR .nil pass0 (pa_cons (pv 2) pa_nil))))
  (pss_cons (by exact (ps_set (i := 4) nd rfl (.inl rfl) (pe_lst (pa_cons (pv 1) pa_nil))))
  (pss_cons (by exact (ps_while (passes_of rfl) (pt_cmpR op_ne (pe_ix ix_list (pv 4) (pe_un un_neg pe_int) (fun _ _ => rfl)) (pv 2) (nomark _)) (pss_one (by exact (ps_expr (pe_bm PySem.F.plainAttrs_list PySem.F.slot_list_append PySem.F.type_list_append mt_append (pv 4) (pa_cons (pe_dget hu (pv 3) (pe_ix ix_list (pv 4) (pe_un un_neg pe_int) (fun _ _ => rfl)) (fun _ _ => rfl)) pa_nil)))))))
  (pss_one (by exact (ps_ret (pv 4))))))))), ?_⟩
  refine ⟨_, rfl, x, dx, fx, rfl, ix, nN, _, rfl, x, v, ss, rs, ns, rfl, iv, ?_⟩
  rcases h with ⟨n, g⟩ | ⟨s, rfl, hs, h⟩
  · exact .inr ⟨n, g⟩
  refine .inl ⟨s, rfl, hs, _, rfl, x, dx, fx, rfl, ix, nN, _, rfl, x, u, ss, rs, ns, rfl, iv, ?_⟩
  rcases h with ⟨n, g⟩ | ⟨t, rfl, ht, q⟩
  · exact .inr ⟨n, g⟩
  refine .inl ⟨t, rfl, ht, _, rfl, x, dx, fx, rfl, ix, nR, _, rfl, x, t, ss, rs, ns, rfl, iv, tr, hl, ht, fun D kvs H1 e1 nD gD near => ?_⟩
  refine gN ?_
  refine ⟨_, rfl, (by show 1 ≤ sizeLine; decide), fun W hW => ?_⟩
  have hW0 : H W = none := e1.free hW
  have WD : W ≠ D := fun z => by rw [z, gD] at hW; cases hW
  obtain ⟨l0, p0⟩ := tr.way hs ht
  obtain ⟨r0, rfl⟩ := p0.head
  refine gN ?_
  with_reducible refine sQ ?_
  refine while_gh (fun m σ Hc => σ = [some (.ref x), some (.str s), some (.str t), some (.ref D), some (.ref W)] ∧ Same H Hc ∧ Hc D = some (.dK kvs) ∧ ∃ pre cur r, Hc W = some (.lst ((pre ++ [cur]).map V.str)) ∧ cur ∈ ss ∧ Pt rs cur (cur :: r) t ∧ Pt rs s (pre ++ cur :: r) t ∧ m = r.length) r0.length
    ⟨rfl, same_upd e1 hW0, by rw [upd_ne WD.symm]; exact gD, [], s, r0, upd_same, hs, p0, p0, rfl⟩ ?_ ?_
  · rintro m σ Hc ⟨rfl, e2, g1, pre, cur, r, g2, hc, pc, pf, rfl⟩
    have al : atI ((pre ++ [cur]).map V.str) (-1) = some (.str cur) := by rw [List.map_append]; exact atI_last _ _
    refine ⟨_, rfl, _, rfl, W, _, _, _, rfl, rfl, SqL.of g2, al, _, rfl, rfl, _, rfl, ?_⟩
    by_cases e : cur = t
    · subst e
      rw [decide_eq_true rfl]
      refine iteF ⟨_, rfl, q W _ Hc e2 hW0 pf ?_⟩
      rw [pc.here tr.cut]
      exact g2
    · have ne : (!decide (V.str cur = V.str t)) = true := by rw [decide_eq_false (fun z => e (V.str.inj z))]; rfl
      rw [ne]
      obtain ⟨u, l, n1, n2⟩ := near cur hc e
      have el := pc.uniq tr.cut n2
      injection el with _ el
      subst el
      have dg := DGet.k (k := .inr cur) g1
      rw [n1] at dg
      have ln2 : (pre ++ [cur]).length ≤ 1000 := by
        have := nodup_len pf.nd (pf.mem tr.ends ht)
        rw [List.length_append] at this ⊢
        simp only [List.length_cons, List.length_nil] at this ⊢
        omega
      refine iteT ⟨_, rfl, .inl ⟨rfl, _, SqL.of g2⟩, _, rfl, _, rfl, _, rfl, W, _, _, _, rfl, rfl, SqL.of g2, al, D, _, rfl, dg, W, _, _, rfl, rfl, g2, by rw [List.length_map]; exact small1000 ln2, ?_⟩
      refine ⟨l.length, Nat.lt_succ_self _, rfl, same_upd e2 hW0, by rw [upd_ne WD.symm]; exact g1, pre ++ [cur], u, l, by rw [upd_same, List.map_append (l₂ := [u])]; rfl, (pc.mem tr.ends ht) u (by simp), pc.tl, by rw [List.append_assoc]; exact pf, rfl⟩
  · rintro σ Hc Q1 Q2 hq ⟨v1, h1, v2, h2, p, xs, i, y, a, b, c, d, v4, h4, k5, b5, h5, z⟩
    exact ⟨v1, h1, v2, h2, p, xs, i, y, a, b, c, d, v4, h4, k5, b5, h5, hq _ _ z⟩
end
end K1
end
-- NSide
section
set_option Elab.async false
set_option linter.all false
set_option maxRecDepth 100000
set_option maxHeartbeats 4000000
namespace K1
open PySem PySem.Spec PyProof.Rows L2
open Classical in
/-- the houses on other's side of the road of one and other, in the valley's order -/
noncomputable def sideL (ss : List Str) (rs : List (Str × Str)) (one other : Str) : List Str := ss.filter fun z => decide (Rch rs one other z)
theorem plOf_nb {rs : List (Str × Str)} {s t : Str} : (plOf rs s t).isSome = nbB rs s t := by
  unfold plOf nbB
  rw [List.findIdx?_isSome]
/-- a search on one side of a road -/
structure SeaS (ss : List Str) (rs : List (Str × Str)) (one other : Str) (done wt : List Str) (kvs : List (Key × V)) : Prop where
  nd : (done ++ wt).Nodup
  ins : ∀ s ∈ done ++ wt, s ∈ ss
  keys : ∀ s, (valV kvs (.inr s)).isSome = decide (s ∈ done ++ wt)
  len : kvs.length ≤ (done ++ wt).length
  st : other ∈ done ++ wt
  rch : ∀ s ∈ done ++ wt, Rch rs one other s
theorem SeaS.le {ss : List Str} {rs : List (Str × Str)} {one other : Str} {done wt : List Str} {kvs : List (Key × V)} (S : SeaS ss rs one other done wt kvs) : (done ++ wt).length ≤ ss.length := nodup_len S.nd S.ins
theorem SeaS.init {ss : List Str} {rs : List (Str × Str)} {one o : Str} {v : V} (ho : o ∈ ss) : SeaS ss rs one o [] [o] [(.inr o, v)] := by
  refine ⟨by simp, fun s hs => by rw [List.mem_singleton.mp hs]; exact ho, fun s => ?_, Nat.le_refl _, by simp, fun s hs => ?_⟩
  · by_cases e : s = o
    · subst e
      rw [valV_pos (p := (Sum.inr s, v)) rfl]
      simp
    · rw [valV_neg (p := (Sum.inr o, v)) (fun z => e (Sum.inr.inj z).symm)]
      simp [e, valV_nil]
  · rw [List.mem_singleton.mp hs]
    exact .base
theorem SeaS.take {ss : List Str} {rs : List (Str × Str)} {one o : Str} {done wt : List Str} {h : Str} {kvs : List (Key × V)} (S : SeaS ss rs one o done (wt ++ [h]) kvs) : SeaS ss rs one o (done ++ [h]) wt kvs := by
  have p : (done ++ (wt ++ [h])).Perm (done ++ [h] ++ wt) := by
    rw [List.append_assoc]
    exact List.Perm.append_left _ List.perm_append_comm
  have m : ∀ z, z ∈ done ++ (wt ++ [h]) ↔ z ∈ done ++ [h] ++ wt := fun z => p.mem_iff
  exact ⟨p.nodup_iff.mp S.nd, fun s hs => S.ins s ((m s).mpr hs), fun s => by rw [S.keys s]; exact decide_eq_decide.mpr (m s), by rw [← p.length_eq]; exact S.len, (m o).mp S.st, fun s hs => S.rch s ((m s).mpr hs)⟩
theorem SeaS.add {ss : List Str} {rs : List (Str × Str)} {one o : Str} {done wt : List Str} {h f : Str} {kvs : List (Key × V)} {v : V} (S : SeaS ss rs one o done wt kvs) (hh : h ∈ done ++ wt) (he : EndsIn ss rs) (q : nbB rs h f = true) (n1 : f ≠ one) (n : f ∉ done ++ wt) :
    SeaS ss rs one o done (wt ++ [f]) (putK kvs (.inr f) v) := by
  have m : ∀ z, z ∈ done ++ (wt ++ [f]) ↔ z ∈ done ++ wt ∨ z = f := fun z => by
    rw [← List.append_assoc, List.mem_append, List.mem_singleton]
  have vn : valV kvs (.inr f) = none := by
    have := S.keys f
    rw [decide_eq_false n] at this
    cases e : valV kvs (.inr f) with
    | none => rfl
    | some v => rw [e] at this; cases this
  refine ⟨?_, fun s hs => ?_, fun s => ?_, ?_, (m o).mpr (.inl S.st), fun s hs => ?_⟩
  · rw [← List.append_assoc, List.nodup_append]
    exact ⟨S.nd, by simp, fun x hx y hy => by rw [List.mem_singleton.mp hy]; intro z; exact n (by rw [← z]; exact hx)⟩
  · rcases (m s).mp hs with hs | rfl
    · exact S.ins s hs
    · exact (he.nb q).2
  · rw [valV_put]
    by_cases e : s = f
    · subst e
      rw [if_pos rfl, decide_eq_true ((m s).mpr (.inr rfl))]
      rfl
    · rw [if_neg fun z => e (Sum.inr.inj z), S.keys s]
      exact decide_eq_decide.mpr ⟨fun h => (m s).mpr (.inl h), fun h => ((m s).mp h).resolve_right e⟩
  · rw [putK_new _ vn, List.length_append, ← List.append_assoc, List.length_append]
    have := S.len
    simp only [List.length_singleton]
    omega
  · rcases (m s).mp hs with hs | rfl
    · exact S.rch s hs
    · exact (S.rch h hh).step q n1
/-- all that lie beside a house, but one -/
def CloO (rs : List (Str × Str)) (one : Str) (all : List Str) (s : Str) : Prop := ∀ t, nbB rs s t = true → t ≠ one → t ∈ all
theorem rch_all {rs : List (Str × Str)} {one other : Str} {all : List Str} (h0 : other ∈ all) (h : ∀ s ∈ all, CloO rs one all s) {z : Str} (r : Rch rs one other z) : z ∈ all := by
  induction r with
  | base => exact h0
  | step _ q n ih => exact h _ ih _ q n
def spSi (K : PySem.W.Frag) (C CN CO : Addr) : Sp := fun vs H Q E => ∃ x v u ss rs ns, vs = [.ref x, v, u] ∧ IsV C H x ss rs ns ∧ Tree ss rs ∧ ss.length ≤ 1000 ∧ ((NoHo K H ss v ∧ GoesF CN [("house", v)] H E) ∨ (∃ s, v = .str s ∧ s ∈ ss ∧ ((NoHo K H ss u ∧ GoesF CN [("house", u)] H E) ∨
  (∃ t, u = .str t ∧ t ∈ ss ∧ ((nbB rs s t = false ∧ GoesF CO [("other", .str t), ("one", .str s)] H E) ∨ (nbB rs s t = true ∧ ∀ r H', Same H H' → H r = none → H' r = some (.lst ((sideL ss rs s t).map V.str)) → Q (.ref r) H'))))))
theorem scSi : FnScope ["self", "one", "other", "there", "waiting", "house", "far"] ["self", "one", "other"] (defScope sSi) := ⟨rfl, rfl, rfl, by decide +kernel, rfl, by decide +kernel, by decide +kernel⟩
section
variable {P : Program} {w : World} {K : PySem.W.Frag} {mg : Str → Option Value} {base : Heap} {CF C CN CO : Addr}
open Classical in
theorem ok_Si {f fP : Addr} {fd pd_ : FuncData} (F : Fun K "side" "Valley.side" sSi f fd) (T : VcT K C)
    (GP : FnOk P w K mg base (L2.CX P w) 4 fP pd_ ["self", "one", "other"] (spPl K C CN CO)) (hP : Meth K C "place" fP) (bP : Binds K pd_ ["self", "one", "other"] []) :
    FnOk P w K mg base (L2.CX P w) 5 f fd ["self", "one", "other"] (spSi K C CN CO) := by
  refine F.okX scSi (fun vs H Q E h => ?_) (fun cdv A outer s H vs Q E hr h => ?_)
  · obtain ⟨x, v, u, ss, rs, ns, rfl, _⟩ := h
    rfl
  obtain ⟨x, v, u, ss, rs, ns, rfl, iv, tr, hl, h⟩ := h
  obtain ⟨ln, l1, l2, l3, d1, d2, d3, qs, bs, vx⟩ := id iv
  obtain ⟨dx, fx, ix, f1, f2, f3, f4, f5, f6, f0⟩ := vx.ins
  have nd := scSi.nd
  have hu := hu_of hr
  have hr4 : Room 4 _ := hr.mono (by decide)
  have nP : fx.lookup ("place" : Str) = none := f0 _ (by decide +kernel) (by decide +kernel) (by decide +kernel) (by decide +kernel) (by decide +kernel) (by decide +kernel)
  refine ⟨_, (pss_cons (by exact (ps_expr (pe_meth (pv 0) T.cl hP GP hr4 bP .nil (passes_call (takes_of rfl rfl rfl rfl) (fun _ _ _ _ h => h)) (pa_cons (pv 1) (pa_cons (pv 2) pa_nil)))))
  (pss_cons (by exact (ps_set (i := 3) nd rfl (.inr rfl) (pe_disp (pps_cons (pv 2) pe_bl pps_nil) (by rfl) (by rfl) (fun z => by cases z) (by decide))))
  (pss_cons (by exact (ps_set (i := 4) nd rfl (.inl rfl) (pe_lst (pa_cons (pv 2) pa_nil))))
  (pss_cons (by exact (ps_while (passes_of rfl) (pt_truth (pv 4) (fun _ => rfl)) (pss_cons (by exact (ps_set (i := 5) nd rfl (.inl rfl) (pe_bm0 PySem.F.plainAttrs_list PySem.F.slot_list_pop PySem.F.type_list_pop mt_pop (pv 4))))
  (pss_one (by exact (ps_for (passes_of rfl) rfl (by exact pi_list (pe_dget hu (pe_fld (pv 0) rfl) (pv 5) (fun _ _ => rfl))) (pg_name (i := 6) nd rfl (.inl rfl)) (pss_one (by exact (ps_if (PW.pt (pw_and (pt_cmpR op_ne (pv 6) (pv 1) (nomark _)) (pw_and1 (pt_cmp (pc_dnotin hu (pv 6) (pv 3)) (by with_unfolding_all rfl))))) (pss_cons (by exact (ps_dput hu (pv 3) (pv 6) pe_bl rfl))
  (pss_one (by exact (ps_expr (pe_bm PySem.F.plainAttrs_list PySem.F.slot_list_append PySem.F.type_list_append mt_append (pv 4) (pa_cons (pv 6) pa_nil)))))) pss_nil)))))))))
  (pss_one (by exact (ps_ret (pe_lc (own := [("house", 5)]) (g := gName 5) (tt := _) rfl nd (by exact pi_list (pe_fld (pv 0) rfl)) (by exact blkOk_by (N := ["self", "one", "other", "there", "waiting", "house", "far"]) (sc := defScope sSi) (by decide +kernel)) (fun _ _ _ _ _ => by exact (pg_name (i := 5) nd rfl (.inl rfl))) (fun _ _ _ _ _ => by exact (pts_one (pt_cmp (pc_din hu (pv 5) (pv 3)) (by with_unfolding_all rfl)))) (fun _ _ _ _ _ => by exact (pv 5)))))))))), ?_⟩
  refine ⟨_, rfl, x, dx, fx, rfl, ix, nP, _, rfl, _, rfl, x, v, u, ss, rs, ns, rfl, iv, ?_⟩
  rcases h with ⟨n, g⟩ | ⟨s, rfl, hs, h⟩
  · exact .inl ⟨n, g⟩
  refine .inr ⟨s, rfl, hs, ?_⟩
  rcases h with ⟨n, g⟩ | ⟨t, rfl, ht, h⟩
  · exact .inl ⟨n, g⟩
  refine .inr ⟨t, rfl, ht, ?_⟩
  rcases h with ⟨n, g⟩ | ⟨hnb, q⟩
  · refine .inl ⟨?_, g⟩
    have := plOf_nb (rs := rs) (s := s) (t := t)
    rw [n] at this
    cases e : plOf rs s t with
    | none => rfl
    | some i => rw [e] at this; cases this
  obtain ⟨i, hi⟩ : ∃ i, plOf rs s t = some i := by
    have := plOf_nb (rs := rs) (s := s) (t := t)
    rw [hnb] at this
    exact Option.isSome_iff_exists.mp this
  refine .inr ⟨i, hi, fun H0 e0 => ?_⟩
  intro D hD
  refine ⟨_, rfl, upd_same, [(.inr t, .bl true)], rfl, (by show 1 ≤ 15; decide), ?_⟩
  have hD0 : H D = none := e0.free hD
  have eD : Same H (upd (upd H0 D (.dK [])) D (.dK (mergeK [] [(Sum.inr t, V.bl true)]))) := fun b u n => by
    rw [upd_ne (ne_of_none n hD0), upd_ne (ne_of_none n hD0)]
    exact e0 b u n
  have gD : upd (upd H0 D (.dK [])) D (.dK (mergeK [] [(Sum.inr t, V.bl true)])) D = some (.dK [(.inr t, .bl true)]) := upd_same
  generalize upd (upd H0 D (.dK [])) D (.dK (mergeK [] [(Sum.inr t, V.bl true)])) = H1 at eD gD ⊢
  refine ⟨_, rfl, (by show 1 ≤ sizeLine; decide), fun W hW => ?_⟩
  have WD : W ≠ D := fun z => by rw [z, gD] at hW; cases hW
  have hW0 : H W = none := eD.free hW
  refine gN ?_
  with_reducible refine sQ ?_
  refine while_gh (fun m σ Hc => (∃ a b, σ = [some (.ref x), some (.str s), some (.str t), some (.ref D), some (.ref W), a, b]) ∧ Same H Hc ∧ ∃ done wt kvs, Hc D = some (.dK kvs) ∧ Hc W = some (.lst (wt.map V.str)) ∧ SeaS ss rs s t done wt kvs ∧ (∀ z ∈ done, CloO rs s (done ++ wt) z) ∧ m = ss.length - done.length) ss.length
    ⟨⟨_, _, rfl⟩, same_upd eD hW0, [], [t], _, by rw [upd_ne WD.symm]; exact gD, upd_same, SeaS.init ht, fun s hs => absurd hs (by simp), by simp⟩ ?_ ?_
  · rintro m σ Hc ⟨⟨ya, yb, rfl⟩, e1, done, wt, kvs, g1, g2, S, C1, rfl⟩
    refine ⟨_, rfl, _, .inl ⟨_, SqL.of g2, rfl⟩, ?_⟩
    rcases List.eq_nil_or_concat wt with rfl | ⟨wt, h, rfl⟩
    · refine iteF ?_
      refine ⟨_, rfl, x, C, dx, fx, _, rfl, e1 _ _ ix, T.cl, T.n1, f1, l1, rfl, ⟨_, SqL.of (e1 _ _ vx.h1)⟩, fun L hL => ?_⟩
      have hL0 : H L = none := e1.free hL
      have LD : L ≠ D := fun z => by rw [z, g1] at hL; cases hL
      have memb : ∀ z, decide (Rch rs s t z) = decide (z ∈ done ++ []) := fun z => decide_eq_decide.mpr ⟨fun r => rch_all S.st (fun y hy => C1 y (by rw [List.append_nil] at hy; exact hy)) r, fun m => S.rch z m⟩
      refine lc_it walk_list (fun i Hd => Same H Hd ∧ Hd D = some (.dK kvs) ∧ Hd L = some (.lst (((ss.take i).filter fun z => decide (Rch rs s t z)).map V.str))) ⟨same_upd e1 hL0, by rw [upd_ne LD.symm]; exact g1, upd_same⟩ (fun i Hd _ hh => SqL.of (hh.1 _ _ vx.h1)) ?_ ?_
      · rintro j y Hd H'' hj ⟨k1, kD, k2⟩ ⟨rfl, hy⟩
        rw [List.length_map] at hj
        rw [List.getElem?_map, List.getElem?_eq_getElem hj] at hy
        obtain rfl := Option.some.inj hy
        refine ⟨rfl, ?_⟩
        refine ⟨_, rfl, _, rfl, D, _, rfl, DGet.k (k := .inr ss[j]) kD, _, rfl, ?_⟩
        rw [S.keys, ← memb]
        have tk : (ss.take (j + 1)).filter (fun z => decide (Rch rs s t z)) = (ss.take j).filter (fun z => decide (Rch rs s t z)) ++ if decide (Rch rs s t ss[j]) = true then [ss[j]] else [] := by
          rw [List.take_succ, List.getElem?_eq_getElem hj, List.filter_append]
          congr 1
          by_cases c : decide (Rch rs s t ss[j]) = true
          · simp only [Option.toList, List.filter_cons, if_pos c, List.filter_nil]
          · simp only [Option.toList, List.filter_cons, if_neg c, List.filter_nil]
        have ll : ((ss.take j).filter fun z => decide (Rch rs s t z)).length ≤ 1000 := Nat.le_trans (List.length_filter_le _ _) (Nat.le_trans (List.length_take_le _ _) (by omega))
        refine ite2 (fun c => ?_) (fun c => ?_)
        · refine ⟨_, rfl, _, k2, by rw [List.length_map]; exact small1000 ll, same_upd k1 hL0, by rw [upd_ne LD.symm]; exact kD, ?_⟩
          rw [upd_same, tk, if_pos c, List.map_append]
          rfl
        · exact ⟨k1, kD, by rw [tk, if_neg c, List.append_nil]; exact k2⟩
      · rintro Hd ⟨k1, _, k2⟩
        rw [List.length_map, List.take_length] at k2
        exact q L Hd k1 hL0 k2
    · rw [List.concat_eq_append] at g2 S C1 ⊢
      have ne : (!((wt ++ [h]).map V.str).isEmpty) = true := by cases wt <;> rfl
      rw [ne]
      refine iteT ?_
      have lt1 : done.length < ss.length := by
        have := S.le
        rw [List.length_append, List.length_append] at this
        simp only [List.length_singleton] at this
        omega
      have hlast : ((wt ++ [h]).map V.str)[((wt ++ [h]).map V.str).length - 1]? = some (.str h) := by
        rw [List.map_append]
        simp
      refine ⟨_, rfl, .inl ⟨rfl, _, SqL.of g2⟩, W, _, .str h, rfl, rfl, g2, hlast, ?_⟩
      have dl : ((wt ++ [h]).map V.str).dropLast = wt.map V.str := by rw [List.map_append]; exact List.dropLast_concat
      rw [dl]
      have S1 := S.take
      have e2 : Same H (upd Hc W (.lst (wt.map V.str))) := same_upd e1 hW0
      have gD2 : upd Hc W (.lst (wt.map V.str)) D = some (.dK kvs) := by rw [upd_ne WD.symm]; exact g1
      have gW2 : upd Hc W (.lst (wt.map V.str)) W = some (.lst (wt.map V.str)) := upd_same
      generalize upd Hc W (.lst (wt.map V.str)) = Hd at e2 gD2 gW2 ⊢
      have hss : h ∈ ss := S1.ins h (by simp)
      obtain ⟨kv3, k1, k2, k3⟩ := vx.p3
      have dg := DGet.k (k := .inr h) (e2 _ _ k1)
      rw [k3 h hss] at dg
      refine gN ?_
      refine ⟨_, rfl, x, C, dx, fx, _, rfl, e2 _ _ ix, T.cl, T.n6, f6, _, rfl, d3, _, rfl, dg, bs h, rfl, ⟨_, SqL.of (e2 _ _ (vx.nb h hss))⟩, ?_⟩
      refine for_it walk_list (fun i σ Hd => (∃ b, σ = [some (.ref x), some (.str s), some (.str t), some (.ref D), some (.ref W), some (.str h), b]) ∧ Same H Hd ∧ ∃ wt' kvs', Hd D = some (.dK kvs') ∧ Hd W = some (.lst (wt'.map V.str)) ∧ SeaS ss rs s t (done ++ [h]) wt' kvs' ∧ (∀ z ∈ done, CloO rs s (done ++ [h] ++ wt') z) ∧ ∀ z ∈ (nbs ss rs h).take i, z ≠ s → z ∈ done ++ [h] ++ wt')
        ⟨⟨_, rfl⟩, e2, wt, kvs, gD2, gW2, S1, fun z hz y hy n => ?_, fun t ht => absurd ht (by simp)⟩ (fun i σ Hd _ hh => SqL.of (hh.2.1 _ _ (vx.nb h hss))) ?_ ?_
      · have := C1 z hz y hy n
        simp only [List.mem_append, List.mem_singleton] at this ⊢
        rcases this with a | a | a
        · exact .inl (.inl a)
        · exact .inr a
        · exact .inl (.inr a)
      · rintro i y σ Hd' H' hi ⟨⟨b, rfl⟩, e3, wt', kvs', gD3, gW3, S3, C3, N3⟩ ⟨rfl, hy⟩
        rw [List.length_map] at hi
        rw [List.getElem?_map, List.getElem?_eq_getElem hi] at hy
        obtain rfl := Option.some.inj hy
        have hf : (nbs ss rs h)[i] ∈ nbs ss rs h := List.getElem_mem hi
        have nf := (mem_nbs tr.ends).mp hf
        have lk : (done ++ [h] ++ wt').length ≤ 1000 := Nat.le_trans S3.le hl
        refine ⟨_, rfl, _, rfl, rfl, _, rfl, ?_⟩
        by_cases e : (nbs ss rs h)[i] = s
        · rw [e, decide_eq_true rfl]
          refine ite2 (fun c => by cases c) (fun _ => ?_)
          refine iteF ⟨⟨_, rfl⟩, e3, wt', kvs', gD3, gW3, S3, C3, fun z hz n => ?_⟩
          rcases (mem_take_succ hi).mp hz with hz | rfl
          · exact N3 z hz n
          · exact absurd e n
        · have ne2 : (!decide (V.str (nbs ss rs h)[i] = V.str s)) = true := by rw [decide_eq_false (fun z => e (V.str.inj z))]; rfl
          rw [ne2]
          refine ite2 (fun _ => ?_) (fun c => absurd rfl c)
          refine ⟨_, rfl, _, rfl, D, _, rfl, DGet.k (k := .inr (nbs ss rs h)[i]) gD3, _, rfl, ?_⟩
          rw [S3.keys]
          refine ite2 (fun c => ?_) (fun c => ?_)
          · have c2 : (nbs ss rs h)[i] ∉ done ++ [h] ++ wt' := fun z => by rw [decide_eq_true z] at c; cases c
            refine ⟨_, rfl, _, rfl, D, _, rfl, DPut.k (k := .inr (nbs ss rs h)[i]) gD3 (Nat.lt_of_le_of_lt S3.len (small1000 lk)), ?_⟩
            have gW4 : upd H' D (.dK (putK kvs' (.inr (nbs ss rs h)[i]) (.bl true))) W = some (.lst (wt'.map V.str)) := by rw [upd_ne WD]; exact gW3
            have lw : wt'.length ≤ 1000 := by rw [List.length_append] at lk; omega
            refine ⟨_, rfl, .inl ⟨rfl, _, SqL.of gW4⟩, _, rfl, W, _, _, rfl, rfl, gW4, by rw [List.length_map]; exact small1000 lw, ?_⟩
            refine ⟨⟨_, rfl⟩, same_upd (same_upd e3 hD0) hW0, wt' ++ [(nbs ss rs h)[i]], _, by rw [upd_ne WD.symm]; exact upd_same, by rw [upd_same, List.map_append]; rfl, S3.add (by simp) tr.ends nf e c2, fun z hz y hy n => ?_, fun z hz n => ?_⟩
            · rw [← List.append_assoc]
              exact List.mem_append_left _ (C3 z hz y hy n)
            · rw [← List.append_assoc]
              rcases (mem_take_succ hi).mp hz with hz | rfl
              · exact List.mem_append_left _ (N3 z hz n)
              · exact List.mem_append_right _ (by simp)
          · have c2 : (nbs ss rs h)[i] ∈ done ++ [h] ++ wt' := by
              by_cases z : (nbs ss rs h)[i] ∈ done ++ [h] ++ wt'
              · exact z
              · rw [decide_eq_false z] at c
                exact absurd rfl c
            refine ⟨⟨_, rfl⟩, e3, wt', kvs', gD3, gW3, S3, C3, fun z hz n => ?_⟩
            rcases (mem_take_succ hi).mp hz with hz | rfl
            · exact N3 z hz n
            · exact c2
      · rintro σ Hd' ⟨⟨b, rfl⟩, e3, wt', kvs', gD3, gW3, S3, C3, N3⟩
        rw [List.length_map, List.take_length] at N3
        refine ⟨ss.length - (done ++ [h]).length, by rw [List.length_append, List.length_singleton]; omega, ⟨_, _, rfl⟩, e3, done ++ [h], wt', kvs', gD3, gW3, S3, fun z hz => ?_, rfl⟩
        rcases List.mem_append.mp hz with hz | hz
        · exact C3 z hz
        · rw [List.mem_singleton.mp hz]
          exact fun y hy n => N3 y ((mem_nbs tr.ends).mpr hy) n
  · rintro σ Hc Q1 Q2 hq ⟨v, hv, k, tk, z⟩
    exact ⟨v, hv, k, tk, hq _ _ z⟩
end
end K1
end
-- WProg1
section
set_option Elab.async false
set_option linter.all false
set_option maxRecDepth 100000
set_option maxHeartbeats 4000000
namespace K1
open PySem PySem.Spec PyProof.Rows L2 W0
abbrev sIV : Stmt := inClass (top 7) 0
abbrev sNv : Stmt := top 30
theorem scIV : FnScope ["self", "thing"] ["self", "thing"] (defScope sIV) := ⟨rfl, rfl, rfl, by decide +kernel, rfl, by decide +kernel, by decide +kernel⟩
theorem scNv : FnScope ["valley"] ["valley"] (defScope sNv) := ⟨rfl, rfl, rfl, by decide +kernel, rfl, by decide +kernel, by decide +kernel⟩
/-- what is no Valley -/
def NoV (K : PySem.W.Frag) (H : Hp) (v : V) : Prop := ∃ t, TyF K H v (.type t) ∧ t ∈ kinds ++ ["function"]
theorem NoV.ext {K : PySem.W.Frag} {H H' : Hp} {v : V} (h : NoV K H v) (e : Same H H') : NoV K H' v := by
  obtain ⟨t, a, b⟩ := h
  exact ⟨t, a.imp (fun x => TyX.ext x e) id, b⟩
def spNv (K : PySem.W.Frag) (C CV : Addr) : Sp := fun vs H Q E => ∃ v, vs = [v] ∧ ((∃ x ss rs ns, v = .ref x ∧ IsV C H x ss rs ns ∧ Q .non H) ∨ (NoV K H v ∧ GoesF CV [("thing", v)] H E))
/-- an int, or what is none -/
def NotI (K : PySem.W.Frag) (H : Hp) (v : V) : Prop := ∃ t, TyX K H v (.type t) ∧ t ∈ kinds ∧ t ≠ "int"
def spNumX (K : PySem.W.Frag) : Sp := fun vs H Q _ => ∃ (v : V), vs = [v] ∧ ((∃ i, v = .int i ∧ Q (.bl (decide (0 ≤ i))) H) ∨ (NotI K H v ∧ Q (.bl false) H))
section
variable {P : Program} {w : World} {K : PySem.W.Frag} {mg : Str → Option Value} {base : Heap} {CF : Addr}
theorem ok_iV {f C : Addr} {fd : FuncData} (F : Fun K "__init__" "BadValley.__init__" sIV f fd) (T : FeC K mg CF) (TC : ErF K mg "BadValley" C f ["thing"]) : FnOk P w K mg base CX0 1 f fd ["self", "thing"] (spEr1 C "thing") := by
  refine F.ok scIV (fun vs H Q E h => ?_) (fun cdv A outer s H vs Q E hr h => ?_)
  · obtain ⟨a, v, rfl, _⟩ := h
    rfl
  obtain ⟨a, v, rfl, ha, q⟩ := h
  refine ⟨_, pss_cons (by exact ps_expr (pe_feinit rfl T (pa_cons (pv 0) (pa_cons pe_str pa_nil)))) (pss_one (by exact ps_ost (pv 0) (pv 1))), ?_⟩
  refine ⟨_, rfl, a, C, [.str _], rfl, (by decide), TC.ox, ha, _, rfl, _, rfl, a, C, rfl, TC.ox, TC.no _ (by simp), .inl ⟨ha, fun d hd n => q d hd n⟩⟩
theorem ok_Nv {f fE C CV : Addr} {fd ed : FuncData} (F : Fun K "need_valley" "need_valley" sNv f fd) (B : Bl mg) (T : VcE K C) (mV : mg "Valley" = some (.ref C))
    (TF : FeC K mg CF) (TC : ErF K mg "BadValley" CV fE ["thing"]) (FE : Fun K "__init__" "BadValley.__init__" sIV fE ed) (bE : Binds K ed ["self", "thing"] []) : FnOk P w K mg base (L2.CX P w) 3 f fd ["valley"] (spNv K C CV) := by
  have GE := ok_iV (P := P) (w := w) (base := base) FE TF TC
  refine F.okX scNv (fun vs H Q E h => ?_) (fun cdv A outer s H vs Q E hr h => ?_)
  · obtain ⟨v, rfl, _⟩ := h
    rfl
  obtain ⟨v, rfl, h⟩ := h
  have hr2 : Room 2 _ := hr.mono (by decide)
  refine ⟨_, pss_one (by exact (ps_if (pt_not (pt_val (pe_callB call_isiF rfl B.isi PyProof.Rows.boot_isinstance (pa_cons (pv 0) (pa_cons (pe_glob (v := .ref C) rfl mV rfl) pa_nil)))))
    (pss_one (by exact (ps_raise rfl (takes_of rfl rfl rfl rfl) (pmk_oex TC.ox TC.ini TC.ty GE hr2 bE .nil pass0 rfl TC.m (pa_cons (pv 0) pa_nil))))) pss_nil)), ?_⟩
  rcases h with ⟨x, ss, rs, ns, rfl, iv, q⟩ | ⟨⟨t, ty, kt⟩, g⟩
  · obtain ⟨_, l1, l2, l3, d1, d2, d3, qs, bs, vx⟩ := iv
    obtain ⟨dx, fx, ix, _⟩ := vx.ins
    exact ⟨_, rfl, .ref x, _, _, _, _, rfl, .own C, .inl (.base (.ins ix T.cl T.ha T.hn T.htk T.hm)), T.own, _, rfl, iteF q⟩
  · exact ⟨_, rfl, v, _, _, _, _, rfl, .own C, ty, T.no t kt, _, rfl, iteT ⟨_, rfl, (by show 1 ≤ 1000; decide), raise_one g (Same.refl _)⟩⟩
end
end K1
end
-- WProg3
section
set_option Elab.async false
set_option linter.all false
set_option maxRecDepth 100000
set_option maxHeartbeats 4000000
namespace K1
open PySem PySem.Spec PyProof.Rows L2 W0
theorem nQ {D : Ends} {σ : L2.St} {H : Hp} (h : D.nx σ H) : tNext D σ H := h
theorem upd_same' (H : Hp) (a : Addr) (o : HO) : L2.upd H a o a = some o := upd_same
theorem ValS.same {C : Addr} {H H' : Hp} {x l1 l2 l3 d1 d2 d3 : Addr} {qs : List Addr} {bs : Str → Addr} {ss : List Str} {rs : List (Str × Str)} {ns : List Int} (v : ValS C H x l1 l2 l3 d1 d2 d3 qs bs ss rs ns) (e : Same H H') : ValS C H' x l1 l2 l3 d1 d2 d3 qs bs ss rs ns := by
  obtain ⟨dx, fs, a, r⟩ := v.ins
  obtain ⟨k2, a2, b2⟩ := v.p2
  obtain ⟨k3, a3, b3⟩ := v.p3
  exact ⟨⟨dx, fs, e _ _ a, r⟩, e _ _ v.h1, e _ _ v.h2, TupP.ext v.pr e, e _ _ v.h3, e _ _ v.p1, ⟨k2, e _ _ a2, b2⟩, ⟨k3, e _ _ a3, b3⟩, fun s hs => e _ _ (v.nb s hs)⟩
theorem IsV.same {C : Addr} {H H' : Hp} {x : Addr} {ss : List Str} {rs : List (Str × Str)} {ns : List Int} (v : IsV C H x ss rs ns) (e : Same H H') : IsV C H' x ss rs ns := by
  obtain ⟨l, l1, l2, l3, d1, d2, d3, qs, bs, h⟩ := v
  exact ⟨l, l1, l2, l3, d1, d2, d3, qs, bs, h.same e⟩
/-- an instance, without fields of these names -/
theorem IsV.inst {C : Addr} {H : Hp} {x : Addr} {ss : List Str} {rs : List (Str × Str)} {ns : List Int} (v : IsV C H x ss rs ns) : ∃ dx fs, H x = some (.ins C dx fs) ∧
    ∀ m : Str, (decide (m ≠ "_houses") && (decide (m ≠ "_roads") && (decide (m ≠ "_heads") && (decide (m ≠ "_people") && (decide (m ≠ "_places") && decide (m ≠ "_beside")))))) = true → fs.lookup m = none := by
  obtain ⟨l, l1, l2, l3, d1, d2, d3, qs, bs, h⟩ := v
  obtain ⟨dx, fs, a, _, _, _, _, _, _, f0⟩ := h.ins
  refine ⟨dx, fs, a, fun m hm => ?_⟩
  simp only [Bool.and_eq_true, decide_eq_true_eq] at hm
  exact f0 m hm.1 hm.2.1 hm.2.2.1 hm.2.2.2.1 hm.2.2.2.2.1 hm.2.2.2.2.2
theorem take_snoc {α : Type} {xs : List α} {i : Nat} (hi : i < xs.length) : xs.take (i + 1) = xs.take i ++ [xs[i]] := by
  rw [List.take_succ, List.getElem?_eq_getElem hi]
  rfl
def spHo (C : Addr) : Sp := fun vs H Q _ => ∃ x ss rs ns, vs = [.ref x] ∧ IsV C H x ss rs ns ∧ ∀ l, H l = none → Q (.ref l) (L2.upd H l (.lst (ss.map V.str)))
def spRo (C : Addr) : Sp := fun vs H Q _ => ∃ x ss rs ns, vs = [.ref x] ∧ IsV C H x ss rs ns ∧ ∀ l qs, H l = none → Paired (TupP H) qs rs → Q (.ref l) (L2.upd H l (.lst (qs.map V.ref)))
def isRow (ss : List Str) (rs : List (Str × Str)) : Bool := ss.all fun s => decide ((nbs ss rs s).length ≤ 2)
def isStar (ss : List Str) (rs : List (Str × Str)) : Bool := ss.any fun s => decide ((nbs ss rs s).length = rs.length)
theorem ps_same_upd {H Hc : Hp} {L : Addr} {o : HO} (e : Same H Hc) (n : H L = none) : Same H (L2.upd Hc L o) := fun b u h => by
  rw [upd_ne (ne_of_none h n)]
  exact e b u h
section
variable {P : Program} {w : World} {K : PySem.W.Frag} {mg : Str → Option Value} {base : Heap} {C CN CV : Addr}
theorem ok_Ho {f : Addr} {fd : FuncData} (F : Fun K "houses" "Valley.houses" sVH f fd) (B : Bl mg) (T : VcT K C) : FnOk P w K mg base CX0 1 f fd ["self"] (spHo C) := by
  refine F.ok scVH (fun vs H Q E h => ?_) (fun cdv A outer s H vs Q E hr h => ?_)
  · obtain ⟨x, ss, rs, ns, rfl, _⟩ := h
    rfl
  obtain ⟨x, ss, rs, ns, rfl, iv, q⟩ := h
  obtain ⟨l, l1, l2, l3, d1, d2, d3, qs, bs, vx⟩ := iv
  obtain ⟨dx, fx, ix, x1, x2, x3, _⟩ := vx.ins
  refine ⟨_, pss_one (by exact (ps_ret (pe_callTy call_list_of rfl B.list PyProof.Rows.boot_list (pa_cons (pe_fld (pv 0) rfl) pa_nil)))), ?_⟩
  exact ⟨_, rfl, x, C, dx, fx, _, rfl, ix, T.cl, T.n1, x1, l1, _, rfl, .inl (SqL.of vx.h1), q⟩
theorem ok_Ro {f : Addr} {fd : FuncData} (F : Fun K "roads" "Valley.roads" sVR f fd) (B : Bl mg) (T : VcT K C) : FnOk P w K mg base CX0 1 f fd ["self"] (spRo C) := by
  refine F.ok scVR (fun vs H Q E h => ?_) (fun cdv A outer s H vs Q E hr h => ?_)
  · obtain ⟨x, ss, rs, ns, rfl, _⟩ := h
    rfl
  obtain ⟨x, ss, rs, ns, rfl, iv, q⟩ := h
  obtain ⟨l, l1, l2, l3, d1, d2, d3, qs, bs, vx⟩ := iv
  obtain ⟨dx, fx, ix, x1, x2, x3, _⟩ := vx.ins
  refine ⟨_, pss_one (by exact (ps_ret (pe_callTy call_list_of rfl B.list PyProof.Rows.boot_list (pa_cons (pe_fld (pv 0) rfl) pa_nil)))), ?_⟩
  exact ⟨_, rfl, x, C, dx, fx, _, rfl, ix, T.cl, T.n2, x2, l2, _, rfl, .inl (SqL.of vx.h2), fun l hl => q l qs hl vx.pr⟩
end
end K1
end
-- WSpl1
section
set_option Elab.async false
set_option linter.all false
set_option maxRecDepth 100000
set_option maxHeartbeats 1000000
namespace K1
open PySem PySem.Spec PyProof.Rows L2 W0
abbrev sRi : Stmt := top 32
abbrev sTl : Stmt := top 33
abbrev sBo : Stmt := top 35
abbrev sLo_ : Stmt := top 36
def inPt (pt : List Str) (r : Str × Str) : Bool := decide (r.1 ∈ pt) && decide (r.2 ∈ pt)
/-- the places of the roads inside a part -/
def insU (pt : List Str) (rs : List (Str × Str)) (i : Nat) : List Nat := (List.range i).filter fun k => (rs[k]?).any (inPt pt)
theorem insU_succ {pt : List Str} {rs : List (Str × Str)} {i : Nat} (hi : i < rs.length) : insU pt rs (i + 1) = insU pt rs i ++ if inPt pt rs[i] = true then [i] else [] := by
  unfold insU
  rw [List.range_succ, List.filter_append]
  congr 1
  rw [List.filter_cons, List.filter_nil, List.getElem?_eq_getElem hi]
  rfl
theorem insU_len {pt : List Str} {rs : List (Str × Str)} {i : Nat} : (insU pt rs i).length ≤ i := by
  unfold insU
  exact Nat.le_trans (List.length_filter_le _ _) (by rw [List.length_range]; exact Nat.le_refl _)
abbrev keyS (pt : List Str) : List Key := pt.map Sum.inr
theorem keyS_map (pt : List Str) : (keyS pt).map kV = pt.map V.str := by
  unfold keyS
  rw [List.map_map]
  rfl
theorem inB_str {pt : List Str} {s : Str} : inB (keyS pt) (.inr s) = decide (s ∈ pt) := by
  rw [Bool.eq_iff_iff, inB_iff, decide_eq_true_eq]
  unfold keyS
  rw [List.mem_map]
  constructor
  · rintro ⟨a, h, e⟩
    cases e
    exact h
  · intro h
    exact ⟨s, h, rfl⟩
def spRi (C : Addr) : Sp := fun vs H Q _ => ∃ x p ss rs ns pt, vs = [.ref x, .ref p] ∧ IsV C H x ss rs ns ∧ H p = some (.lst (pt.map V.str)) ∧ pt.length ≤ 1000 ∧ rs.length ≤ 1000 ∧ ∀ r H', Same H H' → H r = none → H' r = some (.lst ((insU pt rs rs.length).map fun k : Nat => V.int (k : Int))) → Q (.ref r) H'
theorem scRi : FnScope ["valley", "part", "members", "place", "one", "other"] ["valley", "part"] (defScope sRi) := ⟨rfl, rfl, rfl, by decide +kernel, rfl, by decide +kernel, by decide +kernel⟩
section
variable {P : Program} {w : World} {K : PySem.W.Frag} {mg : Str → Option Value} {base : Heap} {C CN CO : Addr}
theorem ok_Ri {f fR : Addr} {fd rd : FuncData} (F : Fun K "roads_inside" "roads_inside" sRi f fd) (T : VcT K C) (me : mg "enumerate" = none) (ms : mg "set" = none)
    (GR : FnOk P w K mg base CX0 1 fR rd ["self"] (spRo C)) (hR : Meth K C "roads" fR) (bR : Binds K rd ["self"] []) : FnOk P w K mg base CX0 2 f fd ["valley", "part"] (spRi C) := by
  refine F.ok scRi (fun vs H Q E h => ?_) (fun cdv A outer s H vs Q E hr h => ?_)
  · obtain ⟨x, p, ss, rs, ns, pt, rfl, _⟩ := h
    rfl
  obtain ⟨x, p, ss, rs, ns, pt, rfl, iv, hp, lpt, lrs, q⟩ := h
  have nd := scRi.nd
  have hr1 : Room 1 _ := hr.mono (by decide)
  refine ⟨_, pss_cons (by exact (ps_set (i := 2) nd rfl (.inr rfl) (pe_callTy (r := rSetL K P w) (cr_setL rfl) rfl ms PyProof.Rows.boot_set (pa_cons (pv 1) pa_nil))))
    (pss_one (by exact (ps_ret (pe_lc (own := [("place", 3), ("one", 4), ("other", 5)]) (g := gTup K 2 (gCons (gName 3) (gCons (gTup K 2 (gCons (gName 4) (gCons (gName 5) gNil))) gNil))) (tt := tAnd (tTest (tOp (rSInK P w false) (tVar 4) (tVar 2))) (tTest (tOp (rSInK P w false) (tVar 5) (tVar 2)))) (te := tVar 3) rfl nd
      (by exact pi_enum rfl me (pa_cons (pe_meth0 (pv 0) T.cl hR GR hr1 bR .nil pass0) pa_nil))
      (by exact blkOk_by (N := ["valley", "part", "members", "place", "one", "other"]) (sc := defScope sRi) (by decide +kernel))
      (fun _ _ _ _ _ => by exact (pg_tup rfl (pgs_cons (pg_name (i := 3) nd rfl (.inl rfl)) (pgs_cons (pg_tup rfl (pgs_cons (pg_name (i := 4) nd rfl (.inl rfl)) (pgs_cons (pg_name (i := 5) nd rfl (.inl rfl)) pgs_nil))) pgs_nil))))
      (fun _ _ _ _ _ => by exact (pts_one (PW.pt (pw_and (pt_cmpR or_sinK (pv 4) (pv 2) (by with_unfolding_all rfl)) (pw_and1 (pt_cmpR or_sinK (pv 5) (pv 2) (by with_unfolding_all rfl)))))))
      (fun _ _ _ _ _ => by exact pv 3))))), ?_⟩
  refine ⟨_, rfl, p, keyS pt, rfl, SqL.of (by rw [keyS_map]; exact hp), by rw [List.length_map]; exact lpt, fun m hm => ?_⟩
  have e0 := K1.Same.upd (H := H) (p := m) (o := setOn P w m (keyS pt)) hm
  have gm := upd_same' H m (setOn P w m (keyS pt))
  generalize L2.upd H m (setOn P w m (keyS pt)) = H0 at e0 gm ⊢
  have iv0 := iv.same e0
  obtain ⟨dx, fx, ix, f0⟩ := iv0.inst
  refine ⟨_, rfl, x, dx, fx, rfl, ix, f0 _ (by decide +kernel), x, ss, rs, ns, rfl, iv0, fun l qs hl pq => ?_⟩
  have e1 := K1.Same.upd (H := H0) (p := l) (o := .lst (qs.map V.ref)) hl
  have gl := upd_same' H0 l (.lst (qs.map V.ref))
  generalize L2.upd H0 l (.lst (qs.map V.ref)) = H1 at e1 gl ⊢
  have gm1 := e1 _ _ gm
  have pq1 := TupP.ext pq e1
  refine ⟨l, _, rfl, SqL.of gl, fun D hD => ?_⟩
  have lq : (qs.map V.ref).length = rs.length := by rw [List.length_map, pq.length]
  have Dm : m ≠ D := fun z => by rw [← z, gm1] at hD; cases hD
  refine lc_it (Qd := _) walk_enum (fun i Hc => Same H1 Hc ∧ Hc D = some (.lst ((insU pt rs i).map fun k : Nat => V.int (k : Int)))) ⟨K1.Same.upd hD, upd_same⟩ (fun i Hc _ h => SqL.of (h.1 _ _ gl)) ?_ ?_
  · rintro i v Hc H' hi ⟨c1, c2⟩ ⟨T', x1, x2, rfl, hT, rfl, ex1, ex2⟩
    rw [lq] at hi
    obtain rfl : x1 = .int (i : Nat) := (Option.some.inj ex1).symm
    obtain ⟨t, rfl, ht⟩ := paired_ref pq1 hi ex2
    have hT2 := K1.Same.upd (H := Hc) (p := T') (o := .tup [.int (i : Nat), .ref t]) hT
    have c3 : Same H1 (L2.upd Hc T' (.tup [.int (i : Nat), .ref t])) := c1.trans hT2
    have c4 := hT2 _ _ c2
    have gT := upd_same' Hc T' (.tup [.int (i : Nat), .ref t])
    generalize L2.upd Hc T' (.tup [.int (i : Nat), .ref t]) = H2 at c3 c4 gT ⊢
    refine ⟨T', _, rfl, SqT.of gT, rfl, _, _, rfl, _, _, rfl, t, _, rfl, SqT.of (c3 _ _ ht), rfl, _, _, rfl, _, _, rfl, rfl, rfl, rfl, ?_⟩
    have nextU : ∀ b : Bool, inPt pt rs[i] = b → ∀ Hx, Same H1 Hx → Hx D = some (.lst ((insU pt rs i).map fun k : Nat => V.int (k : Int))) → if b = true then (∃ acc, Hx D = some (.lst acc) ∧ acc.length < sizeLine ∧ (Same H1 (L2.upd Hx D (.lst (acc ++ [V.int (i : Int)]))) ∧ L2.upd Hx D (.lst (acc ++ [V.int (i : Int)])) D = some (.lst ((insU pt rs (i + 1)).map fun k : Nat => V.int (k : Int)))))
        else (Same H1 Hx ∧ Hx D = some (.lst ((insU pt rs (i + 1)).map fun k : Nat => V.int (k : Int)))) := by
      intro b eb Hx s1 g1
      have us := insU_succ (pt := pt) hi
      rw [eb] at us
      cases b with
      | true =>
        refine iteT ⟨_, g1, by rw [List.length_map]; exact small1000 (by have := insU_len (pt := pt) (rs := rs) (i := i); omega), ps_same_upd s1 hD, ?_⟩
        rw [upd_same, us, List.map_append]
        rfl
      | false =>
        refine iteF ⟨s1, ?_⟩
        rw [us, g1]
        simp
    refine ⟨_, rfl, _, rfl, .inr rs[i].1, m, _, _, rfl, rfl, c3 _ _ gm1, _, rfl, ?_⟩
    show if inB (keyS pt) (.inr rs[i].1) = true then _ else _
    rw [inB_str]
    by_cases h1 : rs[i].1 ∈ pt
    · rw [decide_eq_true h1]
      refine iteT ⟨_, rfl, _, rfl, .inr rs[i].2, m, _, _, rfl, rfl, c3 _ _ gm1, _, rfl, ?_⟩
      show if inB (keyS pt) (.inr rs[i].2) = true then _ else _
      rw [inB_str]
      have eb : inPt pt rs[i] = decide (rs[i].2 ∈ pt) := by unfold inPt; rw [decide_eq_true h1, Bool.true_and]
      have := nextU _ eb H2 c3 c4
      by_cases h2 : rs[i].2 ∈ pt
      · rw [decide_eq_true h2] at this ⊢
        exact iteT ⟨_, rfl, this⟩
      · rw [decide_eq_false h2] at this ⊢
        exact iteF this
    · rw [decide_eq_false h1]
      have eb : inPt pt rs[i] = false := by unfold inPt; rw [decide_eq_false h1, Bool.false_and]
      have := nextU _ eb H2 c3 c4
      exact iteF (iteF this)
  · rintro Hc ⟨c1, c2⟩
    rw [lq] at c2
    exact q D Hc (e0.trans (e1.trans c1)) ((e0.trans e1).free hD) c2
end
end K1
end
-- WSpl2
section
set_option Elab.async false
set_option linter.all false
set_option maxRecDepth 100000
set_option maxHeartbeats 1000000
namespace K1
open PySem PySem.Spec PyProof.Rows L2 W0
def spTl (C : Addr) : Sp := fun vs H Q _ => ∃ (x p : Addr) (ss : List Str) (rs : List (Str × Str)) (ns : List Int) (pt : List Str) (i : Nat) (hi : i < rs.length), vs = [.ref x, .ref p, .int (i : Int)] ∧ IsV C H x ss rs ns ∧ Tree ss rs ∧ ss.length ≤ 1000 ∧ H p = some (.lst (pt.map V.str)) ∧ pt.length ≤ 1000 ∧
  ∀ r n b H', Same H H' → H r = none → H' r = some (.tup [.ref n, .ref b]) → H' n = some (.lst ((pt.filter fun s => !decide (s ∈ sideL ss rs rs[i].1 rs[i].2)).map V.str)) → H' b = some (.lst ((pt.filter fun s => decide (s ∈ sideL ss rs rs[i].1 rs[i].2)).map V.str)) → Q (.ref r) H'
theorem scTl : FnScope ["valley", "part", "place", "one", "other", "beyond", "house"] ["valley", "part", "place"] (defScope sTl) := ⟨rfl, rfl, rfl, by decide +kernel, rfl, by decide +kernel, by decide +kernel⟩
theorem ret_run {te : TE} {D : Ends} {σ : L2.St} {H : Hp} (h : te σ H D.rt) : tRet te D σ H := h
theorem cons_run {t : TE} {ta : TA} {σ : L2.St} {H : Hp} {Q : List V → Hp → Prop} (h : t σ H fun x H1 => ta σ H1 fun xs H2 => Q (x :: xs) H2) : tCons t ta σ H Q := h
theorem tup_runE {ta : TA} {σ : L2.St} {H : Hp} {Q : VK} (h : ta σ H fun xs H1 => xs.length ≤ sizeLine ∧ ∀ p, H1 p = none → Q (.ref p) (L2.upd H1 p (.tup xs))) : tTup ta σ H Q := h
theorem take_filter_succ {f : Str → Bool} {pt : List Str} {i : Nat} (hi : i < pt.length) : (pt.take (i + 1)).filter f = (pt.take i).filter f ++ if f pt[i] = true then [pt[i]] else [] := by
  rw [take_snoc hi, List.filter_append]
  congr 1
  rw [List.filter_cons, List.filter_nil]
section
variable {P : Program} {w : World} {K : PySem.W.Frag} {mg : Str → Option Value} {base : Heap} {C CN CO : Addr}
/-- the houses of a list that are, or are not, in a set -/
theorem lc_in {σ : L2.St} {H : Hp} {Q : VK} {p m : Addr} {neg : Bool} {pt ks : List Str} (h1 : σ[1]? = some (some (.ref p))) (hw : ∀ v : V, (((wipe σ [6]).set 6 (some v))[6]? = some (some v) ∧ ((wipe σ [6]).set 6 (some v))[5]? = some (some (.ref m))) ∧ wipe ((wipe σ [6]).set 6 (some v)) [6] = wipe σ [6])
    (hp : H p = some (.lst (pt.map V.str))) (lpt : pt.length ≤ 1000) (hm : H m = some (setOn P w m (keyS ks)))
    (q : ∀ D H', Same H H' → H D = none → H' D = some (.lst ((pt.filter fun s => if neg then !decide (s ∈ ks) else decide (s ∈ ks)).map V.str)) → Q (.ref D) H') :
    tLc (iList K (tVar 1)) (gName 6) (tTest (tOp (rSInK P w neg) (tVar 6) (tVar 5))) (tVar 6) [6] σ H Q := by
  refine ⟨_, h1, p, rfl, ⟨_, SqL.of hp⟩, fun D hD => ?_⟩
  have lm : (pt.map V.str).length = pt.length := List.length_map ..
  refine lc_it (Qd := _) walk_list (fun i Hc => Same H Hc ∧ Hc D = some (.lst (((pt.take i).filter fun s => if neg then !decide (s ∈ ks) else decide (s ∈ ks)).map V.str))) ⟨K1.Same.upd hD, upd_same⟩ (fun i Hc _ h => SqL.of (h.1 _ _ hp)) ?_ ?_
  · rintro i v Hc H' hi ⟨c1, c2⟩ ⟨rfl, hv⟩
    rw [lm] at hi
    have ev : v = .str pt[i] := by
      rw [List.getElem?_map, List.getElem?_eq_getElem hi] at hv
      exact (Option.some.inj hv).symm
    subst ev
    obtain ⟨⟨w6, w5⟩, ww⟩ := hw (.str pt[i])
    refine ⟨ww, ?_⟩
    refine ⟨_, w6, _, w5, .inr pt[i], m, _, _, rfl, rfl, c1 _ _ hm, _, rfl, ?_⟩
    rw [inB_str]
    have us := take_filter_succ (f := fun s => if neg then !decide (s ∈ ks) else decide (s ∈ ks)) hi
    have es : (if neg = true then !decide (pt[i] ∈ ks) else decide (pt[i] ∈ ks)) = (fun s => if neg = true then !decide (s ∈ ks) else decide (s ∈ ks)) pt[i] := rfl
    rw [es]
    have ll : ((pt.take i).filter fun s => if neg = true then !decide (s ∈ ks) else decide (s ∈ ks)).length ≤ 1000 := Nat.le_trans (List.length_filter_le _ _) (by rw [List.length_take]; omega)
    refine ite2 (fun y => ?_) (fun y => ?_)
    · rw [if_pos y] at us
      refine ⟨_, w6, _, c2, by rw [List.length_map]; exact small1000 ll, ps_same_upd c1 hD, ?_⟩
      rw [upd_same, us, List.map_append]
      rfl
    · rw [if_neg y] at us
      refine ⟨c1, ?_⟩
      rw [us, c2]
      simp
  · rintro Hc ⟨c1, c2⟩
    rw [lm, List.take_length] at c2
    exact q D Hc c1 hD c2
theorem ok_Tl {f fR fS : Addr} {fd rd sd : FuncData} (F : Fun K "two_lots" "two_lots" sTl f fd) (T : VcT K C) (ms : mg "set" = none)
    (GR : FnOk P w K mg base CX0 1 fR rd ["self"] (spRo C)) (hR : Meth K C "roads" fR) (bR : Binds K rd ["self"] [])
    (GS : FnOk P w K mg base (L2.CX P w) 5 fS sd ["self", "one", "other"] (spSi K C CN CO)) (hS : Meth K C "side" fS) (bS : Binds K sd ["self", "one", "other"] []) : FnOk P w K mg base CX0 6 f fd ["valley", "part", "place"] (spTl C) := by
  refine F.ok scTl (fun vs H Q E h => ?_) (fun cdv A outer s H vs Q E hr h => ?_)
  · obtain ⟨x, p, ss, rs, ns, pt, i, hi, rfl, _⟩ := h
    rfl
  obtain ⟨x, p, ss, rs, ns, pt, i, hi, rfl, iv, tr, hl, hp, lpt, q⟩ := h
  have nd := scTl.nd
  have hr1 : Room 1 _ := hr.mono (by decide)
  refine ⟨_, pss_cons (by exact (ps_asg (pe_ix ix_list (pe_meth0 (pv 0) T.cl hR GR hr1 bR .nil pass0) (pv 2) (fun _ _ => rfl)) (pg_tup rfl (pgs_cons (pg_name (i := 3) nd rfl (.inl rfl)) (pgs_cons (pg_name (i := 4) nd rfl (.inl rfl)) pgs_nil)))))
    (pss_cons (by exact (ps_set (i := 5) nd rfl (.inr rfl) (pe_callTy (r := rSetL K P w) (cr_setL rfl) rfl ms PyProof.Rows.boot_set (pa_cons (pe_meth (pv 0) T.cl hS GS hr bS .nil passL (pa_cons (pv 3) (pa_cons (pv 4) pa_nil))) pa_nil))))
    (pss_one (by exact (ps_ret (pe_tup (pa_cons (pe_lc (own := [("house", 6)]) (g := gName 6) (tt := tTest (tOp (rSInK P w true) (tVar 6) (tVar 5))) (te := tVar 6) rfl nd (by exact pi_list (pv 1)) (by exact blkOk_by (N := ["valley", "part", "place", "one", "other", "beyond", "house"]) (sc := defScope sTl) (by decide +kernel)) (fun _ _ _ _ _ => by exact pg_name (i := 6) nd rfl (Or.inl rfl)) (fun _ _ _ _ _ => by exact (pts_one (pt_cmpR or_snotinK (pv 6) (pv 5) (by with_unfolding_all rfl)))) (fun _ _ _ _ _ => by exact pv 6))
      (pa_cons (pe_lc (own := [("house", 6)]) (g := gName 6) (tt := tTest (tOp (rSInK P w false) (tVar 6) (tVar 5))) (te := tVar 6) rfl nd (by exact pi_list (pv 1)) (by exact blkOk_by (N := ["valley", "part", "place", "one", "other", "beyond", "house"]) (sc := defScope sTl) (by decide +kernel)) (fun _ _ _ _ _ => by exact pg_name (i := 6) nd rfl (Or.inl rfl)) (fun _ _ _ _ _ => by exact (pts_one (pt_cmpR or_sinK (pv 6) (pv 5) (by with_unfolding_all rfl)))) (fun _ _ _ _ _ => by exact pv 6)) pa_nil))))))), ?_⟩
  obtain ⟨dx, fx, ix, f0⟩ := iv.inst
  refine ⟨_, rfl, x, dx, fx, rfl, ix, f0 _ (by decide +kernel), x, ss, rs, ns, rfl, iv, fun l qs hl0 pq => ?_⟩
  have e1 := K1.Same.upd (H := H) (p := l) (o := .lst (qs.map V.ref)) hl0
  have gl := upd_same' H l (.lst (qs.map V.ref))
  generalize L2.upd H l (.lst (qs.map V.ref)) = H1 at e1 gl ⊢
  have lq : qs.length = rs.length := pq.length
  have hq : (qs.map V.ref)[i]? = some (.ref (qs[i]'(by omega))) := by rw [List.getElem?_map, List.getElem?_eq_getElem (by omega)]; rfl
  obtain ⟨t, et, ht⟩ := paired_ref pq hi hq
  have hq2 : (qs.map V.ref)[i]? = some (.ref t) := by rw [hq, et]
  refine ⟨_, rfl, l, _, (i : Int), _, rfl, rfl, SqL.of gl, atI_nat (j := i) hq2, t, _, rfl, SqT.of (e1 _ _ ht), rfl, _, _, rfl, _, _, rfl, rfl, ?_⟩
  with_reducible refine sQ ?_
  have iv1 := iv.same e1
  obtain ⟨dx, fx, ix, f0⟩ := iv1.inst
  have hm := List.getElem_mem hi
  have hnb : nbB rs rs[i].1 rs[i].2 = true := nbB_iff.mpr (.inl hm)
  refine ⟨_, rfl, x, dx, fx, rfl, ix, f0 _ (by decide +kernel), _, rfl, _, rfl, x, _, _, ss, rs, ns, rfl, iv1, tr, hl, .inr ⟨_, rfl, (tr.ends _ hm).1, .inr ⟨_, rfl, (tr.ends _ hm).2, .inr ⟨hnb, fun r H2 e2 nr gr => ?_⟩⟩⟩⟩
  have lside : (sideL ss rs rs[i].1 rs[i].2).length ≤ 1000 := Nat.le_trans (List.length_filter_le _ _) hl
  refine ⟨r, keyS (sideL ss rs rs[i].1 rs[i].2), rfl, SqL.of (by rw [keyS_map]; exact gr), by rw [List.length_map]; exact lside, fun m hm2 => ?_⟩
  have e3 := K1.Same.upd (H := H2) (p := m) (o := setOn P w m (keyS (sideL ss rs rs[i].1 rs[i].2))) hm2
  have gm := upd_same' H2 m (setOn P w m (keyS (sideL ss rs rs[i].1 rs[i].2)))
  generalize L2.upd H2 m (setOn P w m (keyS (sideL ss rs rs[i].1 rs[i].2))) = H3 at e3 gm ⊢
  refine K1.gN ?_
  have e13 : Same H H3 := e1.trans (e2.trans e3)
  dsimp only
  refine ret_run (tup_runE (cons_run ?_))
  refine lc_in (σ := [some (.ref x), some (.ref p), some (.int (i : Int)), some (.str rs[i].1), some (.str rs[i].2), some (.ref m), none]) (neg := true) rfl (fun v => ⟨⟨rfl, rfl⟩, rfl⟩) (e13 _ _ hp) lpt gm fun D H4 e4 nD gD => ?_
  refine cons_run ?_
  refine lc_in (σ := [some (.ref x), some (.ref p), some (.int (i : Int)), some (.str rs[i].1), some (.str rs[i].2), some (.ref m), none]) (neg := false) rfl (fun v => ⟨⟨rfl, rfl⟩, rfl⟩) (e4 _ _ (e13 _ _ hp)) lpt (e4 _ _ gm) fun D2 H5 e5 nD2 gD2 => ⟨(by show 2 ≤ sizeLine; decide), fun U hU => ?_⟩
  have e6 := K1.Same.upd (H := H5) (p := U) (o := .tup [.ref D, .ref D2]) hU
  have all : Same H (L2.upd H5 U (.tup [.ref D, .ref D2])) := e13.trans (e4.trans (e5.trans e6))
  exact q U D D2 _ all ((e13.trans (e4.trans e5)).free hU) upd_same (e6 _ _ (e5 _ _ gD)) (e6 _ _ gD2)
end
end K1
end
-- WSpl3
section
set_option Elab.async false
set_option linter.all false
set_option maxRecDepth 100000
set_option maxHeartbeats 1000000
namespace K1
open PySem PySem.Spec PyProof.Rows L2 W0
/-- each house's bit, from the k-th on -/
def bitsL : Nat → List Str → List (Key × V)
  | _, [] => []
  | k, s :: ss => (.inr s, .int ((2 ^ k : Nat) : Int)) :: bitsL (k + 1) ss
theorem bitsL_append : ∀ (a b : List Str) (k : Nat), bitsL k (a ++ b) = bitsL k a ++ bitsL (k + a.length) b
  | [], b, k => rfl
  | s :: a, b, k => by
    show _ :: bitsL (k + 1) (a ++ b) = _ :: bitsL (k + 1) a ++ bitsL (k + (a.length + 1)) b
    rw [bitsL_append a b (k + 1), show k + 1 + a.length = k + (a.length + 1) by omega]
    rfl
theorem bitsL_len : ∀ (a : List Str) (k : Nat), (bitsL k a).length = a.length
  | [], k => rfl
  | s :: a, k => by
    show (bitsL (k + 1) a).length + 1 = a.length + 1
    rw [bitsL_len a]
theorem bitsL_keys : ∀ (a : List Str) (k : Nat), (bitsL k a).map (·.1) = keyS a
  | [], k => rfl
  | s :: a, k => by
    show _ :: (bitsL (k + 1) a).map (·.1) = _ :: keyS a
    rw [bitsL_keys a]
theorem putK_new {kvs : List (Key × V)} {k : Key} {v : V} (h : k ∉ kvs.map (·.1)) : putK kvs k v = kvs ++ [(k, v)] := by
  unfold putK
  rw [if_neg]
  intro z
  rw [List.any_eq_true] at z
  obtain ⟨e, he, hk⟩ := z
  exact h (List.mem_map.mpr ⟨e, he, of_decide_eq_true hk⟩)
/-- the number of a house's bit -/
def bitN (pt : List Str) (s : Str) : Nat := 2 ^ (pt.idxOf s)
theorem valV_bits : ∀ (pt : List Str) (k : Nat) (s : Str), s ∈ pt → valV (bitsL k pt) (.inr s) = some (.int ((2 ^ (k + pt.idxOf s) : Nat) : Int))
  | s' :: pt, k, s, h => by
    show valV ((.inr s', .int ((2 ^ k : Nat) : Int)) :: bitsL (k + 1) pt) (.inr s) = _
    by_cases e : s' = s
    · subst e
      rw [valV_pos rfl, List.idxOf_cons_self]
      rfl
    · rw [valV_neg (fun z => e (by cases z; rfl)), valV_bits pt (k + 1) s (by
        rcases List.mem_cons.mp h with h | h
        · exact absurd h.symm e
        · exact h)]
      have : (s' :: pt).idxOf s = pt.idxOf s + 1 := by
        rw [List.idxOf_cons]
        have : (s' == s) = false := beq_eq_false_iff_ne.mpr e
        rw [this]
        rfl
      rw [this, show k + 1 + pt.idxOf s = k + (pt.idxOf s + 1) by omega]
def lotN (pt some : List Str) : Nat := (some.map (bitN pt)).sum
def spBo : Sp := fun vs H Q _ => ∃ (p : Addr) (pt : List Str), vs = [.ref p] ∧ H p = some (.lst (pt.map V.str)) ∧ pt.Nodup ∧ pt.length ≤ 1000 ∧ ∀ r H', Same H H' → H r = none → H' r = some (.dK (bitsL 0 pt)) → Q (.ref r) H'
def spLt (K : PySem.W.Frag) : Sp := fun vs H Q _ => ∃ (b p : Addr) (pt some' : List Str), vs = [.ref b, .ref p] ∧ H b = some (.dK (bitsL 0 pt)) ∧ SqA K H p (some'.map V.str) ∧ (∀ s ∈ some', s ∈ pt) ∧ some'.length ≤ 1000 ∧ ∀ H', Same H H' → Q (.int (lotN pt some' : Nat)) H'
theorem scBo : FnScope ["part", "at", "house"] ["part"] (defScope sBo) := ⟨rfl, rfl, rfl, by decide +kernel, rfl, by decide +kernel, by decide +kernel⟩
theorem scLt : FnScope ["bits", "some", "house"] ["bits", "some"] (defScope sLo_) := ⟨rfl, rfl, rfl, by decide +kernel, rfl, by decide +kernel, by decide +kernel⟩
section
variable {P : Program} {w : World} {K : PySem.W.Frag} {mg : Str → Option Value} {base : Heap} {C CN CO : Addr}
theorem ok_Bo {f : Addr} {fd : FuncData} (F : Fun K "bits_of" "bits_of" sBo f fd) (me : mg "enumerate" = none) : FnOk P w K mg base CX0 1 f fd ["part"] spBo := by
  refine F.ok scBo (fun vs H Q E h => ?_) (fun cdv A outer s H vs Q E hr h => ?_)
  · obtain ⟨p, pt, rfl, _⟩ := h
    rfl
  obtain ⟨p, pt, rfl, hp, nd', lpt, q⟩ := h
  have nd := scBo.nd
  refine ⟨_, pss_one (by exact (ps_ret (pe_dc (own := [("at", 1), ("house", 2)]) (g := gTup K 2 (gCons (gName 1) (gCons (gName 2) gNil))) (tt := tYes) (tk := tVar 2) (tv := tOp (rI CPow fun i j => .int (i * 2 ^ j.toNat)) (tC (.int 1)) (tVar 1)) rfl nd
    (by exact pi_enum rfl me (pa_cons (pv 0) pa_nil)) (by exact blkOk_by (N := ["part", "at", "house"]) (sc := defScope sBo) (by decide +kernel))
    (fun _ _ _ _ _ => by exact (pg_tup rfl (pgs_cons (pg_name (i := 1) nd rfl (.inl rfl)) (pgs_cons (pg_name (i := 2) nd rfl (.inl rfl)) pgs_nil)))) (fun _ _ _ _ _ => pts_nil) (fun _ _ _ _ _ => by exact pv 2) (fun _ _ _ _ _ => by exact pe_op op_shl pe_int (pv 1))))), ?_⟩
  refine ⟨_, rfl, p, _, rfl, SqL.of hp, fun D hD => ?_⟩
  have lm : (pt.map V.str).length = pt.length := List.length_map ..
  refine dc_it walk_enum (fun i Hc => Same H Hc ∧ Hc D = some (.dK (bitsL 0 (pt.take i)))) ⟨K1.Same.upd hD, upd_same⟩ (fun i Hc _ h => SqL.of (h.1 _ _ hp)) ?_ ?_
  · rintro i v Hc H' hi ⟨c1, c2⟩ ⟨T', x1, x2, rfl, hT, rfl, ex1, ex2⟩
    rw [lm] at hi
    obtain rfl : x1 = .int (i : Nat) := (Option.some.inj ex1).symm
    have ex2 : (pt.map V.str)[i]? = some x2 := ex2
    have ev : x2 = .str pt[i] := by
      rw [List.getElem?_map, List.getElem?_eq_getElem hi] at ex2
      exact (Option.some.inj ex2).symm
    subst ev
    have hT2 := K1.Same.upd (H := Hc) (p := T') (o := .tup [.int (i : Nat), .str pt[i]]) hT
    have c4 := hT2 _ _ c2
    refine ⟨T', _, rfl, SqT.of upd_same, rfl, _, _, rfl, _, _, rfl, rfl, rfl, ?_⟩
    unfold tYes
    refine iteT ⟨_, rfl, _, rfl, _, _, rfl, rfl, ⟨by omega, by omega, by decide⟩, _, .inr pt[i], rfl, c4, ?_, ?_⟩
    · rw [bitsL_len, List.length_take]
      exact small1000 (by omega)
    refine ⟨ps_same_upd (c1.trans hT2) hD, ?_⟩
    have nk : (Sum.inr pt[i] : Key) ∉ (bitsL 0 (pt.take i)).map (·.1) := by
      rw [bitsL_keys]
      intro z
      obtain ⟨a, ha, e⟩ := List.mem_map.mp z
      cases e
      exact nodup_take_not' nd' hi ha
    rw [upd_same, putK_new nk, take_snoc hi, bitsL_append, List.length_take]
    rw [show 0 + min i pt.length = i by omega]
    show some (HO.dK (bitsL 0 (pt.take i) ++ [(Sum.inr pt[i], V.int (1 * 2 ^ ((i : Nat) : Int).toNat))])) = _
    rw [Int.toNat_natCast, Int.one_mul]
    rw [show ((2 : Int) ^ i) = ((2 ^ i : Nat) : Int) by rw [Int.natCast_pow]; rfl]
    rfl
  · rintro Hc ⟨c1, c2⟩
    rw [lm, List.take_length] at c2
    exact q D Hc c1 hD c2
theorem ok_Lt {f : Addr} {fd : FuncData} (F : Fun K "lot_of" "lot_of" sLo_ f fd) (ms : mg "sum" = none) : FnOk P w K mg base CX0 1 f fd ["bits", "some"] (spLt K) := by
  refine F.ok scLt (fun vs H Q E h => ?_) (fun cdv A outer s H vs Q E hr h => ?_)
  · obtain ⟨b, p, pt, some', rfl, _⟩ := h
    rfl
  obtain ⟨b, p, pt, some', rfl, hb, hp, hin, ls, q⟩ := h
  have nd := scLt.nd
  have hu := hu_of hr
  refine ⟨_, pss_one (by exact (ps_ret (pe_callB (cr_sum rfl) rfl ms PyProof.Rows.boot_sum (pa_cons (pe_lc (own := [("house", 2)]) (g := gName 2) (tt := tYes) (te := tDGet (tVar 0) (tVar 2)) rfl nd
    (by exact pi_seqV 1 (pv 1)) (by exact blkOk_by (N := ["bits", "some", "house"]) (sc := defScope sLo_) (by decide +kernel)) (fun _ _ _ _ _ => by exact pg_name (i := 2) nd rfl (Or.inl rfl)) (fun _ _ _ _ _ => pts_nil) (fun _ _ _ _ _ => by exact pe_dget hu (pv 0) (pv 2) (fun _ _ => rfl))) pa_nil)))), ?_⟩
  refine ⟨p, _, rfl, hp, fun J G wk hG D hD => ?_⟩
  have lm : (some'.map V.str).length = some'.length := List.length_map ..
  have keepP : ∀ {Hx : Hp}, Same H Hx → At1 p H Hx := fun e o h => e _ _ h
  refine lc_it (Qd := _) wk (fun i Hc => Same H Hc ∧ Hc D = some (.lst (((some'.take i).map fun s => ((bitN pt s : Nat) : Int)).map V.int))) ⟨K1.Same.upd hD, upd_same⟩ (fun i Hc _ h => hG Hc (keepP h.1)) ?_ ?_
  · rintro i v Hc H' hi ⟨c1, c2⟩ ⟨rfl, hv⟩
    rw [lm] at hi
    have ev : v = .str some'[i] := by
      rw [List.getElem?_map, List.getElem?_eq_getElem hi] at hv
      exact (Option.some.inj hv).symm
    subst ev
    refine ⟨rfl, ?_⟩
    unfold tYes
    refine iteT ⟨_, rfl, _, rfl, b, .int ((bitN pt some'[i] : Nat) : Int), rfl, ?_, _, c2, ?_, ps_same_upd c1 hD, ?_⟩
    · have := DGet.k (k := .inr some'[i]) (c1 _ _ hb)
      rw [valV_bits pt 0 _ (hin _ (List.getElem_mem hi)), Nat.zero_add] at this
      exact this
    · rw [List.length_map, List.length_map, List.length_take]
      exact small1000 (by omega)
    · rw [upd_same, take_snoc hi, List.map_append, List.map_append]
      rfl
  · rintro Hc ⟨c1, c2⟩
    rw [lm, List.take_length] at c2
    refine ⟨D, _, rfl, SqL.of c2, ?_⟩
    have e : (some'.map fun s => ((bitN pt s : Nat) : Int)).sum = ((lotN pt some' : Nat) : Int) := by
      unfold lotN
      clear c2 hin hp ls lm wk hG q c1
      induction some' with
      | nil => rfl
      | cons a as ih =>
        rw [List.map_cons, List.sum_cons, List.map_cons, List.sum_cons, ih]
        omega
    rw [e]
    exact q Hc c1
end
end K1
end
-- WSpl4
section
set_option Elab.async false
set_option linter.all false
set_option maxRecDepth 100000
set_option maxHeartbeats 1000000
namespace K1
open PySem PySem.Spec PyProof.Rows L2 W0
abbrev sSp : Stmt := top 37
abbrev Spl : Type := Nat × Nat × Nat
def TrpP (H : Hp) (q : Addr) (t : Spl) : Prop := H q = some (.tup [.int ((t.1 : Nat) : Int), .int ((t.2.1 : Nat) : Int), .int ((t.2.2 : Nat) : Int)])
theorem TrpP.ext {H H' : Hp} {qs : List Addr} {ts : List Spl} (h : Paired (TrpP H) qs ts) (e : Same H H') : Paired (TrpP H') qs ts := paired_imp (fun _ _ q => e _ _ q) h
/-- a list of tuples of three ints -/
def SplL (H : Hp) (r : Addr) (ts : List Spl) : Prop := ∃ qs : List Addr, H r = some (.lst (qs.map V.ref)) ∧ Paired (TrpP H) qs ts
theorem SplL.ext {H H' : Hp} {r : Addr} {ts : List Spl} (h : SplL H r ts) (e : Same H H') : SplL H' r ts := by
  obtain ⟨qs, a, b⟩ := h
  exact ⟨qs, e _ _ a, TrpP.ext b e⟩
theorem TrpP.upd {H : Hp} {L : Addr} {acc : List V} {o : HO} (g : H L = some (.lst acc)) {qs : List Addr} {ts : List Spl} (h : Paired (TrpP H) qs ts) : Paired (TrpP (L2.upd H L o)) qs ts :=
  paired_imp (fun a b q => by
    have n : a ≠ L := fun z => by
      have q : H a = _ := q
      rw [z, g] at q
      cases q
    show L2.upd H L o a = _
    rw [upd_ne n]
    exact q) h
theorem paired_snoc {α β : Type} {F : α → β → Prop} : ∀ {xs : List α} {ys : List β}, Paired F xs ys → ∀ {a : α} {b : β}, F a b → Paired F (xs ++ [a]) (ys ++ [b])
  | _, _, .nil, _, _, f => .cons f .nil
  | _, _, .cons g r, _, _, f => .cons g (paired_snoc r f)
/-- the far lot's houses -/
noncomputable def farS (pt ss : List Str) (rs : List (Str × Str)) (e : Str × Str) : List Str := pt.filter fun s => decide (s ∈ sideL ss rs e.1 e.2)
noncomputable def splAt (pt ss : List Str) (rs : List (Str × Str)) (k : Nat) : Spl := match rs[k]? with
  | some e => (k, lotN pt [e.1, e.2], lotN pt (farS pt ss rs e))
  | none => (k, 0, 0)
noncomputable def splU (pt ss : List Str) (rs : List (Str × Str)) : List Spl := (insU pt rs rs.length).map (splAt pt ss rs)
theorem insU_mem {pt : List Str} {rs : List (Str × Str)} {i k : Nat} (h : k ∈ insU pt rs i) : ∃ hk : k < rs.length, inPt pt rs[k] = true := by
  unfold insU at h
  obtain ⟨_, h⟩ := List.mem_filter.mp h
  rcases Nat.lt_or_ge k rs.length with hk | hk
  · rw [List.getElem?_eq_getElem hk] at h
    exact ⟨hk, h⟩
  · rw [List.getElem?_eq_none hk] at h
    cases h
def spSp (C : Addr) : Sp := fun vs H Q _ => ∃ (x p : Addr) (ss : List Str) (rs : List (Str × Str)) (ns : List Int) (pt : List Str), vs = [.ref x, .ref p] ∧ IsV C H x ss rs ns ∧ Tree ss rs ∧ ss.length ≤ 1000 ∧ rs.length ≤ 1000 ∧ H p = some (.lst (pt.map V.str)) ∧ pt.Nodup ∧ pt.length ≤ 1000 ∧
  ∀ r H', Same H H' → H r = none → SplL H' r (splU pt ss rs) → Q (.ref r) H'
theorem scSp : FnScope ["valley", "part", "bits", "roads", "splits", "place", "_", "beyond"] ["valley", "part"] (defScope sSp) := ⟨rfl, rfl, rfl, by decide +kernel, rfl, by decide +kernel, by decide +kernel⟩
section
variable {P : Program} {w : World} {K : PySem.W.Frag} {mg : Str → Option Value} {base : Heap} {C CN CO : Addr}
theorem ok_Sp {f fR fB fI fT fL : Addr} {fd rd bd id' td ld : FuncData} (F : Fun K "splits_of" "splits_of" sSp f fd) (T : VcT K C)
    (GR : FnOk P w K mg base CX0 1 fR rd ["self"] (spRo C)) (hR : Meth K C "roads" fR) (bR : Binds K rd ["self"] [])
    (GB : FnOk P w K mg base CX0 1 fB bd ["part"] spBo) (FB : Fun K "bits_of" "bits_of" sBo fB bd) (bB : Binds K bd ["part"] []) (mB : mg "bits_of" = some (.ref fB))
    (GI : FnOk P w K mg base CX0 2 fI id' ["valley", "part"] (spRi C)) (FI : Fun K "roads_inside" "roads_inside" sRi fI id') (bI : Binds K id' ["valley", "part"] []) (mI : mg "roads_inside" = some (.ref fI))
    (GT : FnOk P w K mg base CX0 6 fT td ["valley", "part", "place"] (spTl C)) (FT : Fun K "two_lots" "two_lots" sTl fT td) (bT : Binds K td ["valley", "part", "place"] []) (mT : mg "two_lots" = some (.ref fT))
    (GL : FnOk P w K mg base CX0 1 fL ld ["bits", "some"] (spLt K)) (FL : Fun K "lot_of" "lot_of" sLo_ fL ld) (bL : Binds K ld ["bits", "some"] []) (mL : mg "lot_of" = some (.ref fL)) :
    FnOk P w K mg base CX0 7 f fd ["valley", "part"] (spSp C) := by
  refine F.ok scSp (fun vs H Q E h => ?_) (fun cdv A outer s H vs Q E hr h => ?_)
  · obtain ⟨x, p, ss, rs, ns, pt, rfl, _⟩ := h
    rfl
  obtain ⟨x, p, ss, rs, ns, pt, rfl, iv, tr, hl, lrs, hp, nd', lpt, q⟩ := h
  have nd := scSp.nd
  have hr1 : Room 1 _ := hr.mono (by decide)
  have hr2 : Room 2 _ := hr.mono (by decide)
  have hr6 : Room 6 _ := hr.mono (by decide)
  refine ⟨_, pss_cons (by exact (ps_set (i := 2) nd rfl (.inl rfl) (pe_call GB hr1 rfl mB FB.kp bB .nil pass0 (pa_cons (pv 1) pa_nil))))
    (pss_cons (by exact (ps_set (i := 3) nd rfl (.inl rfl) (pe_meth0 (pv 0) T.cl hR GR hr1 bR .nil pass0)))
    (pss_cons (by exact (ps_set (i := 4) nd rfl (.inl rfl) (pe_lst pa_nil)))
    (pss_cons (by exact (ps_for PassesOwn.never rfl (by exact pi_list (pe_call GI hr2 rfl mI FI.kp bI .nil pass0 (pa_cons (pv 0) (pa_cons (pv 1) pa_nil)))) (pg_name (i := 5) nd rfl (.inl rfl))
      (pss_cons (by exact (ps_asg (pe_call GT hr6 rfl mT FT.kp bT .nil pass0 (pa_cons (pv 0) (pa_cons (pv 1) (pa_cons (pv 5) pa_nil)))) (pg_tup rfl (pgs_cons (pg_name (i := 6) nd rfl (.inl rfl)) (pgs_cons (pg_name (i := 7) nd rfl (.inl rfl)) pgs_nil)))))
      (pss_one (by exact (ps_expr (pe_bm PySem.F.plainAttrs_list PySem.F.slot_list_append PySem.F.type_list_append mt_append (pv 4) (pa_cons (pe_tup (pa_cons (pv 5) (pa_cons (pe_call GL hr1 rfl mL FL.kp bL .nil pass0 (pa_cons (pv 2) (pa_cons (pe_ix ix_list (pv 3) (pv 5) (fun _ _ => rfl)) pa_nil))) (pa_cons (pe_call GL hr1 rfl mL FL.kp bL .nil pass0 (pa_cons (pv 2) (pa_cons (pv 7) pa_nil))) pa_nil)))) pa_nil))))))))
    (pss_one (by exact (ps_ret (pv 4))))))), ?_⟩
  refine ⟨_, rfl, p, pt, rfl, hp, nd', lpt, fun b H1 e1 nb gb => ?_⟩
  refine K1.gN ?_
  have iv1 := iv.same e1
  obtain ⟨dx, fx, ix, f0⟩ := iv1.inst
  refine ⟨_, rfl, x, dx, fx, rfl, ix, f0 _ (by decide +kernel), x, ss, rs, ns, rfl, iv1, fun l qs hl0 pq => ?_⟩
  have e2 := K1.Same.upd (H := H1) (p := l) (o := .lst (qs.map V.ref)) hl0
  have gl := upd_same' H1 l (.lst (qs.map V.ref))
  generalize L2.upd H1 l (.lst (qs.map V.ref)) = H2 at e2 gl ⊢
  have pq2 := TupP.ext pq e2
  refine K1.gN ?_
  refine ⟨(by show 0 ≤ sizeLine; decide), fun L hL => ?_⟩
  have e3 := K1.Same.upd (H := H2) (p := L) (o := .lst []) hL
  have gL := upd_same' H2 L (.lst [])
  generalize L2.upd H2 L (.lst []) = H3 at e3 gL ⊢
  refine K1.gN ?_
  have e03 : Same H H3 := e1.trans (e2.trans e3)
  refine ⟨_, rfl, _, rfl, x, p, ss, rs, ns, pt, rfl, iv.same e03, e03 _ _ hp, lpt, lrs, fun r H4 e4 nr gr => ?_⟩
  have e24 : Same H2 H4 := e3.trans e4
  have e04 : Same H H4 := e03.trans e4
  refine ⟨r, rfl, ⟨_, SqL.of gr⟩, ?_⟩
  have lU : ((insU pt rs rs.length).map fun k : Nat => V.int (k : Int)).length = (insU pt rs rs.length).length := List.length_map ..
  have rL : r ≠ L := fun z => by rw [z, gL] at nr; cases nr
  have H2r : H2 r = none := e3.free nr
  refine for_it walk_list (fun i σ Hc => (∃ a c d, σ = [some (.ref x), some (.ref p), some (.ref b), some (.ref l), some (.ref L), a, c, d]) ∧ Same H2 Hc ∧ Hc r = some (.lst ((insU pt rs rs.length).map fun k : Nat => V.int (k : Int))) ∧ SplL Hc L ((splU pt ss rs).take i))
    ⟨⟨_, _, _, rfl⟩, e24, gr, [], e4 _ _ gL, .nil⟩ (fun i σ Hc _ h => SqL.of h.2.2.1) ?_ ?_
  · rintro i v σ Hc H' hi ⟨⟨a, c, d, rfl⟩, c1, cr, us, c2, c3⟩ ⟨rfl, hv⟩
    rw [lU] at hi
    have ev : v = .int (((insU pt rs rs.length)[i] : Nat) : Int) := by
      rw [List.getElem?_map, List.getElem?_eq_getElem hi] at hv
      exact (Option.some.inj hv).symm
    subst ev
    generalize ek : (insU pt rs rs.length)[i] = k
    have km : k ∈ insU pt rs rs.length := by rw [← ek]; exact List.getElem_mem hi
    obtain ⟨hk, ink⟩ := insU_mem km
    have inn : rs[k].1 ∈ pt ∧ rs[k].2 ∈ pt := by
      unfold inPt at ink
      simp only [Bool.and_eq_true, decide_eq_true_eq] at ink
      exact ink
    have eH : Same H H' := e1.trans (e2.trans c1)
    refine ⟨_, rfl, _, rfl, _, rfl, x, p, ss, rs, ns, pt, k, hk, rfl, iv.same eH, tr, hl, eH _ _ hp, lpt, fun U N B H5 e5 nU gU gN' gB => ?_⟩
    have e25 : Same H2 H5 := c1.trans e5
    have gU5 := gU
    refine ⟨U, _, rfl, SqT.of gU, rfl, _, _, rfl, _, _, rfl, rfl, ?_⟩
    have gL5 := e5 _ _ c2
    refine ⟨_, rfl, .inl ⟨rfl, _, SqL.of gL5⟩, ?_⟩
    dsimp only
    refine cons_run (tup_runE (cons_run ⟨_, rfl, cons_run ?_⟩))
    have lq : qs.length = rs.length := pq.length
    have hq : (qs.map V.ref)[k]? = some (.ref (qs[k]'(by omega))) := by rw [List.getElem?_map, List.getElem?_eq_getElem (by omega)]; rfl
    obtain ⟨t, et, ht⟩ := paired_ref pq2 hk hq
    have hq2 : (qs.map V.ref)[k]? = some (.ref t) := by rw [hq, et]
    refine ⟨_, rfl, _, rfl, _, rfl, l, _, (k : Int), _, rfl, rfl, SqL.of (e25 _ _ gl), atI_nat (j := k) hq2, b, t, pt, [rs[k].1, rs[k].2], rfl, e25 _ _ (e2 _ _ gb), .inr (SqT.of (e25 _ _ ht)), ?_, by show 2 ≤ 1000; decide, fun H6 e6 => ?_⟩
    · intro s hs
      rcases List.mem_cons.mp hs with rfl | hs
      · exact inn.1
      · rw [List.mem_singleton.mp hs]
        exact inn.2
    refine cons_run ?_
    refine ⟨_, rfl, _, rfl, b, B, pt, farS pt ss rs rs[k], rfl, e6 _ _ (e25 _ _ (e2 _ _ gb)), .inl (SqL.of (e6 _ _ gB)), fun s hs => (List.mem_filter.mp hs).1, Nat.le_trans (List.length_filter_le _ _) lpt, fun H7 e7 => ?_⟩
    refine ⟨(by show 3 ≤ sizeLine; decide), fun W hW => ?_⟩
    have e8 := K1.Same.upd (H := H7) (p := W) (o := .tup [.int ((k : Nat) : Int), .int ((lotN pt [rs[k].1, rs[k].2] : Nat) : Int), .int ((lotN pt (farS pt ss rs rs[k]) : Nat) : Int)]) hW
    have gW := upd_same' H7 W (.tup [.int ((k : Nat) : Int), .int ((lotN pt [rs[k].1, rs[k].2] : Nat) : Int), .int ((lotN pt (farS pt ss rs rs[k]) : Nat) : Int)])
    generalize L2.upd H7 W (.tup [.int ((k : Nat) : Int), .int ((lotN pt [rs[k].1, rs[k].2] : Nat) : Int), .int ((lotN pt (farS pt ss rs rs[k]) : Nat) : Int)]) = H8 at e8 gW ⊢
    have e58 : Same H5 H8 := e6.trans (e7.trans e8)
    have gL8 := e58 _ _ gL5
    have lu : us.length ≤ 1000 := by
      have a1 := c3.length
      rw [List.length_take] at a1
      have a2 := insU_len (pt := pt) (rs := rs) (i := rs.length)
      omega
    refine ⟨L, _, _, rfl, rfl, gL8, by rw [List.length_map]; exact small1000 lu, ?_⟩
    refine ⟨⟨_, _, _, rfl⟩, ps_same_upd (e25.trans e58) hL, ?_, us ++ [W], by rw [upd_same, List.map_append]; rfl, ?_⟩
    · rw [upd_ne rL]
      exact e58 _ _ (e5 _ _ cr)
    · have hs : (splU pt ss rs).take (i + 1) = (splU pt ss rs).take i ++ [(k, lotN pt [rs[k].1, rs[k].2], lotN pt (farS pt ss rs rs[k]))] := by
        have hi2 : i < (splU pt ss rs).length := by unfold splU; rw [List.length_map]; exact hi
        rw [take_snoc hi2]
        congr 1
        have : (splU pt ss rs)[i] = splAt pt ss rs k := by
          have z := List.getElem_map (splAt pt ss rs) (l := insU pt rs rs.length) (i := i) (h := by rw [List.length_map]; exact hi)
          rw [ek] at z
          exact z
        rw [this]
        unfold splAt
        rw [List.getElem?_eq_getElem hk]
      rw [hs]
      exact TrpP.upd gL8 (paired_snoc (TrpP.ext c3 (e5.trans e58)) gW)
  · rintro σ Hc ⟨⟨a, c, d, rfl⟩, c1, cr, c2⟩
    have tk : (splU pt ss rs).take ((insU pt rs rs.length).map fun k : Nat => V.int (k : Int)).length = splU pt ss rs := by
      rw [lU]
      unfold splU
      rw [List.take_of_length_le (by rw [List.length_map]; exact Nat.le_refl _)]
    rw [tk] at c2
    dsimp only
    refine ret_run ?_
    refine ⟨_, rfl, ?_⟩
    exact q L Hc (e1.trans (e2.trans c1)) ((e1.trans e2).free hL) c2
end
end K1
end
-- WSpl5
section
set_option Elab.async false
set_option linter.all false
set_option maxRecDepth 100000
set_option maxHeartbeats 1000000
namespace K1
open PySem PySem.Spec PyProof.Rows L2 W0
abbrev sLa : Stmt := top 38
def apOk (lot : Nat) (t : Spl) : Bool := decide (lot &&& t.2.1 = t.2.1)
def apMk (lot : Nat) (t : Spl) : Spl := (t.1, lot - (lot &&& t.2.2), lot &&& t.2.2)
def apart (ts : List Spl) (lot : Nat) : List Spl := (ts.filter (apOk lot)).map (apMk lot)
theorem bitAnd_nat (a b : Nat) : Builtin.bitAnd (a : Int) (b : Int) = ((a &&& b : Nat) : Int) := by
  rw [bitAnd_pp (by omega) (by omega), Int.toNat_natCast, Int.toNat_natCast]
theorem apart_succ {ts : List Spl} {lot i : Nat} (hi : i < ts.length) : apart (ts.take (i + 1)) lot = apart (ts.take i) lot ++ if apOk lot ts[i] = true then [apMk lot ts[i]] else [] := by
  unfold apart
  rw [take_snoc hi, List.filter_append, List.map_append]
  congr 1
  rw [List.filter_cons, List.filter_nil]
  cases apOk lot ts[i] <;> rfl
theorem apart_len {ts : List Spl} {lot : Nat} : (apart ts lot).length ≤ ts.length := by
  unfold apart
  rw [List.length_map]
  exact List.length_filter_le _ _
def spLa : Sp := fun vs H Q _ => ∃ (r : Addr) (ts : List Spl) (lot : Nat), vs = [.ref r, .int (lot : Int)] ∧ SplL H r ts ∧ ts.length ≤ 1000 ∧ ∀ r' H', Same H H' → H r' = none → SplL H' r' (apart ts lot) → Q (.ref r') H'
theorem scLa : FnScope ["splits", "lot", "place", "ends", "beyond"] ["splits", "lot"] (defScope sLa) := ⟨rfl, rfl, rfl, by decide +kernel, rfl, by decide +kernel, by decide +kernel⟩
section
variable {P : Program} {w : World} {K : PySem.W.Frag} {mg : Str → Option Value} {base : Heap} {C CN CO : Addr}
theorem ok_La {f : Addr} {fd : FuncData} (F : Fun K "lots_apart" "lots_apart" sLa f fd) : FnOk P w K mg base CX0 1 f fd ["splits", "lot"] spLa := by
  refine F.ok scLa (fun vs H Q E h => ?_) (fun cdv A outer s H vs Q E hr h => ?_)
  · obtain ⟨r, ts, lot, rfl, _⟩ := h
    rfl
  obtain ⟨r, ts, lot, rfl, ⟨qs, hr', pq⟩, lts, q⟩ := h
  have nd := scLa.nd
  refine ⟨_, pss_one (by exact (ps_ret (pe_lc (own := [("place", 2), ("ends", 3), ("beyond", 4)]) (g := gTup K 3 (gCons (gName 2) (gCons (gName 3) (gCons (gName 4) gNil)))) (tt := _) (te := _) rfl nd (by exact pi_list (pv 0)) (by exact blkOk_by (N := ["splits", "lot", "place", "ends", "beyond"]) (sc := defScope sLa) (by decide +kernel))
    (fun _ _ _ _ _ => by exact (pg_tup rfl (pgs_cons (pg_name (i := 2) nd rfl (.inl rfl)) (pgs_cons (pg_name (i := 3) nd rfl (.inl rfl)) (pgs_cons (pg_name (i := 4) nd rfl (.inl rfl)) pgs_nil)))))
    (fun _ _ _ _ _ => by exact pts_one (pt_cmpR op_eq (pe_op op_and (pv 1) (pv 3)) (pv 3) (nomark _)))
    (fun _ _ _ _ _ => by exact pe_tup (pa_cons (pv 2) (pa_cons (pe_op op_sub (pv 1) (pe_op op_and (pv 1) (pv 4))) (pa_cons (pe_op op_and (pv 1) (pv 4)) pa_nil))))))), ?_⟩
  have lq : qs.length = ts.length := pq.length
  refine ⟨_, rfl, r, rfl, ⟨_, SqL.of hr'⟩, fun D hD => ?_⟩
  refine lc_it (Qd := _) walk_list (fun i Hc => Same H Hc ∧ SplL Hc D (apart (ts.take i) lot)) ⟨K1.Same.upd hD, [], upd_same, .nil⟩ (fun i Hc _ h => SqL.of (h.1 _ _ hr')) ?_ ?_
  · rintro i v Hc H' hi ⟨c1, us, c2, c3⟩ ⟨rfl, hv⟩
    rw [List.length_map, lq] at hi
    have hv : (qs.map V.ref)[i]? = some v := hv
    obtain ⟨t, et, ht⟩ := paired_get pq hi
    rw [List.getElem?_map, et] at hv
    obtain rfl := (Option.some.inj hv).symm
    have ht1 := c1 _ _ ht
    refine ⟨t, _, rfl, SqT.of ht1, rfl, _, _, rfl, _, _, rfl, _, _, rfl, rfl, ?_⟩
    refine ⟨rfl, _, rfl, _, rfl, _, _, rfl, rfl, _, rfl, rfl, _, rfl, ?_⟩
    have us1 := apart_succ (lot := lot) hi
    have ec : decide (V.int (Builtin.bitAnd (lot : Int) ((ts[i].2.1 : Nat) : Int)) = V.int ((ts[i].2.1 : Nat) : Int)) = apOk lot ts[i] := by
      unfold apOk
      rw [bitAnd_nat]
      refine decide_eq_decide.mpr ⟨fun z => ?_, fun z => by rw [z]⟩
      have z := V.int.inj z
      exact Int.ofNat_inj.mp z
    rw [ec]
    refine ite2 (fun y => ?_) (fun y => ?_)
    · rw [if_pos y] at us1
      refine tup_runE ?_
      refine cons_run ⟨_, rfl, cons_run ⟨_, rfl, _, rfl, _, rfl, _, _, rfl, rfl, _, _, rfl, rfl, cons_run ⟨_, rfl, _, rfl, _, _, rfl, rfl, ?_⟩⟩⟩
      refine ⟨(by show 3 ≤ sizeLine; decide), fun W hW => ?_⟩
      have l1 : (lot &&& ts[i].2.2) ≤ lot := Nat.and_le_left
      have em : [V.int ((ts[i].1 : Nat) : Int), V.int ((lot : Int) - Builtin.bitAnd (lot : Int) ((ts[i].2.2 : Nat) : Int)), V.int (Builtin.bitAnd (lot : Int) ((ts[i].2.2 : Nat) : Int))] = [V.int (((apMk lot ts[i]).1 : Nat) : Int), V.int (((apMk lot ts[i]).2.1 : Nat) : Int), V.int (((apMk lot ts[i]).2.2 : Nat) : Int)] := by
        rw [bitAnd_nat]
        have : ((lot : Int) - ((lot &&& ts[i].2.2 : Nat) : Int)) = ((lot - (lot &&& ts[i].2.2) : Nat) : Int) := (Int.ofNat_sub l1).symm
        rw [this]
        rfl
      rw [em]
      have e8 := K1.Same.upd (H := H') (p := W) (o := .tup [V.int (((apMk lot ts[i]).1 : Nat) : Int), V.int (((apMk lot ts[i]).2.1 : Nat) : Int), V.int (((apMk lot ts[i]).2.2 : Nat) : Int)]) hW
      have gW := upd_same' H' W (.tup [V.int (((apMk lot ts[i]).1 : Nat) : Int), V.int (((apMk lot ts[i]).2.1 : Nat) : Int), V.int (((apMk lot ts[i]).2.2 : Nat) : Int)])
      generalize L2.upd H' W (.tup [V.int (((apMk lot ts[i]).1 : Nat) : Int), V.int (((apMk lot ts[i]).2.1 : Nat) : Int), V.int (((apMk lot ts[i]).2.2 : Nat) : Int)]) = H8 at e8 gW ⊢
      have g2 := e8 _ _ c2
      have lu : us.length ≤ 1000 := by
        have a1 := c3.length
        have a2 := apart_len (ts := ts.take i) (lot := lot)
        rw [List.length_take] at a2
        omega
      refine ⟨_, g2, by rw [List.length_map]; exact small1000 lu, ps_same_upd (c1.trans e8) hD, us ++ [W], by rw [upd_same, List.map_append]; rfl, ?_⟩
      rw [us1]
      exact TrpP.upd g2 (paired_snoc (TrpP.ext c3 e8) gW)
    · rw [if_neg y, List.append_nil] at us1
      exact ⟨c1, us, c2, by rw [us1]; exact c3⟩
  · rintro Hc ⟨c1, c2⟩
    rw [List.length_map, lq, List.take_length] at c2
    exact q D Hc c1 hD c2
end
end K1
end
-- WCnt
section
set_option Elab.async false
set_option linter.all false
set_option maxRecDepth 100000
set_option maxHeartbeats 1000000
namespace K1
open PySem PySem.Spec PyProof.Rows L2 W0
abbrev sCl : Stmt := top 39
/-- how many ways, with so many steps down -/
def cntF : Nat → List Spl → Nat → Nat
  | 0, _, _ => 0
  | n + 1, ts, lot => if apart ts lot = [] then 1 else ((apart ts lot).map fun t => cntF n ts t.2.1 * cntF n ts t.2.2).sum
/-- no deeper than so many steps -/
def Dep (ts : List Spl) : Nat → Nat → Prop
  | 0, _ => False
  | n + 1, lot => ∀ t ∈ apart ts lot, Dep ts n t.2.1 ∧ Dep ts n t.2.2 ∧ cntF n ts t.2.1 < 2 ^ 64
theorem cntF_mono {ts : List Spl} : ∀ {n m lot : Nat}, Dep ts n lot → n ≤ m → cntF m ts lot = cntF n ts lot
  | 0, _, _, h, _ => h.elim
  | n + 1, 0, _, _, l => absurd l (by omega)
  | n + 1, m + 1, lot, h, l => by
    unfold cntF
    congr 1
    congr 1
    refine List.map_congr_left fun t ht => ?_
    rw [cntF_mono (h t ht).1 (by omega : n ≤ m), cntF_mono (h t ht).2.1 (by omega : n ≤ m)]
theorem Dep.mono {ts : List Spl} : ∀ {n m lot : Nat}, Dep ts n lot → n ≤ m → Dep ts m lot
  | 0, _, _, h, _ => h.elim
  | n + 1, 0, _, _, l => absurd l (by omega)
  | n + 1, m + 1, lot, h, l => fun t ht => ⟨Dep.mono (h t ht).1 (by omega), Dep.mono (h t ht).2.1 (by omega), by rw [cntF_mono (h t ht).1 (by omega : n ≤ m)]; exact (h t ht).2.2⟩
theorem cntF_step {ts : List Spl} {n N lot : Nat} (h : Dep ts (n + 1) lot) (l : n + 1 ≤ N) : cntF N ts lot = if apart ts lot = [] then 1 else ((apart ts lot).map fun t => cntF N ts t.2.1 * cntF N ts t.2.2).sum := by
  rcases N with _ | N
  · exact absurd l (by omega)
  show (if apart ts lot = [] then 1 else ((apart ts lot).map fun t => cntF N ts t.2.1 * cntF N ts t.2.2).sum) = _
  congr 1
  congr 1
  refine List.map_congr_left fun t ht => ?_
  rw [cntF_mono (h t ht).1 (by omega : n ≤ N), cntF_mono (h t ht).2.1 (by omega : n ≤ N), cntF_mono (h t ht).1 (by omega : n ≤ N + 1), cntF_mono (h t ht).2.1 (by omega : n ≤ N + 1)]
def wayI (N : Nat) (ts : List Spl) (t : Spl) : Int := ((cntF N ts t.2.1 : Nat) : Int) * ((cntF N ts t.2.2 : Nat) : Int)
theorem wayI_sum {N : Nat} {ts : List Spl} : ∀ (us : List Spl), (us.map (wayI N ts)).sum = (((us.map fun t => cntF N ts t.2.1 * cntF N ts t.2.2).sum : Nat) : Int)
  | [] => rfl
  | u :: us => by
    rw [List.map_cons, List.sum_cons, List.map_cons, List.sum_cons, wayI_sum us, Int.natCast_add, Int.natCast_mul]
    rfl
/-- what is known already -/
def memo (N : Nat) (ts : List Spl) (ls : List Nat) : List (Key × V) := ls.map fun l => (.inl ((l : Nat) : Int), .int ((cntF N ts l : Nat) : Int))
theorem memo_keys {N : Nat} {ts : List Spl} {ls : List Nat} {lot : Nat} : ((.inl ((lot : Nat) : Int) : Key) ∈ (memo N ts ls).map (·.1)) ↔ lot ∈ ls := by
  unfold memo
  rw [List.map_map, List.mem_map]
  constructor
  · rintro ⟨a, h, e⟩
    have : ((a : Nat) : Int) = (lot : Int) := Sum.inl.inj e
    rw [← Int.ofNat_inj.mp this]
    exact h
  · intro h
    exact ⟨lot, h, rfl⟩
theorem memo_val {N : Nat} {ts : List Spl} : ∀ {ls : List Nat} {lot : Nat}, valV (memo N ts ls) (.inl ((lot : Nat) : Int)) = if lot ∈ ls then some (.int ((cntF N ts lot : Nat) : Int)) else none
  | [], lot => rfl
  | l :: ls, lot => by
    show valV ((.inl ((l : Nat) : Int), .int ((cntF N ts l : Nat) : Int)) :: memo N ts ls) _ = _
    by_cases e : l = lot
    · subst e
      rw [valV_pos rfl, if_pos (List.mem_cons_self ..)]
    · rw [valV_neg (fun z => e (Int.ofNat_inj.mp (Sum.inl.inj z))), memo_val]
      have : (lot ∈ l :: ls) ↔ lot ∈ ls := by
        rw [List.mem_cons]
        exact ⟨fun z => z.resolve_left fun y => e y.symm, .inr⟩
      by_cases m : lot ∈ ls
      · rw [if_pos m, if_pos (this.mpr m)]
      · rw [if_neg m, if_neg fun z => m (this.mp z)]
theorem memo_put {N : Nat} {ts : List Spl} {ls : List Nat} {lot : Nat} (h : lot ∉ ls) : putK (memo N ts ls) (.inl ((lot : Nat) : Int)) (.int ((cntF N ts lot : Nat) : Int)) = memo N ts (ls ++ [lot]) := by
  rw [putK_new fun z => h (memo_keys.mp z)]
  unfold memo
  rw [List.map_append]
  rfl
theorem memo_again {N : Nat} {ts : List Spl} {ls : List Nat} {lot : Nat} (h : lot ∈ ls) : putK (memo N ts ls) (.inl ((lot : Nat) : Int)) (.int ((cntF N ts lot : Nat) : Int)) = memo N ts ls := by
  unfold putK
  rw [if_pos]
  · unfold memo
    rw [List.map_map]
    refine List.map_congr_left fun l hl => ?_
    show (if (Sum.inl ((l : Nat) : Int) : Key) = .inl ((lot : Nat) : Int) then _ else _) = _
    by_cases e : (Sum.inl ((l : Nat) : Int) : Key) = .inl ((lot : Nat) : Int)
    · rw [if_pos e]
      have : l = lot := Int.ofNat_inj.mp (Sum.inl.inj e)
      rw [this]
    · rw [if_neg e]
  · rw [List.any_eq_true]
    exact ⟨_, List.mem_map.mpr ⟨lot, h, rfl⟩, decide_eq_true rfl⟩
theorem nodup_below : ∀ {B : Nat} {ls : List Nat}, ls.Nodup → (∀ l ∈ ls, l < B) → ls.length ≤ B := by
  intro B ls nd hb
  have := nodup_len nd (ys := List.range B) fun l hl => List.mem_range.mpr (hb l hl)
  rw [List.length_range] at this
  exact this
def MemoL (B : Nat) (ls : List Nat) : Prop := ls.Nodup ∧ ∀ l ∈ ls, l < B
theorem MemoL.len {B : Nat} {ls : List Nat} (h : MemoL B ls) : ls.length ≤ B := nodup_below h.1 h.2
theorem MemoL.snoc {B : Nat} {ls : List Nat} {lot : Nat} (h : MemoL B ls) (n : lot ∉ ls) (b : lot < B) : MemoL B (ls ++ [lot]) := by
  refine ⟨List.nodup_append.mpr ⟨h.1, by simp, fun a ha b hb => ?_⟩, fun l hl => ?_⟩
  · rw [List.mem_singleton.mp hb]
    intro e
    exact n (e ▸ ha)
  · rcases List.mem_append.mp hl with hl | hl
    · exact h.2 l hl
    · rw [List.mem_singleton.mp hl]
      exact b
theorem memo_new {N B : Nat} {ts : List Spl} {ls : List Nat} {lot : Nat} (h : MemoL B ls) (b : lot < B) : ∃ ls2, putK (memo N ts ls) (.inl ((lot : Nat) : Int)) (.int ((cntF N ts lot : Nat) : Int)) = memo N ts ls2 ∧ MemoL B ls2 ∧ lot ∈ ls2 := by
  by_cases m : lot ∈ ls
  · exact ⟨ls, memo_again m, h, m⟩
  · exact ⟨ls ++ [lot], memo_put m, h.snoc m b, by simp⟩
theorem apart_le {ts : List Spl} {lot : Nat} {t : Spl} (h : t ∈ apart ts lot) : t.2.1 ≤ lot ∧ t.2.2 ≤ lot := by
  unfold apart at h
  obtain ⟨u, _, rfl⟩ := List.mem_map.mp h
  exact ⟨Nat.sub_le _ _, Nat.and_le_left⟩
theorem SplL.kept {H H' : Hp} {r k : Addr} {kvs : List (Key × V)} {ts : List Spl} (h : SplL H r ts) (hk : H k = some (.dK kvs)) (e : Kept k H H') : SplL H' r ts := by
  obtain ⟨qs, a, b⟩ := h
  exact ⟨qs, e _ _ (fun z => by rw [z, hk] at a; cases a) a, paired_imp (fun x y q => e _ _ (fun z => by
    have q : H x = _ := q
    rw [z, hk] at q
    cases q) q) b⟩
def spCl (N B : Nat) : Nat → Sp
  | 0 => fun _ _ _ _ => False
  | n + 1 => fun vs H Q _ => ∃ (r k : Addr) (ts : List Spl) (lot : Nat) (ls : List Nat), vs = [.ref r, .int (lot : Int), .ref k] ∧ SplL H r ts ∧ ts.length ≤ 1000 ∧ lot < B ∧ Dep ts (n + 1) lot ∧ n + 1 ≤ N ∧ H k = some (.dK (memo N ts ls)) ∧ MemoL B ls ∧
    ∀ H' ls', Kept k H H' → H' k = some (.dK (memo N ts ls')) → MemoL B ls' → Q (.int ((cntF N ts lot : Nat) : Int)) H'
theorem scCl : FnScope ["splits", "lot", "known", "lots", "_", "near", "beyond", "ways"] ["splits", "lot", "known"] (defScope sCl) := ⟨rfl, rfl, rfl, by decide +kernel, rfl, by decide +kernel, by decide +kernel⟩
section
variable {P : Program} {w : World} {K : PySem.W.Frag} {mg : Str → Option Value} {base : Heap} {C CN CO : Addr}
theorem ok_Cl0 {N B : Nat} {f : Addr} {fd : FuncData} (F : Fun K "count_lot" "count_lot" sCl f fd) : FnOk P w K mg base CX0 1 f fd ["splits", "lot", "known"] (spCl N B 0) :=
  F.ok scCl (fun vs H Q E h => h.elim) (fun cdv A outer s H vs Q E hr h => h.elim)
theorem ok_Cl1 {N B n : Nat} (hB : B ≤ 2 ^ 20) {f fA : Addr} {fd ad : FuncData} (F : Fun K "count_lot" "count_lot" sCl f fd) (ms : mg "sum" = none)
    (bC : Binds K fd ["splits", "lot", "known"] []) (mC : mg "count_lot" = some (.ref f))
    (GA : FnOk P w K mg base CX0 1 fA ad ["splits", "lot"] spLa) (FA : Fun K "lots_apart" "lots_apart" sLa fA ad) (bA : Binds K ad ["splits", "lot"] []) (mA : mg "lots_apart" = some (.ref fA))
    (G : FnOk P w K mg base CX0 (n + 1) f fd ["splits", "lot", "known"] (spCl N B n)) : FnOk P w K mg base CX0 (n + 2) f fd ["splits", "lot", "known"] (spCl N B (n + 1)) := by
  refine F.ok scCl (fun vs H Q E h => ?_) (fun cdv A outer s H vs Q E hr h => ?_)
  · obtain ⟨r, k, ts, lot, ls, rfl, _⟩ := h
    rfl
  obtain ⟨r, k, ts, lot, ls, rfl, sp, lts, hlot, dp, hN, hk, ml, q⟩ := h
  have nd := scCl.nd
  have hu := hu_of hr
  have hr1 : Room 1 _ := hr.mono (by omega)
  refine ⟨_, pss_cons (by exact (ps_if (pt_cmp (pc_dnotin hu (pv 1) (pv 2)) (by with_unfolding_all rfl))
      (pss_cons (by exact (ps_set (i := 3) nd rfl (.inl rfl) (pe_call GA hr1 rfl mA FA.kp bA .nil pass0 (pa_cons (pv 0) (pa_cons (pv 1) pa_nil)))))
      (pss_cons (by exact (ps_setLc (i := 7) (own := [("_", 4), ("near", 5), ("beyond", 6)]) (g := gTup K 3 (gCons (gName 4) (gCons (gName 5) (gCons (gName 6) gNil)))) (tt := tYes) (te := _) rfl nd rfl rfl (sw_true rfl rfl rfl (by decide +kernel)) (by exact pi_list (pv 3)) (by exact blkOk_by (N := ["splits", "lot", "known", "lots", "_", "near", "beyond", "ways"]) (sc := defScope sCl) (by decide +kernel))
          (fun _ _ _ _ _ => by exact (pg_tup rfl (pgs_cons (pg_name (i := 4) nd rfl (.inl rfl)) (pgs_cons (pg_name (i := 5) nd rfl (.inl rfl)) (pgs_cons (pg_name (i := 6) nd rfl (.inl rfl)) pgs_nil))))) (fun _ _ _ _ _ => by exact pts_nil)
          (fun _ _ _ _ _ => by exact (pe_op op_mul (pe_call G hr rfl mC F.kp bC .nil pass0 (pa_cons (pv 0) (pa_cons (pv 5) (pa_cons (pv 2) pa_nil)))) (pe_call G hr rfl mC F.kp bC .nil pass0 (pa_cons (pv 0) (pa_cons (pv 6) (pa_cons (pv 2) pa_nil))))))))
      (pss_one (by exact (ps_dput hu (pv 2) (pv 1) (pe_ifExp (pt_truth (pv 7) (fun _ => rfl)) (pe_callB (cr_sum rfl) rfl ms PyProof.Rows.boot_sum (pa_cons (pv 7) pa_nil)) pe_int) rfl)))))
      pss_nil))
    (pss_one (by exact (ps_ret (pe_dget hu (pv 2) (pv 1) (fun _ _ => rfl))))), ?_⟩
  refine ⟨_, rfl, _, rfl, k, _, rfl, DGet.k (k := .inl ((lot : Nat) : Int)) hk, _, rfl, ?_⟩
  rw [memo_val]
  by_cases hm : lot ∈ ls
  · rw [if_pos hm]
    refine iteF ?_
    have dg := DGet.k (k := .inl ((lot : Nat) : Int)) hk
    rw [memo_val, if_pos hm] at dg
    exact ⟨_, rfl, _, rfl, k, _, rfl, dg, q H ls Kept.refl hk ml⟩
  rw [if_neg hm]
  refine iteT ?_
  refine ⟨_, rfl, _, rfl, r, ts, lot, rfl, sp, lts, fun A' H1 e1 nA gA => ?_⟩
  refine K1.gN ?_
  obtain ⟨us, gA1, gA2⟩ := gA
  have Ak : A' ≠ k := fun z => by rw [z, hk] at nA; cases nA
  have lus : us.length = (apart ts lot).length := gA2.length
  have lap : (apart ts lot).length ≤ 1000 := Nat.le_trans apart_len lts
  refine ⟨_, rfl, A', rfl, ⟨_, SqL.of gA1⟩, fun D hD => ?_⟩
  have k1 := e1 _ _ hk
  have Dk : D ≠ k := fun z => by rw [z, k1] at hD; cases hD
  have DA : A' ≠ D := fun z => by rw [← z, gA1] at hD; cases hD
  refine lc_it (Qd := _) walk_list (fun i Hc => Kept k H1 Hc ∧ Hc D = some (.lst ((((apart ts lot).take i).map (wayI N ts)).map V.int)) ∧ ∃ ls', Hc k = some (.dK (memo N ts ls')) ∧ MemoL B ls')
    ⟨Kept.new hD, upd_same, ls, by rw [upd_ne Dk.symm]; exact k1, ml⟩ (fun i Hc _ h => SqL.of (h.1 _ _ Ak gA1)) ?_ ?_
  · rintro i v Hc H' hi ⟨c1, c2, ls', c3, c4⟩ ⟨rfl, hv⟩
    rw [List.length_map, lus] at hi
    have hv : (us.map V.ref)[i]? = some v := hv
    obtain ⟨t, et, ht⟩ := paired_get gA2 hi
    rw [List.getElem?_map, et] at hv
    obtain rfl := (Option.some.inj hv).symm
    have tk : t ≠ k := fun z => by
      have ht : H1 t = _ := ht
      rw [z, k1] at ht
      cases ht
    have ht1 := c1 _ _ tk ht
    have htm := List.getElem_mem hi
    have dpt := dp _ htm
    have apl := apart_le htm
    refine ⟨t, _, rfl, SqT.of ht1, rfl, _, _, rfl, _, _, rfl, _, _, rfl, rfl, rfl, ?_⟩
    unfold tYes
    refine iteT ?_
    rcases n with _ | m
    · exact dpt.1.elim
    have eK : Kept k H H' := (Kept.same e1).trans c1
    refine ⟨_, rfl, _, rfl, _, rfl, r, k, ts, (apart ts lot)[i].2.1, ls', rfl, sp.kept hk eK, lts, by omega, dpt.1, by omega, c3, c4, fun H5 ls5 e5 g5 m5 => ?_⟩
    refine ⟨_, rfl, _, rfl, _, rfl, r, k, ts, (apart ts lot)[i].2.2, ls5, rfl, sp.kept hk (eK.trans e5), lts, by omega, dpt.2.1, by omega, g5, m5, fun H6 ls6 e6 g6 m6 => ?_⟩
    have sm : cntF N ts (apart ts lot)[i].2.1 < 2 ^ 64 := by
      rw [cntF_mono dpt.1 (by omega : m + 1 ≤ N)]
      exact dpt.2.2
    refine ⟨_, _, rfl, rfl, .inl ⟨by omega, by omega⟩, ?_⟩
    have g2 := e6 _ _ Dk (e5 _ _ Dk c2)
    have tk1 : ((apart ts lot).take (i + 1)).map (wayI N ts) = ((apart ts lot).take i).map (wayI N ts) ++ [wayI N ts (apart ts lot)[i]] := by
      rw [take_snoc hi, List.map_append]
      rfl
    refine ⟨_, g2, by rw [List.length_map, List.length_map, List.length_take]; exact small1000 (by omega), ?_, ?_, ls6, by rw [upd_ne Dk.symm]; exact g6, m6⟩
    · intro b o nb h
      have bD : b ≠ D := ne_of_none h hD
      rw [upd_ne bD]
      exact e6 _ _ nb (e5 _ _ nb (c1 _ _ nb h))
    · rw [upd_same, tk1, List.map_append]
      rfl
  · rintro Hc ⟨c1, c2, ls', c3, c4⟩
    rw [List.length_map, lus, List.take_length] at c2
    refine K1.gN ?_
    refine ⟨_, rfl, _, .inl ⟨_, SqL.of c2, rfl⟩, ?_⟩
    have st := cntF_step dp hN
    obtain ⟨ls2, p1, p2, p3⟩ := memo_new (N := N) (ts := ts) c4 hlot
    have lk : (memo N ts ls').length < sizeLine := by
      unfold memo
      rw [List.length_map]
      have := c4.len
      show _ < 2 ^ 24
      omega
    have dput := DPut.k (k := .inl ((lot : Nat) : Int)) (v := .int ((cntF N ts lot : Nat) : Int)) c3 lk
    rw [p1] at dput
    have g7 := upd_same' Hc k (.dK (memo N ts ls2))
    have k7 : Kept k H (L2.upd Hc k (.dK (memo N ts ls2))) := ((Kept.same e1).trans c1).trans Kept.upd
    generalize L2.upd Hc k (.dK (memo N ts ls2)) = H7 at dput g7 k7
    have dg := DGet.k (k := .inl ((lot : Nat) : Int)) g7
    rw [memo_val, if_pos p3] at dg
    have fin := q H7 ls2 k7 g7 p2
    by_cases ea : apart ts lot = []
    · have e0 : (!(((apart ts lot).map (wayI N ts)).map V.int).isEmpty) = false := by rw [ea]; rfl
      rw [e0]
      refine iteF ?_
      rw [if_pos ea] at st
      rw [st] at dput
      exact ⟨_, rfl, _, rfl, k, _, rfl, dput, _, rfl, _, rfl, k, _, rfl, dg, fin⟩
    · have e0 : (!(((apart ts lot).map (wayI N ts)).map V.int).isEmpty) = true := by cases hx : apart ts lot with
        | nil => exact absurd hx ea
        | cons _ _ => rfl
      rw [e0]
      refine iteT ?_
      rw [if_neg ea] at st
      refine ⟨_, rfl, D, _, rfl, SqL.of c2, ?_⟩
      rw [wayI_sum, ← st]
      exact ⟨_, rfl, _, rfl, k, _, rfl, dput, _, rfl, _, rfl, k, _, rfl, dg, fin⟩
end
end K1
end
-- WCnt2
section
set_option Elab.async false
set_option linter.all false
set_option maxRecDepth 100000
set_option maxHeartbeats 1000000
namespace K1
open PySem PySem.Spec PyProof.Rows L2 W0
abbrev sCp : Stmt := top 40
abbrev sCu : Stmt := top 42
/-- how many ways a part can be taken apart -/
noncomputable def cntP (N : Nat) (pt ss : List Str) (rs : List (Str × Str)) : Nat := cntF N (splU pt ss rs) (lotN pt pt)
def spCp (C : Addr) (N B : Nat) : Sp := fun vs H Q _ => ∃ (x p : Addr) (ss : List Str) (rs : List (Str × Str)) (ns : List Int) (pt : List Str), vs = [.ref x, .ref p] ∧ IsV C H x ss rs ns ∧ Tree ss rs ∧ ss.length ≤ 1000 ∧ rs.length ≤ 1000 ∧ H p = some (.lst (pt.map V.str)) ∧ pt.Nodup ∧ pt.length ≤ 1000 ∧
  lotN pt pt < B ∧ Dep (splU pt ss rs) N (lotN pt pt) ∧ ∀ H', Same H H' → Q (.int ((cntP N pt ss rs : Nat) : Int)) H'
theorem scCp : FnScope ["valley", "part"] ["valley", "part"] (defScope sCp) := ⟨rfl, rfl, rfl, by decide +kernel, rfl, by decide +kernel, by decide +kernel⟩
theorem splU_len {pt ss : List Str} {rs : List (Str × Str)} : (splU pt ss rs).length ≤ rs.length := by
  unfold splU
  rw [List.length_map]
  exact insU_len
section
variable {P : Program} {w : World} {K : PySem.W.Frag} {mg : Str → Option Value} {base : Heap} {C CN CO CV : Addr}
theorem ok_Cp {N B : Nat} {f fC fS fB fL : Addr} {fd cd sd bd ld : FuncData} (F : Fun K "count_part" "count_part" sCp f fd)
    (GC : FnOk P w K mg base CX0 (N + 1) fC cd ["splits", "lot", "known"] (spCl N B N)) (FC : Fun K "count_lot" "count_lot" sCl fC cd) (bC : Binds K cd ["splits", "lot", "known"] []) (mC : mg "count_lot" = some (.ref fC))
    (GS : FnOk P w K mg base CX0 7 fS sd ["valley", "part"] (spSp C)) (FS : Fun K "splits_of" "splits_of" sSp fS sd) (bS : Binds K sd ["valley", "part"] []) (mS : mg "splits_of" = some (.ref fS))
    (GB : FnOk P w K mg base CX0 1 fB bd ["part"] spBo) (FB : Fun K "bits_of" "bits_of" sBo fB bd) (bB : Binds K bd ["part"] []) (mB : mg "bits_of" = some (.ref fB))
    (GL : FnOk P w K mg base CX0 1 fL ld ["bits", "some"] (spLt K)) (FL : Fun K "lot_of" "lot_of" sLo_ fL ld) (bL : Binds K ld ["bits", "some"] []) (mL : mg "lot_of" = some (.ref fL)) :
    FnOk P w K mg base CX0 (N + 9) f fd ["valley", "part"] (spCp C N B) := by
  refine F.ok scCp (fun vs H Q E h => ?_) (fun cdv A outer s H vs Q E hr h => ?_)
  · obtain ⟨x, p, ss, rs, ns, pt, rfl, _⟩ := h
    rfl
  obtain ⟨x, p, ss, rs, ns, pt, rfl, iv, tr, hl, lrs, hp, nd', lpt, hB, dp, q⟩ := h
  have nd := scCp.nd
  have hr1 : Room 1 _ := hr.mono (by omega)
  have hr7 : Room 7 _ := hr.mono (by omega)
  have hrN : Room (N + 1) _ := hr.mono (by omega)
  refine ⟨_, pss_one (by exact (ps_ret (pe_call GC hrN rfl mC FC.kp bC .nil pass0 (pa_cons (pe_call GS hr7 rfl mS FS.kp bS .nil pass0 (pa_cons (pv 0) (pa_cons (pv 1) pa_nil))) (pa_cons (pe_call GL hr1 rfl mL FL.kp bL .nil pass0 (pa_cons (pe_call GB hr1 rfl mB FB.kp bB .nil pass0 (pa_cons (pv 1) pa_nil)) (pa_cons (pv 1) pa_nil))) (pa_cons pe_dnewK pa_nil)))))), ?_⟩
  rcases N with _ | n
  · exact dp.elim
  refine ⟨_, rfl, _, rfl, x, p, ss, rs, ns, pt, rfl, iv, tr, hl, lrs, hp, nd', lpt, fun r H1 e1 n1 g1 => ?_⟩
  dsimp only
  refine cons_run ⟨_, rfl, p, pt, rfl, e1 _ _ hp, nd', lpt, fun b H2 e2 n2 g2 => ?_⟩
  have e02 := e1.trans e2
  refine ⟨_, rfl, b, p, pt, pt, rfl, g2, .inl (SqL.of (e02 _ _ hp)), fun s h => h, lpt, fun H3 e3 => ?_⟩
  dsimp only
  refine cons_run fun k hk => ?_
  have e5 := K1.Same.upd (H := H3) (p := k) (o := .dK []) hk
  have g5 := upd_same' H3 k (.dK [])
  generalize L2.upd H3 k (.dK []) = H4 at e5 g5 ⊢
  have e14 : Same H1 H4 := e2.trans (e3.trans e5)
  have e04 : Same H H4 := e1.trans e14
  have lts : (splU pt ss rs).length ≤ 1000 := Nat.le_trans splU_len lrs
  refine ⟨r, k, _, _, [], rfl, g1.ext e14, lts, hB, dp, Nat.le_refl _, g5, ⟨List.nodup_nil, fun l h => absurd h (by simp)⟩, fun H' ls' kk _ _ => ?_⟩
  refine q H' fun c o h => ?_
  have ck : c ≠ k := ne_of_none ((e1.trans (e2.trans e3)) _ _ h) hk
  exact kk _ _ ck (e04 _ _ h)
end
/-- how many unlike evenings -/
noncomputable def unl (N : Nat) (ss : List Str) (rs : List (Str × Str)) : Nat := cntP N ss ss rs
def spCu (K : PySem.W.Frag) (C CV : Addr) (N B : Nat) : Sp := fun vs H Q E => ∃ v, vs = [v] ∧ ((∃ x ss rs ns, v = .ref x ∧ IsV C H x ss rs ns ∧ Tree ss rs ∧ ss.Nodup ∧ ss.length ≤ 1000 ∧ rs.length ≤ 1000 ∧ lotN ss ss < B ∧ Dep (splU ss ss rs) N (lotN ss ss) ∧ ∀ H', Same H H' → Q (.int ((unl N ss rs : Nat) : Int)) H') ∨ (NoV K H v ∧ GoesF CV [("thing", v)] H E))
theorem scCu : FnScope ["valley"] ["valley"] (defScope sCu) := ⟨rfl, rfl, rfl, by decide +kernel, rfl, by decide +kernel, by decide +kernel⟩
section
variable {P : Program} {w : World} {K : PySem.W.Frag} {mg : Str → Option Value} {base : Heap} {C CN CO CV : Addr}
theorem ok_Cu {N B : Nat} {f fN fH fP : Addr} {fd nd_ hd pd : FuncData} (F : Fun K "count_unlike" "count_unlike" sCu f fd) (T : VcT K C)
    (GN : FnOk P w K mg base (L2.CX P w) 3 fN nd_ ["valley"] (spNv K C CV)) (bN : Binds K nd_ ["valley"] []) (kN : PySem.W.keepIn K (.ref fN) = true) (mN : mg "need_valley" = some (.ref fN))
    (GH : FnOk P w K mg base CX0 1 fH hd ["self"] (spHo C)) (hH : Meth K C "houses" fH) (bH : Binds K hd ["self"] [])
    (GP : FnOk P w K mg base CX0 (N + 9) fP pd ["valley", "part"] (spCp C N B)) (FP : Fun K "count_part" "count_part" sCp fP pd) (bP : Binds K pd ["valley", "part"] []) (mP : mg "count_part" = some (.ref fP)) :
    FnOk P w K mg base (L2.CX P w) (N + 10) f fd ["valley"] (spCu K C CV N B) := by
  refine F.okX scCu (fun vs H Q E h => ?_) (fun cdv A outer s H vs Q E hr h => ?_)
  · obtain ⟨v, rfl, _⟩ := h
    rfl
  obtain ⟨v, rfl, h⟩ := h
  have nd := scCu.nd
  have hr1 : Room 1 _ := hr.mono (by omega)
  have hr3 : Room 3 _ := hr.mono (by omega)
  refine ⟨_, pss_cons (by exact (ps_expr (pe_call GN hr3 rfl mN kN bN .nil (passes_call (takes_of rfl rfl rfl rfl) (fun _ _ _ _ h => h)) (pa_cons (pv 0) pa_nil))))
    (pss_one (by exact (ps_ret (pe_call GP hr rfl mP FP.kp bP .nil pass0 (pa_cons (pv 0) (pa_cons (pe_meth0 (pv 0) T.cl hH GH hr1 bH .nil pass0) pa_nil)))))), ?_⟩
  rcases h with ⟨x, ss, rs, ns, rfl, iv, tr, nds, hl, lrs, hB, dp, q⟩ | ⟨nv, g⟩
  · refine ⟨_, rfl, _, rfl, .inl ⟨x, ss, rs, ns, rfl, iv, ?_⟩⟩
    obtain ⟨dx, fx, ix, f0⟩ := iv.inst
    refine ⟨_, rfl, ?_⟩
    refine cons_run ⟨_, rfl, x, dx, fx, rfl, ix, f0 _ (by decide +kernel), x, ss, rs, ns, rfl, iv, fun l hl0 => ?_⟩
    have e1 := K1.Same.upd (H := H) (p := l) (o := .lst (ss.map V.str)) hl0
    have gl := upd_same' H l (.lst (ss.map V.str))
    generalize L2.upd H l (.lst (ss.map V.str)) = H1 at e1 gl ⊢
    exact ⟨x, l, ss, rs, ns, ss, rfl, iv.same e1, tr, hl, lrs, gl, nds, hl, hB, dp, fun H' e => q H' (e1.trans e)⟩
  · exact ⟨_, rfl, v, rfl, .inr ⟨nv, g⟩⟩
end
end K1
end
-- WBf0
section
set_option Elab.async false
set_option linter.all false
set_option maxRecDepth 100000
set_option maxHeartbeats 1000000
namespace K1
open PySem PySem.Spec PyProof.Rows L2 W0
/-- a dict from numbers to numbers -/
def dQ (c : List (Nat × Nat)) : List (Key × V) := c.map fun e => (.inl ((e.1 : Nat) : Int), .int ((e.2 : Nat) : Int))
def putN (c : List (Nat × Nat)) (k v : Nat) : List (Nat × Nat) := if k ∈ c.map (·.1) then c.map (fun e => if e.1 = k then (k, v) else e) else c ++ [(k, v)]
def getN : List (Nat × Nat) → Nat → Option Nat
  | [], _ => none
  | e :: c, k => if e.1 = k then some e.2 else getN c k
def addN (c : List (Nat × Nat)) (k v : Nat) : List (Nat × Nat) := putN c k ((getN c k).getD 0 + v)
theorem inlN {a b : Nat} : ((Sum.inl ((a : Nat) : Int) : Key) = .inl ((b : Nat) : Int)) ↔ a = b := ⟨fun z => Int.ofNat_inj.mp (Sum.inl.inj z), fun z => by rw [z]⟩
theorem dQ_keys {c : List (Nat × Nat)} {k : Nat} : ((.inl ((k : Nat) : Int) : Key) ∈ (dQ c).map (·.1)) ↔ k ∈ c.map (·.1) := by
  unfold dQ
  rw [List.map_map, List.mem_map, List.mem_map]
  constructor
  · rintro ⟨a, h, e⟩
    exact ⟨a, h, inlN.mp e⟩
  · rintro ⟨a, h, e⟩
    exact ⟨a, h, inlN.mpr e⟩
theorem putK_old {kvs : List (Key × V)} {k : Key} {v : V} (h : k ∈ kvs.map (·.1)) : putK kvs k v = kvs.map fun kv => if kv.1 = k then (kv.1, v) else kv := by
  unfold putK
  rw [if_pos]
  rw [List.any_eq_true]
  obtain ⟨a, m, e⟩ := List.mem_map.mp h
  exact ⟨a, m, decide_eq_true e⟩
theorem dQ_put {c : List (Nat × Nat)} {k v : Nat} : putK (dQ c) (.inl ((k : Nat) : Int)) (.int ((v : Nat) : Int)) = dQ (putN c k v) := by
  unfold putN
  by_cases h : k ∈ c.map (·.1)
  · rw [putK_old (dQ_keys.mpr h), if_pos h]
    unfold dQ
    rw [List.map_map, List.map_map]
    refine List.map_congr_left fun e _ => ?_
    show (if (Sum.inl ((e.1 : Nat) : Int) : Key) = .inl ((k : Nat) : Int) then _ else _) = _
    by_cases z : e.1 = k
    · rw [if_pos (inlN.mpr z)]
      show _ = ((.inl _ : Key), V.int _)
      show ((.inl ((e.1 : Nat) : Int) : Key), V.int (v : Int)) = ((.inl (((if e.1 = k then (k, v) else e).1 : Nat) : Int) : Key), V.int (((if e.1 = k then (k, v) else e).2 : Nat) : Int))
      rw [if_pos z, z]
    · rw [if_neg fun y => z (inlN.mp y)]
      show _ = ((.inl (((if e.1 = k then (k, v) else e).1 : Nat) : Int) : Key), V.int (((if e.1 = k then (k, v) else e).2 : Nat) : Int))
      rw [if_neg z]
  · rw [putK_new fun z => h (dQ_keys.mp z), if_neg h]
    unfold dQ
    rw [List.map_append]
    rfl
theorem dQ_val : ∀ {c : List (Nat × Nat)} {k : Nat}, valV (dQ c) (.inl ((k : Nat) : Int)) = (getN c k).map fun v => V.int ((v : Nat) : Int)
  | [], k => rfl
  | e :: c, k => by
    show valV ((.inl ((e.1 : Nat) : Int), .int ((e.2 : Nat) : Int)) :: dQ c) _ = (if e.1 = k then some e.2 else getN c k).map _
    by_cases z : e.1 = k
    · rw [valV_pos (inlN.mpr z), if_pos z]
      rfl
    · rw [valV_neg fun y => z (inlN.mp y), if_neg z, dQ_val]
theorem getN_mem : ∀ {c : List (Nat × Nat)} {e : Nat × Nat}, e ∈ c → ∃ v, getN c e.1 = some v
  | [], e, h => absurd h (by simp)
  | d :: c, e, h => by
    show ∃ v, (if d.1 = e.1 then some d.2 else getN c e.1) = some v
    by_cases z : d.1 = e.1
    · rw [if_pos z]; exact ⟨_, rfl⟩
    · rw [if_neg z]
      rcases List.mem_cons.mp h with rfl | h
      · exact absurd rfl z
      · exact getN_mem h
/-- keys without twins, below m -/
def KeysB (m : Nat) (c : List (Nat × Nat)) : Prop := (c.map (·.1)).Nodup ∧ ∀ k ∈ c.map (·.1), k < m
theorem KeysB.len {m : Nat} {c : List (Nat × Nat)} (h : KeysB m c) : c.length ≤ m := by
  have := nodup_below h.1 h.2
  rw [List.length_map] at this
  exact this
theorem KeysB.put {m k v : Nat} {c : List (Nat × Nat)} (h : KeysB m c) (hk : k < m) : KeysB m (putN c k v) := by
  unfold putN
  by_cases z : k ∈ c.map (·.1)
  · rw [if_pos z]
    have : (c.map fun e => if e.1 = k then (k, v) else e).map (·.1) = c.map (·.1) := by
      rw [List.map_map]
      refine List.map_congr_left fun e _ => ?_
      show (if e.1 = k then (k, v) else e).1 = e.1
      by_cases y : e.1 = k
      · rw [if_pos y, y]
      · rw [if_neg y]
    unfold KeysB
    rw [this]
    exact h
  · rw [if_neg z]
    unfold KeysB
    rw [List.map_append]
    exact MemoL.snoc (B := m) h z hk
theorem KeysB.mono {m n : Nat} {c : List (Nat × Nat)} (h : KeysB m c) (l : m ≤ n) : KeysB n c := ⟨h.1, fun k hk => Nat.lt_of_lt_of_le (h.2 k hk) l⟩
/-- one near lot's numbers brought in -/
def bring (inner : List (Nat × Nat)) (ways : Nat) (c es : List (Nat × Nat)) : List (Nat × Nat) := es.foldl (fun c e => addN c (e.1 + 1) ((getN inner e.1).getD 0 * ways)) c
theorem KeysB.bring {m : Nat} {inner : List (Nat × Nat)} {ways : Nat} : ∀ {es c : List (Nat × Nat)}, KeysB m c → (∀ e ∈ es, e.1 + 1 < m) → KeysB m (bring inner ways c es)
  | [], c, h, _ => h
  | e :: es, c, h, he => KeysB.bring (es := es) (h.put (he e (List.mem_cons_self ..))) fun d hd => he d (List.mem_cons_of_mem _ hd)
theorem bring_succ {inner c es : List (Nat × Nat)} {ways i : Nat} (hi : i < es.length) : bring inner ways c (es.take (i + 1)) = addN (bring inner ways c (es.take i)) (es[i].1 + 1) ((getN inner es[i].1).getD 0 * ways) := by
  unfold bring
  rw [take_snoc hi, List.foldl_append]
  rfl
def mineB (bit : Nat) (t : Spl) : Nat := if t.2.1 &&& bit ≠ 0 then t.2.1 else t.2.2
def othB (bit : Nat) (t : Spl) : Nat := if t.2.1 &&& bit ≠ 0 then t.2.2 else t.2.1
/-- how many ways by each number of feasts of the house with the bit -/
def byF (N : Nat) : Nat → List Spl → Nat → Nat → List (Nat × Nat)
  | 0, _, _, _ => []
  | n + 1, ts, bit, lot => if lot = bit then [(0, 1)] else (apart ts lot).foldl (fun c t => bring (byF N n ts bit (mineB bit t)) (cntF N ts (othB bit t)) c (byF N n ts bit (mineB bit t))) []
def DepB (ts : List Spl) (bit : Nat) : Nat → Nat → Prop
  | 0, _ => False
  | n + 1, lot => lot = bit ∨ ∀ t ∈ apart ts lot, DepB ts bit n (mineB bit t) ∧ Dep ts n (othB bit t) ∧ cntF n ts (othB bit t) < 2 ^ 64
theorem byF_keys {N : Nat} {ts : List Spl} {bit : Nat} : ∀ {n lot : Nat}, KeysB n (byF N n ts bit lot)
  | 0, lot => ⟨List.nodup_nil, fun k h => absurd h (by simp [byF])⟩
  | n + 1, lot => by
    unfold byF
    by_cases e : lot = bit
    · rw [if_pos e]
      exact ⟨by simp, fun k h => by
        have : k = 0 := by simpa using h
        omega⟩
    · rw [if_neg e]
      have : ∀ (us : List Spl) (c : List (Nat × Nat)), KeysB (n + 1) c → KeysB (n + 1) (us.foldl (fun c t => bring (byF N n ts bit (mineB bit t)) (cntF N ts (othB bit t)) c (byF N n ts bit (mineB bit t))) c) := by
        intro us
        induction us with
        | nil => intro c h; exact h
        | cons u us ih =>
          intro c h
          refine ih _ (h.bring fun e he => ?_)
          have := (byF_keys (N := N) (ts := ts) (bit := bit) (n := n) (lot := mineB bit u)).2 e.1 (List.mem_map.mpr ⟨e, he, rfl⟩)
          omega
      exact this _ _ ⟨List.nodup_nil, fun k h => absurd h (by simp)⟩
theorem foldl_congr_mem {α β : Type} {f g : β → α → β} : ∀ {us : List α} {c : β}, (∀ t ∈ us, ∀ c, f c t = g c t) → us.foldl f c = us.foldl g c
  | [], c, _ => rfl
  | u :: us, c, h => by
    rw [List.foldl_cons, List.foldl_cons, h u (List.mem_cons_self ..)]
    exact foldl_congr_mem fun t ht => h t (List.mem_cons_of_mem _ ht)
theorem byF_mono {N : Nat} {ts : List Spl} {bit : Nat} : ∀ {n m lot : Nat}, DepB ts bit n lot → n ≤ m → byF N m ts bit lot = byF N n ts bit lot
  | 0, _, _, h, _ => h.elim
  | n + 1, 0, _, _, l => absurd l (by omega)
  | n + 1, m + 1, lot, h, l => by
    unfold byF
    by_cases e : lot = bit
    · rw [if_pos e, if_pos e]
    · rw [if_neg e, if_neg e]
      rcases h with h | h
      · exact absurd h e
      · refine foldl_congr_mem fun t ht c => ?_
        rw [byF_mono (h t ht).1 (by omega : n ≤ m)]
theorem mineB_le {ts : List Spl} {lot bit : Nat} {t : Spl} (h : t ∈ apart ts lot) : mineB bit t ≤ lot ∧ othB bit t ≤ lot := by
  have := apart_le h
  unfold mineB othB
  by_cases e : t.2.1 &&& bit ≠ 0
  · rw [if_pos e, if_pos e]; exact this
  · rw [if_neg e, if_neg e]; exact ⟨this.2, this.1⟩
theorem byF_one {N n : Nat} {ts : List Spl} {bit lot : Nat} : byF N (n + 1) ts bit lot = if lot = bit then [(0, 1)] else (apart ts lot).foldl (fun c t => bring (byF N n ts bit (mineB bit t)) (cntF N ts (othB bit t)) c (byF N n ts bit (mineB bit t))) [] := rfl
theorem byF_step {N : Nat} {ts : List Spl} {bit n lot : Nat} (h : DepB ts bit (n + 1) lot) (l : n + 1 ≤ N) (e : lot ≠ bit) :
    byF N N ts bit lot = (apart ts lot).foldl (fun c t => bring (byF N N ts bit (mineB bit t)) (cntF N ts (othB bit t)) c (byF N N ts bit (mineB bit t))) [] := by
  rw [byF_mono h l]
  rw [byF_one, if_neg e]
  rcases h with h | h
  · exact absurd h e
  · refine foldl_congr_mem fun t ht c => ?_
    rw [byF_mono (h t ht).1 (by omega : n ≤ N)]
end K1
end
-- WBf
section
set_option Elab.async false
set_option linter.all false
set_option maxRecDepth 100000
set_option maxHeartbeats 1000000
namespace K1
open PySem PySem.Spec PyProof.Rows L2 W0
abbrev sBf : Stmt := top 45
/-- what is found already: a dict from lots to dicts -/
def fK (fs : List (Nat × Addr)) : List (Key × V) := fs.map fun e => (.inl ((e.1 : Nat) : Int), .ref e.2)
def putA (fs : List (Nat × Addr)) (k : Nat) (a : Addr) : List (Nat × Addr) := if k ∈ fs.map (·.1) then fs.map (fun e => if e.1 = k then (k, a) else e) else fs ++ [(k, a)]
theorem fK_keys {c : List (Nat × Addr)} {k : Nat} : ((.inl ((k : Nat) : Int) : Key) ∈ (fK c).map (·.1)) ↔ k ∈ c.map (·.1) := by
  unfold fK
  rw [List.map_map, List.mem_map, List.mem_map]
  constructor
  · rintro ⟨a, h, e⟩
    exact ⟨a, h, inlN.mp e⟩
  · rintro ⟨a, h, e⟩
    exact ⟨a, h, inlN.mpr e⟩
theorem fK_put {c : List (Nat × Addr)} {k : Nat} {a : Addr} : putK (fK c) (.inl ((k : Nat) : Int)) (.ref a) = fK (putA c k a) := by
  unfold putA
  by_cases h : k ∈ c.map (·.1)
  · rw [putK_old (fK_keys.mpr h), if_pos h]
    unfold fK
    rw [List.map_map, List.map_map]
    refine List.map_congr_left fun e _ => ?_
    show (if (Sum.inl ((e.1 : Nat) : Int) : Key) = .inl ((k : Nat) : Int) then _ else _) = _
    by_cases z : e.1 = k
    · rw [if_pos (inlN.mpr z)]
      show ((.inl ((e.1 : Nat) : Int) : Key), V.ref a) = ((.inl (((if e.1 = k then (k, a) else e).1 : Nat) : Int) : Key), V.ref (if e.1 = k then (k, a) else e).2)
      rw [if_pos z, z]
    · rw [if_neg fun y => z (inlN.mp y)]
      show _ = ((.inl (((if e.1 = k then (k, a) else e).1 : Nat) : Int) : Key), V.ref (if e.1 = k then (k, a) else e).2)
      rw [if_neg z]
  · rw [putK_new fun z => h (fK_keys.mp z), if_neg h]
    unfold fK
    rw [List.map_append]
    rfl
theorem fK_in : ∀ {c : List (Nat × Addr)} {k : Nat}, k ∈ c.map (·.1) → ∃ a, (k, a) ∈ c ∧ valV (fK c) (.inl ((k : Nat) : Int)) = some (.ref a)
  | [], k, h => absurd h (by simp)
  | e :: c, k, h => by
    by_cases z : e.1 = k
    · refine ⟨e.2, ?_, valV_pos (inlN.mpr z)⟩
      rw [← z]
      exact List.mem_cons_self ..
    · have h2 : k ∈ c.map (·.1) := by
        rcases List.mem_cons.mp h with h | h
        · exact absurd h.symm z
        · exact h
      obtain ⟨a, m, v⟩ := fK_in h2
      exact ⟨a, List.mem_cons_of_mem _ m, by
        show valV ((.inl ((e.1 : Nat) : Int), .ref e.2) :: fK c) _ = _
        rw [valV_neg fun y => z (inlN.mp y)]
        exact v⟩
theorem fK_out : ∀ {c : List (Nat × Addr)} {k : Nat}, ¬ k ∈ c.map (·.1) → valV (fK c) (.inl ((k : Nat) : Int)) = none
  | [], k, _ => rfl
  | e :: c, k, h => by
    show valV ((.inl ((e.1 : Nat) : Int), .ref e.2) :: fK c) _ = _
    rw [valV_neg fun y => h (List.mem_cons.mpr (.inl (inlN.mp y).symm))]
    exact fK_out fun z => h (List.mem_cons_of_mem _ z)
theorem putA_mem {c : List (Nat × Addr)} {k : Nat} {a : Addr} {e : Nat × Addr} (h : e ∈ putA c k a) : e = (k, a) ∨ e ∈ c ∧ e.1 ≠ k := by
  unfold putA at h
  by_cases z : k ∈ c.map (·.1)
  · rw [if_pos z] at h
    obtain ⟨d, m, e'⟩ := List.mem_map.mp h
    by_cases y : d.1 = k
    · rw [if_pos y] at e'
      exact .inl e'.symm
    · rw [if_neg y] at e'
      rw [← e']
      exact .inr ⟨m, y⟩
  · rw [if_neg z] at h
    rcases List.mem_append.mp h with m | m
    · exact .inr ⟨m, fun y => z (List.mem_map.mpr ⟨e, m, y⟩)⟩
    · exact .inl (List.mem_singleton.mp m)
theorem putA_has {c : List (Nat × Addr)} {k : Nat} {a : Addr} : (k, a) ∈ putA c k a := by
  unfold putA
  by_cases z : k ∈ c.map (·.1)
  · rw [if_pos z]
    obtain ⟨d, m, e⟩ := List.mem_map.mp z
    exact List.mem_map.mpr ⟨d, m, if_pos e⟩
  · rw [if_neg z]
    simp
theorem putA_keep {c : List (Nat × Addr)} {k : Nat} {a : Addr} {e : Nat × Addr} (h : e ∈ c) (n : e.1 ≠ k) : e ∈ putA c k a := by
  unfold putA
  by_cases z : k ∈ c.map (·.1)
  · rw [if_pos z]
    exact List.mem_map.mpr ⟨e, h, if_neg n⟩
  · rw [if_neg z]
    exact List.mem_append_left _ h
theorem putA_keys {B : Nat} {c : List (Nat × Addr)} {k : Nat} {a : Addr} (h : (c.map (·.1)).Nodup ∧ ∀ x ∈ c.map (·.1), x < B) (hk : k < B) : ((putA c k a).map (·.1)).Nodup ∧ ∀ x ∈ (putA c k a).map (·.1), x < B := by
  unfold putA
  by_cases z : k ∈ c.map (·.1)
  · rw [if_pos z]
    have : (c.map fun e => if e.1 = k then (k, a) else e).map (·.1) = c.map (·.1) := by
      rw [List.map_map]
      refine List.map_congr_left fun e _ => ?_
      show (if e.1 = k then (k, a) else e).1 = e.1
      by_cases y : e.1 = k
      · rw [if_pos y, y]
      · rw [if_neg y]
    rw [this]
    exact h
  · rw [if_neg z, List.map_append]
    exact MemoL.snoc (B := B) h z hk
/-- everything but these two stays -/
def Kept2 (m k : Addr) (H H' : Hp) : Prop := ∀ b o, b ≠ m → b ≠ k → H b = some o → H' b = some o
theorem Kept2.trans {m k : Addr} {H H1 H2 : Hp} (p : Kept2 m k H H1) (q : Kept2 m k H1 H2) : Kept2 m k H H2 := fun b o n l h => q b o n l (p b o n l h)
/-- what is found holds -/
structure FM (H : Hp) (m k : Addr) (N : Nat) (ts : List Spl) (bit B : Nat) (fs : List (Nat × Addr)) : Prop where
  ks : (fs.map (·.1)).Nodup ∧ ∀ x ∈ fs.map (·.1), x < B
  at_ : H m = some (.dK (fK fs))
  ok : ∀ e ∈ fs, e.2 ≠ m ∧ e.2 ≠ k ∧ H e.2 = some (.dK (dQ (byF N N ts bit e.1)))
  bit : bit ∈ fs.map (·.1)
theorem FM.kept {H H' : Hp} {m k : Addr} {N : Nat} {ts : List Spl} {bit B : Nat} {fs : List (Nat × Addr)} (h : FM H m k N ts bit B fs) (mk : m ≠ k) (e : Kept k H H') : FM H' m k N ts bit B fs :=
  ⟨h.ks, e _ _ mk h.at_, fun x hx => ⟨(h.ok x hx).1, (h.ok x hx).2.1, e _ _ (h.ok x hx).2.1 (h.ok x hx).2.2⟩, h.bit⟩
theorem fK_len {B : Nat} {fs : List (Nat × Addr)} (h : (fs.map (·.1)).Nodup ∧ ∀ x ∈ fs.map (·.1), x < B) : (fK fs).length ≤ B := by
  have := nodup_below h.1 h.2
  rw [List.length_map] at this
  unfold fK
  rw [List.length_map]
  exact this
theorem tIf_mine {K : PySem.W.Frag} {σ : L2.St} {H : Hp} {Q : VK} {bit : Nat} {t : Spl} (h7 : σ[7]? = some (some (.int ((t.2.1 : Nat) : Int)))) (h8 : σ[8]? = some (some (.int ((t.2.2 : Nat) : Int)))) (h2 : σ[2]? = some (some (.int ((bit : Nat) : Int))))
    (q : ∀ U H3, Same H H3 → H U = none → H3 U = some (.tup [.int ((mineB bit t : Nat) : Int), .int ((othB bit t : Nat) : Int)]) → Q (.ref U) H3) :
    tIf (fun σ H_1 Q => tOp (rI0 fun i j => V.int (Builtin.bitAnd i j)) (tVar 7) (tVar 2) σ H_1 fun x H' => ∃ k, TruV K x H' k ∧ Q k H') (tTup (tCons (tVar 7) (tCons (tVar 8) tNil))) (tTup (tCons (tVar 8) (tCons (tVar 7) tNil))) σ H Q := by
  refine ⟨_, h7, _, h2, _, _, rfl, rfl, _, rfl, ?_⟩
  have e : (Builtin.bitAnd ((t.2.1 : Nat) : Int) ((bit : Nat) : Int) != 0) = decide (t.2.1 &&& bit ≠ 0) := by
    rw [bitAnd_nat, Bool.eq_iff_iff, decide_eq_true_eq, bne_iff_ne]
    constructor
    · intro a b
      exact a (by rw [b]; rfl)
    · intro a b
      exact a (Int.ofNat_inj.mp b)
  rw [e]
  by_cases z : t.2.1 &&& bit ≠ 0
  · rw [decide_eq_true z]
    refine iteT ?_
    refine tup_runE ⟨_, h7, _, h8, by show 2 ≤ sizeLine; decide, fun U hU => q U _ (K1.Same.upd hU) hU ?_⟩
    unfold mineB othB
    rw [if_pos z, if_pos z]
    exact upd_same
  · rw [decide_eq_false z]
    refine iteF ?_
    refine tup_runE ⟨_, h8, _, h7, by show 2 ≤ sizeLine; decide, fun U hU => q U _ (K1.Same.upd hU) hU ?_⟩
    unfold mineB othB
    rw [if_neg z, if_neg z]
    exact upd_same
theorem SplL.keptD {H H' : Hp} {r : Addr} {ts : List Spl} (h : SplL H r ts) (e : ∀ b o, (∀ kv, o ≠ .dK kv) → H b = some o → H' b = some o) : SplL H' r ts := by
  obtain ⟨qs, a, b⟩ := h
  exact ⟨qs, e _ _ (fun kv z => by cases z) a, paired_imp (fun x y q => e _ _ (fun kv z => by cases z) q) b⟩
def bfTo (N : Nat) (ts : List Spl) (bit : Nat) (us : List Spl) : List (Nat × Nat) := us.foldl (fun c t => bring (byF N N ts bit (mineB bit t)) (cntF N ts (othB bit t)) c (byF N N ts bit (mineB bit t))) []
theorem bfTo_snoc {N : Nat} {ts : List Spl} {bit : Nat} {us : List Spl} {t : Spl} : bfTo N ts bit (us ++ [t]) = bring (byF N N ts bit (mineB bit t)) (cntF N ts (othB bit t)) (bfTo N ts bit us) (byF N N ts bit (mineB bit t)) := by
  unfold bfTo
  rw [List.foldl_append]
  rfl
theorem bfTo_keys {N : Nat} {ts : List Spl} {bit : Nat} (us : List Spl) : KeysB (N + 1) (bfTo N ts bit us) := by
  have : ∀ (us : List Spl) (c : List (Nat × Nat)), KeysB (N + 1) c → KeysB (N + 1) (us.foldl (fun c t => bring (byF N N ts bit (mineB bit t)) (cntF N ts (othB bit t)) c (byF N N ts bit (mineB bit t))) c) := by
    intro us
    induction us with
    | nil => intro c h; exact h
    | cons u us ih =>
      intro c h
      refine ih _ (h.bring fun e he => ?_)
      have := (byF_keys (N := N) (ts := ts) (bit := bit) (n := N) (lot := mineB bit u)).2 e.1 (List.mem_map.mpr ⟨e, he, rfl⟩)
      omega
  exact this _ _ ⟨List.nodup_nil, fun k h => absurd h (by simp)⟩
theorem dQ_get {c : List (Nat × Nat)} {j : Nat} {kk : Key} {vv : V} (h : (dQ c)[j]? = some (kk, vv)) : ∃ hj : j < c.length, kk = .inl ((c[j].1 : Nat) : Int) := by
  unfold dQ at h
  rw [List.getElem?_map] at h
  rcases Nat.lt_or_ge j c.length with hj | hj
  · rw [List.getElem?_eq_getElem hj] at h
    exact ⟨hj, (congrArg Prod.fst (Option.some.inj h)).symm⟩
  · rw [List.getElem?_eq_none hj] at h
    cases h
theorem dQ_len {c : List (Nat × Nat)} : (dQ c).length = c.length := List.length_map ..
def spBf (N B : Nat) : Nat → Sp
  | 0 => fun _ _ _ _ => False
  | n + 1 => fun vs H Q _ => ∃ (r m k : Addr) (ts : List Spl) (lot bit : Nat) (fs : List (Nat × Addr)) (ls : List Nat), vs = [.ref r, .int (lot : Int), .int (bit : Int), .ref m, .ref k] ∧ m ≠ k ∧ SplL H r ts ∧ ts.length ≤ 1000 ∧ lot < B ∧ DepB ts bit (n + 1) lot ∧ n + 1 ≤ N ∧ FM H m k N ts bit B fs ∧ H k = some (.dK (memo N ts ls)) ∧ MemoL B ls ∧
    ∀ H' fs' ls' a, Kept2 m k H H' → FM H' m k N ts bit B fs' → (∀ e ∈ fs', e ∈ fs ∨ H e.2 = none) → H' k = some (.dK (memo N ts ls')) → MemoL B ls' → (lot, a) ∈ fs' → Q (.ref a) H'
theorem scBf : FnScope ["splits", "lot", "bit", "found", "known", "counts", "_", "near", "beyond", "mine", "others", "ways", "inner", "number"] ["splits", "lot", "bit", "found", "known"] (defScope sBf) := ⟨rfl, rfl, rfl, by decide +kernel, rfl, by decide +kernel, by decide +kernel⟩
theorem SplL.kept2 {H H' : Hp} {r m k : Addr} {kv1 kv2 : List (Key × V)} {ts : List Spl} (h : SplL H r ts) (hm : H m = some (.dK kv1)) (hk : H k = some (.dK kv2)) (e : Kept2 m k H H') : SplL H' r ts := by
  obtain ⟨qs, a, b⟩ := h
  have ne : ∀ {x p : Addr} {o : HO} {kv : List (Key × V)}, H x = some o → H p = some (.dK kv) → (∀ kv, o ≠ .dK kv) → x ≠ p := fun hx hp n z => by
    rw [z, hp] at hx
    exact n _ (Option.some.inj hx).symm
  exact ⟨qs, e _ _ (ne a hm (fun kv z => by cases z)) (ne a hk (fun kv z => by cases z)) a, paired_imp (fun x y q => e _ _ (ne q hm (fun kv z => by cases z)) (ne q hk (fun kv z => by cases z)) q) b⟩
section
variable {P : Program} {w : World} {K : PySem.W.Frag} {mg : Str → Option Value} {base : Heap} {C CN CO : Addr}
theorem ok_Bf0 {N B : Nat} {f : Addr} {fd : FuncData} (F : Fun K "_by_feasts" "_by_feasts" sBf f fd) : FnOk P w K mg base CX0 1 f fd ["splits", "lot", "bit", "found", "known"] (spBf N B 0) :=
  F.ok scBf (fun vs H Q E h => h.elim) (fun cdv A outer s H vs Q E hr h => h.elim)
theorem ok_Bf1 {N B n : Nat} (hB : B ≤ 2 ^ 20) (hN2 : N ≤ 1000) {f fA fC : Addr} {fd ad cd : FuncData} (F : Fun K "_by_feasts" "_by_feasts" sBf f fd)
    (bF : Binds K fd ["splits", "lot", "bit", "found", "known"] []) (mF : mg "_by_feasts" = some (.ref f))
    (GA : FnOk P w K mg base CX0 1 fA ad ["splits", "lot"] spLa) (FA : Fun K "lots_apart" "lots_apart" sLa fA ad) (bA : Binds K ad ["splits", "lot"] []) (mA : mg "lots_apart" = some (.ref fA))
    (GC : FnOk P w K mg base CX0 (n + 1) fC cd ["splits", "lot", "known"] (spCl N B n)) (FC : Fun K "count_lot" "count_lot" sCl fC cd) (bC : Binds K cd ["splits", "lot", "known"] []) (mC : mg "count_lot" = some (.ref fC))
    (G : FnOk P w K mg base CX0 (n + 1) f fd ["splits", "lot", "bit", "found", "known"] (spBf N B n)) : FnOk P w K mg base CX0 (n + 2) f fd ["splits", "lot", "bit", "found", "known"] (spBf N B (n + 1)) := by
  refine F.ok scBf (fun vs H Q E h => ?_) (fun cdv A outer s H vs Q E hr h => ?_)
  · obtain ⟨r, m, k, ts, lot, bit, fs, ls, rfl, _⟩ := h
    rfl
  obtain ⟨r, m, k, ts, lot, bit, fs, ls, rfl, mk, sp, lts, hlot, dp, hN, fm, hk, ml, q⟩ := h
  have nd := scBf.nd
  have hu := hu_of hr
  have hr1 : Room 1 _ := hr.mono (by omega)
  refine ⟨_, pss_cons (by exact (ps_if (pt_cmp (pc_dnotin hu (pv 1) (pv 3)) (by with_unfolding_all rfl))
      (pss_cons (by exact (ps_set (i := 5) nd rfl (.inl rfl) pe_dnewK))
      (pss_cons (by exact (ps_for PassesOwn.never rfl (by exact pi_list (pe_call GA hr1 rfl mA FA.kp bA .nil pass0 (pa_cons (pv 0) (pa_cons (pv 1) pa_nil)))) (pg_tup rfl (pgs_cons (pg_name (i := 6) nd rfl (.inl rfl)) (pgs_cons (pg_name (i := 7) nd rfl (.inl rfl)) (pgs_cons (pg_name (i := 8) nd rfl (.inl rfl)) pgs_nil))))
        (pss_cons (by exact (ps_asg (pe_ifExp (pt_truth (pe_op op_and (pv 7) (pv 2)) (fun _ => rfl)) (pe_tup (pa_cons (pv 7) (pa_cons (pv 8) pa_nil))) (pe_tup (pa_cons (pv 8) (pa_cons (pv 7) pa_nil)))) (pg_tup rfl (pgs_cons (pg_name (i := 9) nd rfl (.inl rfl)) (pgs_cons (pg_name (i := 10) nd rfl (.inl rfl)) pgs_nil)))))
        (pss_cons (by exact (ps_set (i := 11) nd rfl (.inl rfl) (pe_call GC hr rfl mC FC.kp bC .nil pass0 (pa_cons (pv 0) (pa_cons (pv 10) (pa_cons (pv 4) pa_nil))))))
        (pss_cons (by exact (ps_set (i := 12) nd rfl (.inl rfl) (pe_call G hr rfl mF F.kp bF .nil pass0 (pa_cons (pv 0) (pa_cons (pv 9) (pa_cons (pv 2) (pa_cons (pv 3) (pa_cons (pv 4) pa_nil))))))))
        (pss_one (by exact (ps_lock (ps_for PassesOwn.never rfl (by exact pi_keys (pv 12)) (pg_name (i := 13) nd rfl (.inl rfl))
          (pss_one (by exact (ps_dput hu (pv 5) (pe_op op_add (pv 13) pe_int) (pe_op op_add (pe_dget2 hu (pv 5) (pe_op op_add (pv 13) pe_int) pe_int ⟨rfl, rfl, rfl, rfl⟩) (pe_op op_mul (pe_dget hu (pv 12) (pv 13) (fun _ _ => rfl)) (pv 11))) rfl))))))))))))
      (pss_one (by exact (ps_dput hu (pv 3) (pv 1) (pv 5) rfl)))))
      pss_nil))
    (pss_one (by exact (ps_ret (pe_dget hu (pv 3) (pv 1) (fun _ _ => rfl))))), ?_⟩
  refine ⟨_, rfl, _, rfl, m, _, rfl, DGet.k (k := .inl ((lot : Nat) : Int)) fm.at_, _, rfl, ?_⟩
  by_cases hm : lot ∈ fs.map (·.1)
  · obtain ⟨a, ha, hv⟩ := fK_in hm
    rw [hv]
    refine iteF ?_
    have dg := DGet.k (k := .inl ((lot : Nat) : Int)) fm.at_
    rw [hv] at dg
    exact ⟨_, rfl, _, rfl, m, _, rfl, dg, q H fs ls a (fun b o _ _ h => h) fm (fun e h => .inl h) hk ml ha⟩
  rw [fK_out hm]
  refine iteT ?_
  have nb : lot ≠ bit := fun z => hm (z ▸ fm.bit)
  rcases dp with dp | dp
  · exact absurd dp nb
  refine fun c hc => ?_
  refine K1.gN ?_
  have mc : m ≠ c := ne_of_none fm.at_ hc
  have kc : k ≠ c := ne_of_none hk hc
  have e1 := K1.Same.upd (H := H) (p := c) (o := .dK []) hc
  have gc := upd_same' H c (.dK [])
  generalize L2.upd H c (.dK []) = H1 at e1 gc ⊢
  refine ⟨_, rfl, _, rfl, r, ts, lot, rfl, sp.ext e1, lts, fun A' H2 e2 nA gA => ?_⟩
  obtain ⟨us, gA1, gA2⟩ := gA
  have lus : us.length = (apart ts lot).length := gA2.length
  have e02 : Same H H2 := e1.trans e2
  have gc2 := e2 _ _ gc
  have gm2 := e02 _ _ fm.at_
  have gk2 := e02 _ _ hk
  have nd3 : ∀ {x : Addr} {o : HO}, H2 x = some o → (∀ kv, o ≠ .dK kv) → x ≠ m ∧ x ≠ k ∧ x ≠ c := fun hx n =>
    ⟨fun z => by rw [z, gm2] at hx; exact n _ (Option.some.inj hx).symm, fun z => by rw [z, gk2] at hx; exact n _ (Option.some.inj hx).symm, fun z => by rw [z, gc2] at hx; exact n _ (Option.some.inj hx).symm⟩
  refine ⟨A', rfl, ⟨_, SqL.of gA1⟩, ?_⟩
  have nA3 := nd3 gA1 (fun kv z => by cases z)
  have fm2 : FM H2 m k N ts bit B fs := ⟨fm.ks, gm2, fun x hx => ⟨(fm.ok x hx).1, (fm.ok x hx).2.1, e02 _ _ (fm.ok x hx).2.2⟩, fm.bit⟩
  refine for_it walk_list (fun i σ Hc => (∃ a6 a7 a8 a9 a10 a11 a12 a13, σ = [some (.ref r), some (.int (lot : Int)), some (.int (bit : Int)), some (.ref m), some (.ref k), some (.ref c), a6, a7, a8, a9, a10, a11, a12, a13]) ∧
      (∀ b o, b ≠ m → b ≠ k → b ≠ c → H2 b = some o → Hc b = some o) ∧ Hc c = some (.dK (dQ (bfTo N ts bit ((apart ts lot).take i)))) ∧
      ∃ fs' ls', FM Hc m k N ts bit B fs' ∧ (∀ e ∈ fs', e ∈ fs ∨ H2 e.2 = none) ∧ Hc k = some (.dK (memo N ts ls')) ∧ MemoL B ls')
    ⟨⟨_, _, _, _, _, _, _, _, rfl⟩, fun b o _ _ _ h => h, gc2, fs, ls, fm2, fun e h => .inl h, gk2, ml⟩ (fun i σ Hc _ h => SqL.of (h.2.1 _ _ nA3.1 nA3.2.1 nA3.2.2 gA1)) ?_ ?_
  · rintro i v σ Hc H' hi ⟨⟨a6, a7, a8, a9, a10, a11, a12, a13, rfl⟩, c1, c2, fs', ls', c3, c4, c5, c6⟩ ⟨rfl, hv⟩
    rw [List.length_map, lus] at hi
    have hv : (us.map V.ref)[i]? = some v := hv
    obtain ⟨t, et, ht⟩ := paired_get gA2 hi
    rw [List.getElem?_map, et] at hv
    obtain rfl := (Option.some.inj hv).symm
    have nt3 := nd3 ht (fun kv z => by cases z)
    have ht1 := c1 _ _ nt3.1 nt3.2.1 nt3.2.2 ht
    have htm := List.getElem_mem hi
    have dpt := dp _ htm
    have apl := mineB_le (bit := bit) htm
    rcases n with _ | n
    · exact dpt.1.elim
    generalize eu : (apart ts lot)[i] = u at ht ht1 dpt apl
    refine ⟨t, _, rfl, SqT.of ht1, rfl, _, _, rfl, _, _, rfl, _, _, rfl, rfl, ?_⟩
    refine tIf_mine (t := u) (bit := bit) rfl rfl rfl fun U H3 e3 nU gU => ?_
    refine ⟨U, _, rfl, SqT.of gU, rfl, _, _, rfl, _, _, rfl, rfl, ?_⟩
    have sp3 : SplL H3 r ts := (sp.ext e02).keptD fun b o z h => e3 _ _ (c1 b o (nd3 h z).1 (nd3 h z).2.1 (nd3 h z).2.2 h)
    have fm3 : FM H3 m k N ts bit B fs' := ⟨c3.ks, e3 _ _ c3.at_, fun x hx => ⟨(c3.ok x hx).1, (c3.ok x hx).2.1, e3 _ _ (c3.ok x hx).2.2⟩, c3.bit⟩
    refine ⟨_, rfl, _, rfl, _, rfl, r, k, ts, othB bit u, ls', rfl, sp3, lts, by omega, dpt.2.1, by omega, e3 _ _ c5, c6, fun H4 ls4 k4 g4 m4 => ?_⟩
    refine K1.gN ?_
    have fm4 := fm3.kept mk k4
    refine ⟨_, rfl, _, rfl, _, rfl, _, rfl, _, rfl, r, m, k, ts, mineB bit u, bit, fs', ls4, rfl, mk, sp3.kept (e3 _ _ c5) k4, lts, by omega, dpt.1, by omega, fm4, g4, m4, fun H5 fs5 ls5 a k5 fm5 fr5 g5 m5 ha => ?_⟩
    refine K1.gN ?_
    obtain ⟨am, ak, ga⟩ := fm5.ok _ ha
    have hu2 : H4 c = some (.dK (dQ (bfTo N ts bit ((apart ts lot).take i)))) := k4 _ _ kc.symm (e3 _ _ c2)
    have gc5 := k5 _ _ mc.symm kc.symm hu2
    have fr : ∀ e ∈ fs5, (e ∈ fs ∨ H2 e.2 = none) ∧ e.2 ≠ c := by
      intro e he
      obtain ⟨n1, n2, _⟩ := fm5.ok e he
      have old : e ∈ fs ∨ H2 e.2 = none → (e ∈ fs ∨ H2 e.2 = none) ∧ e.2 ≠ c := by
        intro h
        refine ⟨h, fun z => ?_⟩
        rcases h with h | h
        · have := (fm.ok e h).2.2
          rw [z, hc] at this
          cases this
        · rw [z, gc2] at h
          cases h
      rcases fr5 e he with h | h
      · exact old (c4 e h)
      · have nc : e.2 ≠ c := fun z => by rw [z, hu2] at h; cases h
        refine ⟨.inr ?_, nc⟩
        cases hx : H2 e.2 with
        | none => rfl
        | some o =>
          have := k4 _ _ n2 (e3 _ _ (c1 _ _ n1 n2 nc hx))
          rw [h] at this
          cases this
    have ac : a ≠ c := (fr _ ha).2
    generalize einn : byF N N ts bit (mineB bit u) = inner at ga
    have kin : KeysB N inner := by rw [← einn]; exact byF_keys
    have sm : cntF N ts (othB bit u) < 2 ^ 64 := by
      rw [cntF_mono dpt.2.1 (by omega : n + 1 ≤ N)]
      exact dpt.2.2
    generalize eway : cntF N ts (othB bit u) = ways at sm
    have kb : ∀ j, KeysB (N + 1) (bring inner ways (bfTo N ts bit ((apart ts lot).take i)) (inner.take j)) := fun j =>
      (bfTo_keys _).bring fun e he => by
        have := kin.2 e.1 (List.mem_map.mpr ⟨e, List.mem_of_mem_take he, rfl⟩)
        omega
    refine ⟨a, _, ga, trivial, fun od => ?_⟩
    refine ⟨_, rfl, a, od, rfl, .inl ⟨_, upd_same, ?_⟩⟩
    refine for_it walk_keys (fun j σ Hx => (∃ s6 s7 s8 s9 s10 s13, σ = [some (.ref r), some (.int (lot : Int)), some (.int (bit : Int)), some (.ref m), some (.ref k), some (.ref c), s6, s7, s8, s9, s10, some (.int (ways : Int)), some (.ref a), s13]) ∧
        Hx a = some (.frz od (.dK (dQ inner))) ∧ (∀ b o, b ≠ a → b ≠ c → H5 b = some o → Hx b = some o) ∧ Hx c = some (.dK (dQ (bring inner ways (bfTo N ts bit ((apart ts lot).take i)) (inner.take j)))))
      ⟨⟨_, _, _, _, _, _, rfl⟩, upd_same, fun b o n1 n2 h => by rw [upd_ne n1]; exact h, by rw [upd_ne ac.symm]; exact gc5⟩ (fun j σ Hx _ h => h.2.1) ?_ ?_
    · rintro j v σ Hx H' hj ⟨⟨s6, s7, s8, s9, s10, s13, rfl⟩, x1, x2, x3⟩ ⟨rfl, kk, vv, hkv, rfl⟩
      obtain ⟨hj2, rfl⟩ := dQ_get hkv
      obtain ⟨y, hy⟩ := getN_mem (List.getElem_mem hj2)
      have dg1 : DGet H' a (.int ((inner[j].1 : Nat) : Int)) (some (.int ((y : Nat) : Int))) := by
        have z : valV (dQ inner) (.inl ((inner[j].1 : Nat) : Int)) = some (.int ((y : Nat) : Int)) := by rw [dQ_val, hy]; rfl
        rw [← z]
        exact .inl ⟨dQ inner, .inl ((inner[j].1 : Nat) : Int), .inr ⟨od, x1⟩, rfl, rfl⟩
      generalize ecj : bring inner ways (bfTo N ts bit ((apart ts lot).take i)) (inner.take j) = cj at x3
      have dg2 := DGet.k (k := .inl ((inner[j].1 + 1 : Nat) : Int)) x3
      rw [dQ_val] at dg2
      have eo : ((getN cj (inner[j].1 + 1)).map fun v => V.int ((v : Nat) : Int)).getD (.int 0) = .int ((((getN cj (inner[j].1 + 1)).getD 0 : Nat)) : Int) := by
        cases getN cj (inner[j].1 + 1) <;> rfl
      have kcj := kb j
      rw [ecj] at kcj
      have lcj : (dQ cj).length < sizeLine := by
        rw [dQ_len]
        have := kcj.len
        show _ < 2 ^ 24
        omega
      have dput := DPut.k (k := .inl ((inner[j].1 + 1 : Nat) : Int)) (v := .int (((getN cj (inner[j].1 + 1)).getD 0 + y * ways : Nat) : Int)) x3 lcj
      rw [dQ_put] at dput
      have stp : bring inner ways (bfTo N ts bit ((apart ts lot).take i)) (inner.take (j + 1)) = putN cj (inner[j].1 + 1) ((getN cj (inner[j].1 + 1)).getD 0 + y * ways) := by
        rw [bring_succ hj2, ecj, hy]
        rfl
      refine ⟨_, rfl, c, rfl, .inl ⟨_, .inl x3⟩, _, rfl, _, _, rfl, rfl, _, dg2, ?_⟩
      refine ⟨_, rfl, _, rfl, a, _, rfl, dg1, _, rfl, _, _, rfl, rfl, .inr ⟨by omega, by omega⟩, _, _, eo, rfl, ?_⟩
      have ev : V.int ((((getN cj (inner[j].1 + 1)).getD 0 : Nat) : Int) + ((y : Nat) : Int) * ((ways : Nat) : Int)) = .int (((getN cj (inner[j].1 + 1)).getD 0 + y * ways : Nat) : Int) := by
        rw [Int.natCast_add, Int.natCast_mul]
      rw [← ev] at dput
      refine ⟨_, rfl, _, rfl, _, _, rfl, rfl, c, _, rfl, dput, ?_⟩
      refine ⟨⟨_, _, _, _, _, _, rfl⟩, by rw [upd_ne ac]; exact x1, fun b o n1 n2 h => by rw [upd_ne n2]; exact x2 b o n1 n2 h, ?_⟩
      rw [upd_same, stp]
    · rintro σ Hx ⟨⟨s6, s7, s8, s9, s10, s13, rfl⟩, x1, x2, x3⟩
      rw [dQ_len, List.take_length] at x3
      refine ⟨x1, ?_⟩
      have K56 : ∀ b o, b ≠ c → H5 b = some o → L2.upd Hx a (.dK (dQ inner)) b = some o := by
        intro b o n1 h
        by_cases z : b = a
        · rw [z] at h ⊢
          rw [upd_same, ← ga, h]
        · rw [upd_ne z]
          exact x2 b o z n1 h
      refine ⟨⟨_, _, _, _, _, _, _, _, rfl⟩, fun b o n1 n2 n3 h => K56 b o n3 (k5 b o n1 n2 (k4 b o n2 (e3 _ _ (c1 b o n1 n2 n3 h)))), ?_, fs5, ls5, ?_, fun e he => (fr e he).1, K56 _ _ kc g5, m5⟩
      · rw [upd_ne ac.symm, x3, take_snoc hi, eu, bfTo_snoc, einn, eway]
      · exact ⟨fm5.ks, K56 _ _ mc fm5.at_, fun e he => ⟨(fm5.ok e he).1, (fm5.ok e he).2.1, K56 _ _ (fr e he).2 (fm5.ok e he).2.2⟩, fm5.bit⟩
  · rintro σ Hc ⟨⟨a6, a7, a8, a9, a10, a11, a12, a13, rfl⟩, c1, c2, fs', ls', c3, c4, c5, c6⟩
    rw [List.length_map, lus, List.take_length] at c2
    have fin : bfTo N ts bit (apart ts lot) = byF N N ts bit lot := (byF_step (.inr dp) hN nb).symm
    rw [fin] at c2
    have lf : (fK fs').length < sizeLine := by
      have := fK_len c3.ks
      show _ < 2 ^ 24
      omega
    have dput := DPut.k (k := .inl ((lot : Nat) : Int)) (v := .ref c) c3.at_ lf
    rw [fK_put] at dput
    have g7 := upd_same' Hc m (.dK (fK (putA fs' lot c)))
    have n7 : ∀ b, b ≠ m → L2.upd Hc m (.dK (fK (putA fs' lot c))) b = Hc b := fun b n => upd_ne n
    generalize L2.upd Hc m (.dK (fK (putA fs' lot c))) = H7 at dput g7 n7
    have has : (lot, c) ∈ putA fs' lot c := putA_has
    have uniq : valV (fK (putA fs' lot c)) (.inl ((lot : Nat) : Int)) = some (.ref c) := by
      obtain ⟨a, h1, h2⟩ := fK_in (List.mem_map.mpr ⟨_, has, rfl⟩)
      rcases putA_mem h1 with z | z
      · rw [h2, (Prod.mk.inj z).2]
      · exact absurd rfl z.2
    have dg := DGet.k (k := .inl ((lot : Nat) : Int)) g7
    rw [uniq] at dg
    refine ⟨_, rfl, _, rfl, _, rfl, m, _, rfl, dput, ?_⟩
    refine ⟨_, rfl, _, rfl, m, _, rfl, dg, q H7 (putA fs' lot c) ls' c (fun b o n1 n2 h => ?_) ⟨putA_keys c3.ks hlot, g7, fun e he => ?_, ?_⟩ (fun e he => ?_) ?_ c6 has⟩
    · rw [n7 b n1]
      exact c1 b o n1 n2 (ne_of_none h hc) (e02 _ _ h)
    · rcases putA_mem he with z | z
      · rw [z]
        refine ⟨mc.symm, kc.symm, ?_⟩
        show H7 c = _
        rw [n7 c mc.symm]
        exact c2
      · obtain ⟨y1, y2, y3⟩ := c3.ok e z.1
        exact ⟨y1, y2, by rw [n7 _ y1]; exact y3⟩
    · obtain ⟨e, h1, h2⟩ := List.mem_map.mp c3.bit
      exact List.mem_map.mpr ⟨e, putA_keep h1 (fun z => nb (by rw [← z, h2])), h2⟩
    · rcases putA_mem he with z | z
      · rw [z]
        exact .inr hc
      · rcases c4 e z.1 with h | h
        · exact .inl h
        · exact .inr (e02.free h)
    · rw [n7 k mk.symm]
      exact c5
end
end K1
end
-- WBy
section
set_option Elab.async false
set_option linter.all false
set_option maxRecDepth 100000
set_option maxHeartbeats 1000000
namespace K1
open PySem PySem.Spec PyProof.Rows L2 W0
abbrev sCb : Stmt := top 43
/-- the dict in the order of these keys -/
def dBy (c : List (Nat × Nat)) (ks : List Nat) : List (Nat × Nat) := ks.map fun k => (k, (getN c k).getD 0)
noncomputable def byH (N : Nat) (ss : List Str) (rs : List (Str × Str)) (s : Str) : List (Nat × Nat) := byF N N (splU ss ss rs) (bitN ss s) (lotN ss ss)
def spCb (K : PySem.W.Frag) (C CV CN : Addr) (N B : Nat) : Sp := fun vs H Q E => ∃ v u, vs = [v, u] ∧ ((NoV K H v ∧ GoesF CV [("thing", v)] H E) ∨ ∃ x ss rs ns, v = .ref x ∧ IsV C H x ss rs ns ∧ ((NoHo K H ss u ∧ GoesF CN [("house", u)] H E) ∨
  ∃ s, u = .str s ∧ s ∈ ss ∧ Tree ss rs ∧ ss.Nodup ∧ ss.length ≤ 1000 ∧ rs.length ≤ 1000 ∧ lotN ss ss < B ∧ bitN ss s < B ∧ 1 ≤ N ∧ DepB (splU ss ss rs) (bitN ss s) N (lotN ss ss) ∧
    ∀ r H' ks, Same H H' → H r = none → ks.Perm ((byH N ss rs s).map (·.1)) → ks.Pairwise (· ≤ ·) → H' r = some (.dK (dQ (dBy (byH N ss rs s) ks))) → Q (.ref r) H'))
theorem scCb : FnScope ["valley", "house", "bits", "splits", "counts", "number"] ["valley", "house"] (defScope sCb) := ⟨rfl, rfl, rfl, by decide +kernel, rfl, by decide +kernel, by decide +kernel⟩
theorem keys_nat {ns : List Int} {ks : List Nat} (p : ns.Perm (ks.map fun k : Nat => ((k : Nat) : Int))) : ∃ ys : List Nat, ns = (ys.map fun k : Nat => ((k : Nat) : Int)) ∧ ys.Perm ks := by
  refine ⟨ns.map Int.toNat, ?_, ?_⟩
  · rw [List.map_map]
    have : ns.map ((fun k : Nat => ((k : Nat) : Int)) ∘ Int.toNat) = ns.map id := List.map_congr_left fun n hn => by
      obtain ⟨k, _, e⟩ := List.mem_map.mp (p.mem_iff.mp hn)
      rw [← e]
      rfl
    rw [this, List.map_id]
  · have := p.map Int.toNat
    rw [List.map_map] at this
    have e : ks.map (Int.toNat ∘ fun k : Nat => ((k : Nat) : Int)) = ks.map id := List.map_congr_left fun n _ => rfl
    rw [e, List.map_id] at this
    exact this
theorem dQ_names (c : List (Nat × Nat)) : ((dQ c).map fun kv => kV kv.1) = ((c.map (·.1)).map fun k : Nat => ((k : Nat) : Int)).map V.int := by
  unfold dQ
  rw [List.map_map, List.map_map, List.map_map]
  rfl
theorem nodup_take_notN {ys : List Nat} (h : ys.Nodup) {i : Nat} (hi : i < ys.length) : ¬ ys[i] ∈ ys.take i := fun hm => by
  obtain ⟨j, hj, ej⟩ := List.getElem_of_mem hm
  rw [List.length_take] at hj
  rw [List.getElem_take] at ej
  have := (List.getElem_inj h).mp ej
  omega
theorem dBy_keys {c : List (Nat × Nat)} {ks : List Nat} : (dBy c ks).map (·.1) = ks := by
  unfold dBy
  rw [List.map_map]
  exact List.map_id ks
theorem dBy_put {c : List (Nat × Nat)} {ys : List Nat} (h : ys.Nodup) {i v : Nat} (hi : i < ys.length) (hv : getN c ys[i] = some v) : putK (dQ (dBy c (ys.take i))) (.inl ((ys[i] : Nat) : Int)) (.int ((v : Nat) : Int)) = dQ (dBy c (ys.take (i + 1))) := by
  rw [putK_new fun z => nodup_take_notN h hi (by rw [dQ_keys, dBy_keys] at z; exact z), take_snoc hi]
  unfold dBy dQ
  rw [List.map_append, List.map_append, List.map_cons, List.map_nil, List.map_cons, List.map_nil, hv]
  rfl
theorem getN_key {c : List (Nat × Nat)} {k : Nat} (h : k ∈ c.map (·.1)) : ∃ v, getN c k = some v := by
  obtain ⟨e, m, z⟩ := List.mem_map.mp h
  obtain ⟨v, hv⟩ := getN_mem m
  rw [z] at hv
  exact ⟨v, hv⟩
section
variable {P : Program} {w : World} {K : PySem.W.Frag} {mg : Str → Option Value} {base : Heap} {C CN CO CV : Addr}
theorem ok_Cb {N B : Nat} (hN2 : N ≤ 1000) {f fN fE fH fB fS fL fF : Addr} {fd nd_ ed hd bd sd ld bfd : FuncData} (F : Fun K "count_by_feasts" "count_by_feasts" sCb f fd) (T : VcT K C) (BL : Bl mg) (msd : mg "sorted" = none)
    (GN : FnOk P w K mg base (L2.CX P w) 3 fN nd_ ["valley"] (spNv K C CV)) (bN : Binds K nd_ ["valley"] []) (kN : PySem.W.keepIn K (.ref fN) = true) (mN : mg "need_valley" = some (.ref fN))
    (GE : FnOk P w K mg base (L2.CX P w) 3 fE ed ["self", "house"] (spNe K C CN)) (hE : Meth K C "need_house" fE) (bE : Binds K ed ["self", "house"] [])
    (GH : FnOk P w K mg base CX0 1 fH hd ["self"] (spHo C)) (hH : Meth K C "houses" fH) (bH : Binds K hd ["self"] [])
    (GB : FnOk P w K mg base CX0 1 fB bd ["part"] spBo) (FB : Fun K "bits_of" "bits_of" sBo fB bd) (bB : Binds K bd ["part"] []) (mB : mg "bits_of" = some (.ref fB))
    (GS : FnOk P w K mg base CX0 7 fS sd ["valley", "part"] (spSp C)) (FS : Fun K "splits_of" "splits_of" sSp fS sd) (bS : Binds K sd ["valley", "part"] []) (mS : mg "splits_of" = some (.ref fS))
    (GL : FnOk P w K mg base CX0 1 fL ld ["bits", "some"] (spLt K)) (FL : Fun K "lot_of" "lot_of" sLo_ fL ld) (bL : Binds K ld ["bits", "some"] []) (mL : mg "lot_of" = some (.ref fL))
    (GF : FnOk P w K mg base CX0 (N + 1) fF bfd ["splits", "lot", "bit", "found", "known"] (spBf N B N)) (FF : Fun K "_by_feasts" "_by_feasts" sBf fF bfd) (bF : Binds K bfd ["splits", "lot", "bit", "found", "known"] []) (mF : mg "_by_feasts" = some (.ref fF)) :
    FnOk P w K mg base (L2.CX P w) (N + 10) f fd ["valley", "house"] (spCb K C CV CN N B) := by
  refine F.okX scCb (fun vs H Q E h => ?_) (fun cdv A outer s H vs Q E hr h => ?_)
  · obtain ⟨v, u, rfl, _⟩ := h
    rfl
  obtain ⟨v, u, rfl, h⟩ := h
  have nd := scCb.nd
  have hu := hu_of hr
  have hr1 : Room 1 _ := hr.mono (by omega)
  have hr3 : Room 3 _ := hr.mono (by omega)
  have hr7 : Room 7 _ := hr.mono (by omega)
  have hrN : Room (N + 1) _ := hr.mono (by omega)
  refine ⟨_, pss_cons (by exact (ps_expr (pe_call GN hr3 rfl mN kN bN .nil (passes_call (takes_of rfl rfl rfl rfl) (fun _ _ _ _ h => h)) (pa_cons (pv 0) pa_nil))))
    (pss_cons (by exact (ps_expr (pe_meth (pv 0) T.cl hE GE hr3 bE .nil (passes_call (takes_of rfl rfl rfl rfl) (fun _ _ _ _ h => h)) (pa_cons (pv 1) pa_nil))))
    (pss_cons (by exact (ps_set (i := 2) nd rfl (.inl rfl) (pe_call GB hr1 rfl mB FB.kp bB .nil pass0 (pa_cons (pe_meth0 (pv 0) T.cl hH GH hr1 bH .nil pass0) pa_nil))))
    (pss_cons (by exact (ps_set (i := 3) nd rfl (.inl rfl) (pe_call GS hr7 rfl mS FS.kp bS .nil pass0 (pa_cons (pv 0) (pa_cons (pe_meth0 (pv 0) T.cl hH GH hr1 bH .nil pass0) pa_nil)))))
    (pss_cons (by exact (ps_set (i := 4) nd rfl (.inr rfl) (pe_call GF hrN rfl mF FF.kp bF .nil pass0 (pa_cons (pv 3) (pa_cons (pe_call GL hr1 rfl mL FL.kp bL .nil pass0 (pa_cons (pv 2) (pa_cons (pe_meth0 (pv 0) T.cl hH GH hr1 bH .nil pass0) pa_nil))) (pa_cons (pe_dget hu (pv 2) (pv 1) (fun _ _ => rfl))
        (pa_cons (pe_disp (pps_cons (pe_dget hu (pv 2) (pv 1) (fun _ _ => rfl)) (pe_disp (pps_cons pe_int pe_int pps_nil) (by rfl) (by rfl) (fun z => by cases z) (by decide)) pps_nil) (by rfl) (by rfl) (fun z => by cases z) (by decide)) (pa_cons pe_dnewK pa_nil))))))))
    (pss_one (by exact (ps_ret (pe_dc (own := [("number", 5)]) (g := gName 5) (tt := tYes) (tk := _) (tv := _) rfl nd (by exact pi_list (pe_callB cr_sortedI rfl msd PyProof.Rows.boot_sorted (pa_cons (pe_callTy (call_listD rfl) rfl BL.list PyProof.Rows.boot_list (pa_cons (pv 4) pa_nil)) pa_nil)))
        (by exact blkOk_by (N := ["valley", "house", "bits", "splits", "counts", "number"]) (sc := defScope sCb) (by decide +kernel)) (fun _ _ _ _ _ => by exact pg_name (i := 5) nd rfl (Or.inl rfl)) (fun _ _ _ _ _ => by exact pts_nil)
        (fun _ _ _ _ _ => by exact pv 5) (fun _ _ _ _ _ => by exact pe_dget hu (pv 4) (pv 5) (fun _ _ => rfl)))))))))), ?_⟩
  rcases h with ⟨nv, g⟩ | ⟨x, ss, rs, ns, rfl, iv, h⟩
  · exact ⟨_, rfl, v, rfl, .inr ⟨nv, g⟩⟩
  refine ⟨_, rfl, _, rfl, .inl ⟨x, ss, rs, ns, rfl, iv, ?_⟩⟩
  obtain ⟨dx, fx, ix, f0⟩ := iv.inst
  refine ⟨_, rfl, x, dx, fx, rfl, ix, f0 _ (by decide +kernel), _, rfl, x, u, ss, rs, ns, rfl, iv, ?_⟩
  rcases h with ⟨nh, g⟩ | ⟨s', rfl, hs, tr, nds, hl, lrs, hB, hbB, hN1, dp, q⟩
  · exact .inr ⟨nh, g⟩
  refine .inl ⟨s', rfl, hs, ?_⟩
  -- bits
  refine ⟨_, rfl, x, dx, fx, rfl, ix, f0 _ (by decide +kernel), x, ss, rs, ns, rfl, iv, fun l1 hl1 => ?_⟩
  have e1 := K1.Same.upd (H := H) (p := l1) (o := .lst (ss.map V.str)) hl1
  have gl1 := upd_same' H l1 (.lst (ss.map V.str))
  generalize L2.upd H l1 (.lst (ss.map V.str)) = H1 at e1 gl1 ⊢
  refine ⟨l1, ss, rfl, gl1, nds, hl, fun b H2 e2 nb gb => ?_⟩
  refine K1.gN ?_
  have e02 := e1.trans e2
  have iv2 := iv.same e02
  obtain ⟨dx2, fx2, ix2, f02⟩ := iv2.inst
  -- splits
  refine ⟨_, rfl, cons_run ⟨_, rfl, x, dx2, fx2, rfl, ix2, f02 _ (by decide +kernel), x, ss, rs, ns, rfl, iv2, fun l2 hl2 => ?_⟩⟩
  have e3 := K1.Same.upd (H := H2) (p := l2) (o := .lst (ss.map V.str)) hl2
  have gl2 := upd_same' H2 l2 (.lst (ss.map V.str))
  generalize L2.upd H2 l2 (.lst (ss.map V.str)) = H3 at e3 gl2 ⊢
  refine ⟨x, l2, ss, rs, ns, ss, rfl, iv2.same e3, tr, hl, lrs, gl2, nds, hl, fun r H4 e4 nr gr => ?_⟩
  refine K1.gN ?_
  have e04 := e02.trans (e3.trans e4)
  have iv4 := iv.same e04
  obtain ⟨dx4, fx4, ix4, f04⟩ := iv4.inst
  have gb4 := e4 _ _ (e3 _ _ gb)
  -- the arguments of _by_feasts
  refine ⟨_, rfl, ?_⟩
  refine cons_run ⟨_, rfl, cons_run ⟨_, rfl, x, dx4, fx4, rfl, ix4, f04 _ (by decide +kernel), x, ss, rs, ns, rfl, iv4, fun l3 hl3 => ?_⟩⟩
  have e5 := K1.Same.upd (H := H4) (p := l3) (o := .lst (ss.map V.str)) hl3
  have gl3 := upd_same' H4 l3 (.lst (ss.map V.str))
  generalize L2.upd H4 l3 (.lst (ss.map V.str)) = H5 at e5 gl3 ⊢
  refine ⟨b, l3, ss, ss, rfl, e5 _ _ gb4, .inl (SqL.of gl3), fun s h => h, hl, fun H6 e6 => ?_⟩
  have gb6 := e6 _ _ (e5 _ _ gb4)
  have dgb := DGet.k (k := .inr s') gb6
  rw [valV_bits ss 0 _ hs, Nat.zero_add] at dgb
  have dgb : DGet H6 b (.str s') (some (.int ((bitN ss s' : Nat) : Int))) := dgb
  dsimp only
  refine cons_run ⟨_, rfl, _, rfl, b, .int ((bitN ss s' : Nat) : Int), rfl, dgb, ?_⟩
  refine cons_run fun m hm => ?_
  have bm : b ≠ m := ne_of_none gb6 hm
  have e7 := K1.Same.upd (H := H6) (p := m) (o := .dK []) hm
  have gm7 := upd_same' H6 m (.dK [])
  generalize L2.upd H6 m (.dK []) = H7 at e7 gm7 ⊢
  have dgb7 : DGet H7 b (.str s') (some (.int ((bitN ss s' : Nat) : Int))) := by
    have z := DGet.k (k := .inr s') (e7 _ _ gb6)
    rw [valV_bits ss 0 _ hs, Nat.zero_add] at z
    exact z
  refine ⟨_, rfl, _, rfl, b, .int ((bitN ss s' : Nat) : Int), rfl, dgb7, fun d hd => ?_⟩
  have dm : m ≠ d := ne_of_none gm7 hd
  refine ⟨upd_same, [(.inl 0, .int 1)], rfl, (by show 1 ≤ 15; decide), ?_⟩
  have e8 : Same H7 (L2.upd (L2.upd H7 d (.dK [])) d (.dK (mergeK [] [((.inl 0 : Key), V.int 1)]))) := ps_same_upd (K1.Same.upd hd) hd
  have gd8 : L2.upd (L2.upd H7 d (.dK [])) d (.dK (mergeK [] [((.inl 0 : Key), V.int 1)])) d = some (.dK [(.inl 0, .int 1)]) := upd_same
  generalize L2.upd (L2.upd H7 d (.dK [])) d (.dK (mergeK [] [((.inl 0 : Key), V.int 1)])) = H8 at e8 gd8 ⊢
  refine ⟨e8 _ _ gm7, [(.inl ((bitN ss s' : Nat) : Int), .ref d)], rfl, (by show 1 ≤ 15; decide), ?_⟩
  have e9 : Same H6 (L2.upd H8 m (.dK (mergeK [] [((.inl ((bitN ss s' : Nat) : Int) : Key), V.ref d)]))) := ps_same_upd (e7.trans e8) hm
  have gm9 : L2.upd H8 m (.dK (mergeK [] [((.inl ((bitN ss s' : Nat) : Int) : Key), V.ref d)])) m = some (.dK (fK [(bitN ss s', d)])) := upd_same
  have gd9 : L2.upd H8 m (.dK (mergeK [] [((.inl ((bitN ss s' : Nat) : Int) : Key), V.ref d)])) d = some (.dK [(.inl 0, .int 1)]) := by rw [upd_ne dm.symm]; exact gd8
  generalize L2.upd H8 m (.dK (mergeK [] [((.inl ((bitN ss s' : Nat) : Int) : Key), V.ref d)])) = H9 at e9 gm9 gd9 ⊢
  dsimp only
  refine cons_run fun k hk => ?_
  have mk : m ≠ k := ne_of_none gm9 hk
  have dk : d ≠ k := ne_of_none gd9 hk
  have e10 := K1.Same.upd (H := H9) (p := k) (o := .dK []) hk
  have gk10 := upd_same' H9 k (.dK [])
  generalize L2.upd H9 k (.dK []) = Ha at e10 gk10 ⊢
  have lts : (splU ss ss rs).length ≤ 1000 := Nat.le_trans splU_len lrs
  have e4a : Same H4 H9 := e5.trans (e6.trans e9)
  obtain ⟨n, rfl⟩ : ∃ n, N = n + 1 := ⟨N - 1, by omega⟩
  have one : byF (n + 1) (n + 1) (splU ss ss rs) (bitN ss s') (bitN ss s') = [(0, 1)] := by rw [byF_one, if_pos rfl]
  refine ⟨r, m, k, splU ss ss rs, lotN ss ss, bitN ss s', [(bitN ss s', d)], [], rfl, mk, gr.ext (e4a.trans e10), lts, hB, dp, Nat.le_refl _,
    ⟨⟨by simp, fun z hz => by rw [List.mem_singleton.mp hz]; exact hbB⟩, e10 _ _ gm9, fun e he => ?_, by simp⟩, gk10, ⟨List.nodup_nil, fun l h => absurd h (by simp)⟩, fun Hb fs' ls' a kb fmb _ _ _ ha => ?_⟩
  · rw [List.mem_singleton.mp he]
    refine ⟨dm.symm, dk, ?_⟩
    rw [one]
    exact e10 _ _ gd9
  refine K1.gN ?_
  obtain ⟨am, ak, ga⟩ := fmb.ok _ ha
  have ebh : Same H Hb := fun b2 o z => by
    have h6 := (e04.trans (e5.trans e6)) _ _ z
    exact kb _ _ (ne_of_none h6 hm) (ne_of_none ((e9 _ _ h6)) hk) ((e9.trans e10) _ _ h6)
  change Hb a = some (.dK (dQ (byH (n + 1) ss rs s'))) at ga
  have kin : KeysB (n + 1) (byH (n + 1) ss rs s') := byF_keys
  generalize ebc : byH (n + 1) ss rs s' = cs at ga q kin
  refine ret_run ?_
  refine ⟨_, rfl, a, _, rfl, .inl ga, fun p hp => ?_⟩
  rw [dQ_names]
  have e11 := K1.Same.upd (H := Hb) (p := p) (o := .lst (((cs.map (·.1)).map fun k : Nat => ((k : Nat) : Int)).map V.int)) hp
  have gp := upd_same' Hb p (.lst (((cs.map (·.1)).map fun k : Nat => ((k : Nat) : Int)).map V.int))
  generalize L2.upd Hb p (.lst (((cs.map (·.1)).map fun k : Nat => ((k : Nat) : Int)).map V.int)) = Hc at e11 gp ⊢
  refine ⟨p, _, rfl, SqL.of gp, fun ns' p2 perm pw hp2 => ?_⟩
  obtain ⟨ys, rfl, pys⟩ := keys_nat perm
  have e12 := K1.Same.upd (H := Hc) (p := p2) (o := .lst ((ys.map fun k : Nat => ((k : Nat) : Int)).map V.int)) hp2
  have gp2 := upd_same' Hc p2 (.lst ((ys.map fun k : Nat => ((k : Nat) : Int)).map V.int))
  generalize L2.upd Hc p2 (.lst ((ys.map fun k : Nat => ((k : Nat) : Int)).map V.int)) = He at e12 gp2 ⊢
  have nys : ys.Nodup := pys.nodup_iff.mpr kin.1
  have lys : ys.length ≤ n + 1 := by
    have := pys.length_eq
    rw [List.length_map] at this
    have := kin.len
    omega
  have gae := e12 _ _ (e11 _ _ ga)
  refine ⟨p2, rfl, ⟨_, SqL.of gp2⟩, fun D hD => ?_⟩
  refine dc_it walk_list (fun i Hx => Same He Hx ∧ Hx D = some (.dK (dQ (dBy cs (ys.take i))))) ⟨K1.Same.upd hD, upd_same⟩ (fun i Hx _ h => SqL.of (h.1 _ _ gp2)) ?_ ?_
  · rintro i v Hx H' hi ⟨c1, c2⟩ ⟨rfl, hv⟩
    rw [List.length_map, List.length_map] at hi
    have hv : ((ys.map fun k : Nat => ((k : Nat) : Int)).map V.int)[i]? = some v := hv
    have ev : v = .int ((ys[i] : Nat) : Int) := by
      rw [List.getElem?_map, List.getElem?_map, List.getElem?_eq_getElem hi] at hv
      exact (Option.some.inj hv).symm
    subst ev
    obtain ⟨y, hy⟩ := getN_key (pys.mem_iff.mp (List.getElem_mem hi))
    have dg := DGet.k (k := .inl ((ys[i] : Nat) : Int)) (c1 _ _ gae)
    rw [dQ_val, hy] at dg
    refine ⟨rfl, ?_⟩
    unfold tYes
    refine iteT ⟨_, rfl, _, rfl, _, rfl, a, .int ((y : Nat) : Int), rfl, dg, _, .inl ((ys[i] : Nat) : Int), rfl, c2, ?_, ps_same_upd c1 hD, ?_⟩
    · rw [dQ_len]
      unfold dBy
      rw [List.length_map, List.length_take]
      exact small1000 (by omega)
    · rw [upd_same, dBy_put nys hi hy]
  · rintro Hx ⟨c1, c2⟩
    rw [List.length_map, List.length_map, List.take_length] at c2
    have eHe := ebh.trans (e11.trans e12)
    have pw2 : ys.Pairwise (· ≤ ·) := by
      rw [List.pairwise_map] at pw
      exact pw.imp fun h => Int.ofNat_le.mp h
    exact q D Hx ys (eHe.trans c1) (eHe.free hD) pys pw2 c2
end
end K1
end
-- WLaw1
section
set_option Elab.async false
set_option linter.all false
set_option maxRecDepth 100000
set_option maxHeartbeats 4000000
namespace K1
open PySem PySem.Spec PyProof.Rows L2
abbrev sSpring : Stmt := top 47
def spSpring (K : PySem.W.Frag) : Sp := fun vs H Q _ => ∃ (a : Addr) (t : Int) (ns : List Int), vs = [.ref a, .int t] ∧ SqL K H a (ns.map V.int) ∧ 0 ≤ t ∧ t ≤ 1000 ∧ ns.length ≤ 1000 ∧ ∀ p H', Same H H' → H p = none → Spr H' p 0 → Q (.ref p) H'
theorem scSpring : FnScope ["script", "turn", "cell", "mix", "at", "one"] ["script", "turn"] (defScope sSpring) := ⟨rfl, rfl, rfl, by decide +kernel, rfl, by decide +kernel, by decide +kernel⟩
theorem atI_map {ns : List Int} {t : Int} (h0 : 0 ≤ t) (h1 : t < (ns.length : Int)) : ∃ n : Int, atI (ns.map V.int) t = some (.int n) := by
  have hk : t.toNat < ns.length := by omega
  have q : atI (ns.map V.int) ((t.toNat : Nat) : Int) = some (.int ns[t.toNat]) := atI_nat (by rw [List.getElem?_map, List.getElem?_eq_getElem hk]; rfl)
  rw [show ((t.toNat : Nat) : Int) = t by omega] at q
  exact ⟨_, q⟩
section
variable {P : Program} {w : World} {K : PySem.W.Frag} {mg : Str → Option Value} {base : Heap}
theorem ok_spring {f : Addr} {fd : FuncData} (F : Fun K "_law_spring" "_law_spring" sSpring f fd) (B : Bl mg) (me : mg "enumerate" = none) : FnOk P w K mg base CX0 1 f fd ["script", "turn"] (spSpring K) := by
  refine F.ok scSpring (fun vs H Q E h => ?_) (fun cdv A outer s H vs Q E hr h => ?_)
  · obtain ⟨a, t, ns, rfl, _⟩ := h
    rfl
  obtain ⟨a, t, ns, rfl, hS, t0, t1, hl, q⟩ := h
  have nd := scSpring.nd
  refine ⟨_, pss_cons (by exact (ps_par (i := 2) (j := 3) rfl nd rfl rfl (by decide) rfl rfl (pa_cons (pe_ifExp (pt_cmpR op_lt (pv 1) (pe_callB call_len_seq rfl B.len PySem.boot_len (pa_cons (pv 0) pa_nil)) (nomark _)) (pe_ix ix_list (pv 0) (pv 1) (fun _ _ => rfl))
      (pe_op op_add (pe_op op_mul pe_int (pv 1)) (pe_callB call_len_seq rfl B.len PySem.boot_len (pa_cons (pv 0) pa_nil)))) (pa_cons (pe_op op_add pe_int (pe_op op_mul pe_int (pv 1))) pa_nil)) (by rfl)))
    (pss_cons (by exact (ps_for PassesOwn.never rfl (by exact pi_enum rfl me (pa_cons (pe_slice sl_list (pv 0) po_none (po_some pe_int)) pa_nil)) (pg_tup rfl (pgs_cons (pg_name (i := 4) nd rfl (.inl rfl)) (pgs_cons (pg_name (i := 5) nd rfl (.inl rfl)) pgs_nil)))
      (pss_one (by exact (ps_set (i := 3) nd rfl (.inl rfl) (pe_op op_mod (pe_callTy call_int1 rfl B.int PyProof.Rows.boot_int (pa_cons (pe_op op_add (pe_op op_add (pe_op op_add (pe_op op_mul (pv 3) pe_int) (pv 5)) (pe_op op_mul pe_int (pv 4))) pe_int) pa_nil)) pe_int))))))
    (pss_one (by exact (ps_ret (pe_lst (pa_cons (pe_ifExp (pt_cmpR op_ge (pv 2) (pe_op op_pow pe_int pe_int) (nomark _)) (pv 2) pe_int)
      (pa_cons (pe_op op_mod (pe_callTy call_int1 rfl B.int PyProof.Rows.boot_int (pa_cons (pe_op op_add (pv 3) (pe_op op_mul (pv 2) pe_int)) pa_nil)) pe_int) (pa_cons pe_int pa_nil)))))))), ?_⟩
  have hlen : (ns.map V.int).length = ns.length := List.length_map _
  refine ⟨_, rfl, _, rfl, a, _, rfl, .inl hS, _, _, rfl, rfl, _, rfl, ?_⟩
  refine ite2 (fun c => ?_) (fun c => ?_)
  all_goals first
    | (have c' : t < (((ns.map V.int).length : Nat) : Int) := of_decide_eq_true c
       rw [hlen] at c'
       obtain ⟨cell, ec⟩ := atI_map t0 c'
       refine ⟨_, rfl, _, rfl, a, _, _, _, rfl, rfl, hS, ec, ?_⟩)
    | refine ⟨_, rfl, _, _, rfl, rfl, .inl (by constructor <;> decide), _, rfl, a, _, rfl, .inl hS, _, _, rfl, rfl, ?_⟩
  all_goals
    refine ⟨_, rfl, _, _, rfl, rfl, .inl (by constructor <;> decide), _, _, rfl, rfl, _, _, rfl, ?_⟩
    refine ⟨_, rfl, 63, rfl, a, _, rfl, hS, fun L hL => ⟨L, _, rfl, SqL.of upd_same, ?_⟩⟩
    have eL := K1.Same.upd (o := .lst (cutV (ns.map V.int) none (some 63))) hL
    refine for_it (walk_enum (K := K)) (fun i σ Hc => (∃ (c m : Int) (sa sb : Option V), σ = [some (.ref a), some (.int t), some (.int c), some (.int m), sa, sb] ∧ 0 ≤ m ∧ m < 1000000000000) ∧ Same H Hc ∧ Hc L = some (.lst (cutV (ns.map V.int) none (some 63)))) ⟨⟨_, _, _, _, rfl, by omega, by omega⟩, eL, upd_same⟩ (fun i σ Hc _ h => SqL.of h.2.2) ?_ ?_
    · rintro i x σ Hc H' hi ⟨⟨c, m, sa, sb, rfl, m0, m1⟩, h1, h2⟩ ⟨T, x1, x2, rfl, hT, rfl, e1', e2'⟩
      obtain rfl : x1 = .int (i : Nat) := (Option.some.inj e1').symm
      have e2' : (cutV (ns.map V.int) none (some 63))[i]? = some x2 := e2'
      obtain ⟨n, rfl⟩ : ∃ n : Int, x2 = .int n := by
        have m1 := List.mem_of_mem_drop (List.mem_of_mem_take (List.mem_of_getElem? e2'))
        obtain ⟨n, _, e⟩ := List.mem_map.mp m1
        exact ⟨n, e.symm⟩
      have hT2 := K1.Same.upd (H := Hc) (p := T) (o := .tup [.int (i : Nat), .int n]) hT
      refine ⟨T, _, rfl, SqT.of upd_same, rfl, _, _, rfl, _, _, rfl, rfl, ?_⟩
      refine ⟨_, rfl, _, _, rfl, rfl, .inl ⟨by omega, by omega⟩, _, rfl, _, _, rfl, rfl, _, rfl, _, _, rfl, rfl, .inl (by constructor <;> decide), _, _, rfl, rfl, _, _, rfl, rfl, .inl ⟨_, rfl, _, _, rfl, rfl, (by show (0 : Int) < 2147483629; decide), ?_⟩⟩
      refine ⟨⟨c, _, _, _, rfl, Int.emod_nonneg _ (by decide), ?_⟩, h1.trans hT2, hT2 _ _ h2⟩
      have := Int.emod_lt_of_pos (m * 69069 + n + 5 * (i : Nat) + 1) (show (0 : Int) < 2147483629 by decide)
      omega
    · rintro σ Hc ⟨⟨c, m, sa, sb, rfl, m0, m1⟩, h1, h2⟩
      refine ⟨_, rfl, _, _, rfl, rfl, ⟨by decide, by decide, by decide⟩, _, _, rfl, rfl, _, rfl, ?_⟩
      have y0 := Int.emod_nonneg (m + c * 31) (show (2147483647 : Int) ≠ 0 by decide)
      have y1 := Int.emod_lt_of_pos (m + c * 31) (show (0 : Int) < 2147483647 by decide)
      refine ite2 (fun c2 => ?_) (fun c2 => ?_)
      · have c3 : c ≥ 10 ^ ((18 : Int).toNat) := of_decide_eq_true c2
        refine ⟨_, rfl, _, rfl, _, rfl, _, _, rfl, rfl, .inr (by constructor <;> decide), _, _, rfl, rfl, .inl ⟨_, rfl, _, _, rfl, rfl, (by show (0 : Int) < 2147483647; decide), (by show 3 ≤ sizeLine; decide), fun l hl => ?_⟩⟩
        exact q l _ (h1.trans (K1.Same.upd hl)) (h1.free hl) ⟨c, _, 0, upd_same, Int.le_trans (by decide) c3, y0, y1, Int.le_refl 0, Int.le_refl 0⟩
      · refine ⟨_, rfl, _, rfl, _, _, rfl, rfl, .inr (by constructor <;> decide), _, _, rfl, rfl, .inl ⟨_, rfl, _, _, rfl, rfl, (by show (0 : Int) < 2147483647; decide), (by show 3 ≤ sizeLine; decide), fun l hl => ?_⟩⟩
        exact q l _ (h1.trans (K1.Same.upd hl)) (h1.free hl) ⟨0, _, 0, upd_same, Int.le_refl 0, y0, y1, Int.le_refl 0, Int.le_refl 0⟩
end
end K1
end
-- WLaw2
section
set_option Elab.async false
set_option linter.all false
set_option maxRecDepth 100000
set_option maxHeartbeats 1000000
namespace K1
open PySem PySem.Spec PyProof.Rows L2 W0
abbrev sVN : Stmt := top 53
def names17 : List Str := ["b", "aa", "c3", "z", "mill", "a", "x0", "eight888", "q", "m1", "no", "y7", "dd", "k", "w2w", "r", "t9"]
def names3 : List Str := ["u", "ii", "hh"]
def nameK (k : Nat) : Str := ("h" : Str) ++ Str.ofString (toString ((0 : Int) + (k : Int)))
def names40 : List Str := (List.range 40).map nameK
def names60 : List Str := names17 ++ names3 ++ names40
def goodB (ss : List Str) : Bool := ss.Nodup && ss.all fun s => nameOk s && decide (s.length ≤ 1000)
theorem good_of {ss : List Str} (h : decide ss.Nodup = true) (h2 : (ss.all fun s => nameOk s && decide (s.length ≤ 1000)) = true) : Good ss := by
  refine ⟨of_decide_eq_true h, fun s hs => ?_⟩
  have := List.all_eq_true.mp h2 s hs
  exact ⟨(Bool.and_eq_true_iff.mp this).1, of_decide_eq_true (Bool.and_eq_true_iff.mp this).2⟩
theorem good60 : Good names60 := good_of (by decide +kernel) (by decide +kernel)
/-- nobody is none of them -/
def NoBody (ss : List Str) : Prop := ("nobody" : Str) ∉ ss
theorem nobody60 : NoBody names60 := by unfold NoBody; decide +kernel
theorem NoBody.perm {as bs : List Str} (g : NoBody bs) (p : as.Perm bs) : NoBody as := fun h => g (p.mem_iff.mp h)
theorem NoBody.take {as : List Str} (g : NoBody as) (n : Nat) : NoBody (as.take n) := fun h => g (List.mem_of_mem_take h)
theorem Good.perm {as bs : List Str} (g : Good bs) (p : as.Perm bs) : Good as := ⟨p.nodup_iff.mpr g.1, fun s hs => g.2 s (p.mem_iff.mp hs)⟩
theorem Good.take {as : List Str} (g : Good as) (n : Nat) : Good (as.take n) := ⟨g.1.sublist (List.take_sublist _ _), fun s hs => g.2 s (List.mem_of_mem_take hs)⟩
def unS : V → Str
  | .str s => s
  | _ => ""
theorem unS_map (ss : List Str) : (ss.map V.str).map unS = ss := by
  rw [List.map_map]
  exact List.map_id _
theorem perm_str {ys : List V} {ss : List Str} (p : ys.Perm (ss.map V.str)) : ∃ ts : List Str, ys = ts.map V.str ∧ ts.Perm ss := by
  refine ⟨ys.map unS, ?_, by have := p.map unS; rwa [unS_map] at this⟩
  rw [List.map_map]
  have : ∀ y ∈ ys, (V.str ∘ unS) y = y := fun y hy => by
    obtain ⟨s, _, rfl⟩ := List.mem_map.mp (p.mem_iff.mp hy)
    rfl
  exact (List.map_congr_left this).trans (List.map_id _) |>.symm
theorem cut_to (xs : List V) (k : Nat) : cutV xs none (some (k : Int)) = xs.take k := by
  unfold cutV
  rw [HT.sIx_none, HT.sIx_nat, List.drop_zero, Nat.sub_zero]
  by_cases h : k ≤ xs.length
  · rw [Nat.min_eq_left h]
  · rw [Nat.min_eq_right (by omega), List.take_length, List.take_of_length_le (by omega)]
def spVN : Sp := fun vs H Q _ => ∃ (a : Addr) (m n : Nat), vs = [.ref a, .int (m : Int)] ∧ Spr H a n ∧ n + 2000 ≤ 1000000 ∧ 1 ≤ m ∧ m ≤ 60 ∧
  ∀ (r : Addr) (ss : List Str) (H' : Hp), H r = none → r ≠ a → Kept a H H' → Spr H' a (n + 60) → H' r = some (.lst (ss.map V.str)) → (Good ss ∧ NoBody ss) → ss.length = m → Q (.ref r) H'
theorem scVN : FnScope ["spring", "many", "some", "k"] ["spring", "many"] (defScope sVN) := ⟨rfl, rfl, rfl, by decide +kernel, rfl, by decide +kernel, by decide +kernel⟩
section
variable {P : Program} {w : World} {K : PySem.W.Frag} {mg : Str → Option Value} {base : Heap} {fM : Addr} {fdM : FuncData}
theorem ok_VN {f : Addr} {fd : FuncData} (F : Fun K "_law_v_names" "_law_v_names" sVN f fd) (B : Bl mg) (mr : mg "range" = none)
    (GM : FnOk P w K mg base CX0 2 fM fdM ["spring", "some"] spMixed) (bM : Binds K fdM ["spring", "some"] []) (kM : PySem.W.keepIn K (.ref fM) = true) (mM : mg "_law_mixed" = some (.ref fM)) :
    FnOk P w K mg base CX0 3 f fd ["spring", "many"] spVN := by
  refine F.ok scVN (fun vs H Q E h => ?_) (fun cdv A outer s H vs Q E hr h => ?_)
  · obtain ⟨a, m, n, rfl, _⟩ := h
    rfl
  obtain ⟨a, m, n, rfl, hs, hn, hl, hm, q⟩ := h
  have nd := scVN.nd
  refine ⟨_, pss_cons (by exact (ps_set (i := 2) nd rfl (.inl rfl) (pe_lst (pa_cons pe_str (pa_cons pe_str (pa_cons pe_str (pa_cons pe_str (pa_cons pe_str (pa_cons pe_str (pa_cons pe_str (pa_cons pe_str (pa_cons pe_str (pa_cons pe_str (pa_cons pe_str (pa_cons pe_str (pa_cons pe_str (pa_cons pe_str (pa_cons pe_str (pa_cons pe_str (pa_cons pe_str pa_nil))))))))))))))))))))
    (pss_one (by exact (ps_ret (pe_slice sl_list (pe_call GM hr rfl mM kM bM .nil pass0 (pa_cons (pv 0) (pa_cons (pe_op op_cat (pe_op op_cat (pv 2) (pe_lst (pa_cons pe_str (pa_cons pe_str (pa_cons pe_str pa_nil))))) (pe_lc (own := [("k", 3)]) (g := gName 3) (tt := tYes) (te := _) rfl nd (by exact pi_range1 rfl mr (pa_cons pe_int pa_nil)) (by exact blkOk_by (N := ["spring", "many", "some", "k"]) (sc := defScope sVN) (by decide +kernel)) (fun _ _ _ _ _ => by exact (pg_name (i := 3) nd rfl (.inl rfl))) (fun _ _ _ _ _ => by exact pts_nil) (fun _ _ _ _ _ => by exact (pe_op op_add_str pe_str (pe_callTy call_str_int rfl B.str PyProof.Rows.boot_str (pa_cons (pv 3) pa_nil)))))) pa_nil))) po_none (po_some (pv 1)))))), ?_⟩
  refine ⟨(by show 17 ≤ sizeLine; decide), fun L hL => ?_⟩
  generalize hU : L2.upd H L _ = H1
  have e1 : Same H H1 := by rw [← hU]; exact K1.Same.upd hL
  have gL : H1 L = some (.lst (names17.map V.str)) := by rw [← hU]; exact upd_same
  refine K1.gN ?_
  refine ⟨_, rfl, _, rfl, (by show 3 ≤ sizeLine; decide), fun M hM => ?_⟩
  generalize hU2 : L2.upd H1 M _ = H2
  have e2 : Same H1 H2 := by rw [← hU2]; exact K1.Same.upd hM
  have gM : H2 M = some (.lst (names3.map V.str)) := by rw [← hU2]; exact upd_same
  refine ⟨L, M, names17.map V.str, names3.map V.str, rfl, rfl, e2 _ _ gL, gM, (by show 20 ≤ sizeLine; decide), fun p1 hp1 => ?_⟩
  rw [← List.map_append]
  have e3 := K1.Same.upd (H := H2) (p := p1) (o := .lst ((names17 ++ names3).map V.str)) hp1
  have g3 := upd_same' H2 p1 (.lst ((names17 ++ names3).map V.str))
  generalize L2.upd H2 p1 (.lst ((names17 ++ names3).map V.str)) = H3 at e3 g3 ⊢
  refine ⟨40, rfl, by decide, by decide, fun D hD => ?_⟩
  refine lc_range (fun i Hc => Same H3 Hc ∧ Hc D = some (.lst ((names40.take i).map V.str))) ⟨K1.Same.upd hD, upd_same⟩ ?_ ?_
  · rintro i Hc hi ⟨f1, f2⟩
    refine ⟨rfl, ?_⟩
    unfold tYes
    refine iteT ?_
    have hi2 : i < 40 := hi
    have e60 : names40[i]? = some (nameK i) := by
      unfold names40
      rw [List.getElem?_map, List.getElem?_range hi2]
      rfl
    refine ⟨_, rfl, _, rfl, ?_, _, _, rfl, rfl, ?_, _, f2, ?_, ps_same_upd f1 hD, ?_⟩
    · have : ((0 : Int) + (i : Int)).natAbs < 64 := by omega
      exact Nat.lt_of_le_of_lt (Nat.log2_le_self _) (by omega)
    · have mem : nameK i ∈ names60 := List.mem_append_right _ (List.mem_of_getElem? e60)
      have := (good60.2 (nameK i) mem).2
      unfold nameK at this
      have e : (("h" : Str) ++ Str.ofString (toString ((0 : Int) + (i : Int)))).length = ("h" : Str).length + (Str.ofString (toString ((0 : Int) + (i : Int)))).length := Array.size_append
      rw [e] at this
      exact Nat.le_trans this (by decide)
    · rw [List.length_map]
      exact small1000 (Nat.le_trans (List.length_take_le _ _) (by omega))
    · rw [upd_same, map_take_succ e60]
      rfl
  · rintro Hc ⟨f1, f2⟩
    have f3 : Hc D = some (.lst (names40.map V.str)) := by
      have e : names40.take 40 = names40 := List.take_of_length_le (by rw [show names40.length = 40 by decide +kernel]; decide)
      rw [← e]
      exact f2
    refine ⟨p1, D, (names17 ++ names3).map V.str, names40.map V.str, rfl, rfl, f1 _ _ g3, f3, (by rw [List.length_map, List.length_map, show (names17 ++ names3).length = 20 by decide +kernel, show names40.length = 40 by decide +kernel]; decide), fun p2 hp2 => ?_⟩
    rw [← List.map_append, show names17 ++ names3 ++ names40 = names60 from rfl]
    have e4 := K1.Same.upd (H := Hc) (p := p2) (o := .lst (names60.map V.str)) hp2
    have g4 := upd_same' Hc p2 (.lst (names60.map V.str))
    generalize L2.upd Hc p2 (.lst (names60.map V.str)) = H4 at e4 g4 ⊢
    have all : Same H H4 := e1.trans (e2.trans (e3.trans (f1.trans e4)))
    have s4 : Spr H4 a n := by
      obtain ⟨x, y, z, e, r⟩ := hs
      exact ⟨x, y, z, all _ _ e, r⟩
    have pa : p2 ≠ a := by
      obtain ⟨x, y, z, e, r⟩ := hs
      exact fun zz => by
        have := (e1.trans (e2.trans (e3.trans f1))) _ _ e
        rw [← zz, hp2] at this
        cases this
    have l60 : names60.length = 60 := by decide +kernel
    refine ⟨a, p2, names60.map V.str, n, rfl, s4, by omega, g4, pa, by rw [List.length_map, l60]; decide, fun r ys H5 pm rn ra hr5 k5 s5 => ?_⟩
    obtain ⟨us, rfl, pu⟩ := perm_str pm
    refine ⟨_, rfl, _, rfl, r, _, rfl, SqL.of hr5, fun z hz => ?_⟩
    have za := s5.ne hz
    have k6 : Kept a H H5 := (Kept.same all).trans k5
    have zH : H z = none := by
      cases e : H z with
      | none => rfl
      | some o => rw [k6 _ _ za e] at hz; cases hz
    have e : cutV (us.map V.str) none (some (m : Int)) = (us.take m).map V.str := by
      rw [cut_to, ← List.map_take]
    have lu := pu.length_eq
    rw [l60] at lu
    refine q z (us.take m) _ zH za (k6.trans (Kept.new hz)) ((s5.upd za).mono (by rw [List.length_map, l60]; exact Nat.le_refl _)) (by rw [upd_same, e]) ⟨(good60.perm pu).take _, (nobody60.perm pu).take _⟩ ?_
    rw [List.length_take]
    omega
end
end K1
end
-- WLaw5
section
set_option Elab.async false
set_option linter.all false
set_option maxRecDepth 100000
set_option maxHeartbeats 4000000
namespace K1
open PySem PySem.Spec PyProof.Rows L2 W0
abbrev sLo : Stmt := top 52
theorem fr_kept {a : Addr} {H Hx : Hp} {z : Addr} (kx : Kept a H Hx) (hz : Hx z = none) (za : z ≠ a) : H z = none := by
  cases e : H z with
  | none => rfl
  | some o => rw [kx _ _ za e] at hz; cases hz
open Classical in
/-- the heap without these -/
noncomputable def wo (Z : Addr → Prop) (H : Hp) : Hp := fun b => if Z b then none else H b
theorem wo_some {Z : Addr → Prop} {H : Hp} {b : Addr} {o : HO} : wo Z H b = some o ↔ ¬ Z b ∧ H b = some o := by
  unfold wo
  by_cases h : Z b
  · rw [if_pos h]
    exact ⟨fun q => (by cases q), fun q => absurd h q.1⟩
  · rw [if_neg h]
    exact ⟨fun q => ⟨h, q⟩, fun q => q.2⟩
theorem wo_same {Z : Addr → Prop} {H H' : Hp} (k : ∀ b o, ¬ Z b → H b = some o → H' b = some o) : Same (wo Z H) (wo Z H') := fun b o e => by
  obtain ⟨n, e⟩ := wo_some.mp e
  exact wo_some.mpr ⟨n, k b o n e⟩
theorem wo_le {Z Z' : Addr → Prop} {H : Hp} (k : ∀ b, Z b → Z' b) : Same (wo Z' H) (wo Z H) := fun b o e => by
  obtain ⟨n, e⟩ := wo_some.mp e
  exact wo_some.mpr ⟨fun z => n (k b z), e⟩
theorem wo_out {Z : Addr → Prop} {H : Hp} : Same (wo Z H) H := fun b o e => (wo_some.mp e).2
abbrev Rel (α : Type) := Hp → V → α → Prop
def MonR {α : Type} (R : Rel α) : Prop := ∀ H H' v x, Same H H' → R H v x → R H' v x
def SeqR {α : Type} (R : Rel α) : Rel (List α) := fun H v xs => ∃ vs, SeqV H v vs ∧ xs.length ≤ 60 ∧ Paired (R H) vs xs
def Flat0 (K : PySem.W.Frag) : Rel V := fun H v x => v = x ∧ NoSeq K H v
theorem mon_flat0 {K : PySem.W.Frag} : MonR (Flat0 K) := fun H H' v x e h => ⟨h.1, h.2.ext e⟩
theorem mon_seq {α : Type} {R : Rel α} (m : MonR R) : MonR (SeqR R) := fun H H' v x e ⟨vs, a, b, c⟩ => ⟨vs, a.ext e, b, paired_imp (fun _ _ q => m _ _ _ _ e q) c⟩
def spLo {α : Type} (R : Rel α) (c : Nat) : Sp := fun vs H Q _ => ∃ (a : Addr) (v : V) (x : α) (n : Nat) (Z : Addr → Prop), vs = [.ref a, v] ∧ Spr H a n ∧ n + c ≤ 1000000 ∧ Z a ∧ (∀ z, Z z → H z ≠ none) ∧ R (wo Z H) v x ∧
  ∀ y H', Kept a H H' → Spr H' a (n + c) → R (wo Z H') y x → Q y H'
theorem scLo : FnScope ["spring", "thing", "found", "part"] ["spring", "thing"] (defScope sLo) := ⟨rfl, rfl, rfl, by decide +kernel, rfl, by decide +kernel, by decide +kernel⟩
theorem Spr.same {H H' : Hp} {a : Addr} {n : Nat} (s : Spr H a n) (e : Same H H') : Spr H' a n := by
  obtain ⟨x, y, z, h, r⟩ := s
  exact ⟨x, y, z, e _ _ h, r⟩
section
variable {P : Program} {w : World} {K : PySem.W.Frag} {mg : Str → Option Value} {base : Heap} {fD : Addr} {fdD : FuncData}
theorem ok_lo0 {f : Addr} {fd : FuncData} (F : Fun K "_law_loose" "_law_loose" sLo f fd) (B : Bl mg) : FnOk P w K mg base CX0 1 f fd ["spring", "thing"] (spLo (Flat0 K) 0) := by
  refine F.ok scLo (fun vs H Q E h => ?_) (fun cdv A outer s H vs Q E hr h => ?_)
  · obtain ⟨a, v, x, n, Z, rfl, _⟩ := h
    rfl
  obtain ⟨a, v, x, n, Z, rfl, hs, hn, za, hz, ⟨rfl, t, ty, kt, st⟩, q⟩ := h
  have nd := scLo.nd
  refine ⟨_, (pss_cons (by exact (ps_if (pt_not (pt_val (pe_callB call_isiT rfl B.isi PyProof.Rows.boot_isinstance (pa_cons (pv 1) (pa_cons (pe_tup (pa_cons (pe_bltn (v := .ty "list") rfl B.list PyProof.Rows.boot_list rfl) (pa_cons (pe_bltn (v := .ty "tuple") rfl B.tuple PyProof.Rows.boot_tuple rfl) pa_nil))) pa_nil))))) (pss_one (by exact (ps_ret (pv 1)))) pss_nil)) (pss_cons (by exact (ps_never)) (pss_one (by exact (ps_never))))), ?_⟩
  refine ⟨_, rfl, (by show 2 ≤ sizeLine; decide), fun p hp => ?_⟩
  have e := K1.Same.upd (H := H) (p := p) (o := .tup [.ty "list", .ty "tuple"]) hp
  refine ⟨v, p, _, _, _, _, rfl, upd_same, .cons (.ty "list") (.cons (.ty "tuple") .nil), TyX.ext ty (wo_out.trans e), kit_seq kt, _, rfl, ?_⟩
  rw [st]
  refine iteT ⟨_, rfl, q _ _ (Kept.same e) (hs.same e) ⟨rfl, t, TyX.ext ty (wo_same fun b o _ h => e b o h), kt, st⟩⟩
theorem ok_lo {α : Type} {R : Rel α} {c k : Nat} {f : Addr} {fd : FuncData} (mon : MonR R) (F : Fun K "_law_loose" "_law_loose" sLo f fd) (B : Bl mg) (mF : mg "_law_loose" = some (.ref f)) (b : Binds K fd ["spring", "thing"] [])
    (GD : FnOk P w K mg base CX0 1 fD fdD ["spring", "many"] spDraw) (bD : Binds K fdD ["spring", "many"] []) (kD : PySem.W.keepIn K (.ref fD) = true) (mD : mg "_law_draw" = some (.ref fD))
    (hk : 1 ≤ k) (G : FnOk P w K mg base CX0 k f fd ["spring", "thing"] (spLo R c)) : FnOk P w K mg base CX0 (k + 1) f fd ["spring", "thing"] (spLo (SeqR R) (60 * c + 1)) := by
  refine F.ok scLo (fun vs H Q E h => ?_) (fun cdv A outer s H vs Q E hr h => ?_)
  · obtain ⟨a, v, x, n, Z, rfl, _⟩ := h
    rfl
  obtain ⟨a, v, xs, n, Z, rfl, hs, hn, za, hz, ⟨vs, sv, hl, pv_⟩, q⟩ := h
  have nd := scLo.nd
  have hr1 : Room 1 _ := hr.mono hk
  refine ⟨_, (pss_cons (by exact (ps_if (pt_not (pt_val (pe_callB call_isiT rfl B.isi PyProof.Rows.boot_isinstance (pa_cons (pv 1) (pa_cons (pe_tup (pa_cons (pe_bltn (v := .ty "list") rfl B.list PyProof.Rows.boot_list rfl) (pa_cons (pe_bltn (v := .ty "tuple") rfl B.tuple PyProof.Rows.boot_tuple rfl) pa_nil))) pa_nil))))) (pss_one (by exact (ps_ret (pv 1)))) pss_nil)) (pss_cons (by exact (ps_setLc (i := 2) (own := [("part", 3)]) (g := gName 3) (tt := tYes) rfl nd rfl rfl (sw_true rfl rfl rfl (by decide +kernel)) (by exact pi_seqV 1 (pv 1)) (by exact blkOk_by (N := ["spring", "thing", "found", "part"]) (sc := defScope sLo) (by decide +kernel)) (fun _ _ _ _ _ => by exact (pg_name (i := 3) nd rfl (.inl rfl))) (fun _ _ _ _ _ => by exact pts_nil) (fun _ _ _ _ _ => by exact (pe_call G hr rfl mF F.kp b .nil pass0 (pa_cons (pv 0) (pa_cons (pv 3) pa_nil)))))) (pss_one (by exact (ps_ret (pe_ifExp (pt_cmpR op_eq (pe_call GD hr1 rfl mD kD bD .nil pass0 (pa_cons (pv 0) (pa_cons pe_int pa_nil))) pe_int (nomark _)) (pv 2) (pe_callTy call_tuple_of rfl B.tuple PyProof.Rows.boot_tuple (pa_cons (pv 2) pa_nil)))))))), ?_⟩
  obtain ⟨t, ty, kt, st⟩ := sv.ty (K := K)
  refine ⟨_, rfl, (by show 2 ≤ sizeLine; decide), fun p hp => ?_⟩
  have e := K1.Same.upd (H := H) (p := p) (o := .tup [.ty "list", .ty "tuple"]) hp
  refine ⟨v, p, _, _, _, _, rfl, upd_same, .cons (.ty "list") (.cons (.ty "tuple") .nil), TyX.ext ty (wo_out.trans e), kit_seq kt, _, rfl, ?_⟩
  rw [st]
  refine iteF ?_
  have hs1 := hs.same e
  have kp1 : Kept a H (L2.upd H p (.tup [.ty "list", .ty "tuple"])) := Kept.same e
  generalize L2.upd H p (.tup [.ty "list", .ty "tuple"]) = H1 at e hs1 kp1 ⊢
  obtain ⟨pv0, rfl, hpv⟩ := id sv
  have hpz : ¬ Z pv0 := hpv.elim (fun h => (wo_some.mp h).1) (fun h => (wo_some.mp h).1)
  have pva : pv0 ≠ a := fun z => hpz (by rw [z]; exact za)
  have hpv1 : H1 pv0 = some (.lst vs) ∨ H1 pv0 = some (.tup vs) := hpv.imp (fun h => e _ _ (wo_some.mp h).2) (fun h => e _ _ (wo_some.mp h).2)
  refine ⟨pv0, vs, rfl, hpv1.imp (fun h => SqL.of h) (fun h => SqT.of h), fun J Gw wk hG D hD => ?_⟩
  have Da := hs1.ne hD
  have DH : H D = none := e.free hD
  have lvs : vs.length = xs.length := pv_.length
  have nzD : ¬ Z D := fun z => hz D z DH
  refine lc_it wk (fun i Hc => Kept a H1 Hc ∧ Spr Hc a (n + c * i) ∧ ∃ acc, Hc D = some (.lst acc) ∧ acc.length = i ∧ Paired (R (wo (fun z => Z z ∨ z = D) Hc)) acc (xs.take i)) ⟨Kept.new hD, (hs1.upd Da).mono (by omega), [], upd_same, rfl, .nil⟩ (fun i Hc _ h => hG Hc fun o ho => h.1 _ _ pva ho) ?_ ?_
  · rintro i y Hc H' hi ⟨c1, c2, acc, c3, c4, c5⟩ ⟨rfl, hy⟩
    have hi2 : i < xs.length := by omega
    obtain ⟨y', ey, ry⟩ := paired_get pv_ hi2
    have : y' = y := Option.some.inj (ey.symm.trans hy)
    subst this
    refine ⟨rfl, ?_⟩
    unfold tYes
    refine iteT ?_
    have sm : Same (wo Z H) (wo (fun z => Z z ∨ z = D) H') := fun b o eb => by
      obtain ⟨n1, e1⟩ := wo_some.mp eb
      refine wo_some.mpr ⟨fun z => z.elim n1 fun z => ?_, c1 _ _ (fun z => n1 (by rw [z]; exact za)) (e _ _ e1)⟩
      rw [z, DH] at e1
      cases e1
    have hci : c * i + c ≤ c * 60 := by
      have : c * (i + 1) ≤ c * 60 := Nat.mul_le_mul (Nat.le_refl c) (by omega)
      rwa [Nat.mul_add, Nat.mul_one] at this
    refine ⟨_, rfl, _, rfl, a, y', xs[i], n + c * i, fun z => Z z ∨ z = D, rfl, c2, by omega, .inl za, fun z zz => ?_, mon _ _ _ _ sm ry, fun y2 H6 k6 s6 r6 => ?_⟩
    · rcases zz with zz | rfl
      · intro q0
        by_cases z1 : z = a
        · rw [z1] at q0
          exact c2.kept q0
        · exact hz z zz (fr_kept (kp1.trans c1) q0 z1)
      · rw [c3]
        exact Option.some_ne_none _
    · have sD : ∀ acc', Same (wo (fun z => Z z ∨ z = D) H6) (wo (fun z => Z z ∨ z = D) (L2.upd H6 D acc')) := fun acc' => wo_same fun b o nb eb => by
        rw [upd_ne (fun z => nb (.inr z))]
        exact eb
      have c3' := k6 _ _ Da c3
      refine ⟨acc, c3', by rw [c4]; exact small1000 (by omega), fun b o nb eb => ?_, (s6.upd Da).mono (by rw [Nat.mul_add, Nat.mul_one]; omega), acc ++ [y2], upd_same, by rw [List.length_append, c4]; rfl, ?_⟩
      · rw [upd_ne (ne_of_none eb hD)]
        exact k6 b o nb (c1 b o nb eb)
      · rw [List.take_add_one, List.getElem?_eq_getElem hi2]
        have s36 : Same (wo (fun z => Z z ∨ z = D) H') (wo (fun z => Z z ∨ z = D) H6) := wo_same fun b o nb eb => k6 b o (fun z => nb (.inl (by rw [z]; exact za))) eb
        have pz : ∀ {as : List V} {bs : List α}, Paired (R (wo (fun z => Z z ∨ z = D) H')) as bs → Paired (R (wo (fun z => Z z ∨ z = D) (L2.upd H6 D (.lst (acc ++ [y2]))))) (as ++ [y2]) (bs ++ [xs[i]]) := by
          intro as bs h
          induction h with
          | nil => exact .cons (mon _ _ _ _ (sD _) r6) .nil
          | cons f1 f2 ih => exact .cons (mon _ _ _ _ (s36.trans (sD _)) f1) ih
        exact pz c5
  · rintro Hc ⟨c1, c2, acc, c3, c4, c5⟩
    rw [lvs, List.take_length] at c5
    have hcl : c * vs.length ≤ 60 * c := by rw [Nat.mul_comm]; exact Nat.mul_le_mul (by omega) (Nat.le_refl c)
    refine ⟨_, rfl, a, 2, _, rfl, c2, by omega, by decide, by decide, fun d H6 d0 d1 k6 s6 => ⟨rfl, _, rfl, ?_⟩⟩
    have c36 := k6 _ _ Da c3
    have kall : Kept a H H6 := kp1.trans (c1.trans k6)
    have s6' : Spr H6 a (n + (60 * c + 1)) := s6.mono (by omega)
    have fin : ∀ Hf, Same H6 Hf → Paired (R (wo Z Hf)) acc xs := fun Hf ef => paired_imp (fun _ _ r => mon _ _ _ _ (Same.trans (wo_le fun b z => .inl z) (wo_same fun b o nb eb => ef _ _ (k6 b o (fun z => nb (by rw [z]; exact za)) eb))) r) c5
    refine ite2 (fun cc => ?_) (fun cc => ?_)
    rotate_left
    · refine ⟨_, rfl, D, acc, rfl, .inl ⟨SqL.of c36, fun u hu => ?_⟩⟩
      have eu := K1.Same.upd (o := .tup acc) hu
      have ua := s6.ne hu
      exact q (.ref u) _ (kall.trans (Kept.new hu)) (s6'.same eu) ⟨acc, ⟨u, rfl, .inr (wo_some.mpr ⟨fun z => hz u z (fr_kept kall hu ua), upd_same⟩)⟩, hl, fin _ eu⟩
    · exact ⟨_, rfl, q (.ref D) _ kall s6' ⟨acc, ⟨D, rfl, .inl (wo_some.mpr ⟨nzD, c36⟩)⟩, hl, fin _ (Same.refl _)⟩⟩
end
end K1
end
-- WLaw6
section
set_option Elab.async false
set_option linter.all false
set_option maxRecDepth 100000
set_option maxHeartbeats 1000000
namespace K1
open PySem PySem.Spec PyProof.Rows L2 W0
abbrev sVM : Stmt := top 55
/-- the law's own valley: a triple of three lists -/
structure VAt (a : Addr) (H : Hp) (t p1 p2 p3 : Addr) (qs : List Addr) (ss : List Str) (rs : List (Str × Str)) (ns : List Int) : Prop where
  t0 : H t = some (.lst [.ref p1, .ref p2, .ref p3])
  h1 : H p1 = some (.lst (ss.map V.str))
  h2 : H p2 = some (.lst (qs.map V.ref))
  pr : Paired (TupP H) qs rs
  h3 : H p3 = some (.lst (ns.map V.int))
  n0 : t ≠ a
  n1 : p1 ≠ a
  n2 : p2 ≠ a
  n3 : p3 ≠ a
structure VOk (ss : List Str) (rs : List (Str × Str)) (ns : List Int) : Prop where
  good : Good ss
  pos : 1 ≤ ss.length
  le : ss.length ≤ 60
  cut : Cut rs
  ends : EndsIn ss rs
  rl : rs.length + 1 = ss.length
  nl : ns.length = ss.length
  ge : ∀ n ∈ ns, 1 ≤ n
  nob : NoBody ss
theorem VAt.kept {a : Addr} {H H' : Hp} {t p1 p2 p3 : Addr} {qs : List Addr} {ss : List Str} {rs : List (Str × Str)} {ns : List Int} {n : Nat} (v : VAt a H t p1 p2 p3 qs ss rs ns) (s : Spr H a n) (k : Kept a H H') : VAt a H' t p1 p2 p3 qs ss rs ns :=
  ⟨k _ _ v.n0 v.t0, k _ _ v.n1 v.h1, k _ _ v.n2 v.h2, TupP.kept v.pr s k, k _ _ v.n3 v.h3, v.n0, v.n1, v.n2, v.n3⟩
theorem flat_str {K : PySem.W.Frag} {H : Hp} (s : Str) : Flat0 K H (.str s) (.str s) := ⟨rfl, "str", .base (.str s), by decide, by decide⟩
theorem flat_int {K : PySem.W.Frag} {H : Hp} (s : Int) : Flat0 K H (.int s) (.int s) := ⟨rfl, "int", .base (.int s), by decide, by decide⟩
theorem paired_same {α : Type} {F : α → α → Prop} : ∀ {xs : List α}, (∀ x ∈ xs, F x x) → Paired F xs xs
  | [], _ => .nil
  | x :: xs, h => .cons (h x (List.mem_cons_self ..)) (paired_same fun y hy => h y (List.mem_cons_of_mem _ hy))
theorem flat_eq {K : PySem.W.Frag} {H : Hp} : ∀ {vs xs : List V}, Paired (Flat0 K H) vs xs → vs = xs
  | _, _, .nil => rfl
  | _, _, .cons f r => by rw [f.1, flat_eq r]
theorem paired_map {α β γ : Type} {F : α → β → Prop} {g : γ → β} : ∀ {xs : List α} {ys : List γ}, Paired F xs (ys.map g) → Paired (fun x y => F x (g y)) xs ys
  | _, [], .nil => .nil
  | _, _ :: _, .cons f r => .cons f (paired_map r)
theorem map_paired {α β γ : Type} {F : α → β → Prop} {g : γ → α} : ∀ {xs : List γ} {ys : List β}, Paired (fun x y => F (g x) y) xs ys → Paired F (xs.map g) ys
  | _, _, .nil => .nil
  | _, _, .cons f r => .cons f (map_paired r)
def prV (r : Str × Str) : List V := [.str r.1, .str r.2]
theorem scVM : FnScope ["spring", "form"] ["spring", "form"] (defScope sVM) := ⟨rfl, rfl, rfl, by decide +kernel, rfl, by decide +kernel, by decide +kernel⟩
theorem same_make {H : Hp} {x dx C : Addr} (nx : H x = none) (nd : H dx = none) : Same H (L2.upd (L2.upd H dx (.own x)) x (.ins C dx [])) := fun b o e => by
  rw [upd_ne (ne_of_none e nx), upd_ne (ne_of_none e nd)]
  exact e
theorem Spr.keptx {H H' : Hp} {a x : Addr} {n : Nat} (s : Spr H a n) (ne : a ≠ x) (k : Kept x H H') : Spr H' a n := by
  obtain ⟨u, y, z, e, r⟩ := s
  exact ⟨u, y, z, k _ _ ne e, r⟩
/-- the Valley's lists are not the spring -/
def OffV (a l1 l2 l3 : Addr) (bs : Str → Addr) (ss : List Str) : Prop := l1 ≠ a ∧ l2 ≠ a ∧ l3 ≠ a ∧ ∀ s ∈ ss, bs s ≠ a
theorem ValS.kept {C a : Addr} {H H' : Hp} {x l1 l2 l3 d1 d2 d3 : Addr} {qs : List Addr} {bs : Str → Addr} {ss : List Str} {rs : List (Str × Str)} {ns : List Int} {n : Nat} (v : ValS C H x l1 l2 l3 d1 d2 d3 qs bs ss rs ns) (o : OffV a l1 l2 l3 bs ss) (s : Spr H a n) (k : Kept a H H') : ValS C H' x l1 l2 l3 d1 d2 d3 qs bs ss rs ns := by
  obtain ⟨dx, fs, h, r⟩ := v.ins
  obtain ⟨k2, a2, b2⟩ := v.p2
  obtain ⟨k3, a3, b3⟩ := v.p3
  obtain ⟨u, y, z, es, _⟩ := s
  have off : ∀ b o, H b = some o → (∀ xs, o ≠ .lst xs) → b ≠ a := fun b o e n z => by
    rw [z, es] at e
    exact n _ (Option.some.inj e).symm
  exact ⟨⟨dx, fs, k _ _ (off _ _ h fun _ z => by cases z) h, r⟩, k _ _ o.1 v.h1, k _ _ o.2.1 v.h2, paired_imp (fun _ _ q => k _ _ (off _ _ q fun _ z => by cases z) q) v.pr, k _ _ o.2.2.1 v.h3, k _ _ (off _ _ v.p1 fun _ z => by cases z) v.p1, ⟨k2, k _ _ (off _ _ a2 fun _ z => by cases z) a2, b2⟩, ⟨k3, k _ _ (off _ _ a3 fun _ z => by cases z) a3, b3⟩, fun s hs => k _ _ (o.2.2.2 s hs) (v.nb s hs)⟩
def spMd (C : Addr) : Sp := fun vs H Q _ => ∃ (a t p1 p2 p3 : Addr) (qs : List Addr) (ss : List Str) (rs : List (Str × Str)) (ns : List Int) (n : Nat), vs = [.ref a, .ref t] ∧ Spr H a n ∧ n + 200 ≤ 1000000 ∧ VAt a H t p1 p2 p3 qs ss rs ns ∧ VOk ss rs ns ∧
  ∀ x l1 l2 l3 d1 d2 d3 qs' bs H', Kept a H H' → Spr H' a (n + 200) → ValS C H' x l1 l2 l3 d1 d2 d3 qs' bs ss rs ns → OffV a l1 l2 l3 bs ss → Q (.ref x) H'
/-- the three lists, handed in some way, make a Valley -/
theorem made_ofS {K : PySem.W.Frag} {C a x dx : Addr} {H H3 : Hp} {Q : VK} {E : XK} {y1 y2 y3 : V} {ss : List Str} {rs : List (Str × Str)} {ns : List Int} {n : Nat} (ok : VOk ss rs ns) (s3 : Spr H3 a n) (k3 : Kept a H H3) (s0 : H a ≠ none) (nx : H3 x = none) (ndx : H3 dx = none)
    (v1 : SeqV H3 y1 (ss.map V.str)) (v2 : ∃ vs, SeqV H3 y2 vs ∧ Paired (PairV H3) vs rs) (v3 : SeqV H3 y3 (ns.map V.int))
    (q : ∀ l1 l2 l3 d1 d2 d3 qs' bs H', Kept a H H' → Spr H' a n → ValS C H' x l1 l2 l3 d1 d2 d3 qs' bs ss rs ns → OffV a l1 l2 l3 bs ss → Same H3 H' → Q .non H') :
    spVS K C ([.ref x, y1, y2, y3]) (L2.upd (L2.upd H3 dx (.own x)) x (.ins C dx [])) Q E := by
  have e := same_make (C := C) nx ndx
  obtain ⟨vs, a1, a2⟩ := v2
  have hne : ss ≠ [] := fun z => by have := ok.pos; rw [z] at this; simp at this
  refine ⟨x, y1, y2, y3, dx, ss, rs, ns, rfl, upd_same, ⟨v1.ext e, hne, by have := ok.le; omega, ok.good⟩, ⟨vs, a1.ext e, paired_imp (fun _ _ q => SeqV.ext q e) a2, ok.ends, ok.cut.forest, ok.rl⟩, ⟨v3.ext e, ok.ge, ok.nl⟩, fun H' l1 l2 l3 d1 d2 d3 qs bs k v nv => ?_⟩
  have ax : a ≠ x := fun z => by
    rw [← z] at nx
    exact s3.kept nx
  have back : ∀ {z}, L2.upd (L2.upd H3 dx (.own x)) x (.ins C dx []) z = none → H3 z = none := fun {z} hz => by
    cases q : H3 z with
    | none => rfl
    | some o => rw [e _ _ q] at hz; cases hz
  have sm : Same H3 H' := fun b o eb => k b o (ne_of_none eb nx) (e b o eb)
  exact q l1 l2 l3 d1 d2 d3 qs bs H' (k3.trans (Kept.same sm)) (s3.same sm) v ⟨s3.ne (back nv.1), s3.ne (back nv.2.1), s3.ne (back nv.2.2.1), fun s hs => s3.ne (back (nv.2.2.2.2.2.2.2 s hs))⟩ sm
section
variable {P : Program} {w : World} {K : PySem.W.Frag} {mg : Str → Option Value} {base : Heap} {C fL fV : Addr} {fdL fdV : FuncData}
theorem ok_Md {f : Addr} {fd : FuncData} (F : Fun K "_law_v_made" "_law_v_made" sVM f fd) (mV : mg "Valley" = some (.ref C)) (M : Mk K C fV)
    (GV : FnOk P w K mg base (L2.CX P w) 5 fV fdV ["self", "houses", "roads", "heads"] (spVS K C)) (bV : Binds K fdV ["self", "houses", "roads", "heads"] [])
    (GL1 : FnOk P w K mg base CX0 2 fL fdL ["spring", "thing"] (spLo (SeqR (Flat0 K)) 1)) (GL2 : FnOk P w K mg base CX0 3 fL fdL ["spring", "thing"] (spLo (SeqR (SeqR (Flat0 K))) 61))
    (bL : Binds K fdL ["spring", "thing"] []) (kL : PySem.W.keepIn K (.ref fL) = true) (mL : mg "_law_loose" = some (.ref fL)) :
    FnOk P w K mg base CX0 7 f fd ["spring", "form"] (spMd C) := by
  refine F.ok scVM (fun vs H Q E h => ?_) (fun cdv A outer s H vs Q E hr h => ?_)
  · obtain ⟨a, t, p1, p2, p3, qs, ss, rs, ns, n, rfl, _⟩ := h
    rfl
  obtain ⟨a, t, p1, p2, p3, qs, ss, rs, ns, n, rfl, hs, hn, v, ok, q⟩ := h
  have hrA : Room 2 _ := hr.mono (by decide)
  have hrB : Room 3 _ := hr.mono (by decide)
  refine ⟨_, (pss_one (by exact (ps_ret (pe_make M GV hr rfl mV bV .nil passL (pa_cons (pe_call GL1 hrA rfl mL kL bL .nil pass0 (pa_cons (pv 0) (pa_cons (pe_ix ix_list (pv 1) pe_int (fun _ _ => rfl)) pa_nil))) (pa_cons (pe_call GL2 hrB rfl mL kL bL .nil pass0 (pa_cons (pv 0) (pa_cons (pe_ix ix_list (pv 1) pe_int (fun _ _ => rfl)) pa_nil))) (pa_cons (pe_call GL1 hrA rfl mL kL bL .nil pass0 (pa_cons (pv 0) (pa_cons (pe_ix ix_list (pv 1) pe_int (fun _ _ => rfl)) pa_nil))) pa_nil))))))), ?_⟩
  have zz : ∀ {Hx : Hp} {m : Nat}, Spr Hx a m → ∀ z, z = a → Hx z ≠ none := fun s z e => by rw [e]; exact s.kept
  have i0 : atI [V.ref p1, V.ref p2, V.ref p3] 0 = some (.ref p1) := rfl
  have i1 : atI [V.ref p1, V.ref p2, V.ref p3] 1 = some (.ref p2) := rfl
  have i2 : atI [V.ref p1, V.ref p2, V.ref p3] 2 = some (.ref p3) := rfl
  have pl := ok.le
  refine ⟨_, rfl, _, rfl, t, _, _, _, rfl, rfl, SqL.of v.t0, i0, a, _, ss.map V.str, n, fun z => z = a, rfl, hs, by omega, rfl, zz hs, ⟨ss.map V.str, ⟨p1, rfl, .inl (wo_some.mpr ⟨v.n1, v.h1⟩)⟩, by rw [List.length_map]; exact pl, paired_same fun x hx => ?_⟩, fun y1 H1 k1 s1 r1 => ?_⟩
  · obtain ⟨s, _, rfl⟩ := List.mem_map.mp hx
    exact flat_str s
  have v1 := v.kept hs k1
  refine ⟨_, rfl, _, rfl, t, _, _, _, rfl, rfl, SqL.of v1.t0, i1, a, _, rs.map prV, _, fun z => z = a, rfl, s1, by omega, rfl, zz s1, ⟨qs.map V.ref, ⟨p2, rfl, .inl (wo_some.mpr ⟨v.n2, v1.h2⟩)⟩, by rw [List.length_map]; have := ok.rl; omega, ?_⟩, fun y2 H2 k2 s2 r2 => ?_⟩
  · have : Paired (fun (q : Addr) (r : Str × Str) => SeqR (Flat0 K) (wo (fun z => z = a) H1) (.ref q) (prV r)) qs rs := paired_imp (fun qq r e => ⟨prV r, ⟨qq, rfl, .inr (wo_some.mpr ⟨s1.tup e, e⟩)⟩, by show 2 ≤ 60; decide, .cons (flat_str _) (.cons (flat_str _) .nil)⟩) v1.pr
    have h2 : ∀ {as : List Addr} {bs : List (Str × Str)}, Paired (fun (q : Addr) (r : Str × Str) => SeqR (Flat0 K) (wo (fun z => z = a) H1) (.ref q) (prV r)) as bs → Paired (SeqR (Flat0 K) (wo (fun z => z = a) H1)) (as.map V.ref) (bs.map prV) := by
      intro as bs h
      induction h with
      | nil => exact .nil
      | cons f1 f2 ih => exact .cons f1 ih
    exact h2 this
  have v2 := v1.kept s1 k2
  refine ⟨_, rfl, _, rfl, t, _, _, _, rfl, rfl, SqL.of v2.t0, i2, a, _, ns.map V.int, _, fun z => z = a, rfl, s2, by omega, rfl, zz s2, ⟨ns.map V.int, ⟨p3, rfl, .inl (wo_some.mpr ⟨v.n3, v2.h3⟩)⟩, by rw [List.length_map, ok.nl]; exact pl, paired_same fun x hx => ?_⟩, fun y3 H3 k3 s3 r3 => ?_⟩
  · obtain ⟨s, _, rfl⟩ := List.mem_map.mp hx
    exact flat_int s
  have w1 : Same (wo (fun z => z = a) H1) H3 := Same.trans (wo_same fun b o nb e => k2 b o nb e) (Same.trans (wo_same fun b o nb e => k3 b o nb e) wo_out)
  have w2 : Same (wo (fun z => z = a) H2) H3 := Same.trans (wo_same fun b o nb e => k3 b o nb e) wo_out
  obtain ⟨vs1, sv1, _, q1⟩ := r1
  obtain ⟨vs2, sv2, _, q2⟩ := r2
  obtain ⟨vs3, sv3, _, q3⟩ := r3
  rw [flat_eq q1] at sv1
  rw [flat_eq q3] at sv3
  intro x dx nx ndx nex
  refine made_ofS ok s3 (k1.trans (k2.trans k3)) hs.kept nx ndx (sv1.ext w1) ⟨vs2, sv2.ext w2, ?_⟩ (sv3.ext wo_out) fun l1 l2 l3 d1 d2 d3 qs' bs H' kk ss' vv ov sm => ⟨rfl, ?_⟩
  · refine paired_imp (fun x r h => ?_) (paired_map q2)
    obtain ⟨us, su, _, qu⟩ := h
    rw [flat_eq qu] at su
    exact SeqV.ext su w2
  · exact q x l1 l2 l3 d1 d2 d3 qs' bs H' kk (ss'.mono (by omega)) vv ov
end
end K1
end
-- WLaw3
section
set_option Elab.async false
set_option linter.all false
set_option maxRecDepth 100000
set_option maxHeartbeats 1000000
namespace K1
open PySem PySem.Spec PyProof.Rows L2 W0
abbrev sVF : Stmt := top 54
def spVF : Sp := fun vs H Q _ => ∃ (a : Addr) (m wd n : Nat), vs = [.ref a, .int (m : Int), .int (wd : Int)] ∧ Spr H a n ∧ n + 5000 ≤ 1000000 ∧ 1 ≤ m ∧ m ≤ 60 ∧ 1 ≤ wd ∧ wd ≤ 1000 ∧
  ∀ (t p1 p2 p3 : Addr) (qs : List Addr) (ss : List Str) (rs : List (Str × Str)) (ns : List Int) (H' : Hp), Kept a H H' → Spr H' a (n + 1000) → VAt a H' t p1 p2 p3 qs ss rs ns → VOk ss rs ns → ss.length = m → Q (.ref t) H'
theorem scVF : FnScope ["spring", "many", "wide", "names", "way", "roads", "rank", "far", "mate", "name"] ["spring", "many", "wide"] (defScope sVF) := ⟨rfl, rfl, rfl, by decide +kernel, rfl, by decide +kernel, by decide +kernel⟩
theorem at5 {i : Nat} {s : Int} (h0 : 0 ≤ s) (h1 : s < 5) : ∃ x : Int, atI [V.int (1 + (i : Int)), V.int 1, V.int (1 + (i : Int)), V.int (if (2 : Int) < 1 + (i : Int) then 2 else 1 + (i : Int)), V.int (1 + (i : Int))] s = some (.int x) ∧ 1 ≤ x ∧ x ≤ 1 + (i : Int) := by
  have : s = 0 ∨ s = 1 ∨ s = 2 ∨ s = 3 ∨ s = 4 := by omega
  rcases this with rfl | rfl | rfl | rfl | rfl
  · exact ⟨_, rfl, by omega, by omega⟩
  · exact ⟨_, rfl, by omega, by omega⟩
  · exact ⟨_, rfl, by omega, by omega⟩
  · refine ⟨_, rfl, ?_, ?_⟩ <;> split <;> omega
  · exact ⟨_, rfl, by omega, by omega⟩
theorem at_str {ss : List Str} {x : Int} {j : Nat} (e : x = (j : Int)) (hj : j < ss.length) : atI (ss.map V.str) x = some (.str ss[j]) := by
  rw [e]
  exact atI_nat (by rw [List.getElem?_map, List.getElem?_eq_getElem hj]; rfl)
theorem mate1 {K : PySem.W.Frag} {σ : L2.St} {H : Hp} {Q : VK} {ss : List Str} {way far : Int} {i : Nat} {p : Addr} (h3 : σ[3]? = some (some (.ref p))) (h4 : σ[4]? = some (some (.int way))) (h6 : σ[6]? = some (some (.int (1 + (i : Int))))) (h7 : σ[7]? = some (some (.int far)))
    (hp : H p = some (.lst (ss.map V.str))) (f0 : 0 ≤ far) (f1 : far ≤ (i : Int)) (hi : i < ss.length) (q : ∀ j (hj : j < ss.length), j ≤ i → Q (.str ss[j]) H) :
    tIf (tTest (tOp rEq (tVar 4) (tC (V.int 1)))) (tOp (rIxL K) (tVar 3) (tC (V.int 0))) (tIf (tTest (tOp rEq (tVar 4) (tC (V.int 3)))) (tOp (rIxL K) (tVar 3) (tOp (rI0 fun i j => V.int (i - j)) (tOp (rI0 fun i j => V.int (i - j)) (tVar 6) (tC (V.int 1))) (tVar 7))) (tOp (rIxL K) (tVar 3) (tVar 7))) σ H Q := by
  refine ⟨_, h4, rfl, _, rfl, ?_⟩
  refine ite2 (fun _ => ?_) (fun _ => ?_)
  · exact ⟨_, h3, p, _, 0, _, rfl, rfl, SqL.of hp, at_str (j := 0) rfl (by omega), q 0 (by omega) (by omega)⟩
  · refine ⟨_, h4, rfl, _, rfl, ?_⟩
    refine ite2 (fun _ => ?_) (fun _ => ?_)
    · have hj : (1 + (i : Int) - 1 - far).toNat < ss.length := by omega
      exact ⟨_, h3, _, h6, _, _, rfl, rfl, _, h7, _, _, rfl, rfl, p, _, _, _, rfl, rfl, SqL.of hp, at_str (j := (1 + (i : Int) - 1 - far).toNat) (by omega) hj, q _ hj (by omega)⟩
    · have hj : far.toNat < ss.length := by omega
      exact ⟨_, h3, _, h7, p, _, _, _, rfl, rfl, SqL.of hp, at_str (j := far.toNat) (by omega) hj, q _ hj (by omega)⟩
theorem mate2 {K : PySem.W.Frag} {σ : L2.St} {H : Hp} {Q : VK} {ss : List Str} {way : Int} {i j0 : Nat} {p : Addr} (hj0 : j0 < ss.length) (l0 : j0 ≤ i) (h3 : σ[3]? = some (some (.ref p))) (h4 : σ[4]? = some (some (.int way))) (h6 : σ[6]? = some (some (.int (1 + (i : Int))))) (h8 : σ[8]? = some (some (.str ss[j0])))
    (hp : H p = some (.lst (ss.map V.str))) (hi : i < ss.length) (q : ∀ j (hj : j < ss.length), j ≤ i → Q (.str ss[j]) H) :
    tIf (tTest (tOp rEq (tVar 4) (tC (V.int 2)))) (tOp (rIxL K) (tVar 3) (tOp (rI0 fun i j => V.int (i - j)) (tVar 6) (tC (V.int 1)))) (tVar 8) σ H Q := by
  refine ⟨_, h4, rfl, _, rfl, ?_⟩
  refine ite2 (fun _ => ?_) (fun _ => ?_)
  · exact ⟨_, h3, _, h6, _, _, rfl, rfl, p, _, _, _, rfl, rfl, SqL.of hp, at_str (j := i) (by omega) hi, q i hi (Nat.le_refl _)⟩
  · exact ⟨_, h8, q j0 hj0 l0⟩
section
variable {P : Program} {w : World} {K : PySem.W.Frag} {mg : Str → Option Value} {base : Heap} {fD fM fN : Addr} {fdD fdM fdN : FuncData}
theorem ok_VF {f : Addr} {fd : FuncData} (F : Fun K "_law_v_form" "_law_v_form" sVF f fd) (B : Bl mg) (mr : mg "range" = none) (mn : mg "min" = none)
    (G : FnOk P w K mg base CX0 1 fD fdD ["spring", "many"] spDraw) (b : Binds K fdD ["spring", "many"] []) (k : PySem.W.keepIn K (.ref fD) = true) (m : mg "_law_draw" = some (.ref fD))
    (GM : FnOk P w K mg base CX0 2 fM fdM ["spring", "some"] spMixed) (bM : Binds K fdM ["spring", "some"] []) (kM : PySem.W.keepIn K (.ref fM) = true) (mM : mg "_law_mixed" = some (.ref fM))
    (GN : FnOk P w K mg base CX0 3 fN fdN ["spring", "many"] spVN) (bN : Binds K fdN ["spring", "many"] []) (kN : PySem.W.keepIn K (.ref fN) = true) (mN : mg "_law_v_names" = some (.ref fN)) :
    FnOk P w K mg base CX0 4 f fd ["spring", "many", "wide"] spVF := by
  refine F.ok scVF (fun vs H Q E h => ?_) (fun cdv A outer s H vs Q E hr h => ?_)
  · obtain ⟨a, m, wd, n, rfl, _⟩ := h
    rfl
  obtain ⟨a, mm, wd, n, rfl, hs, hn, hm1, hm, hw1, hw, q⟩ := h
  have nd := scVF.nd
  have hr1 : Room 1 _ := hr.mono (by decide)
  have hr2 : Room 2 _ := hr.mono (by decide)
  refine ⟨_, (pss_cons (by exact (ps_par (i := 3) (j := 4) rfl nd rfl rfl (by decide) rfl rfl (pa_cons (pe_call GN hr rfl mN kN bN .nil pass0 (pa_cons (pv 0) (pa_cons (pv 1) pa_nil))) (pa_cons (pe_call G hr1 rfl m k b .nil pass0 (pa_cons (pv 0) (pa_cons pe_int pa_nil))) pa_nil)) (by rfl)))
  (pss_cons (by exact (ps_set (i := 5) nd rfl (.inl rfl) (pe_lst pa_nil)))
  (pss_cons (by exact (ps_for PassesOwn.never rfl (by exact pi_range2 rfl mr (pa_cons pe_int (pa_cons (pv 1) pa_nil))) (pg_name (i := 6) nd rfl (.inl rfl)) (pss_cons (by exact (ps_set (i := 7) nd rfl (.inl rfl) (pe_call G hr1 rfl m k b .nil pass0 (pa_cons (pv 0) (pa_cons (pe_ix ix_list (pe_lst (pa_cons (pv 6) (pa_cons pe_int (pa_cons (pv 6) (pa_cons (pe_callB (call_min2 rfl) rfl mn (by decide +kernel) (pa_cons (pv 6) (pa_cons pe_int pa_nil))) (pa_cons (pv 6) pa_nil)))))) (pv 4) (fun _ _ => rfl)) pa_nil)))))
  (pss_cons (by exact (ps_set (i := 8) nd rfl (.inl rfl) (pe_ifExp (pt_cmpR op_eq (pv 4) pe_int (nomark _)) (pe_ix ix_list (pv 3) pe_int (fun _ _ => rfl)) (pe_ifExp (pt_cmpR op_eq (pv 4) pe_int (nomark _)) (pe_ix ix_list (pv 3) (pe_op op_sub (pe_op op_sub (pv 6) pe_int) (pv 7)) (fun _ _ => rfl)) (pe_ix ix_list (pv 3) (pv 7) (fun _ _ => rfl))))))
  (pss_cons (by exact (ps_set (i := 8) nd rfl (.inl rfl) (pe_ifExp (pt_cmpR op_eq (pv 4) pe_int (nomark _)) (pe_ix ix_list (pv 3) (pe_op op_sub (pv 6) pe_int) (fun _ _ => rfl)) (pv 8))))
  (pss_one (by exact (ps_expr (pe_bm PySem.F.plainAttrs_list PySem.F.slot_list_append PySem.F.type_list_append mt_append (pv 5) (pa_cons (pe_ifExp (pt_cmpR op_eq (pe_call G hr1 rfl m k b .nil pass0 (pa_cons (pv 0) (pa_cons pe_int pa_nil))) pe_int (nomark _)) (pe_tup (pa_cons (pe_ix ix_list (pv 3) (pv 6) (fun _ _ => rfl)) (pa_cons (pv 8) pa_nil))) (pe_tup (pa_cons (pv 8) (pa_cons (pe_ix ix_list (pv 3) (pv 6) (fun _ _ => rfl)) pa_nil)))) pa_nil))))))))))
  (pss_one (by exact (ps_ret (pe_lst (pa_cons (pe_call GM hr2 rfl mM kM bM .nil pass0 (pa_cons (pv 0) (pa_cons (pv 3) pa_nil))) (pa_cons (pe_call GM hr2 rfl mM kM bM .nil pass0 (pa_cons (pv 0) (pa_cons (pv 5) pa_nil))) (pa_cons (pe_lc (own := [("name", 9)]) (g := gName 9) (tt := tYes) (te := _) rfl nd (by exact pi_list (pv 3)) (by exact blkOk_by (N := ["spring", "many", "wide", "names", "way", "roads", "rank", "far", "mate", "name"]) (sc := defScope sVF) (by decide +kernel)) (fun _ _ _ _ _ => by exact (pg_name (i := 9) nd rfl (.inl rfl))) (fun _ _ _ _ _ => by exact pts_nil) (fun _ _ _ _ _ => by exact (pe_op op_add pe_int (pe_call G hr1 rfl m k b .nil pass0 (pa_cons (pv 0) (pa_cons (pv 2) pa_nil)))))) pa_nil)))))))))), ?_⟩
  refine ⟨_, rfl, _, rfl, a, mm, n, rfl, hs, by omega, hm1, hm, fun p ss0 H1 p0 pa k1 s1 hp ⟨good, nob⟩ g1 => ?_⟩
  refine ⟨_, rfl, a, 5, _, rfl, s1, by omega, by decide, by decide, fun way H2 w0 w1 k2 s2 => ?_⟩
  have k13 := k2
  have s3 := s2
  have hp3 := k2 _ _ pa hp
  refine ⟨_, _, rfl, ?_⟩
  refine ⟨Nat.zero_le _, fun L hL => ?_⟩
  refine K1.gN ?_
  have La := s3.ne hL
  have pL := ne_of_none hp3 hL
  have k03 := k1.trans k13
  have LH := fr_kept k03 hL La
  refine ⟨_, rfl, _, _, rfl, ⟨by decide, by decide, by omega, by omega⟩, ?_⟩
  have hN : (((mm : Nat) : Int) - 1).toNat = mm - 1 := by omega
  rw [hN]
  refine for_range (lo := 1) (n := mm - 1) (fun i σ Hc => (∃ x6 x7 x8, σ = [some (.ref a), some (.int (mm : Int)), some (.int (wd : Int)), some (.ref p), some (.int way), some (.ref L), x6, x7, x8, none]) ∧ Kept a H2 Hc ∧ Spr Hc a (n + 61 + 3 * i) ∧ Hc p = some (.lst (ss0.map V.str)) ∧ ∃ qs rs, Hc L = some (.lst (qs.map V.ref)) ∧ Paired (TupP Hc) qs rs ∧ Cut rs ∧ EndsIn (ss0.take (i + 1)) rs ∧ rs.length = i) ?_ ?_ ?_
  · exact ⟨⟨_, _, _, rfl⟩, Kept.new hL, (s3.upd La).mono (by omega), by rw [upd_ne pL]; exact hp3, [], [], upd_same, .nil, Cut.nil, fun r hr => absurd hr (by simp), rfl⟩
  · rintro i σ Hc hi ⟨⟨x6, x7, x8, rfl⟩, c1, sc, cp, qs, rs, gL, pr, cut, ends, lrs⟩
    have i59 : i < 60 := by omega
    have hik : i + 1 < ss0.length := by omega
    have hi0 : i < ss0.length := by omega
    refine K1.gN ?_
    refine ⟨_, rfl, ?_⟩
    dsimp only
    refine cons_run ⟨_, rfl, _, rfl, _, rfl, _, _, rfl, _, rfl, (by show 5 ≤ sizeLine; decide), fun l4 hl4 => ?_⟩
    obtain ⟨x5, e5, p5, o5⟩ := at5 (i := i) w0 w1
    have l4a := sc.ne hl4
    have hL4 : Kept a Hc (L2.upd Hc l4 (.lst [V.int (1 + (i : Int)), V.int 1, V.int (1 + (i : Int)), V.int (if (2 : Int) < 1 + (i : Int) then 2 else 1 + (i : Int)), V.int (1 + (i : Int))])) := Kept.new hl4
    have sc4 : Spr (L2.upd Hc l4 (.lst [V.int (1 + (i : Int)), V.int 1, V.int (1 + (i : Int)), V.int (if (2 : Int) < 1 + (i : Int) then 2 else 1 + (i : Int)), V.int (1 + (i : Int))])) a (n + 61 + 3 * i) := sc.upd l4a
    refine ⟨_, rfl, l4, _, way, _, rfl, rfl, SqL.of upd_same, e5, ?_⟩
    generalize L2.upd Hc l4 (.lst [V.int (1 + (i : Int)), V.int 1, V.int (1 + (i : Int)), V.int (if (2 : Int) < 1 + (i : Int) then 2 else 1 + (i : Int)), V.int (1 + (i : Int))]) = H4 at hL4 sc4 ⊢
    refine ⟨a, x5, _, rfl, sc4, by omega, by omega, Nat.lt_of_le_of_lt (show x5.natAbs ≤ 100 by omega) (by decide), fun far H5 f0 f1 k5 s5 => ?_⟩
    refine K1.gN ?_
    have k45 := hL4.trans k5
    have hp5 := k45 _ _ pa cp
    refine mate1 (ss := ss0) (way := way) (far := far) (i := i) (p := p) rfl rfl rfl rfl hp5 f0 (by omega) hi0 fun j1 hj1 lj1 => ?_
    refine K1.gN ?_
    refine mate2 (ss := ss0) (way := way) (i := i) (j0 := j1) (p := p) hj1 lj1 rfl rfl rfl rfl hp5 hi0 fun j hj lj => ?_
    refine K1.gN ?_
    have gL5 := k45 _ _ La gL
    refine ⟨_, rfl, .inl ⟨rfl, _, SqL.of gL5⟩, ?_⟩
    dsimp only
    refine cons_run ⟨_, rfl, a, 2, _, rfl, s5, by omega, by decide, by decide, fun d6 H6 d60 d61 k6 s6 => ⟨rfl, _, rfl, ?_⟩⟩
    have k46 := k45.trans k6
    have hp6 := k46 _ _ pa cp
    have gL6 := k46 _ _ La gL
    have pr6 := TupP.kept pr sc k46
    have nv : ¬ ss0[i + 1] ∈ ss0.take (i + 1) := nodup_take_not good.1 hik
    have mv : ss0[j] ∈ ss0.take (i + 1) := List.mem_take_iff_getElem.mpr ⟨j, by omega, rfl⟩
    have ends2 : ∀ r ∈ rs, r.1 ≠ ss0[i + 1] ∧ r.2 ≠ ss0[i + 1] := fun r hr => ⟨fun z => nv (by rw [← z]; exact (ends r hr).1), fun z => nv (by rw [← z]; exact (ends r hr).2)⟩
    have huv : ss0[j] ≠ ss0[i + 1] := fun z => nv (by rw [← z]; exact mv)
    have up1 : ∀ s ∈ ss0.take (i + 1), s ∈ ss0.take (i + 1 + 1) := fun s hs => (mem_take_succ hik).mpr (.inl hs)
    have lq : qs.length = rs.length := pr.length
    have ek : atI (ss0.map V.str) (1 + (i : Int)) = some (.str ss0[i + 1]) := at_str (j := i + 1) (by omega) hik
    have fin : ∀ (t : Addr) (e0 : Str × Str), (e0 = (ss0[j], ss0[i + 1]) ∨ e0 = (ss0[i + 1], ss0[j])) → H6 t = none →
        ∃ l xs y, V.ref L = .ref l ∧ [V.ref t] = [y] ∧ L2.upd H6 t (.tup [.str e0.1, .str e0.2]) l = some (.lst xs) ∧ xs.length < sizeLine ∧ ((∃ x6 x7 x8, ([some (.ref a), some (.int (mm : Int)), some (.int (wd : Int)), some (.ref p), some (.int way), some (.ref L), some (.int (1 + (i : Int))), some (.int far), some (.str ss0[j]), none] : L2.St) = [some (.ref a), some (.int (mm : Int)), some (.int (wd : Int)), some (.ref p), some (.int way), some (.ref L), x6, x7, x8, none]) ∧
          Kept a H2 (L2.upd (L2.upd H6 t (.tup [.str e0.1, .str e0.2])) l (.lst (xs ++ [y]))) ∧ Spr (L2.upd (L2.upd H6 t (.tup [.str e0.1, .str e0.2])) l (.lst (xs ++ [y]))) a (n + 61 + 3 * (i + 1)) ∧ L2.upd (L2.upd H6 t (.tup [.str e0.1, .str e0.2])) l (.lst (xs ++ [y])) p = some (.lst (ss0.map V.str)) ∧
          ∃ qs rs, L2.upd (L2.upd H6 t (.tup [.str e0.1, .str e0.2])) l (.lst (xs ++ [y])) L = some (.lst (qs.map V.ref)) ∧ Paired (TupP (L2.upd (L2.upd H6 t (.tup [.str e0.1, .str e0.2])) l (.lst (xs ++ [y])))) qs rs ∧ Cut rs ∧ EndsIn (ss0.take (i + 1 + 1)) rs ∧ rs.length = i + 1) := by
      intro t e0 he ht
      have ta := s6.ne ht
      have tL : t ≠ L := (ne_of_none gL6 ht).symm
      have e7 := K1.Same.upd (H := H6) (p := t) (o := .tup [.str e0.1, .str e0.2]) ht
      have g7 := upd_same' H6 t (.tup [.str e0.1, .str e0.2])
      have s7 := s6.upd (o := .tup [.str e0.1, .str e0.2]) ta
      generalize L2.upd H6 t (.tup [.str e0.1, .str e0.2]) = H7 at e7 g7 s7 ⊢
      have gL7 := e7 _ _ gL6
      have pr7 := TupP.ext pr6 e7
      have kx : Kept a H2 H7 := c1.trans (k46.trans (Kept.same e7))
      have keepT : ∀ q r, TupP H7 q r → TupP (L2.upd H7 L (.lst (qs.map V.ref ++ [.ref t]))) q r := fun q r e => by
        have ne : q ≠ L := fun z => by
          have e' : H7 q = _ := e
          rw [z, gL7] at e'
          cases e'
        show L2.upd H7 L _ q = _
        rw [upd_ne ne]
        exact e
      refine ⟨L, _, _, rfl, rfl, gL7, by rw [List.length_map]; exact small1000 (by omega), ⟨_, _, _, rfl⟩, fun b o nb e => ?_, (s7.upd La).mono (by omega), by rw [upd_ne pL]; exact e7 _ _ hp6, qs ++ [t], rs ++ [e0], ?_, ?_, cut.add ends2 huv he, fun r hr => ?_, by rw [List.length_append, lrs]; rfl⟩
      · rw [upd_ne (ne_of_none e hL)]
        exact kx b o nb e
      · rw [upd_same, List.map_append]
        rfl
      · exact paired_snoc (paired_imp (fun _ _ q => keepT _ _ q) pr7) (keepT _ _ g7)
      · rcases List.mem_append.mp hr with hr | hr
        · exact ⟨up1 _ (ends r hr).1, up1 _ (ends r hr).2⟩
        · rw [List.mem_singleton.mp hr]
          have m2 : ss0[i + 1] ∈ ss0.take (i + 1 + 1) := (mem_take_succ hik).mpr (.inr rfl)
          rcases he with rfl | rfl
          · exact ⟨up1 _ mv, m2⟩
          · exact ⟨m2, up1 _ mv⟩
    refine ite2 (fun cc => ?_) (fun cc => ?_)
    · exact ⟨_, rfl, _, rfl, p, _, _, _, rfl, rfl, SqL.of hp6, ek, _, rfl, (by show 2 ≤ sizeLine; decide), fun t ht => fin t (ss0[i + 1], ss0[j]) (.inr rfl) ht⟩
    · exact ⟨_, rfl, _, rfl, _, rfl, p, _, _, _, rfl, rfl, SqL.of hp6, ek, (by show 2 ≤ sizeLine; decide), fun t ht => fin t (ss0[j], ss0[i + 1]) (.inl rfl) ht⟩
  · rintro σ Hc ⟨⟨x6, x7, x8, rfl⟩, c1, sc, cp, qs, rs, gL, pr, cut, ends, lrs⟩
    have l0 : rs.length + 1 = mm := by omega
    have take0 : EndsIn ss0 rs := fun r hr => ⟨List.mem_of_mem_take (ends r hr).1, List.mem_of_mem_take (ends r hr).2⟩
    have lq : qs.length = rs.length := pr.length
    have k0c : Kept a H Hc := k03.trans c1
    refine ⟨_, rfl, _, rfl, a, p, ss0.map V.str, _, rfl, sc, by omega, cp, pa, by rw [List.length_map]; omega, fun r1 ys H4 pm rn1 ra1 hr1' k4 s4 => ?_⟩
    rw [List.length_map] at s4
    obtain ⟨ss, rfl, ps⟩ := perm_str pm
    have lss := ps.length_eq
    have cp4 := k4 _ _ pa cp
    have gL4 := k4 _ _ La gL
    dsimp only
    refine cons_run ⟨_, rfl, _, rfl, a, L, qs.map V.ref, _, rfl, s4, by omega, gL4, La, by rw [List.length_map]; omega, fun r2 ys2 H5 pm2 rn2 ra2 hr2' k5 s5 => ?_⟩
    rw [List.length_map] at s5
    obtain ⟨qs', rs', rfl, pq', prs', pr5⟩ := paired_perm (TupP.kept pr sc (k4.trans k5)) pm2
    have lrs' := prs'.length_eq
    have cp5 := k5 _ _ pa cp4
    have g15 := k5 _ _ ra1 hr1'
    refine cons_run ⟨_, rfl, p, rfl, ⟨_, SqL.of cp5⟩, fun D hD => ?_⟩
    have Da := s5.ne hD
    refine lc_it (Qd := _) walk_list (fun i Hd => Kept a H5 Hd ∧ Spr Hd a (n + 400 + i) ∧ ∃ ns : List Int, Hd D = some (.lst (ns.map V.int)) ∧ ns.length = i ∧ ∀ z ∈ ns, 1 ≤ z) ⟨Kept.new hD, (s5.upd Da).mono (by omega), [], upd_same, rfl, fun z hz => absurd hz (by simp)⟩ (fun i Hd _ h => SqL.of (h.1 _ _ pa cp5)) ?_ ?_
    · rintro i y Hd H' hi ⟨d1, d2, ns, d3, d4, d5⟩ ⟨rfl, hy⟩
      rw [List.length_map] at hi
      refine ⟨rfl, ?_⟩
      unfold tYes
      refine iteT ?_
      refine ⟨_, rfl, _, rfl, a, (wd : Int), _, rfl, d2, by omega, by omega, Nat.lt_of_le_of_lt (show (wd : Int).natAbs ≤ 1000 by omega) (by decide), fun d H6 e0 e1 k6 s6 => ?_⟩
      have d3' := k6 _ _ Da d3
      refine ⟨_, _, rfl, rfl, _, d3', by rw [List.length_map]; exact small1000 (by omega), fun b o nb e => ?_, (s6.upd Da).mono (by omega), ns ++ [1 + d], by rw [upd_same, List.map_append]; rfl, by rw [List.length_append, d4]; rfl, fun z hz => ?_⟩
      · rw [upd_ne (ne_of_none e hD)]
        exact k6 b o nb (d1 b o nb e)
      · rcases List.mem_append.mp hz with hz | hz
        · exact d5 z hz
        · rw [List.mem_singleton.mp hz]
          omega
    · rintro Hd ⟨d1, d2, ns, d3, d4, d5⟩
      rw [List.length_map] at d4
      refine ⟨(by show 3 ≤ sizeLine; decide), fun t ht => ?_⟩
      have ta := d2.ne ht
      have kk : Kept a Hd (L2.upd Hd t (.lst [.ref r1, .ref r2, .ref D])) := Kept.new ht
      refine q t r1 r2 D qs' ss rs' ns _ (k0c.trans (k4.trans (k5.trans (d1.trans kk)))) ((d2.upd ta).mono (by rw [List.length_map]; omega))
        ⟨upd_same, kk _ _ ra1 (d1 _ _ ra1 g15), kk _ _ ra2 (d1 _ _ ra2 hr2'), TupP.kept pr5 s5 (d1.trans kk), kk _ _ Da d3, ta, ra1, ra2, Da⟩
        ⟨good.perm ps, by omega, by omega, cut.perm prs', fun r hr => ⟨ps.mem_iff.mpr (take0 r (prs'.mem_iff.mp hr)).1, ps.mem_iff.mpr (take0 r (prs'.mem_iff.mp hr)).2⟩, by omega, by omega, d5, nob.perm ps⟩ (by omega)
end
end K1
end
-- WSame
section
set_option Elab.async false
set_option linter.all false
set_option maxRecDepth 100000
set_option maxHeartbeats 1000000
namespace K1
open PySem PySem.Spec PyProof.Rows L2 W0
abbrev sSm : Stmt := top 51
abbrev RelE := Hp → V → V → Prop
def MonE (R : RelE) : Prop := ∀ H H' x y, Same H H' → R H x y → R H' x y
def FlatE : RelE := fun _ x y => x = y ∧ ((∃ i, x = .int i) ∨ (∃ b, x = .bl b) ∨ ∃ s, x = .str s)
def SeqE (R : RelE) : RelE := fun H x y => ∃ p q xs ys, x = .ref p ∧ y = .ref q ∧ ((H p = some (.lst xs) ∧ H q = some (.lst ys)) ∨ (H p = some (.tup xs) ∧ H q = some (.tup ys))) ∧ xs.length ≤ 100 ∧ Paired (R H) xs ys
def NextE (R : RelE) : RelE := fun H x y => FlatE H x y ∨ SeqE R H x y
theorem SeqE.mon {R : RelE} (m : MonE R) : MonE (SeqE R) := fun H H' x y e ⟨p, q, xs, ys, a, b, c, d, f⟩ => ⟨p, q, xs, ys, a, b, c.imp (fun c => ⟨e _ _ c.1, e _ _ c.2⟩) (fun c => ⟨e _ _ c.1, e _ _ c.2⟩), d, paired_imp (fun _ _ r => m _ _ _ _ e r) f⟩
theorem NextE.mon {R : RelE} (m : MonE R) : MonE (NextE R) := fun H H' x y e h => h.imp id (SeqE.mon m H H' x y e)
def spSm (R : RelE) : Sp := fun vs H Q _ => ∃ x y, vs = [x, y] ∧ R H x y ∧ ∀ H', Same H H' → Q (.bl true) H'
theorem scSm : FnScope ["found", "due", "one", "other"] ["found", "due"] (defScope sSm) := ⟨rfl, rfl, rfl, by decide +kernel, rfl, by decide +kernel, by decide +kernel⟩
theorem walk_zipT {K : PySem.W.Frag} {a b : Addr} {xs ys : List V} {n : Nat} (hn : n = min xs.length ys.length) : Walk (RZ.ItzT K a b) n (fun H => SqT K H a xs ∧ SqT K H b ys) (YPair (fun i => xs[i]?) (fun i => ys[i]?)) := by
  subst hn
  refine ⟨fun i _ hi q => ?_, fun _ q => ⟨xs, ys, q.1, q.2, by omega⟩, fun i H v H' _ q y => ?_⟩
  · have z1 : i < xs.length := by omega
    have z2 : i < ys.length := by omega
    exact ⟨xs, ys, xs[i], ys[i], q.1, q.2, by simp [z1], by simp [z2]⟩
  · obtain ⟨T, x, z, e1, e2, e3, e4, e5⟩ := y
    exact ⟨T, x, z, e1, e2, e3, e4 xs q.1, e5 ys q.2⟩
theorem kit_dlt {K : PySem.W.Frag} {t : String} (h : t = "int" ∨ t = "bool" ∨ t = "str") : PySem.W.kitAny K (.type t) [.type "dict", .type "list", .type "tuple"] = some false := by
  unfold PySem.W.kitAny
  rcases h with rfl | rfl | rfl
  · rw [kit_dict (t := "int") (by decide)]; exact kit_seq (t := "int") (by decide)
  · rw [kit_dict (t := "bool") (by decide)]; exact kit_seq (t := "bool") (by decide)
  · rw [kit_dict (t := "str") (by decide)]; exact kit_seq (t := "str") (by decide)
section
variable {P : Program} {w : World} {K : PySem.W.Frag} {mg : Str → Option Value} {base : Heap}
theorem ok_sm_none {f : Addr} {fd : FuncData} : FnOk P w K mg base CX0 0 f fd ["found", "due"] (spSm fun _ _ _ => False) := by
  have no : ∀ vs H Q E, ¬ spSm (fun _ _ _ => False) vs H Q E := fun vs H Q E h => by
    obtain ⟨x, y, _, h, _⟩ := h
    exact h
  exact ⟨fun vs H Q E h => absurd h (no vs H Q E), fun A outer s H args us vs Q E _ _ _ _ h => absurd h (no vs H Q E)⟩
end
def FlatF : RelE := fun _ x y => x = y ∧ ((∃ i, x = .int i) ∨ (∃ b, x = .bl b) ∨ (∃ s, x = .str s) ∨ x = .non)
/-- two dicts that hold the same, whose items are the same by R -/
def DctE (R : RelE) : RelE := fun H x y => ∃ p q kvs, x = .ref p ∧ y = .ref q ∧ H p = some (.dK kvs) ∧ H q = some (.dK kvs) ∧
  ∀ H' a b as bs, Same H H' → H' a = some (.lst (as.map V.ref)) → H' b = some (.lst (bs.map V.ref)) → Paired (fun (t : Addr) (e : Key × V) => H' t = some (.tup [kV e.1, e.2])) as kvs → Paired (fun (t : Addr) (e : Key × V) => H' t = some (.tup [kV e.1, e.2])) bs kvs → R H' (.ref a) (.ref b)
def NextF (R : RelE) : RelE := fun H x y => FlatF H x y ∨ SeqE R H x y ∨ DctE R H x y
theorem NextF.mon {R : RelE} (m : MonE R) : MonE (NextF R) := fun H H' x y e h => h.imp id fun h => h.imp (SeqE.mon m H H' x y e) fun ⟨p, q, kvs, a, b, c, d, f⟩ => ⟨p, q, kvs, a, b, e _ _ c, e _ _ d, fun H2 a b as bs e2 => f H2 a b as bs (e.trans e2)⟩
theorem kit_dlf {K : PySem.W.Frag} {t : String} (h : t = "int" ∨ t = "bool" ∨ t = "str" ∨ t = "NoneType") : PySem.W.kitAny K (.type t) [.type "dict", .type "list", .type "tuple"] = some false := by
  unfold PySem.W.kitAny
  rcases h with rfl | rfl | rfl | rfl
  · rw [kit_dict (t := "int") (by decide)]; exact kit_seq (t := "int") (by decide)
  · rw [kit_dict (t := "bool") (by decide)]; exact kit_seq (t := "bool") (by decide)
  · rw [kit_dict (t := "str") (by decide)]; exact kit_seq (t := "str") (by decide)
  · rw [kit_dict (t := "NoneType") (by decide)]; exact kit_seq (t := "NoneType") (by decide)
section
variable {P : Program} {w : World} {K : PySem.W.Frag} {mg : Str → Option Value} {base : Heap}
theorem ok_smF {R : RelE} {k : Nat} {f : Addr} {fd : FuncData} (mon : MonE R) (F : Fun K "_law_same" "_law_same" sSm f fd) (B : Bl mg) (mz : mg "zip" = none) (mF : mg "_law_same" = some (.ref f)) (b : Binds K fd ["found", "due"] [])
    (G : FnOk P w K mg base CX0 k f fd ["found", "due"] (spSm R)) : FnOk P w K mg base CX0 (k + 1) f fd ["found", "due"] (spSm (NextF R)) := by
  refine F.ok scSm (fun vs H Q E h => ?_) (fun cdv A outer s H vs Q E hr h => ?_)
  · obtain ⟨x, y, rfl, _⟩ := h
    rfl
  obtain ⟨x, y, rfl, h, q⟩ := h
  have nd := scSm.nd
  refine ⟨_, (pss_cons (by exact (ps_if (pt_val (pe_callB call_isi rfl B.isi PyProof.Rows.boot_isinstance (pa_cons (pv 1) (pa_cons (pe_bltn (v := .ty "dict") rfl B.dict PyProof.Rows.boot_dict rfl) pa_nil)))) (pss_one (by exact (ps_ret (pe_and (pe_callB call_isi rfl B.isi PyProof.Rows.boot_isinstance (pa_cons (pv 0) (pa_cons (pe_bltn (v := .ty "dict") rfl B.dict PyProof.Rows.boot_dict rfl) pa_nil))) (pe_one (pe_call G hr rfl mF F.kp b .nil pass0 (pa_cons (LiI.pe_listItems rfl (pv 0) rfl B.list PyProof.Rows.boot_list) (pa_cons (LiI.pe_listItems rfl (pv 1) rfl B.list PyProof.Rows.boot_list) pa_nil)))))))) pss_nil)) (pss_cons (by exact (ps_if (pt_val (pe_callB call_isiT rfl B.isi PyProof.Rows.boot_isinstance (pa_cons (pv 1) (pa_cons (pe_tup (pa_cons (pe_bltn (v := .ty "list") rfl B.list PyProof.Rows.boot_list rfl) (pa_cons (pe_bltn (v := .ty "tuple") rfl B.tuple PyProof.Rows.boot_tuple rfl) pa_nil))) pa_nil)))) (pss_cons (by exact (ps_if (PW.pt (pw_or (pt_cmpR op_ne (pe_callB call_isi rfl B.isi PyProof.Rows.boot_isinstance (pa_cons (pv 0) (pa_cons (pe_bltn (v := .ty "list") rfl B.list PyProof.Rows.boot_list rfl) pa_nil))) (pe_callB call_isi rfl B.isi PyProof.Rows.boot_isinstance (pa_cons (pv 1) (pa_cons (pe_bltn (v := .ty "list") rfl B.list PyProof.Rows.boot_list rfl) pa_nil))) (nomark _)) (pw_or1 (pt_cmpR op_ne (pe_callB call_isi rfl B.isi PyProof.Rows.boot_isinstance (pa_cons (pv 0) (pa_cons (pe_bltn (v := .ty "tuple") rfl B.tuple PyProof.Rows.boot_tuple rfl) pa_nil))) (pe_callB call_isi rfl B.isi PyProof.Rows.boot_isinstance (pa_cons (pv 1) (pa_cons (pe_bltn (v := .ty "tuple") rfl B.tuple PyProof.Rows.boot_tuple rfl) pa_nil))) (nomark _))))) (pss_one (by exact (ps_ret pe_bl))) pss_nil)) (pss_one (by exact (ps_ret (pe_and (pe_cmpR op_eq (pe_callB call_len_seq rfl B.len PySem.boot_len (pa_cons (pv 0) pa_nil)) (pe_callB call_len_seq rfl B.len PySem.boot_len (pa_cons (pv 1) pa_nil)) (nomark _)) (pe_one (pe_callB (cr_all rfl) rfl B.all PyProof.Rows.boot_all (pa_cons (pe_lc (own := [("one", 2), ("other", 3)]) (g := gTup K 2 (gCons (gName 2) (gCons (gName 3) gNil))) (tt := tYes) (te := tCall (spSm R) [] E0 (tCons (tVar 2) (tCons (tVar 3) tNil))) rfl nd (by exact RZ.pi_zipA rfl mz (pa_cons (pv 0) (pa_cons (pv 1) pa_nil))) (by exact blkOk_by (N := ["found", "due", "one", "other"]) (sc := defScope sSm) (by decide +kernel)) (fun _ _ _ _ _ => by exact (pg_tup rfl (pgs_cons (pg_name (i := 2) nd rfl (.inl rfl)) (pgs_cons (pg_name (i := 3) nd rfl (.inl rfl)) pgs_nil)))) (fun _ _ _ _ _ => by exact pts_nil) (fun _ _ _ _ _ => by exact (pe_call G hr rfl mF F.kp b .nil pass0 (pa_cons (pv 2) (pa_cons (pv 3) pa_nil))))) pa_nil)))))))) pss_nil)) (pss_cons (by exact (ps_if (PW.pt (pw_or (pt_val (pe_callB call_isiT rfl B.isi PyProof.Rows.boot_isinstance (pa_cons (pv 0) (pa_cons (pe_tup (pa_cons (pe_bltn (v := .ty "dict") rfl B.dict PyProof.Rows.boot_dict rfl) (pa_cons (pe_bltn (v := .ty "list") rfl B.list PyProof.Rows.boot_list rfl) (pa_cons (pe_bltn (v := .ty "tuple") rfl B.tuple PyProof.Rows.boot_tuple rfl) pa_nil)))) pa_nil)))) (pw_or1 (pt_cmpR op_ne (pe_callB call_isi rfl B.isi PyProof.Rows.boot_isinstance (pa_cons (pv 0) (pa_cons (pe_bltn (v := .ty "bool") rfl B.bool PyProof.Rows.boot_bool rfl) pa_nil))) (pe_callB call_isi rfl B.isi PyProof.Rows.boot_isinstance (pa_cons (pv 1) (pa_cons (pe_bltn (v := .ty "bool") rfl B.bool PyProof.Rows.boot_bool rfl) pa_nil))) (nomark _))))) (pss_one (by exact (ps_ret pe_bl))) pss_nil)) (pss_one (by exact (ps_ret (pe_cmpR op_eq (pv 0) (pv 1) (nomark _)))))))), ?_⟩
  rcases h with ⟨rfl, fl⟩ | ⟨p, r, xs, ys, rfl, rfl, kinds2, hl, pr⟩ | ⟨p, r, kvs, rfl, rfl, dp, dr, hD⟩
  · obtain ⟨t, ty, tk⟩ : ∃ t, TyOf K H x (.type t) ∧ (t = "int" ∨ t = "bool" ∨ t = "str" ∨ t = "NoneType") := by
      rcases fl with ⟨i, rfl⟩ | ⟨i, rfl⟩ | ⟨i, rfl⟩ | rfl
      · exact ⟨"int", .int i, .inl rfl⟩
      · exact ⟨"bool", .bl i, .inr (.inl rfl)⟩
      · exact ⟨"str", .str i, .inr (.inr (.inl rfl))⟩
      · exact ⟨"NoneType", .non, .inr (.inr (.inr rfl))⟩
    have kt : t ∈ kinds := by rcases tk with rfl | rfl | rfl | rfl <;> decide
    have nD : decide (t = "dict") = false := by rcases tk with rfl | rfl | rfl | rfl <;> decide
    have nS : isSeqT t = false := by rcases tk with rfl | rfl | rfl | rfl <;> decide
    have tx : ∀ {Hx}, TyX K Hx x (.type t) := fun {Hx} => by
      rcases fl with ⟨i, rfl⟩ | ⟨i, rfl⟩ | ⟨i, rfl⟩ | rfl <;> cases ty
      · exact .base (.int i)
      · exact .base (.bl i)
      · exact .base (.str i)
      · exact .base .non
    refine ⟨_, rfl, x, _, _, _, _, rfl, .ty "dict", tx, kit_dict kt, _, rfl, ?_⟩
    rw [nD]
    refine iteF ?_
    refine ⟨_, rfl, (by show 2 ≤ sizeLine; decide), fun u1 hu1 => ?_⟩
    refine ⟨x, u1, _, _, _, _, rfl, upd_same, .cons (.ty "list") (.cons (.ty "tuple") .nil), tx, kit_seq kt, _, rfl, ?_⟩
    rw [nS]
    refine iteF ?_
    have e1 := K1.Same.upd (H := H) (p := u1) (o := .tup [.ty "list", .ty "tuple"]) hu1
    refine ⟨_, rfl, (by show 3 ≤ sizeLine; decide), fun u2 hu2 => ?_⟩
    refine ⟨x, u2, _, _, _, _, rfl, upd_same, .cons (.ty "dict") (.cons (.ty "list") (.cons (.ty "tuple") .nil)), tx, kit_dlf tk, _, rfl, ?_⟩
    refine iteF ?_
    have e2 := e1.trans (K1.Same.upd (o := .tup [.ty "dict", .ty "list", .ty "tuple"]) hu2)
    refine ⟨_, rfl, x, _, _, _, _, rfl, .ty "bool", tx, kit_bool kt, _, rfl, x, _, _, _, _, rfl, .ty "bool", tx, kit_bool kt, rfl, _, rfl, ?_⟩
    rw [decide_eq_true rfl]
    refine iteF ?_
    have fin : Q (.bl true) _ := q _ e2
    rcases fl with ⟨i, rfl⟩ | ⟨i, rfl⟩ | ⟨i, rfl⟩ | rfl
    · refine ⟨_, rfl, _, rfl, rfl, ?_⟩
      rw [decide_eq_true rfl]
      exact fin
    · refine ⟨_, rfl, _, rfl, rfl, ?_⟩
      rw [decide_eq_true rfl]
      exact fin
    · refine ⟨_, rfl, _, rfl, rfl, ?_⟩
      rw [decide_eq_true rfl]
      exact fin
    · refine ⟨_, rfl, _, rfl, rfl, ?_⟩
      rw [decide_eq_true rfl]
      exact fin
  · obtain ⟨t, kt, nD, nS, tx, ty⟩ : ∃ t, t ∈ kinds ∧ decide (t = "dict") = false ∧ isSeqT t = true ∧ (∀ Hx, Same H Hx → TyX K Hx (.ref p) (.type t)) ∧ (∀ Hx, Same H Hx → TyX K Hx (.ref r) (.type t)) := by
      rcases kinds2 with ⟨h1, h2⟩ | ⟨h1, h2⟩
      · exact ⟨"list", by decide, by decide, by decide, fun Hx e => .base (.lst (e _ _ h1)), fun Hx e => .base (.lst (e _ _ h2))⟩
      · exact ⟨"tuple", by decide, by decide, by decide, fun Hx e => .base (.tup (e _ _ h1)), fun Hx e => .base (.tup (e _ _ h2))⟩
    refine ⟨_, rfl, _, _, _, _, _, rfl, .ty "dict", ty _ (Same.refl _), kit_dict kt, _, rfl, ?_⟩
    rw [nD]
    refine iteF ?_
    refine ⟨_, rfl, (by show 2 ≤ sizeLine; decide), fun u1 hu1 => ?_⟩
    have e1 := K1.Same.upd (H := H) (p := u1) (o := .tup [.ty "list", .ty "tuple"]) hu1
    refine ⟨_, u1, _, _, _, _, rfl, upd_same, .cons (.ty "list") (.cons (.ty "tuple") .nil), ty _ e1, kit_seq kt, _, rfl, ?_⟩
    rw [nS]
    refine iteT ?_
    generalize L2.upd H u1 (.tup [.ty "list", .ty "tuple"]) = H1 at e1 ⊢
    refine ⟨_, rfl, _, _, _, _, _, rfl, .ty "list", tx _ e1, kit_list kt, _, rfl, _, _, _, _, _, rfl, .ty "list", ty _ e1, kit_list kt, rfl, _, rfl, ?_⟩
    rw [decide_eq_true rfl]
    refine iteF ?_
    refine ⟨_, rfl, _, _, _, _, _, rfl, .ty "tuple", tx _ e1, kit_tuple kt, _, rfl, _, _, _, _, _, rfl, .ty "tuple", ty _ e1, kit_tuple kt, rfl, _, rfl, ?_⟩
    rw [decide_eq_true rfl]
    refine iteF ?_
    have ll := pr.length
    have sp : SqA K H1 p xs := kinds2.imp (fun h => SqL.of (e1 _ _ h.1)) (fun h => SqT.of (e1 _ _ h.1))
    have sr : SqA K H1 r ys := kinds2.imp (fun h => SqL.of (e1 _ _ h.2)) (fun h => SqT.of (e1 _ _ h.2))
    refine ⟨_, rfl, p, xs, rfl, sp, _, rfl, r, ys, rfl, sr, rfl, _, rfl, ?_⟩
    rw [ll, decide_eq_true rfl]
    refine iteT ?_
    have pr1 : Paired (R H1) xs ys := paired_imp (fun _ _ z => mon _ _ _ _ e1 z) pr
    -- the walk over both
    have main : ∀ (J : It) (G0 : Hp → Prop), Walk J xs.length G0 (YPair (fun i => xs[i]?) (fun i => ys[i]?)) → (∀ Hx, Same H1 Hx → G0 Hx) → ∀ (D : Addr), H1 D = none → ∃ W : Nat → Nat → Hp → Prop, (∃ m, W 0 m (L2.upd H1 D (.lst []))) ∧ ∀ i m Hc, W i m Hc →
        (J.stop i Hc ∧ ∃ (a : Addr) (bs : List Bool), [V.ref D] = [V.ref a] ∧ SqL K Hc a (bs.map V.bl) ∧ Q (.bl (bs.all id)) Hc) ∨ (J.go i Hc ∧ ∃ Nx : Hp → Prop, (∀ H', Nx H' → ∃ m', m' < m ∧ W (i + 1) m' H') ∧ ∀ v H', J.yld i Hc v H' →
          gTup K 2 (gCons (gName 2) (gCons (gName 3) gNil)) v (wipe (L2.start ["found", "due", "one", "other"] [.ref p, .ref r]) [2, 3]) H' fun σ2 H2 => wipe σ2 [2, 3] = wipe (L2.start ["found", "due", "one", "other"] [.ref p, .ref r]) [2, 3] ∧ tYes σ2 H2 fun b H3 =>
            if b = true then tCall (spSm R) [] E0 (tCons (tVar 2) (tCons (tVar 3) tNil)) σ2 H3 fun y H4 => ∃ acc, H4 D = some (.lst acc) ∧ acc.length < sizeLine ∧ Nx (L2.upd H4 D (.lst (acc ++ [y]))) else Nx H3) := by
      intro J G0 wk hG D hD
      refine lc_it (Qd := fun Hc => ∃ (a : Addr) (bs : List Bool), [V.ref D] = [V.ref a] ∧ SqL K Hc a (bs.map V.bl) ∧ Q (.bl (bs.all id)) Hc) wk (fun i Hc => Same H1 Hc ∧ Hc D = some (.lst ((List.replicate i true).map V.bl))) ⟨K1.Same.upd hD, upd_same⟩ (fun i Hc _ h => hG Hc h.1) ?_ ?_
      · rintro i v Hc H' hi ⟨c1, c2⟩ ⟨T, x1, x2, rfl, hT, rfl, ex1, ex2⟩
        have ex1 : xs[i]? = some x1 := ex1
        have ex2 : ys[i]? = some x2 := ex2
        have hT2 := K1.Same.upd (H := Hc) (p := T) (o := .tup [x1, x2]) hT
        refine ⟨T, _, rfl, SqT.of upd_same, rfl, _, _, rfl, _, _, rfl, rfl, rfl, ?_⟩
        unfold tYes
        refine iteT ?_
        have hi2 : i < ys.length := by omega
        obtain ⟨x1', e3, r3⟩ := paired_get pr1 hi2
        have z1 : x1' = x1 := Option.some.inj (e3.symm.trans ex1)
        have z2 : ys[i] = x2 := Option.some.inj ((List.getElem?_eq_getElem hi2).symm.trans ex2)
        rw [z1, z2] at r3
        refine ⟨_, rfl, _, rfl, x1, x2, rfl, mon _ _ _ _ (c1.trans hT2) r3, fun H6 e6 => ?_⟩
        refine ⟨_, e6 _ _ (hT2 _ _ c2), by rw [List.length_map, List.length_replicate]; exact small1000 (by omega), fun c o n => ?_, ?_⟩
        · rw [upd_ne (ne_of_none n hD)]
          exact e6 _ _ (hT2 _ _ (c1 _ _ n))
        · rw [upd_same, List.replicate_succ', List.map_append]
          rfl
      · rintro Hc ⟨c1, c2⟩
        refine ⟨D, _, rfl, SqL.of c2, ?_⟩
        have : ((List.replicate xs.length true).all id) = true := by
          rw [List.all_replicate]
          split <;> rfl
        rw [this]
        exact q Hc (e1.trans c1)
    refine ⟨_, rfl, _, rfl, p, r, xs, ys, rfl, ?_⟩
    rcases kinds2 with ⟨h1, h2⟩ | ⟨h1, h2⟩
    · exact .inl ⟨SqL.of (e1 _ _ h1), SqL.of (e1 _ _ h2), fun D hD => main _ _ (walk_zip (by omega)) (fun Hx e => ⟨SqL.of (e _ _ (e1 _ _ h1)), SqL.of (e _ _ (e1 _ _ h2))⟩) D hD⟩
    · exact .inr ⟨SqT.of (e1 _ _ h1), SqT.of (e1 _ _ h2), fun D hD => main _ _ (walk_zipT (by omega)) (fun Hx e => ⟨SqT.of (e _ _ (e1 _ _ h1)), SqT.of (e _ _ (e1 _ _ h2))⟩) D hD⟩
  · -- two dicts
    have tx : ∀ {Hx}, Same H Hx → TyX K Hx (.ref p) (.type "dict") := fun {Hx} e => .base (.dK (e _ _ dp))
    have ty : ∀ {Hx}, Same H Hx → TyX K Hx (.ref r) (.type "dict") := fun {Hx} e => .base (.dK (e _ _ dr))
    refine ⟨_, rfl, .ref r, _, _, _, _, rfl, .ty "dict", ty (Same.refl _), kit_dict (t := "dict") (by decide), _, rfl, ?_⟩
    refine iteT ?_
    refine ⟨_, rfl, .ref p, _, _, _, _, rfl, .ty "dict", tx (Same.refl _), kit_dict (t := "dict") (by decide), _, rfl, ?_⟩
    refine iteT ⟨_, rfl, p, kvs, rfl, dp, fun H1 a as e1 na nas npa g1 pa => ⟨_, rfl, r, kvs, rfl, e1 _ _ dr, fun H2 c cs e2 nc ncs npc g2 pc => ⟨_, _, rfl, ?_, fun H3 e3 => ?_⟩⟩⟩
    · exact hD H2 a c as cs (fun b o h => e2 _ _ (e1 _ _ h)) (e2 _ _ g1) g2 (paired_imp (fun _ _ z => e2 _ _ z) pa) pc
    · exact q H3 fun b o h => e3 _ _ (e2 _ _ (e1 _ _ h))

end
end K1
end
-- NTry
section
set_option Elab.async false
set_option linter.all false
set_option maxRecDepth 100000
set_option maxHeartbeats 4000000
/-! several clauses, each with a name for what came: the same slot -/
namespace K1
open PySem PySem.Spec PyProof.Rows L2
abbrev Suite := Addr → Value → Option Addr → TS
/-- a wish where the slots are as many as the names -/
def wLen (N : List Str) (W : WX) : WX := fun cls d σ H => σ.length = N.length → W cls d σ H
/-- the clauses' wish, one behind another -/
def wSome (K : PySem.W.Frag) (i : Nat) (Wout : WX) (D : Ends) : List (Value × Suite) → WX
  | [] => Wout
  | p :: r => wAs K p.1 i p.2 (wSome K i Wout D r) D
inductive HdsN (X : Cx) (n : Str) : List ExceptHandler → List (Value × Suite) → Prop
  | nil : HdsN X n [] []
  | cons {x : Str} {c : Value} {ts : Suite} {st : Stmt} {more : List Stmt} {xp hp : Pos} {hds : List ExceptHandler} {l : List (Value × Suite)} (names : Names X x c)
      (body : ∀ (a : Addr) (oe : Obj) (cls : Value) (d : Option Addr) (pn : List (Addr × Obj)), Zc cls d oe → (∃ vs, oe.data = .fields vs) → PSs (X.suite a ((a, oe) :: pn)) (st :: more) (ts a cls d)) (rest : HdsN X n hds l) :
      HdsN X n (.ExceptHandler (some (.Name x xp)) (some n) (st :: more) hp :: hds) ((c, ts) :: l)
section
variable {X : Cx} {body : List Stmt} {hd : ExceptHandler} {hds : List ExceptHandler} {l : List (Value × Suite)} {pos : Pos} {tb : WX → TS} {Wout : WX} {n : Str} {i : Nat}
theorem ps_try_some (st : X.stack = X.env :: X.outer) (fr : X.env.frame = some X.env.locals) (dup : X.N.Nodup) (at_ : X.N[i]? = some n) (loc : X.env.kindOf n = some .local) (tk : Takes X Wout)
    (hb : ∀ (W : WX) (pn : List (Addr × Obj)) (xe : Value → Shared → Prop), Takes (X.tr pn xe) W → PassesOwn (model X.prog X.w) X.A X.env xe → PSs (X.tr pn xe) body (tb W)) (clauses : HdsN X n (hd :: hds) l) :
    PS X (.Try body (hd :: hds) [] [] pos) (fun D σ H => tb (wLen X.N (wSome X.K i Wout D l)) D σ H) := by
  refine ⟨fun pins s σ H D I h => ?_⟩
  have good := I.ok; have hfr : X.A.frames = some (X.env :: X.outer) := by rw [good.frames, st]
  have hloc : Loc X.env.scope n := .inl loc
  refine wpAny_Try_except (wpAny_mono ((hb (wLen X.N (wSome X.K i Wout D l)) (X.pn ++ pins) (fun e t => wpAny (model X.prog X.w) X.A (noteFrame e X.env) (fun _ t2 => wpAny (model X.prog X.w) X.A (setFlight e none) (fun _ t3 => wpAny (model X.prog X.w) X.A (handleBy e X.env (hd :: hds)) (SP X pins D) X.xe t3) X.xe t2) X.xe t)
    (fun u t xx => ?_) PassesOwn.looking).run [] s σ H D (I.toTry _) h) (fun f t came => ?_) (fun e t z => z))
  · obtain ⟨a, B, sI, pins2, σ2, H2, cls, d, rfl, J0, nb, up, sky0, na, os, ag, wish⟩ := xx
    have J : Inv X pins σ2 H2 sI := J0.ofTry good
    have sky : Sky B (X.env :: X.outer) a (Zc cls d) X.env.locals t.heap := by rw [← st]; exact sky0
    show wpAny (model X.prog X.w) X.A (noteFrame (.ref a) X.env) _ _ _; refine Sky.land Zc.steady hfr fr sky fun g3 fly up3 => ?_
    have J3 : Inv X pins σ2 H2 { t with heap := g3 } := J.landed nb fly.1 (up.trans up3) os ag
    obtain ⟨oe3, ws3, at3, hz3, hd3⟩ := fly.there
    have nfr : a ∉ frs (X.env :: X.outer) := fun m => by
      obtain ⟨_, o2, e2, hnf⟩ := (fly.2.2.1).mem m
      rw [at3] at e2; cases e2; exact hnf _ hd3
    have nL : a ≠ X.env.locals := fun z => nfr (List.mem_filterMap.mpr ⟨X.env, List.mem_cons_self, by rw [fr, z]⟩)
    have nF : a ∉ X.fs := fun m => by obtain ⟨e, he, q⟩ := List.mem_filterMap.mp m; exact nfr (List.mem_filterMap.mpr ⟨e, List.mem_cons_of_mem _ he, q⟩)
    have S3 := J3.suite at3 hd3 na nL nF
    have go : ∀ {ks : List ExceptHandler} {m : List (Value × Suite)}, HdsN X n ks m → wSome X.K i Wout D m cls d σ2 H2 → wpAny (model X.prog X.w) X.A (handleBy (.ref a) X.env ks) (SP X pins D) X.xe { t with heap := g3 } := by
      intro ks m hk
      induction hk with
      | nil =>
        intro w; refine wpAny_handleBy_nil ?_
        obtain ⟨k1, k2, k3, oe, vs, T, oT, vs2, he, hz, hd2, h1, hr⟩ := id fly
        unfold PySem.passOn; refine wpAny_bind (wpAny_field he hd2 h1 ?_)
        rw [if_neg (show ¬ ((Value.ref T == Value.none) = true) by simp)]
        have fin : wpAny (model X.prog X.w) X.A (setFlight (.ref a) X.env.frame) (fun _ t4 => wpAny (model X.prog X.w) X.A (throw (.ref a) : Sem Flow) (SP X pins D) X.xe t4) X.xe { t with heap := g3 } := by
          rw [fr]; refine HandSPX.setFlight_upZ fly fun g4 sky4 up4 => wpAny_throw (tk _ _ ?_)
          exact ⟨a, B, sI, pins, σ2, H2, cls, d, rfl, J, nb, (up.trans up3).trans up4, .inr (.inr (by rw [st]; exact sky4)), na, os, ag, w⟩
        first | exact wpAny_bind (wpAny_pure (wpAny_bind fin)) | exact wpAny_bind fin
      | @cons x c ts s1 more xp hp2 hds2 l2 names suite rest ih =>
        intro w
        obtain ⟨b, eb, yes, no⟩ := w
        refine wpAny_handleBy_cons (codeAny_handlers_test ?_) (by intro q; cases q)
        have LM := PySem.W.exm_one (M := model X.prog X.w) (J3.kIn) (show PySem.W.Looks (model X.prog X.w) g3 (typeOf (.ref a)) cls from fun A Q E s k q => wpAny_typeOf_ref (k _ _ at3) (by rw [hz3.1]; exact q)) eb
        have test : ∀ {Q : Value → Shared → Prop} {E : Value → Shared → Prop}, Q c { t with heap := g3 } → wpAny (model X.prog X.w) (X.A.mark (some (.ref a))) (eval (.Name x xp) X.env) Q E { t with heap := g3 } := fun {Q E} q => by
          obtain ⟨hg, hdb, hm | ⟨hm, hv, hne⟩⟩ := names
          · exact ld_glob (X := X.suite a ((a, oe3) :: (X.pn ++ pins))) S3 hg hm q hdb
          · exact ld_blt (X := X.suite a ((a, oe3) :: (X.pn ++ pins))) S3 hg hm hv q hne hdb
        refine test (LM.here ?_)
        cases b with
        | false => show wpAny _ X.A (handleBy (.ref a) X.env hds2) _ _ _; exact ih (no rfl)
        | true =>
          refine codeAny_handlers_suite_as (HandSPX.lands_againZ fly fun g4 fly4 up4 => ?_)
          have J4 : Inv X pins σ2 H2 { t with heap := g4 } := J.landed nb fly4.1 ((up.trans up3).trans up4) os ag
          obtain ⟨oe4, ws4, at4, hz4, hd4⟩ := fly4.there
          refine store_ok (X := X.suite a ((a, oe4) :: (X.pn ++ pins))) (v := .ref a) (J4.suite at4 hd4 na nL nF) dup at_ hloc rfl (fun s5 S5 => ?_) (.inr loc)
          refine wpAny_mono ((suite a oe4 cls d (X.pn ++ pins) hz4 ⟨_, hd4⟩).run [] s5 _ H2 _ S5 (yes rfl a na)) (fun f s6 came => ?_) (fun _ _ z => False.elim z)
          have gone : ∀ {σ6 : L2.St} {H6 : Hp} {Q : Shared → Prop}, Inv (X.suite a ((a, oe4) :: (X.pn ++ pins))) [] σ6 H6 s6 → (∀ s7, Inv X pins (σ6.set i none) H6 s7 → Q s7) → wpAny (model X.prog X.w) X.A (do bindName X.env n .none; unbindBehindTheSuite X.env n hp2) (fun _ s7 => Q s7) X.xe s6 :=
            fun {σ6 H6 Q} S6 hq => gone_ok (S6.unsuite good) dup at_ loc hq
          cases f with
          | next => obtain ⟨σ6, H6, S6, q6⟩ := came; exact gone S6 fun s7 J7 => ⟨_, _, J7, q6⟩
          | brk => obtain ⟨σ6, H6, S6, q6⟩ := came; exact gone S6 fun s7 J7 => ⟨_, _, J7, q6⟩
          | cont => obtain ⟨σ6, H6, S6, q6⟩ := came; exact gone S6 fun s7 J7 => ⟨_, _, J7, q6⟩
          | ret u => obtain ⟨v6, σ6, H6, S6, r6, q6⟩ := came; exact gone S6 fun s7 J7 => ⟨_, _, _, J7, r6, q6⟩
    exact go clauses (wish J.len)
  · cases f with
    | next => obtain ⟨σ2, H2, J2, q⟩ := came; exact wpAny_execs_nil ⟨σ2, H2, J2.ofTry good, q⟩
    | brk => obtain ⟨σ2, H2, J2, q⟩ := came; exact ⟨σ2, H2, J2.ofTry good, q⟩
    | cont => obtain ⟨σ2, H2, J2, q⟩ := came; exact ⟨σ2, H2, J2.ofTry good, q⟩
    | ret u => obtain ⟨v, σ2, H2, J2, r, q⟩ := came; exact ⟨v, σ2, H2, J2.ofTry good, r, q⟩
end
end K1
end
-- UMet
section
set_option Elab.async false
set_option linter.all false
set_option maxRecDepth 100000
set_option maxHeartbeats 1000000
namespace K1
open PySem PySem.Spec PyProof.Rows L2 W0
abbrev sMt : Stmt := top 62
structure MetU (K : PySem.W.Frag) (mg : Str → Option Value) (CV CN : Addr) : Prop where
  mV : mg "BadValley" = some (.ref CV)
  mN : mg "NoHouse" = some (.ref CN)
  vv : PySem.W.exmOne K (.ref CV) (.ref CV) = some true
  nv : PySem.W.exmOne K (.ref CN) (.ref CV) = some false
  nn : PySem.W.exmOne K (.ref CN) (.ref CN) = some true
  xV : XfC K CV
  xN : XfC K CN
  iV : PySem.W.findIn K (.ref CV) "thing" = some none
  iN : PySem.W.findIn K (.ref CN) "house" = some none
/-- what an asker is told, or how it is refused -/
def XMet (CV CN : Addr) (Q : VK) : XK := fun cls d H' => (cls = .ref CV ∧ ∃ dd v, d = some dd ∧ H' dd = some (.xd [("thing", v)]) ∧ ∀ p, H' p = none → Q (.ref p) (upd H' p (.tup [.str "valley", v]))) ∨
  (cls = .ref CN ∧ ∃ dd v, d = some dd ∧ H' dd = some (.xd [("house", v)]) ∧ ∀ p, H' p = none → Q (.ref p) (upd H' p (.tup [.str "house", v])))
def TMt (CV CN : Addr) : (XK → Hp → VK → Prop) → Hp → VK → Prop := fun tl H Q =>
  tl (XMet CV CN Q) H (fun v H1 => [V.str "told", v].length ≤ sizeLine ∧ ∀ p, H1 p = none → Q (.ref p) (upd H1 p (.tup [.str "told", v])))
theorem scMt : FnScope ["ask", "e"] ["ask"] (defScope sMt) := ⟨rfl, rfl, rfl, by decide +kernel, rfl, by decide +kernel, by decide +kernel⟩
theorem set_get {α : Type} {l : List α} {i : Nat} {x : α} (h : i < l.length) : (l.set i x)[i]? = some x := by rw [List.getElem?_set_self h]
theorem mt_gives {X : Cx} {g CV CN : Addr} {cdg : Value} {q : Str} (F : MetU X.K X.mg CV CN) : LamX.GivesTo X ["ask", "e"] "_law_met" (defScope sMt) g cdg (defBody sMt) "ask" q (TMt CV CN) := by
  intro f c' s H Q tl act hc h
  have nd := scMt.nd
  refine ⟨_, pss_one (ps_try_some (i := 1) (X := (cxOf C8.CX0 X.prog X.w X.K X.mg X.base ["ask", "e"] "_law_met" (defScope sMt) g cdg X.A X.stack s H C8.E0).nox)
      (l := [(.ref CV, fun a cls d => tRet (tTup (tCons (tC (.str "valley")) (tCons (tXf a cls d CV "thing" (tVar 1)) tNil)))), (.ref CN, fun a cls d => tRet (tTup (tCons (tC (.str "house")) (tCons (tXf a cls d CN "house" (tVar 1)) tNil))))])
      (tb := fun W D σ H => ∃ Ech : XK, (∀ cls d σ' H', Ech cls d H' → W cls d σ' H') ∧ σ[0]? = some (some (.ref f)) ∧ H c' = some (LamX.CodeO c' q) ∧ tl Ech H (fun v H1 => [V.str "told", v].length ≤ sizeLine ∧ ∀ p, H1 p = none → D.rt (.ref p) (upd H1 p (.tup [.str "told", v]))))
      rfl rfl nd rfl rfl LamX.takes0 (fun W pn xe tk _ => ?_)
      (.cons ⟨rfl, by decide, .inl F.mV⟩ (fun a oe cls d pn hz hf => pss_one (by exact ps_ret (pe_tup (pa_cons pe_str (pa_cons (pe_xf F.xV F.iV hz hf (pv 1)) pa_nil)))))
        (.cons ⟨rfl, by decide, .inl F.mN⟩ (fun a oe cls d pn hz hf => pss_one (by exact ps_ret (pe_tup (pa_cons pe_str (pa_cons (pe_xf F.xN F.iN hz hf (pv 1)) pa_nil))))) .nil))), ?_⟩
  · refine ⟨fun pins s' σ H' D I h' => ?_⟩
    obtain ⟨Ech, hW, h1, h2, h3⟩ := h'
    exact (pss_one (ps_ret (pe_tup (pa_cons pe_str (pa_cons (act W pn xe Ech _ _ tk hW) pa_nil))))).run pins s' σ H' D I ⟨h1, h2, h3⟩
  · refine ⟨_, fun cls d σ' H' hE hl => ?_, rfl, hc, h⟩
    have s1 : ∀ a : Addr, (σ'.set 1 (some (V.ref a)))[1]? = some (some (V.ref a)) := fun a => set_get (by rw [hl]; exact (by decide : 1 < 2))
    rcases hE with ⟨rfl, dd, v, rfl, hx, qq⟩ | ⟨rfl, dd, v, rfl, hx, qq⟩
    · refine ⟨true, F.vv, And.intro (fun _ a _ => ?_) (fun z => Bool.noConfusion z)⟩
      exact ⟨_, s1 a, rfl, rfl, dd, _, v, rfl, hx, rfl, (by show 2 ≤ sizeLine; decide), qq⟩
    · refine ⟨false, F.nv, And.intro (fun z => Bool.noConfusion z) (fun _ => ⟨true, F.nn, And.intro (fun _ a _ => ?_) (fun z => Bool.noConfusion z)⟩)⟩
      exact ⟨_, s1 a, rfl, rfl, dd, _, v, rfl, hx, rfl, (by show 2 ≤ sizeLine; decide), qq⟩
end K1
end
-- WSumV
section
set_option Elab.async false
set_option linter.all false
set_option maxRecDepth 100000
set_option maxHeartbeats 1000000
namespace K1
open PySem PySem.Spec PyProof PyProof.Rows L2 W0 PySem.Calls
/-- the sum of a dict's values, all of them ints -/
def tSumV (td : TE) : TE := fun σ H Q => td σ H fun x H1 => ∃ (a : Addr) (kvs : List (Key × V)) (is : List Int), x = V.ref a ∧ H1 a = some (.dK kvs) ∧ kvs.map (·.2) = is.map V.int ∧ Q (.int is.sum) H1
abbrev vwO (a : Addr) : Obj := { cls := .type "dict_values", data := .fields #[.ref a] }
section
variable {X : Cx} {o : Expr} {p pos apos mpos : Pos} {td : TE}
theorem pe_sumV (calm : X.calm = true) (gl : Gl X "sum") (nm : X.mg "sum" = none) (pd : PE X o td) (ab : attributeBase o "values" X.env (eval o X.env) = eval o X.env := by rfl) (ln : (apos.endLine == mpos.line) = true := by rfl)
    (st : starEach [Expr.Call (.Attribute o "values" apos) [] [] mpos] X.env = [(false, eval (Expr.Call (.Attribute o "values" apos) [] [] mpos) X.env)] := by rfl) : PE X (.Call (.Name "sum" p) [.Call (.Attribute o "values" apos) [] [] mpos] [] pos) (tSumV td) := by
  refine ⟨fun pn s σ H Q I hw => ?_⟩
  refine wpAny_Call_Name_kw (ld_blt I gl nm (u := .builtin "sum") (by first | rfl | decide +kernel) ?_ (by decide +kernel) (by decide +kernel))
  rw [st]
  refine PySem.callWith_builtin1 (wpAny_Call_method0_late ab ln (thn (pd.run pn s σ H _ I hw) fun v s1 ⟨x, H1, I1, r1, a, kvs, is, ex, ha, hv, q⟩ => ?_))
  subst ex; obtain rfl : v = Value.ref a := r1
  obtain ⟨_, nsys, vs, rel, dof⟩ := dk_of I1.hok ha
  obtain ⟨ep, da⟩ := dof.dictAt
  have da2 := da
  obtain ⟨ob, es, ho, ex, _⟩ := da2
  refine ⟨_, _, F.plainAttrs_dict, F.slot_dict_values, F.type_dict_values,
    ⟨ob, ho, ex.1⟩, fun b2 eb => ?_, Calls.callWith_builtin rfl (PySem.evalArgs_none ?_)⟩
  · cases eb; exact ⟨ob, ho, ex.2.1⟩
  refine call_meetsIn F.slot_dict_values ⟨ob, ho, ex.1⟩ F.entry_dict_values (F.args_dict_values_1 _) (meets_dict_values (mixKind X.prog X.w) a nsys) ⟨⟨vs, dof⟩, ?_⟩
  have kp : ∀ b u, s1.heap.get? b = some u → (s1.heap.push (vwO a)).get? b = some u := fun b u e => Heap.get?_push_of_some _ e
  have da1 : (s1.heap.push (vwO a)).DictAt (mixKind X.prog X.w) a vs ep := da.keep kp
  have lv : vs.length = is.length := by
    have := congrArg List.length hv
    rw [List.length_map, List.length_map, KV.length rel] at this
    exact this
  have vals : ∀ (i : Nat) (v : Value), (∃ k, vs[i]? = some (k, v)) → ∃ t, v = Value.int (is.getD i 0) t := by
    rintro i v ⟨k, hk⟩
    obtain ⟨x9, h1, h2⟩ := KV.at' rel hk
    have := congrArg (·[i]?) hv
    simp only [List.getElem?_map, h1, Option.map_some] at this
    obtain ⟨j, hj, e2⟩ := Option.map_eq_some_iff.mp this.symm
    obtain rfl := e2.symm
    obtain ⟨t, e3⟩ := h2
    exact ⟨t, by rw [e3, List.getD_eq_getElem?_getD, hj]; rfl⟩
  refine call_sum_walkG (wpAny_pyIter_values (v := s1.heap.objs.size) (d := a) ⟨_, Heap.get?_push_size _ rfl, rfl, rfl⟩ da1 ?_)
  have lt1 : a < s1.heap.objs.size := Heap.lt_size ho
  have sz1 : (s1.heap.push (vwO a)).objs.size = s1.heap.objs.size + 1 := Heap.size_push _ _
  refine ⟨_, _, _, _, _, _, (fun i => is.getD i 0), rfl, Walks.dictValues (knd := mixKind X.prog X.w) (A := X.A.in1) (I.ok.hd calm) (s1.heap.push (vwO a)).objs.size a (by rw [sz1]; exact Nat.ne_of_lt (Nat.lt_succ_of_lt lt1)) vs ep,
    ⟨⟨_, Heap.get?_push_size _ rfl, rfl, rfl⟩, da1.keep fun b u e => Heap.get?_push_of_some _ e⟩, fun b hb => ?_, vals, fun h' tk t' hk => ?_⟩
  · show b < ((s1.heap.push _).push _).objs.size; rw [Heap.size_push, Heap.size_push]
    rcases List.mem_cons.mp hb with e | hb
    · rw [e, sz1]; exact Nat.lt_succ_self _
    · rw [List.mem_singleton.mp hb]; exact Nat.lt_succ_of_lt (Nat.lt_succ_of_lt lt1)
  · have e : preSum (fun i => is.getD i 0) vs.length = is.sum := by rw [PyProof.Rows.preSum_getD, lv, List.take_length]
    rw [e]
    refine ⟨.int is.sum, H1, I1.kept (t' := tk) fun b u eb => hk b u (fun hm => ?_) (Heap.get?_push_of_some _ (kp b u eb)), ⟨t', rfl⟩, q⟩
    have e2 := Heap.lt_size eb
    have e1 : b = (s1.heap.push (vwO a)).objs.size := List.mem_singleton.mp hm
    rw [sz1] at e1
    rw [e1] at e2
    exact Nat.lt_irrefl _ (Nat.lt_trans (Nat.lt_succ_self _) e2)
end
end K1
end
-- UList
section
set_option Elab.async false
set_option linter.all false
set_option maxRecDepth 100000
set_option maxHeartbeats 1000000
namespace K1
open PySem PySem.Spec PyProof PyProof.Rows L2 W0 PySem.Calls
/-- list(d.values()) -/
def tListVals (te : TE) : TE := fun σ H Q => te σ H fun x H1 => ∃ (a : Addr) (kvs : List (Key × V)), x = .ref a ∧ H1 a = some (.dK kvs) ∧ ∀ p, H1 p = none → Q (.ref p) (L2.upd H1 p (.lst (kvs.map (·.2))))
theorem kv_vals {kvs : List (Key × V)} {vs : List (Key × Value)} (h : KV kvs vs) : Vals (kvs.map (·.2)) (vs.map (·.2)) := by
  induction h with
  | nil => exact .nil
  | cons r _ ih => exact .cons r.2 ih
section
variable {X : Cx} {e : Expr} {te : TE} {p apos cpos pos : Pos}
theorem pe_listVals (hc : X.calm = true) (he : PE X e te) (hg : Gl X "list") (hm : X.mg "list" = none) (hv : bootBuiltins "list" = some (.type "list")) (hbase : attributeBase e "values" X.env (eval e X.env) = eval e X.env := by rfl) (hline : (apos.endLine == cpos.line) = true := by rfl)
    (hs : starEach [.Call (.Attribute e "values" apos) [] [] cpos] X.env = (false, eval (.Call (.Attribute e "values" apos) [] [] cpos) X.env) :: starEach [] X.env := by rfl) :
    PE X (.Call (.Name "list" p) [.Call (.Attribute e "values" apos) [] [] cpos] [] pos) (tListVals te) := by
  refine ⟨fun pins s σ H Q I hq => ?_⟩
  refine wpAny_Call_Name_kw (ld_blt I hg hm hv ?_)
  refine PyProof.Rows.callWith_type1 ?_ hs rfl
  rw [hs]
  show wpAny _ _ (spliced ((false, eval (.Call (.Attribute e "values" apos) [] [] cpos) X.env) :: backTo pos (starEach [] X.env))) _ _ s
  refine Calls.spliced_cons ?_
  refine wpAny_Call_method (T := "dict") (id := "dict.values") hbase rfl hline F.plainAttrs_dict F.slot_dict_values F.type_dict_values (thn (he.run pins s σ H _ I hq) fun u s1 ⟨x, H1, I1, rx, d, kvs, ex, hd, q⟩ => ?_)
  subst ex
  obtain rfl : u = Value.ref d := rx
  obtain ⟨hz, hs0, vs, kv, hdo⟩ := I1.hok d _ hd
  obtain ⟨ep, hat⟩ := hdo.dictAt
  have lk : kvs.length = vs.length := Paired.length kv
  have I2 : Inv X pins σ H1 { s1 with heap := s1.heap.push { cls := .type "dict_values", data := .fields #[.ref d] } } := I1.kept (t' := s1.toks) fun b ob q => Heap.get?_push_of_some _ q
  refine ⟨hdo.typeIs, hdo.mapOf.noDict, ?_⟩
  show wpAny _ _ (callWith cpos (.builtin "dict.values") [.ref d] [] []) _ X.xe s1
  refine method_meetsIn F.slot_dict_values F.entry_dict_values rfl (PySem.evalArgs_none ⟨rfl, hdo.typeIs, F.args_dict_values_1 _, _, meets_dict_values (mixKind X.prog X.w) d hs0, ⟨vs, hdo⟩, ?_⟩)
  refine Calls.spliced_nil ?_
  refine PySem.W.kdl_call (PySem.W.kdl_values (knd := mixKind X.prog X.w) (kvs := vs) (ep := ep)) (I1.ok.hd hc) ⟨⟨_, Heap.get?_push_size _ rfl, rfl, rfl⟩, hat.push _⟩ (by omega) fun h' tk acc c' hk hD hacc => ?_
  have ev : acc.toList = vs.map (·.2) := PySem.W.kdl_vals_eq acc.toList (by rw [Array.length_toList]; exact hacc.1) fun j v e => hacc.2 j v (by rw [← Array.getElem?_toList]; exact e)
  have hv2 : Vals (kvs.map (·.2)) acc.toList := by rw [ev]; exact kv_vals kv
  exact ⟨.ref _, L2.upd H1 _ (.lst (kvs.map (·.2))), I2.laid (t' := tk) hk (Nat.le_refl _)
    (show ObjOk X.prog X.w _ _ _ (.lst (kvs.map (·.2))) from ⟨by rw [List.length_map]; exact hz, acc.toList, c', hv2, by rw [Array.toArray_toList]; exact hD⟩), rfl, q _ (I2.hok.fresh (Nat.le_refl _))⟩
end
end K1
end
-- UTree
section
set_option Elab.async false
set_option linter.all false
set_option maxRecDepth 100000
set_option maxHeartbeats 1000000
namespace K1
/-! lots of a tree: a lot hangs together, a road in it parts it in two that do -/
section
variable {α : Type} [DecidableEq α]
/-- the sides of roads, as colours -/
structure Sd (rs : List (α × α)) (sd : α × α → α → Bool) : Prop where
  a : ∀ e ∈ rs, sd e e.1 = false
  b : ∀ e ∈ rs, sd e e.2 = true
  c : ∀ e ∈ rs, ∀ e' ∈ rs, e' ≠ e → sd e e'.1 = sd e e'.2
def inL (L : List α) (r : α × α) : Bool := decide (r.1 ∈ L) && decide (r.2 ∈ L)
theorem inL_iff {L : List α} {r : α × α} : inL L r = true ↔ r.1 ∈ L ∧ r.2 ∈ L := by
  unfold inL
  rw [Bool.and_eq_true, decide_eq_true_eq, decide_eq_true_eq]
abbrev nearL (sd : α × α → α → Bool) (L : List α) (e : α × α) : List α := L.filter fun z => !sd e z
abbrev farL (sd : α × α → α → Bool) (L : List α) (e : α × α) : List α := L.filter fun z => sd e z
/-- what is reached from a within a lot -/
inductive Rin (rs : List (α × α)) (L : List α) (a : α) : α → Prop
  | base : Rin rs L a a
  | step {s t : α} : Rin rs L a s → ((s, t) ∈ rs ∨ (t, s) ∈ rs) → t ∈ L → Rin rs L a t
theorem Rin.trans {rs : List (α × α)} {L : List α} {a b c : α} (h : Rin rs L a b) (g : Rin rs L b c) : Rin rs L a c := by
  induction g with
  | base => exact h
  | step _ e m ih => exact ih.step e m
theorem Rin.mem {rs : List (α × α)} {L : List α} {a b : α} (h : Rin rs L a b) (ha : a ∈ L) : b ∈ L := by
  cases h with
  | base => exact ha
  | step _ _ m => exact m
theorem Rin.symm {rs : List (α × α)} {L : List α} {a b : α} (h : Rin rs L a b) (ha : a ∈ L) : Rin rs L b a := by
  induction h with
  | base => exact .base
  | step g e m ih => exact (Rin.step .base e.symm (g.mem ha)).trans ih
/-- a lot that hangs together -/
def Con (rs : List (α × α)) (L : List α) : Prop := L.Nodup ∧ 1 ≤ L.length ∧ ∀ a ∈ L, ∀ b ∈ L, Rin rs L a b
variable {rs : List (α × α)} {sd : α × α → α → Bool}
theorem mem_near {L : List α} {e : α × α} {z : α} : z ∈ nearL sd L e ↔ z ∈ L ∧ sd e z = false := by
  rw [List.mem_filter, Bool.not_eq_true']
theorem mem_far {L : List α} {e : α × α} {z : α} : z ∈ farL sd L e ↔ z ∈ L ∧ sd e z = true := List.mem_filter
theorem Sd.ne (S : Sd rs sd) {e : α × α} (he : e ∈ rs) : e.1 ≠ e.2 := fun z => by
  have h1 := S.a e he
  rw [z, S.b e he] at h1
  cases h1
/-- from an end of a road each house of its side is reached within the side -/
theorem side_rin (S : Sd rs sd) {L : List α} {e : α × α} (he : e ∈ rs) (h1 : e.1 ∈ L) (h2 : e.2 ∈ L) {b : α} (h : Rin rs L e.1 b) :
    (sd e b = false → Rin rs (nearL sd L e) e.1 b) ∧ (sd e b = true → Rin rs (farL sd L e) e.2 b) := by
  have ends : ∀ t, t = e.1 ∨ t = e.2 → (sd e t = false → Rin rs (nearL sd L e) e.1 t) ∧ (sd e t = true → Rin rs (farL sd L e) e.2 t) := by
    rintro t (rfl | rfl)
    · exact ⟨fun _ => .base, fun z => (by rw [S.a e he] at z; cases z)⟩
    · exact ⟨fun z => (by rw [S.b e he] at z; cases z), fun _ => .base⟩
  induction h with
  | base => exact ends _ (.inl rfl)
  | @step s t g ed m ih =>
    have go : sd e s = sd e t → (sd e t = false → Rin rs (nearL sd L e) e.1 t) ∧ (sd e t = true → Rin rs (farL sd L e) e.2 t) := fun q =>
      ⟨fun z => (ih.1 (q.trans z)).step ed (mem_near.mpr ⟨m, z⟩), fun z => (ih.2 (q.trans z)).step ed (mem_far.mpr ⟨m, z⟩)⟩
    rcases ed with ed | ed
    · by_cases x : (s, t) = e
      · exact ends t (.inr (congrArg Prod.snd x))
      · exact go (S.c e he _ ed x)
    · by_cases x : (t, s) = e
      · exact ends t (.inl (congrArg Prod.fst x))
      · exact go (S.c e he _ ed x).symm
theorem filter_len (f : α → Bool) : ∀ L : List α, (L.filter fun z => !f z).length + (L.filter f).length = L.length
  | [] => rfl
  | x :: L => by
    have := filter_len f L
    rw [List.filter_cons, List.filter_cons]
    cases f x <;> simp <;> omega
/-- both lots of a road hang together -/
theorem Con.cut (S : Sd rs sd) {L : List α} (C : Con rs L) {e : α × α} (he : e ∈ rs) (hi : inL L e = true) :
    Con rs (nearL sd L e) ∧ Con rs (farL sd L e) ∧ (nearL sd L e).length + (farL sd L e).length = L.length ∧ (nearL sd L e).length < L.length ∧ (farL sd L e).length < L.length := by
  obtain ⟨h1, h2⟩ := inL_iff.mp hi
  have n1 : e.1 ∈ nearL sd L e := mem_near.mpr ⟨h1, S.a e he⟩
  have f2 : e.2 ∈ farL sd L e := mem_far.mpr ⟨h2, S.b e he⟩
  have ln : 1 ≤ (nearL sd L e).length := List.length_pos_of_mem n1
  have lf : 1 ≤ (farL sd L e).length := List.length_pos_of_mem f2
  have ll : (nearL sd L e).length + (farL sd L e).length = L.length := filter_len _ L
  refine ⟨⟨C.1.filter _, ln, fun a ha b hb => ?_⟩, ⟨C.1.filter _, lf, fun a ha b hb => ?_⟩, ll, by omega, by omega⟩
  · have ra := (side_rin S he h1 h2 (C.2.2 _ h1 _ (mem_near.mp ha).1)).1 (mem_near.mp ha).2
    have rb := (side_rin S he h1 h2 (C.2.2 _ h1 _ (mem_near.mp hb).1)).1 (mem_near.mp hb).2
    exact (ra.symm n1).trans rb
  · have ra := (side_rin S he h1 h2 (C.2.2 _ h1 _ (mem_far.mp ha).1)).2 (mem_far.mp ha).2
    have rb := (side_rin S he h1 h2 (C.2.2 _ h1 _ (mem_far.mp hb).1)).2 (mem_far.mp hb).2
    exact (ra.symm f2).trans rb
/-- a lot of two houses or more has a road -/
theorem Con.road {L : List α} (C : Con rs L) (h : L.length ≠ 1) : ∃ e ∈ rs, inL L e = true := by
  obtain ⟨nd, l1, r⟩ := C
  match L, nd, l1, r, h with
  | a :: b :: L, nd, _, r, _ =>
    have ab : a ≠ b := fun z => (List.nodup_cons.mp nd).1 (z ▸ List.mem_cons_self ..)
    have h := r a (List.mem_cons_self ..) b (by simp)
    cases h with
    | base => exact absurd rfl ab
    | @step s _ g ed m =>
      have hs := g.mem (List.mem_cons_self ..)
      rcases ed with ed | ed
      · exact ⟨_, ed, inL_iff.mpr ⟨hs, m⟩⟩
      · exact ⟨_, ed, inL_iff.mpr ⟨m, hs⟩⟩
theorem one_none (S : Sd rs sd) {L : List α} (h : L.length = 1) : rs.filter (inL L) = [] := by
  obtain ⟨x, rfl⟩ := List.length_eq_one_iff.mp h
  rw [List.filter_eq_nil_iff]
  intro e he hi
  obtain ⟨h1, h2⟩ := inL_iff.mp hi
  exact S.ne he ((List.mem_singleton.mp h1).trans (List.mem_singleton.mp h2).symm)
theorem in_ne {L : List α} (C : Con rs L) (h : L.length ≠ 1) : rs.filter (inL L) ≠ [] := by
  obtain ⟨e, he, hi⟩ := C.road h
  exact List.ne_nil_of_mem (List.mem_filter.mpr ⟨he, hi⟩)
/-- how many unlike evenings -/
def manyL (rs : List (α × α)) (sd : α × α → α → Bool) : Nat → List α → Nat
  | 0, _ => 0
  | n + 1, L => if L.length = 1 then 1 else ((rs.filter (inL L)).map fun e => manyL rs sd n (nearL sd L e) * manyL rs sd n (farL sd L e)).sum
theorem sum_le_mul {β : Type} {f : β → Nat} {b : Nat} : ∀ {xs : List β}, (∀ x ∈ xs, f x ≤ b) → (xs.map f).sum ≤ xs.length * b
  | [], _ => by simp
  | x :: xs, h => by
    have h1 := h x (List.mem_cons_self ..)
    have h2 := sum_le_mul (xs := xs) fun y hy => h y (List.mem_cons_of_mem _ hy)
    rw [List.map_cons, List.sum_cons, List.length_cons, Nat.succ_mul]
    omega
theorem manyL_le (S : Sd rs sd) : ∀ (n : Nat) (L : List α), Con rs L → manyL rs sd n L ≤ rs.length ^ (L.length - 1)
  | 0, L, _ => Nat.zero_le _
  | n + 1, L, C => by
    rw [manyL]
    by_cases h : L.length = 1
    · rw [if_pos h, h]
      exact Nat.le_refl _
    · rw [if_neg h]
      have l2 : 2 ≤ L.length := by have := C.2.1; omega
      refine Nat.le_trans (sum_le_mul (b := rs.length ^ (L.length - 2)) fun e he => ?_) ?_
      · obtain ⟨he1, he2⟩ := List.mem_filter.mp he
        obtain ⟨c1, c2, ll, l3, l4⟩ := C.cut S he1 he2
        refine Nat.le_trans (Nat.mul_le_mul (manyL_le S n _ c1) (manyL_le S n _ c2)) ?_
        rw [← Nat.pow_add]
        have p1 := c1.2.1
        have p2 := c2.2.1
        rw [show (nearL sd L e).length - 1 + ((farL sd L e).length - 1) = L.length - 2 by omega]
        exact Nat.le_refl _
      · refine Nat.le_trans (Nat.mul_le_mul_right _ (List.length_filter_le _ _)) ?_
        rw [show L.length - 1 = (L.length - 2) + 1 by omega, Nat.pow_succ, Nat.mul_comm]
        exact Nat.le_refl _
theorem sum_pos {β : Type} {f : β → Nat} {x : β} : ∀ {xs : List β}, x ∈ xs → 0 < f x → 0 < (xs.map f).sum
  | [], h, _ => absurd h (by simp)
  | y :: xs, h, p => by
    rw [List.map_cons, List.sum_cons]
    rcases List.mem_cons.mp h with rfl | h
    · omega
    · have := sum_pos h p
      omega
theorem manyL_pos (S : Sd rs sd) : ∀ (n : Nat) (L : List α), Con rs L → L.length ≤ n → 0 < manyL rs sd n L
  | 0, L, C, l => absurd C.2.1 (by omega)
  | n + 1, L, C, l => by
    rw [manyL]
    by_cases h : L.length = 1
    · rw [if_pos h]; exact Nat.one_pos
    · rw [if_neg h]
      obtain ⟨e, he, hi⟩ := C.road h
      obtain ⟨c1, c2, ll, l3, l4⟩ := C.cut S he hi
      exact sum_pos (List.mem_filter.mpr ⟨he, hi⟩) (Nat.mul_pos (manyL_pos S n _ c1 (by omega)) (manyL_pos S n _ c2 (by omega)))
theorem manyL_mono (S : Sd rs sd) : ∀ (n m : Nat) (L : List α), Con rs L → L.length ≤ n → n ≤ m → manyL rs sd m L = manyL rs sd n L
  | 0, _, L, C, l, _ => absurd C.2.1 (by omega)
  | n + 1, 0, _, _, _, l => absurd l (by omega)
  | n + 1, m + 1, L, C, l, lm => by
    rw [manyL, manyL]
    by_cases h : L.length = 1
    · rw [if_pos h, if_pos h]
    · rw [if_neg h, if_neg h]
      congr 1
      refine List.map_congr_left fun e he => ?_
      obtain ⟨he1, he2⟩ := List.mem_filter.mp he
      obtain ⟨c1, c2, ll, l3, l4⟩ := C.cut S he1 he2
      rw [manyL_mono S n m _ c1 (by omega) (by omega), manyL_mono S n m _ c2 (by omega) (by omega)]
/-- all unlike evenings of a lot, as lists of parts -/
def allL (rs : List (α × α)) (sd : α × α → α → Bool) : Nat → List α → List (List (List α))
  | 0, _ => []
  | n + 1, L => if L.length = 1 then [[]] else (rs.filter (inL L)).flatMap fun e => (allL rs sd n (nearL sd L e)).flatMap fun one => (allL rs sd n (farL sd L e)).map fun other => [L] ++ one ++ other
theorem allL_len : ∀ (n : Nat) (L : List α), (allL rs sd n L).length = manyL rs sd n L
  | 0, _ => rfl
  | n + 1, L => by
    rw [allL, manyL]
    by_cases h : L.length = 1
    · rw [if_pos h, if_pos h]; rfl
    · rw [if_neg h, if_neg h, List.length_flatMap]
      congr 1
      refine List.map_congr_left fun e _ => ?_
      rw [List.length_flatMap]
      have : ((allL rs sd n (nearL sd L e)).map fun one => ((allL rs sd n (farL sd L e)).map fun other => [L] ++ one ++ other).length) = (allL rs sd n (nearL sd L e)).map fun _ => manyL rs sd n (farL sd L e) :=
        List.map_congr_left fun one _ => by rw [List.length_map, allL_len n]
      rw [this, List.map_const', List.sum_replicate_nat, allL_len n]
/-- parts of an evening of a lot lie in it -/
theorem allL_in : ∀ (n : Nat) (L : List α) (row : List (List α)), row ∈ allL rs sd n L → ∀ p ∈ row, ∀ z ∈ p, z ∈ L
  | 0, _, _, h => absurd h (by simp [allL])
  | n + 1, L, row, h => by
    rw [allL] at h
    by_cases h1 : L.length = 1
    · rw [if_pos h1] at h
      rw [List.mem_singleton.mp h]
      intro p hp
      exact absurd hp (by simp)
    · rw [if_neg h1] at h
      obtain ⟨e, _, h⟩ := List.mem_flatMap.mp h
      obtain ⟨one, ho, h⟩ := List.mem_flatMap.mp h
      obtain ⟨other, hq, rfl⟩ := List.mem_map.mp h
      intro p hp z hz
      rw [List.mem_append, List.mem_append, List.mem_singleton] at hp
      rcases hp with (rfl | hp) | hp
      · exact hz
      · exact (List.mem_filter.mp (allL_in n _ _ ho p hp z hz)).1
      · exact (List.mem_filter.mp (allL_in n _ _ hq p hp z hz)).1
/-- how often a house feasts -/
def oftenL (h : α) (row : List (List α)) : Nat := row.countP fun p => decide (h ∈ p)
theorem often_zero {h : α} {row : List (List α)} (n : ∀ p ∈ row, h ∉ p) : oftenL h row = 0 := by
  unfold oftenL
  rw [List.countP_eq_zero]
  intro p hp z
  exact n p hp (of_decide_eq_true z)
end
end K1
end
-- UBy
section
set_option Elab.async false
set_option linter.all false
set_option maxRecDepth 100000
set_option maxHeartbeats 1000000
namespace K1
/-! dicts from numbers to numbers, and how often a house feasts -/
abbrev valN (c : List (Nat × Nat)) (k : Nat) : Nat := (getN c k).getD 0
def NoTw (c : List (Nat × Nat)) : Prop := (c.map (·.1)).Nodup
def PosD (c : List (Nat × Nat)) : Prop := ∀ e ∈ c, 0 < e.2
def vsumN (c : List (Nat × Nat)) : Nat := (c.map (·.2)).sum
theorem getN_map_ne {k v j : Nat} (n : j ≠ k) : ∀ c : List (Nat × Nat), getN (c.map fun e => if e.1 = k then (k, v) else e) j = getN c j
  | [] => rfl
  | e :: c => by
    rw [List.map_cons, getN, getN, getN_map_ne n c]
    by_cases z : e.1 = k
    · rw [if_pos z]
      show (if k = j then some v else _) = _
      rw [if_neg fun y => n y.symm, if_neg fun y => n (by rw [← y, z])]
    · rw [if_neg z]
theorem getN_map_eq {k v : Nat} : ∀ {c : List (Nat × Nat)}, k ∈ c.map (·.1) → getN (c.map fun e => if e.1 = k then (k, v) else e) k = some v
  | [], h => absurd h (by simp)
  | e :: c, h => by
    rw [List.map_cons, getN]
    by_cases z : e.1 = k
    · rw [if_pos z, if_pos rfl]
    · rw [if_neg z, if_neg z]
      exact getN_map_eq ((List.mem_cons.mp h).resolve_left fun y => z y.symm)
theorem getN_snoc {k v j : Nat} : ∀ {c : List (Nat × Nat)}, k ∉ c.map (·.1) → getN (c ++ [(k, v)]) j = if j = k then some v else getN c j
  | [], _ => by
    show (if k = j then some v else none) = _
    by_cases z : j = k
    · rw [if_pos z, if_pos z.symm]
    · rw [if_neg z, if_neg fun y => z y.symm]; rfl
  | e :: c, h => by
    rw [List.cons_append, getN, getN, getN_snoc fun m => h (List.mem_cons_of_mem _ m)]
    by_cases z : e.1 = j
    · rw [if_pos z, if_pos z, if_neg fun y => h (List.mem_cons.mpr (.inl (by rw [← y, ← z])))]
    · rw [if_neg z, if_neg z]
theorem getN_put {c : List (Nat × Nat)} {k v j : Nat} : getN (putN c k v) j = if j = k then some v else getN c j := by
  unfold putN
  by_cases h : k ∈ c.map (·.1)
  · rw [if_pos h]
    by_cases z : j = k
    · rw [if_pos z, z, getN_map_eq h]
    · rw [if_neg z, getN_map_ne z]
  · rw [if_neg h, getN_snoc h]
theorem valN_put {c : List (Nat × Nat)} {k v j : Nat} : valN (putN c k v) j = if j = k then v else valN c j := by
  unfold valN
  rw [getN_put]
  by_cases z : j = k
  · rw [if_pos z, if_pos z]; rfl
  · rw [if_neg z, if_neg z]
theorem valN_add {c : List (Nat × Nat)} {k v j : Nat} : valN (addN c k v) j = valN c j + if k = j then v else 0 := by
  unfold addN
  rw [valN_put]
  by_cases z : j = k
  · rw [if_pos z, if_pos z.symm, z]
  · rw [if_neg z, if_neg fun y => z y.symm]; rfl
theorem map_keys {k v : Nat} (c : List (Nat × Nat)) : (c.map fun e => if e.1 = k then (k, v) else e).map (·.1) = c.map (·.1) := by
  rw [List.map_map]
  refine List.map_congr_left fun e _ => ?_
  show (if e.1 = k then (k, v) else e).1 = e.1
  by_cases y : e.1 = k
  · rw [if_pos y, y]
  · rw [if_neg y]
theorem NoTw.put {c : List (Nat × Nat)} {k v : Nat} (h : NoTw c) : NoTw (putN c k v) := by
  unfold putN NoTw
  by_cases z : k ∈ c.map (·.1)
  · rw [if_pos z, map_keys]
    exact h
  · rw [if_neg z, List.map_append, List.nodup_append]
    refine ⟨h, by simp, fun a ha b hb e => z ?_⟩
    have hb : b = k := by simpa using hb
    rw [← hb, ← e]
    exact ha
theorem PosD.put {c : List (Nat × Nat)} {k v : Nat} (h : PosD c) (p : 0 < v) : PosD (putN c k v) := by
  unfold putN
  by_cases z : k ∈ c.map (·.1)
  · rw [if_pos z]
    intro e he
    obtain ⟨d, hd, rfl⟩ := List.mem_map.mp he
    by_cases y : d.1 = k
    · rw [if_pos y]; exact p
    · rw [if_neg y]; exact h d hd
  · rw [if_neg z]
    intro e he
    rcases List.mem_append.mp he with he | he
    · exact h e he
    · rw [List.mem_singleton.mp he]; exact p
theorem getN_none {k : Nat} : ∀ {c : List (Nat × Nat)}, k ∉ c.map (·.1) → getN c k = none
  | [], _ => rfl
  | e :: c, h => by
    rw [getN, if_neg fun y => h (List.mem_cons.mpr (.inl y.symm)), getN_none fun m => h (List.mem_cons_of_mem _ m)]
theorem getN_at : ∀ {c : List (Nat × Nat)} {e : Nat × Nat}, NoTw c → e ∈ c → getN c e.1 = some e.2
  | [], e, _, h => absurd h (by simp)
  | d :: c, e, n, h => by
    have n2 := List.nodup_cons.mp (show (d.1 :: c.map (·.1)).Nodup from n)
    rw [getN]
    rcases List.mem_cons.mp h with rfl | h
    · rw [if_pos rfl]
    · rw [if_neg fun y => n2.1 (List.mem_map.mpr ⟨e, h, y.symm⟩)]
      exact getN_at n2.2 h
theorem key_pos {c : List (Nat × Nat)} (n : NoTw c) (p : PosD c) {k : Nat} : k ∈ c.map (·.1) ↔ 0 < valN c k := by
  constructor
  · intro h
    obtain ⟨e, he, rfl⟩ := List.mem_map.mp h
    unfold valN
    rw [getN_at n he]
    exact p e he
  · intro h
    by_cases z : k ∈ c.map (·.1)
    · exact z
    · unfold valN at h
      rw [getN_none z] at h
      exact absurd h (by decide)
theorem vsum_map {k v : Nat} : ∀ {c : List (Nat × Nat)}, NoTw c → k ∈ c.map (·.1) → vsumN (c.map fun e => if e.1 = k then (k, v) else e) + valN c k = vsumN c + v
  | [], _, h => absurd h (by simp)
  | e :: c, n, h => by
    have n2 := List.nodup_cons.mp (show (e.1 :: c.map (·.1)).Nodup from n)
    unfold vsumN valN
    rw [List.map_cons, List.map_cons, List.map_cons, List.sum_cons, List.sum_cons, getN]
    by_cases z : e.1 = k
    · have same : (c.map fun e => if e.1 = k then (k, v) else e) = c := by
        refine (List.map_congr_left fun d hd => ?_).trans (List.map_id c)
        rw [if_neg fun y => n2.1 (by rw [z, ← y]; exact List.mem_map.mpr ⟨d, hd, rfl⟩)]
        rfl
      rw [if_pos z, if_pos z, same]
      show v + _ + e.2 = _
      omega
    · rw [if_neg z, if_neg z]
      have ih := vsum_map (v := v) n2.2 ((List.mem_cons.mp h).resolve_left fun y => z y.symm)
      unfold vsumN valN at ih
      omega
theorem vsum_put {c : List (Nat × Nat)} {k v : Nat} (n : NoTw c) : vsumN (putN c k v) + valN c k = vsumN c + v := by
  unfold putN
  by_cases z : k ∈ c.map (·.1)
  · rw [if_pos z]
    exact vsum_map n z
  · rw [if_neg z]
    unfold vsumN valN
    rw [getN_none z, List.map_append, List.sum_append]
    simp
theorem vsum_add {c : List (Nat × Nat)} {k v : Nat} (n : NoTw c) : vsumN (addN c k v) = vsumN c + v := by
  have := vsum_put (k := k) (v := valN c k + v) n
  unfold addN
  unfold valN at this
  omega
theorem bring_cons {inner c es : List (Nat × Nat)} {w : Nat} {e : Nat × Nat} : bring inner w c (e :: es) = bring inner w (addN c (e.1 + 1) (valN inner e.1 * w)) es := rfl
theorem valN_bring {inner : List (Nat × Nat)} {w j : Nat} : ∀ {es c : List (Nat × Nat)}, valN (bring inner w c es) j = valN c j + (es.map fun e => if e.1 + 1 = j then valN inner e.1 * w else 0).sum
  | [], c => by simp [bring]
  | e :: es, c => by
    rw [bring_cons, valN_bring, valN_add, List.map_cons, List.sum_cons]
    omega
theorem sum_at {g : Nat → Nat} {j : Nat} : ∀ {es : List (Nat × Nat)}, NoTw es → (es.map fun e => if e.1 = j then g e.1 else 0).sum = if j ∈ es.map (·.1) then g j else 0
  | [], _ => rfl
  | e :: es, n => by
    have n2 := List.nodup_cons.mp (show (e.1 :: es.map (·.1)).Nodup from n)
    rw [List.map_cons, List.sum_cons, sum_at n2.2]
    by_cases z : e.1 = j
    · rw [if_pos z, if_neg (by rw [← z]; exact n2.1), if_pos (by rw [List.map_cons, z]; exact List.mem_cons_self ..), z]
      rfl
    · rw [if_neg z, Nat.zero_add]
      by_cases y : j ∈ es.map (·.1)
      · rw [if_pos y, List.map_cons, if_pos (List.mem_cons_of_mem _ y)]
      · rw [if_neg y, List.map_cons, if_neg fun m => y ((List.mem_cons.mp m).resolve_left fun q => z q.symm)]
theorem bring_succ' {inner c : List (Nat × Nat)} {w j : Nat} (n : NoTw inner) : valN (bring inner w c inner) (j + 1) = valN c (j + 1) + valN inner j * w := by
  rw [valN_bring]
  have e : (inner.map fun e => if e.1 + 1 = j + 1 then valN inner e.1 * w else 0) = inner.map fun e => if e.1 = j then (fun k => valN inner k * w) e.1 else 0 :=
    List.map_congr_left fun e _ => by
      by_cases z : e.1 = j
      · rw [if_pos z, if_pos (by rw [z])]
      · rw [if_neg z, if_neg fun y => z (by omega)]
  rw [e, sum_at (g := fun k => valN inner k * w) n]
  by_cases y : j ∈ inner.map (·.1)
  · rw [if_pos y]
  · rw [if_neg y]
    unfold valN
    rw [getN_none y]
    simp
theorem bring_zero {inner c : List (Nat × Nat)} {w : Nat} : valN (bring inner w c inner) 0 = valN c 0 := by
  rw [valN_bring]
  have : (inner.map fun e => if e.1 + 1 = 0 then valN inner e.1 * w else 0) = inner.map fun _ => 0 := List.map_congr_left fun e _ => if_neg (by omega)
  rw [this, List.map_const', List.sum_replicate_nat]
  omega
theorem bring_good {inner : List (Nat × Nat)} {w : Nat} (p : PosD inner) (ni : NoTw inner) (hw : 0 < w) : ∀ {es c : List (Nat × Nat)}, (∀ e ∈ es, e ∈ inner) → NoTw c → PosD c →
    NoTw (bring inner w c es) ∧ PosD (bring inner w c es) ∧ vsumN (bring inner w c es) = vsumN c + (es.map (·.2)).sum * w
  | [], c, _, n, q => ⟨n, q, by simp [bring]⟩
  | e :: es, c, he, n, q => by
    rw [bring_cons]
    have hm := he e (List.mem_cons_self ..)
    have ve : valN inner e.1 = e.2 := by
      unfold valN
      rw [getN_at ni hm]
      rfl
    rw [ve]
    have pe : 0 < e.2 * w := Nat.mul_pos (p e hm) hw
    obtain ⟨a, b, d⟩ := bring_good p ni hw (es := es) (c := addN c (e.1 + 1) (e.2 * w)) (fun x hx => he x (List.mem_cons_of_mem _ hx)) n.put (q.put (by omega))
    refine ⟨a, b, ?_⟩
    rw [d, vsum_add n, List.map_cons, List.sum_cons, Nat.add_mul]
    omega
section
variable {α : Type} [DecidableEq α] {rs : List (α × α)} {sd : α × α → α → Bool}
abbrev mineL (sd : α × α → α → Bool) (h : α) (L : List α) (e : α × α) : List α := if h ∈ nearL sd L e then nearL sd L e else farL sd L e
abbrev othL (sd : α × α → α → Bool) (h : α) (L : List α) (e : α × α) : List α := if h ∈ nearL sd L e then farL sd L e else nearL sd L e
/-- how many unlike evenings by how often a house feasts -/
def byL (rs : List (α × α)) (sd : α × α → α → Bool) (h : α) (N : Nat) : Nat → List α → List (Nat × Nat)
  | 0, _ => []
  | n + 1, L => if L.length = 1 then [(0, 1)] else (rs.filter (inL L)).foldl (fun c e => bring (byL rs sd h N n (mineL sd h L e)) (manyL rs sd N (othL sd h L e)) c (byL rs sd h N n (mineL sd h L e))) []
theorem Con.mine (S : Sd rs sd) {L : List α} (C : Con rs L) {e : α × α} (he : e ∈ rs) (hi : inL L e = true) {h : α} (hh : h ∈ L) :
    h ∈ mineL sd h L e ∧ h ∉ othL sd h L e ∧ Con rs (mineL sd h L e) ∧ Con rs (othL sd h L e) ∧ (mineL sd h L e).length < L.length ∧ (othL sd h L e).length < L.length := by
  obtain ⟨c1, c2, ll, l3, l4⟩ := C.cut S he hi
  by_cases z : h ∈ nearL sd L e
  · rw [mineL, othL, if_pos z, if_pos z]
    exact ⟨z, fun y => (by have := (mem_far.mp y).2; rw [(mem_near.mp z).2] at this; cases this), c1, c2, l3, l4⟩
  · rw [mineL, othL, if_neg z, if_neg z]
    refine ⟨mem_far.mpr ⟨hh, ?_⟩, z, c2, c1, l4, l3⟩
    cases q : sd e h with
    | true => rfl
    | false => exact absurd (mem_near.mpr ⟨hh, q⟩) z
theorem countP_ext {β : Type} {p q : β → Bool} {xs : List β} (h : ∀ x ∈ xs, p x = q x) : xs.countP p = xs.countP q := by
  induction xs with
  | nil => rfl
  | cons x xs ih =>
    rw [List.countP_cons, List.countP_cons, ih fun y hy => h y (List.mem_cons_of_mem _ hy), h x (List.mem_cons_self ..)]
theorem sum_if {β : Type} {p : β → Bool} {b : Nat} : ∀ xs : List β, (xs.map fun x => if p x = true then b else 0).sum = xs.countP p * b
  | [] => by simp
  | x :: xs => by
    rw [List.map_cons, List.sum_cons, List.countP_cons, sum_if xs, Nat.add_mul]
    cases p x <;> simp <;> omega
theorem often_row {h : α} {L : List α} {one other : List (List α)} (hh : h ∈ L) : oftenL h ([L] ++ one ++ other) = 1 + oftenL h one + oftenL h other := by
  unfold oftenL
  rw [List.countP_append, List.countP_append, List.countP_cons, List.countP_nil, decide_eq_true hh]
  simp
/-- the rows of one last road, by how often the house feasts -/
theorem rows_count (S : Sd rs sd) {n k : Nat} {L : List α} (C : Con rs L) {e : α × α} (he : e ∈ rs) (hi : inL L e = true) {h : α} (hh : h ∈ L) :
    ((allL rs sd n (nearL sd L e)).flatMap fun one => (allL rs sd n (farL sd L e)).map fun other => [L] ++ one ++ other).countP (fun row => decide (oftenL h row = k)) =
      (allL rs sd n (mineL sd h L e)).countP (fun row => decide (1 + oftenL h row = k)) * manyL rs sd n (othL sd h L e) := by
  rw [List.countP_flatMap]
  by_cases z : h ∈ nearL sd L e
  · rw [mineL, othL, if_pos z, if_pos z, ← sum_if]
    congr 1
    refine List.map_congr_left fun one ho => ?_
    show ((allL rs sd n (farL sd L e)).map fun other => [L] ++ one ++ other).countP _ = _
    rw [List.countP_map]
    have zero : ∀ other ∈ allL rs sd n (farL sd L e), oftenL h other = 0 := fun other hq => often_zero fun p hp y => by
      have := mem_far.mp (allL_in n _ _ hq p hp h y)
      rw [(mem_near.mp z).2] at this
      exact absurd this.2 (by decide)
    by_cases q : 1 + oftenL h one = k
    · rw [if_pos (decide_eq_true q), ← allL_len, List.countP_eq_length]
      intro other hq
      show decide (oftenL h ([L] ++ one ++ other) = k) = true
      rw [often_row hh, zero other hq]
      exact decide_eq_true q
    · rw [if_neg (by rw [decide_eq_false q]; decide), List.countP_eq_zero]
      intro other hq
      show ¬ decide (oftenL h ([L] ++ one ++ other) = k) = true
      rw [often_row hh, zero other hq, Nat.add_zero, decide_eq_false q]
      decide
  · rw [mineL, othL, if_neg z, if_neg z]
    have hf : ∀ one ∈ allL rs sd n (nearL sd L e), ((allL rs sd n (farL sd L e)).map fun other => [L] ++ one ++ other).countP (fun row => decide (oftenL h row = k)) = (allL rs sd n (farL sd L e)).countP fun row => decide (1 + oftenL h row = k) := by
      intro one ho
      have zero : oftenL h one = 0 := often_zero fun p hp y => z (allL_in n _ _ ho p hp h y)
      rw [List.countP_map]
      refine countP_ext fun other _ => ?_
      show decide (oftenL h ([L] ++ one ++ other) = k) = _
      rw [often_row hh, zero, Nat.add_zero]
    have : ((allL rs sd n (nearL sd L e)).map (List.countP (fun row => decide (oftenL h row = k)) ∘ fun one => (allL rs sd n (farL sd L e)).map fun other => [L] ++ one ++ other)) = (allL rs sd n (nearL sd L e)).map fun _ => (allL rs sd n (farL sd L e)).countP fun row => decide (1 + oftenL h row = k) :=
      List.map_congr_left hf
    rw [this, List.map_const', List.sum_replicate_nat, allL_len]
    exact Nat.mul_comm ..
theorem byL_good (S : Sd rs sd) {h : α} {N : Nat} : ∀ (n : Nat) (L : List α), Con rs L → L.length ≤ n → n ≤ N → h ∈ L →
    NoTw (byL rs sd h N n L) ∧ PosD (byL rs sd h N n L) ∧ vsumN (byL rs sd h N n L) = manyL rs sd n L ∧ ∀ k, valN (byL rs sd h N n L) k = (allL rs sd n L).countP fun row => decide (oftenL h row = k)
  | 0, L, C, l, _, _ => absurd C.2.1 (by omega)
  | n + 1, L, C, l, hN, hh => by
    rw [byL, manyL, allL]
    by_cases h1 : L.length = 1
    · rw [if_pos h1, if_pos h1, if_pos h1]
      refine ⟨by unfold NoTw; simp, fun e he => by rw [List.mem_singleton.mp he]; decide, rfl, fun k => ?_⟩
      show (if 0 = k then some 1 else none).getD 0 = _
      by_cases z : 0 = k
      · subst z; rfl
      · rw [if_neg z, List.countP_cons, List.countP_nil]
        show 0 = 0 + if decide (0 = k) = true then 1 else 0
        rw [decide_eq_false z]; rfl
    · rw [if_neg h1, if_neg h1, if_neg h1]
      have key : ∀ (es : List (α × α)) (c : List (Nat × Nat)), (∀ e ∈ es, e ∈ rs.filter (inL L)) → NoTw c → PosD c →
          NoTw (es.foldl (fun c e => bring (byL rs sd h N n (mineL sd h L e)) (manyL rs sd N (othL sd h L e)) c (byL rs sd h N n (mineL sd h L e))) c) ∧
          PosD (es.foldl (fun c e => bring (byL rs sd h N n (mineL sd h L e)) (manyL rs sd N (othL sd h L e)) c (byL rs sd h N n (mineL sd h L e))) c) ∧
          vsumN (es.foldl (fun c e => bring (byL rs sd h N n (mineL sd h L e)) (manyL rs sd N (othL sd h L e)) c (byL rs sd h N n (mineL sd h L e))) c) = vsumN c + (es.map fun e => manyL rs sd n (nearL sd L e) * manyL rs sd n (farL sd L e)).sum ∧
          ∀ k, valN (es.foldl (fun c e => bring (byL rs sd h N n (mineL sd h L e)) (manyL rs sd N (othL sd h L e)) c (byL rs sd h N n (mineL sd h L e))) c) k = valN c k +
            (es.map fun e => ((allL rs sd n (nearL sd L e)).flatMap fun one => (allL rs sd n (farL sd L e)).map fun other => [L] ++ one ++ other).countP fun row => decide (oftenL h row = k)).sum := by
        intro es
        induction es with
        | nil => intro c _ n1 p1; exact ⟨n1, p1, by simp, fun k => by simp⟩
        | cons e es ih =>
          intro c he n1 p1
          obtain ⟨he1, he2⟩ := List.mem_filter.mp (he e (List.mem_cons_self ..))
          obtain ⟨m1, m2, cm, co, lm, lo⟩ := C.mine S he1 he2 hh
          obtain ⟨b1, b2, b3, b4⟩ := byL_good (h := h) (N := N) S n _ cm (by omega) (by omega) m1
          have wm : manyL rs sd N (othL sd h L e) = manyL rs sd n (othL sd h L e) := manyL_mono S n N _ co (by omega) (by omega)
          have wp : 0 < manyL rs sd N (othL sd h L e) := manyL_pos S N _ co (by omega)
          obtain ⟨g1, g2, g3⟩ := bring_good b2 b1 wp (es := byL rs sd h N n (mineL sd h L e)) (c := c) (fun _ h => h) n1 p1
          obtain ⟨i1, i2, i3, i4⟩ := ih _ (fun x hx => he x (List.mem_cons_of_mem _ hx)) g1 g2
          rw [List.foldl_cons]
          refine ⟨i1, i2, ?_, fun k => ?_⟩
          · rw [i3, g3, List.map_cons, List.sum_cons]
            have b3 : ((byL rs sd h N n (mineL sd h L e)).map (·.2)).sum = manyL rs sd n (mineL sd h L e) := b3
            rw [b3, wm]
            have : manyL rs sd n (mineL sd h L e) * manyL rs sd n (othL sd h L e) = manyL rs sd n (nearL sd L e) * manyL rs sd n (farL sd L e) := by
              by_cases z : h ∈ nearL sd L e
              · rw [mineL, othL, if_pos z, if_pos z]
              · rw [mineL, othL, if_neg z, if_neg z, Nat.mul_comm]
            rw [this]
            omega
          · rw [i4 k, List.map_cons, List.sum_cons, rows_count S C he1 he2 hh]
            cases k with
            | zero =>
              rw [bring_zero]
              have : ((allL rs sd n (mineL sd h L e)).countP fun row => decide (1 + oftenL h row = 0)) = 0 := by
                rw [List.countP_eq_zero]
                intro row _ q
                have := of_decide_eq_true q
                omega
              rw [this]
              omega
            | succ j =>
              rw [bring_succ' b1, b4 j, wm]
              have : ((allL rs sd n (mineL sd h L e)).countP fun row => decide (1 + oftenL h row = j + 1)) = (allL rs sd n (mineL sd h L e)).countP fun row => decide (oftenL h row = j) :=
                countP_ext fun row _ => decide_eq_decide.mpr ⟨fun z => by omega, fun z => by omega⟩
              rw [this]
              omega
      obtain ⟨a1, a2, a3, a4⟩ := key (rs.filter (inL L)) [] (fun _ h => h) List.nodup_nil (fun e he => absurd he (by simp))
      refine ⟨a1, a2, ?_, fun k => ?_⟩
      · rw [a3]
        show 0 + _ = _
        rw [Nat.zero_add]
      · rw [a4 k, List.countP_flatMap]
        show 0 + _ = _
        rw [Nat.zero_add]
        rfl
end
end K1
end
-- UBits
section
set_option Elab.async false
set_option linter.all false
set_option maxRecDepth 100000
set_option maxHeartbeats 1000000
namespace K1
/-- a number by its bits, the least first -/
def bsum : List Bool → Nat
  | [] => 0
  | b :: bs => (if b then 1 else 0) + 2 * bsum bs
theorem bsum_bit : ∀ (bs : List Bool) (i : Nat), (bsum bs).testBit i = (bs[i]?).getD false
  | [], i => by simp [bsum]
  | b :: bs, 0 => by
    rw [bsum, Nat.testBit_zero]
    cases b <;> simp <;> omega
  | b :: bs, i + 1 => by
    rw [Nat.testBit_succ]
    have : bsum (b :: bs) / 2 = bsum bs := by rw [bsum]; cases b <;> simp <;> omega
    rw [this, bsum_bit bs i]
    rfl
theorem bsum_and (as bs : List Bool) (h : as.length = bs.length) : bsum as &&& bsum bs = bsum (List.zipWith (fun a b => a && b) as bs) := by
  refine Nat.eq_of_testBit_eq fun i => ?_
  rw [Nat.testBit_and, bsum_bit, bsum_bit, bsum_bit, List.getElem?_zipWith]
  by_cases hi : i < as.length
  · rw [List.getElem?_eq_getElem hi, List.getElem?_eq_getElem (by omega : i < bs.length)]
    rfl
  · rw [List.getElem?_eq_none (by omega), List.getElem?_eq_none (by omega)]
    rfl
theorem bsum_inj : ∀ {as bs : List Bool}, as.length = bs.length → bsum as = bsum bs → as = bs
  | [], [], _, _ => rfl
  | a :: as, b :: bs, h, e => by
    have h : as.length = bs.length := by simpa using h
    rw [bsum, bsum] at e
    have e1 : bsum as = bsum bs := by cases a <;> cases b <;> simp at e <;> omega
    have e2 : a = b := by cases a <;> cases b <;> simp at e <;> first | rfl | omega
    rw [e2, bsum_inj h e1]
theorem bsum_sub : ∀ (as bs : List Bool), as.length = bs.length → bsum as = bsum (List.zipWith (fun a b => a && b) as bs) + bsum (List.zipWith (fun a b => a && !b) as bs)
  | [], [], _ => rfl
  | a :: as, b :: bs, h => by
    have h : as.length = bs.length := by simpa using h
    have ih := bsum_sub as bs h
    simp only [List.zipWith_cons_cons, bsum]
    cases a <;> cases b <;> simp <;> omega
theorem bsum_lt : ∀ (bs : List Bool), bsum bs < 2 ^ bs.length
  | [] => by simp [bsum]
  | b :: bs => by
    have := bsum_lt bs
    rw [bsum, List.length_cons, Nat.pow_succ]
    cases b <;> simp <;> omega
end K1
end
-- WSide
section
set_option Elab.async false
set_option linter.all false
set_option maxRecDepth 100000
set_option maxHeartbeats 1000000
namespace K1
open PySem PySem.Spec PyProof.Rows L2 W0
open Classical in
/-- a colour that only this road changes tells its sides -/
theorem mem_side {ss : List Str} {rs : List (Str × Str)} (T : Tree ss rs) {e : Str × Str} (he : e ∈ rs) {c : Str → Bool} (h1 : c e.1 ≠ c e.2) (h2 : ∀ e' ∈ rs, e' ≠ e → c e'.1 = c e'.2) {z : Str} (hz : z ∈ ss) : z ∈ sideL ss rs e.1 e.2 ↔ c z = c e.2 := by
  have nb1 : nbB rs e.1 e.2 = true := nbB_iff.mpr (.inl he)
  have col : ∀ s t, nbB rs s t = true → ¬ (s = e.1 ∧ t = e.2) → ¬ (s = e.2 ∧ t = e.1) → c s = c t := by
    intro s t q n1 n2
    rcases nbB_iff.mp q with m | m
    · exact h2 (s, t) m fun y => n1 ⟨congrArg Prod.fst y, congrArg Prod.snd y⟩
    · exact (h2 (t, s) m fun y => n2 ⟨congrArg Prod.snd y, congrArg Prod.fst y⟩).symm
  have ne : e.2 ≠ e.1 := fun y => h1 (by rw [y])
  unfold sideL
  rw [List.mem_filter, decide_eq_true_eq]
  constructor
  · exact fun h => Rch.col ne col h.2
  · intro h
    refine ⟨hz, ?_⟩
    by_cases r : Rch rs e.1 e.2 z
    · exact r
    · have r2 := (T.sides nb1 hz).mpr r
      have := Rch.col (c := c) (fun y => ne y.symm) (fun s t q n1 n2 => col s t q n2 n1) r2
      exact absurd (this.symm.trans h) h1
/-- bits of a list's places -/
theorem lotN_idx {pt : List Str} (nd : pt.Nodup) {i : Nat} (hi : i < pt.length) : bitN pt pt[i] = 2 ^ i := by
  unfold bitN
  rw [nd.idxOf_getElem]
theorem lotN_all : ∀ (pt : List Str), pt.Nodup → ∀ (us vs : List Str), pt = us ++ vs → lotN pt vs + 2 ^ us.length = 2 ^ pt.length
  | pt, nd, us, [], e => by
    subst e
    simp [lotN]
  | pt, nd, us, v :: vs, e => by
    have ih := lotN_all pt nd (us ++ [v]) vs (by rw [e, List.append_assoc]; rfl)
    have hi : us.length < pt.length := by rw [e, List.length_append, List.length_cons]; omega
    have ev : pt[us.length] = v := by
      have : pt[us.length]? = some v := by rw [e]; simp
      rw [List.getElem?_eq_getElem hi] at this
      exact Option.some.inj this
    have hb : bitN pt v = 2 ^ us.length := by
      rw [← ev]
      exact lotN_idx nd hi
    have step : lotN pt (v :: vs) = bitN pt v + lotN pt vs := by
      unfold lotN
      rw [List.map_cons, List.sum_cons]
    rw [step, hb]
    rw [List.length_append, List.length_singleton, Nat.pow_succ] at ih
    omega
end K1
end
-- WRowS
section
set_option Elab.async false
set_option linter.all false
set_option maxRecDepth 100000
set_option maxHeartbeats 1000000
namespace K1
open PySem PySem.Spec PyProof.Rows L2 W0
theorem nodup_of_map {α β : Type} {f : α → β} : ∀ {xs : List α}, (xs.map f).Nodup → xs.Nodup
  | [], _ => List.nodup_nil
  | x :: xs, h => by
    have hc := List.nodup_cons.mp (show (f x :: xs.map f).Nodup from h)
    exact List.nodup_cons.mpr ⟨fun m => hc.1 (List.mem_map.mpr ⟨x, m, rfl⟩), nodup_of_map hc.2⟩
/-- the roads of a row -/
abbrev rowR (ss : List Str) : List (Str × Str) := ss.zip ss.tail
theorem rowR_len (ss : List Str) : (rowR ss).length = ss.length - 1 := by
  unfold rowR
  rw [List.length_zip, List.length_tail]
  omega
theorem rowR_get {ss : List Str} {p : Nat} (h : p < (rowR ss).length) (h1 : p < ss.length) (h2 : p + 1 < ss.length) : (rowR ss)[p] = (ss[p], ss[p + 1]) := by
  unfold rowR
  rw [List.getElem_zip, List.getElem_tail]
theorem rowR_mem {ss : List Str} {e : Str × Str} (h : e ∈ rowR ss) : ∃ (p : Nat) (h1 : p < ss.length) (h2 : p + 1 < ss.length), e = (ss[p], ss[p + 1]) := by
  obtain ⟨p, hp, e1⟩ := List.getElem_of_mem h
  have hp2 := hp
  rw [rowR_len] at hp2
  exact ⟨p, by omega, by omega, by rw [← e1, rowR_get hp (by omega) (by omega)]⟩
def colR (ss : List Str) (p : Nat) (z : Str) : Bool := decide (p < ss.idxOf z)
theorem colR_at {ss : List Str} (nd : ss.Nodup) {p i : Nat} (hi : i < ss.length) : colR ss p ss[i] = decide (p < i) := by
  unfold colR
  rw [nd.idxOf_getElem]
theorem row_col {ss : List Str} (nd : ss.Nodup) {p : Nat} (h1 : p < ss.length) (h2 : p + 1 < ss.length) : colR ss p ss[p] ≠ colR ss p ss[p + 1] ∧ ∀ e' ∈ rowR ss, e' ≠ (ss[p], ss[p + 1]) → colR ss p e'.1 = colR ss p e'.2 := by
  refine ⟨?_, fun e' he' n => ?_⟩
  · rw [colR_at nd, colR_at nd, decide_eq_false (by omega), decide_eq_true (by omega)]
    decide
  · obtain ⟨q, q1, q2, rfl⟩ := rowR_mem he'
    have qp : q ≠ p := fun z => n (by subst z; rfl)
    show colR ss p ss[q] = colR ss p ss[q + 1]
    rw [colR_at nd, colR_at nd]
    exact decide_eq_decide.mpr (by omega)
theorem row_cut {ss : List Str} (nd : ss.Nodup) : Cut (rowR ss) := by
  refine ⟨nodup_of_map (f := Prod.snd) ?_, fun e he => ?_⟩
  · unfold rowR
    rw [List.map_snd_zip (by rw [List.length_tail]; omega)]
    exact nd.sublist (List.tail_sublist _)
  · obtain ⟨p, h1, h2, rfl⟩ := rowR_mem he
    exact ⟨colR ss p, row_col nd h1 h2⟩
theorem row_ends {ss : List Str} : EndsIn ss (rowR ss) := fun e he => by
  obtain ⟨p, h1, h2, rfl⟩ := rowR_mem he
  exact ⟨List.getElem_mem _, List.getElem_mem _⟩
theorem row_far {ss : List Str} (T : Tree ss (rowR ss)) {p : Nat} (h1 : p < ss.length) (h2 : p + 1 < ss.length) : farS ss ss (rowR ss) (ss[p], ss[p + 1]) = ss.drop (p + 1) := by
  have nd := T.nd
  have he : (ss[p], ss[p + 1]) ∈ rowR ss := by
    have hp : p < (rowR ss).length := by rw [rowR_len]; omega
    rw [← rowR_get hp h1 h2]
    exact List.getElem_mem _
  have c := row_col nd h1 h2
  have mem : ∀ z ∈ ss, decide (z ∈ sideL ss (rowR ss) ss[p] ss[p + 1]) = colR ss p z := fun z hz => by
    have := mem_side T he c.1 c.2 hz
    rw [Bool.eq_iff_iff, decide_eq_true_eq, this]
    show colR ss p z = colR ss p ss[p + 1] ↔ _
    rw [colR_at nd, decide_eq_true (by omega : p < p + 1)]
  unfold farS
  rw [List.filter_congr mem]
  have key : ss = ss.take (p + 1) ++ ss.drop (p + 1) := (List.take_append_drop _ _).symm
  have g1 : (ss.take (p + 1)).filter (colR ss p) = [] := by
    rw [List.filter_eq_nil_iff]
    intro z hz
    obtain ⟨i, hi, e⟩ := List.getElem_of_mem hz
    rw [List.length_take] at hi
    rw [List.getElem_take] at e
    rw [← e, colR_at nd, decide_eq_false (by omega)]
    decide
  have g2 : (ss.drop (p + 1)).filter (colR ss p) = ss.drop (p + 1) := by
    rw [List.filter_eq_self]
    intro z hz
    obtain ⟨i, hi, e⟩ := List.getElem_of_mem hz
    rw [List.length_drop] at hi
    rw [List.getElem_drop] at e
    rw [← e, colR_at nd]
    exact decide_eq_true (by omega)
  calc ss.filter (colR ss p) = (ss.take (p + 1) ++ ss.drop (p + 1)).filter (colR ss p) := by rw [← key]
    _ = ss.drop (p + 1) := by rw [List.filter_append, g1, g2, List.nil_append]
end K1
end
-- WRowT
section
set_option Elab.async false
set_option linter.all false
set_option maxRecDepth 100000
set_option maxHeartbeats 1000000
namespace K1
open PySem PySem.Spec PyProof.Rows L2 W0
/-- a row's splits, by numbers alone -/
def rowT (n : Nat) : List Spl := (List.range (n - 1)).map fun p => (p, 2 ^ p + 2 ^ (p + 1), 2 ^ n - 2 ^ (p + 1))
theorem insU_all {ss : List Str} {rs : List (Str × Str)} (h : EndsIn ss rs) : ∀ i, i ≤ rs.length → insU ss rs i = List.range i
  | 0, _ => rfl
  | i + 1, hi => by
    rw [insU_succ (by omega), insU_all h i (by omega), List.range_succ]
    have e := h rs[i] (List.getElem_mem _)
    have : inPt ss rs[i] = true := by
      unfold inPt
      rw [decide_eq_true e.1, decide_eq_true e.2]
      rfl
    rw [if_pos this]
theorem lotN_self {ss : List Str} (nd : ss.Nodup) : lotN ss ss = 2 ^ ss.length - 1 := by
  have := lotN_all ss nd [] ss rfl
  rw [List.length_nil, Nat.pow_zero] at this
  omega
theorem row_splU {ss : List Str} (T : Tree ss (rowR ss)) : splU ss ss (rowR ss) = rowT ss.length := by
  have nd := T.nd
  unfold splU rowT
  rw [insU_all T.ends _ (Nat.le_refl _), rowR_len]
  refine List.map_congr_left fun p hp => ?_
  have hp := List.mem_range.mp hp
  have h1 : p < ss.length := by omega
  have h2 : p + 1 < ss.length := by omega
  have hr : p < (rowR ss).length := by rw [rowR_len]; exact hp
  unfold splAt
  rw [List.getElem?_eq_getElem hr, rowR_get hr h1 h2]
  show (p, lotN ss [ss[p], ss[p + 1]], lotN ss (farS ss ss (rowR ss) (ss[p], ss[p + 1]))) = _
  rw [row_far T h1 h2]
  have a1 : lotN ss [ss[p], ss[p + 1]] = 2 ^ p + 2 ^ (p + 1) := by
    unfold lotN
    rw [List.map_cons, List.map_cons, List.map_nil, List.sum_cons, List.sum_cons, List.sum_nil, lotN_idx nd h1, lotN_idx nd h2]
    rfl
  have a2 : lotN ss (ss.drop (p + 1)) = 2 ^ ss.length - 2 ^ (p + 1) := by
    have := lotN_all ss nd (ss.take (p + 1)) (ss.drop (p + 1)) (List.take_append_drop _ _).symm
    rw [List.length_take, Nat.min_eq_left (by omega)] at this
    omega
  rw [a1, a2]
/-- no deeper than so many steps, worked out -/
def depB (ts : List Spl) : Nat → Nat → Bool
  | 0, _ => false
  | n + 1, lot => (apart ts lot).all fun t => depB ts n t.2.1 && depB ts n t.2.2 && decide (cntF n ts t.2.1 < 2 ^ 64)
theorem depB_ok {ts : List Spl} : ∀ {n lot : Nat}, depB ts n lot = true → Dep ts n lot
  | 0, _, h => by cases h
  | n + 1, lot, h => fun t ht => by
    have := List.all_eq_true.mp h t ht
    simp only [Bool.and_eq_true, decide_eq_true_eq] at this
    exact ⟨depB_ok this.1.1, depB_ok this.1.2, this.2⟩
def fdepB (ts : List Spl) (bit : Nat) : Nat → Nat → Bool
  | 0, _ => false
  | n + 1, lot => decide (lot = bit) || (apart ts lot).all fun t => fdepB ts bit n (mineB bit t) && depB ts n (othB bit t) && decide (cntF n ts (othB bit t) < 2 ^ 64)
theorem fdepB_ok {ts : List Spl} {bit : Nat} : ∀ {n lot : Nat}, fdepB ts bit n lot = true → DepB ts bit n lot
  | 0, _, h => by cases h
  | n + 1, lot, h => by
    unfold fdepB at h
    rw [Bool.or_eq_true, decide_eq_true_eq] at h
    rcases h with h | h
    · exact .inl h
    · refine .inr fun t ht => ?_
      have := List.all_eq_true.mp h t ht
      simp only [Bool.and_eq_true, decide_eq_true_eq] at this
      exact ⟨fdepB_ok this.1.1, depB_ok this.1.2, this.2⟩
end K1
end
-- UConn
section
set_option Elab.async false
set_option linter.all false
set_option maxRecDepth 100000
set_option maxHeartbeats 1000000
namespace K1
open PySem PySem.Spec PyProof.Rows L2 W0
open Classical in
/-- whether a house lies on a road's second end's side -/
noncomputable def sdT (rs : List (Str × Str)) (e : Str × Str) (z : Str) : Bool := decide (Rch rs e.1 e.2 z)
open Classical in
theorem sdT_side {ss : List Str} {rs : List (Str × Str)} {e : Str × Str} {z : Str} (hz : z ∈ ss) : decide (z ∈ sideL ss rs e.1 e.2) = sdT rs e z := by
  unfold sdT sideL
  refine decide_eq_decide.mpr ?_
  rw [List.mem_filter, decide_eq_true_eq]
  exact ⟨fun h => h.2, fun h => ⟨hz, h⟩⟩
theorem sd_col {ss : List Str} {rs : List (Str × Str)} (T : Tree ss rs) {e : Str × Str} (he : e ∈ rs) {c : Str → Bool} (h1 : c e.1 ≠ c e.2) (h2 : ∀ e' ∈ rs, e' ≠ e → c e'.1 = c e'.2) {z : Str} (hz : z ∈ ss) : sdT rs e z = decide (c z = c e.2) := by
  rw [← sdT_side (ss := ss) hz]
  exact decide_eq_decide.mpr (mem_side T he h1 h2 hz)
theorem sd_ok {ss : List Str} {rs : List (Str × Str)} (T : Tree ss rs) : Sd rs (sdT rs) := by
  refine ⟨fun e he => ?_, fun e he => ?_, fun e he e' he' n => ?_⟩
  · obtain ⟨c, h1, h2⟩ := T.cut.2 e he
    rw [sd_col T he h1 h2 (T.ends e he).1]
    exact decide_eq_false h1
  · obtain ⟨c, h1, h2⟩ := T.cut.2 e he
    rw [sd_col T he h1 h2 (T.ends e he).2]
    exact decide_eq_true rfl
  · obtain ⟨c, h1, h2⟩ := T.cut.2 e he
    rw [sd_col T he h1 h2 (T.ends e' he').1, sd_col T he h1 h2 (T.ends e' he').2, h2 e' he' n]
theorem tree_con {ss : List Str} {rs : List (Str × Str)} (T : Tree ss rs) : Con rs ss := by
  refine ⟨T.nd, by have := T.len; omega, fun a ha b hb => ?_⟩
  refine T.all (S := fun u => Rin rs ss a u) (fun e he => ?_) ha hb .base
  have ee := T.ends e he
  exact ⟨fun h => h.step (.inl he) ee.2, fun h => h.step (.inr he) ee.1⟩
/-! lots as numbers -/
theorem lot_bits {pt : List Str} (nd : pt.Nodup) (f : Str → Bool) : ∀ (vs us : List Str), pt = us ++ vs → lotN pt (vs.filter f) = 2 ^ us.length * bsum (vs.map f)
  | [], us, _ => by simp [lotN, bsum]
  | v :: vs, us, e => by
    have ih := lot_bits nd f vs (us ++ [v]) (by rw [e, List.append_assoc]; rfl)
    have hi : us.length < pt.length := by rw [e, List.length_append, List.length_cons]; omega
    have ev : pt[us.length] = v := by
      have : pt[us.length]? = some v := by rw [e]; simp
      rw [List.getElem?_eq_getElem hi] at this
      exact Option.some.inj this
    have hb : bitN pt v = 2 ^ us.length := by
      rw [← ev]
      exact lotN_idx nd hi
    rw [List.length_append, List.length_singleton, Nat.pow_succ] at ih
    rw [List.filter_cons, List.map_cons, bsum]
    cases hf : f v with
    | true =>
      rw [if_pos rfl, if_pos rfl]
      have step : lotN pt (v :: vs.filter f) = bitN pt v + lotN pt (vs.filter f) := by
        unfold lotN
        rw [List.map_cons, List.sum_cons]
      rw [step, ih, hb, Nat.mul_add, Nat.mul_one, Nat.mul_assoc]
    | false =>
      rw [if_neg (by decide), if_neg (by decide), ih, Nat.zero_add, Nat.mul_assoc]
theorem lot_fil {pt : List Str} (nd : pt.Nodup) (f : Str → Bool) : lotN pt (pt.filter f) = bsum (pt.map f) := by
  rw [lot_bits nd f pt [] rfl, List.length_nil, Nat.pow_zero, Nat.one_mul]
def SubL (ss L : List Str) : Prop := L = ss.filter fun z => decide (z ∈ L)
theorem SubL.self (ss : List Str) : SubL ss ss := (List.filter_eq_self.mpr fun z hz => decide_eq_true hz).symm
theorem SubL.mem {ss L : List Str} (h : SubL ss L) {z : Str} (hz : z ∈ L) : z ∈ ss := by
  rw [h] at hz
  exact (List.mem_filter.mp hz).1
theorem SubL.fil {ss L : List Str} (h : SubL ss L) (f : Str → Bool) : SubL ss (L.filter f) := by
  unfold SubL
  have : L.filter f = (ss.filter fun z => decide (z ∈ L)).filter f := congrArg (List.filter f) h
  rw [this, List.filter_filter]
  refine List.filter_congr fun z hz => ?_
  rw [Bool.eq_iff_iff, Bool.and_eq_true, decide_eq_true_eq, decide_eq_true_eq, List.mem_filter, Bool.and_eq_true, decide_eq_true_eq]
  exact ⟨fun y => ⟨hz, y⟩, fun y => y.2⟩
theorem SubL.bits {ss L : List Str} (nd : ss.Nodup) (h : SubL ss L) : lotN ss L = bsum (ss.map fun z => decide (z ∈ L)) := by
  have := lot_fil nd (fun z => decide (z ∈ L))
  rw [← h] at this
  exact this
theorem lot_perm {pt xs ys : List Str} (p : xs.Perm ys) : lotN pt xs = lotN pt ys := by
  unfold lotN
  exact (p.map _).sum_nat
theorem lot_two {ss : List Str} (nd : ss.Nodup) {a b : Str} (ha : a ∈ ss) (hb : b ∈ ss) (n : a ≠ b) : lotN ss [a, b] = bsum (ss.map fun z => decide (z = a ∨ z = b)) := by
  rw [← lot_fil nd]
  refine lot_perm ((List.perm_ext_iff_of_nodup (by simp [n]) (nd.filter _)).mpr fun z => ?_)
  rw [List.mem_filter, decide_eq_true_eq]
  constructor
  · intro h
    have h : z = a ∨ z = b := by simpa using h
    exact ⟨by rcases h with rfl | rfl <;> assumption, h⟩
  · intro h
    simpa using h.2
theorem lot_one {ss : List Str} (nd : ss.Nodup) {a : Str} (ha : a ∈ ss) : bitN ss a = bsum (ss.map fun z => decide (z = a)) := by
  rw [← lot_fil nd]
  have : bitN ss a = lotN ss [a] := by unfold lotN; simp
  rw [this]
  refine lot_perm ((List.perm_ext_iff_of_nodup (by simp) (nd.filter _)).mpr fun z => ?_)
  rw [List.mem_filter, decide_eq_true_eq, List.mem_singleton]
  exact ⟨fun h => ⟨h ▸ ha, h⟩, fun h => h.2⟩
theorem bs_and {ss : List Str} (f g : Str → Bool) : bsum (ss.map f) &&& bsum (ss.map g) = bsum (ss.map fun z => f z && g z) := by
  rw [bsum_and _ _ (by rw [List.length_map, List.length_map]), List.zipWith_map, List.zipWith_self]
theorem bs_sub {ss : List Str} (f g : Str → Bool) : bsum (ss.map f) - bsum (ss.map fun z => f z && g z) = bsum (ss.map fun z => f z && !g z) := by
  have := bsum_sub (ss.map f) (ss.map g) (by rw [List.length_map, List.length_map])
  rw [List.zipWith_map, List.zipWith_map, List.zipWith_self, List.zipWith_self] at this
  omega
theorem bs_eq {ss : List Str} {f g : Str → Bool} : bsum (ss.map f) = bsum (ss.map g) ↔ ∀ z ∈ ss, f z = g z := by
  constructor
  · intro h z hz
    exact List.map_inj_left.mp (bsum_inj (by rw [List.length_map, List.length_map]) h) z hz
  · intro h
    rw [List.map_congr_left h]
theorem bs_ext {ss : List Str} {f g : Str → Bool} (h : ∀ z ∈ ss, f z = g z) : bsum (ss.map f) = bsum (ss.map g) := bs_eq.mpr h
theorem bs_zero (ss : List Str) : bsum (ss.map fun _ => false) = 0 := by
  induction ss with
  | nil => rfl
  | cons a ss ih => rw [List.map_cons, bsum, ih]; rfl
/-! what the program's splits of a lot are -/
section
variable {ss : List Str} {rs : List (Str × Str)} {L : List Str}
theorem ap_ok (T : Tree ss rs) (hL : SubL ss L) {e : Str × Str} (he : e ∈ rs) {k : Nat} {x : Nat} : apOk (lotN ss L) (k, lotN ss [e.1, e.2], x) = inL L e := by
  have ee := T.ends e he
  have ne := (sd_ok T).ne he
  unfold apOk
  show decide (lotN ss L &&& lotN ss [e.1, e.2] = lotN ss [e.1, e.2]) = _
  rw [hL.bits T.nd, lot_two T.nd ee.1 ee.2 ne, bs_and]
  rw [Bool.eq_iff_iff, decide_eq_true_eq, bs_eq, inL_iff]
  constructor
  · intro h
    have h1 := h _ ee.1
    have h2 := h _ ee.2
    simp at h1 h2
    exact ⟨h1, h2⟩
  · rintro ⟨h1, h2⟩ z hz
    by_cases y : z = e.1 ∨ z = e.2
    · rw [decide_eq_true y, Bool.and_true]
      exact decide_eq_true (by rcases y with rfl | rfl <;> assumption)
    · rw [decide_eq_false y, Bool.and_false]
theorem far_and (T : Tree ss rs) (hL : SubL ss L) {e : Str × Str} : lotN ss L &&& lotN ss (farS ss ss rs e) = lotN ss (farL (sdT rs) L e) := by
  rw [hL.bits T.nd]
  unfold farS
  rw [lot_fil T.nd, bs_and, (hL.fil _).bits T.nd]
  refine bs_ext fun z hz => ?_
  rw [sdT_side hz, Bool.eq_iff_iff, Bool.and_eq_true, decide_eq_true_eq, decide_eq_true_eq, mem_far]
theorem near_sub (T : Tree ss rs) (hL : SubL ss L) {e : Str × Str} : lotN ss L - (lotN ss L &&& lotN ss (farS ss ss rs e)) = lotN ss (nearL (sdT rs) L e) := by
  rw [hL.bits T.nd]
  unfold farS
  rw [lot_fil T.nd, bs_and, bs_sub, (hL.fil _).bits T.nd]
  refine bs_ext fun z hz => ?_
  rw [sdT_side hz, Bool.eq_iff_iff, Bool.and_eq_true, decide_eq_true_eq, decide_eq_true_eq, Bool.not_eq_true', mem_near]
theorem apart_append (xs ys : List Spl) (lot : Nat) : apart (xs ++ ys) lot = apart xs lot ++ apart ys lot := by
  unfold apart
  rw [List.filter_append, List.map_append]
/-- both lots of each road inside, as numbers -/
noncomputable def lotsL (ss : List Str) (rs : List (Str × Str)) (L : List Str) (e : Str × Str) : Nat × Nat := (lotN ss (nearL (sdT rs) L e), lotN ss (farL (sdT rs) L e))
theorem apart_to (T : Tree ss rs) (hL : SubL ss L) : ∀ i, i ≤ rs.length → (apart ((List.range i).map (splAt ss ss rs)) (lotN ss L)).map (·.2) = ((rs.take i).filter (inL L)).map (lotsL ss rs L)
  | 0, _ => rfl
  | i + 1, hi => by
    have hi' : i < rs.length := hi
    have he := List.getElem_mem hi'
    rw [List.range_succ, List.map_append, apart_append, List.map_append, apart_to T hL i (by omega), take_snoc hi', List.filter_append, List.map_append]
    congr 1
    have es : splAt ss ss rs i = (i, lotN ss [rs[i].1, rs[i].2], lotN ss (farS ss ss rs rs[i])) := by
      unfold splAt
      rw [List.getElem?_eq_getElem hi']
    rw [List.map_cons, List.map_nil, es]
    unfold apart
    rw [List.filter_cons, List.filter_nil, List.filter_cons, List.filter_nil, ap_ok T hL he]
    cases inL L rs[i] with
    | false => rfl
    | true =>
      show [(apMk (lotN ss L) (i, lotN ss [rs[i].1, rs[i].2], lotN ss (farS ss ss rs rs[i]))).2] = [lotsL ss rs L rs[i]]
      unfold apMk lotsL
      rw [← near_sub T hL, ← far_and T hL]
theorem apart_lot (T : Tree ss rs) (hL : SubL ss L) : (apart (splU ss ss rs) (lotN ss L)).map (·.2) = (rs.filter (inL L)).map (lotsL ss rs L) := by
  have := apart_to T hL rs.length (Nat.le_refl _)
  rw [List.take_length] at this
  unfold splU
  rw [insU_all T.ends _ (Nat.le_refl _)]
  exact this
theorem apart_nil (T : Tree ss rs) (hL : SubL ss L) (C : Con rs L) : apart (splU ss ss rs) (lotN ss L) = [] ↔ L.length = 1 := by
  have e := apart_lot T hL
  constructor
  · intro h
    by_cases z : L.length = 1
    · exact z
    · rw [h] at e
      exact absurd (List.map_eq_nil_iff.mp e.symm) (in_ne C z)
  · intro h
    rw [one_none (sd_ok T) h] at e
    exact List.map_eq_nil_iff.mp e
theorem apart_mem (T : Tree ss rs) (hL : SubL ss L) {t : Spl} (h : t ∈ apart (splU ss ss rs) (lotN ss L)) : ∃ e ∈ rs, inL L e = true ∧ t.2 = lotsL ss rs L e := by
  have : t.2 ∈ (apart (splU ss ss rs) (lotN ss L)).map (·.2) := List.mem_map.mpr ⟨t, h, rfl⟩
  rw [apart_lot T hL] at this
  obtain ⟨e, he, q⟩ := List.mem_map.mp this
  obtain ⟨h1, h2⟩ := List.mem_filter.mp he
  exact ⟨e, h1, h2, q.symm⟩
end
section
variable {ss : List Str} {rs : List (Str × Str)}
theorem cnt_many (T : Tree ss rs) : ∀ (n : Nat) (L : List Str), SubL ss L → Con rs L → cntF n (splU ss ss rs) (lotN ss L) = manyL rs (sdT rs) n L
  | 0, _, _, _ => rfl
  | n + 1, L, hL, C => by
    rw [cntF, manyL]
    by_cases h : L.length = 1
    · rw [if_pos h, if_pos ((apart_nil T hL C).mpr h)]
    · rw [if_neg h, if_neg fun z => h ((apart_nil T hL C).mp z)]
      have : ((apart (splU ss ss rs) (lotN ss L)).map fun t => cntF n (splU ss ss rs) t.2.1 * cntF n (splU ss ss rs) t.2.2) = ((apart (splU ss ss rs) (lotN ss L)).map (·.2)).map fun p => cntF n (splU ss ss rs) p.1 * cntF n (splU ss ss rs) p.2 := by
        rw [List.map_map]; rfl
      rw [this, apart_lot T hL, List.map_map]
      congr 1
      refine List.map_congr_left fun e he => ?_
      obtain ⟨h1, h2⟩ := List.mem_filter.mp he
      obtain ⟨c1, c2, _⟩ := C.cut (sd_ok T) h1 h2
      show cntF n _ (lotN ss (nearL (sdT rs) L e)) * cntF n _ (lotN ss (farL (sdT rs) L e)) = _
      rw [cnt_many T n _ (hL.fil _) c1, cnt_many T n _ (hL.fil _) c2]
theorem many_lt (T : Tree ss rs) (hb : rs.length ^ ss.length < 2 ^ 64) {L : List Str} (hL : SubL ss L) (C : Con rs L) (hr : rs ≠ []) (n : Nat) : manyL rs (sdT rs) n L < 2 ^ 64 := by
  refine Nat.lt_of_le_of_lt (manyL_le (sd_ok T) n L C) (Nat.lt_of_le_of_lt ?_ hb)
  refine Nat.pow_le_pow_right (List.length_pos_iff.mpr hr) ?_
  have : L.length ≤ ss.length := by rw [hL]; exact List.length_filter_le _ _
  omega
theorem dep_con (T : Tree ss rs) (hb : rs.length ^ ss.length < 2 ^ 64) : ∀ (n : Nat) (L : List Str), SubL ss L → Con rs L → L.length ≤ n → Dep (splU ss ss rs) n (lotN ss L)
  | 0, L, _, C, l => absurd C.2.1 (by omega)
  | n + 1, L, hL, C, l => fun t ht => by
    obtain ⟨e, he, hi, q⟩ := apart_mem T hL ht
    obtain ⟨c1, c2, ll, l3, l4⟩ := C.cut (sd_ok T) he hi
    rw [q]
    refine ⟨dep_con T hb n _ (hL.fil _) c1 (by omega), dep_con T hb n _ (hL.fil _) c2 (by omega), ?_⟩
    show cntF n _ (lotN ss (nearL (sdT rs) L e)) < _
    rw [cnt_many T n _ (hL.fil _) c1]
    exact many_lt T hb (hL.fil _) c1 (List.ne_nil_of_mem he) n
theorem bit_in (T : Tree ss rs) {L : List Str} (hL : SubL ss L) {h : Str} (hh : h ∈ ss) : lotN ss L &&& bitN ss h ≠ 0 ↔ h ∈ L := by
  rw [hL.bits T.nd, lot_one T.nd hh, bs_and, ← bs_zero ss, ne_eq, bs_eq]
  constructor
  · intro n
    by_cases z : h ∈ L
    · exact z
    · refine absurd (fun y hy => ?_) n
      by_cases w : y = h
      · rw [w, decide_eq_false z]; rfl
      · rw [decide_eq_false w, Bool.and_false]
  · intro z y
    have := y h hh
    rw [decide_eq_true z, decide_eq_true rfl] at this
    cases this
theorem mine_lot (T : Tree ss rs) {L : List Str} (hL : SubL ss L) {h : Str} (hh : h ∈ ss) {t : Spl} {e : Str × Str} (q : t.2 = lotsL ss rs L e) : mineB (bitN ss h) t = lotN ss (mineL (sdT rs) h L e) ∧ othB (bitN ss h) t = lotN ss (othL (sdT rs) h L e) := by
  unfold mineB othB
  rw [q]
  show (if lotN ss (nearL (sdT rs) L e) &&& bitN ss h ≠ 0 then lotN ss (nearL (sdT rs) L e) else lotN ss (farL (sdT rs) L e)) = _ ∧ (if lotN ss (nearL (sdT rs) L e) &&& bitN ss h ≠ 0 then lotN ss (farL (sdT rs) L e) else lotN ss (nearL (sdT rs) L e)) = _
  by_cases z : h ∈ nearL (sdT rs) L e
  · rw [if_pos ((bit_in T (hL.fil _) hh).mpr z), if_pos ((bit_in T (hL.fil _) hh).mpr z), mineL, othL, if_pos z, if_pos z]
    exact ⟨rfl, rfl⟩
  · rw [if_neg fun y => z ((bit_in T (hL.fil _) hh).mp y), if_neg fun y => z ((bit_in T (hL.fil _) hh).mp y), mineL, othL, if_neg z, if_neg z]
    exact ⟨rfl, rfl⟩
theorem SubL.mine {L : List Str} (hL : SubL ss L) {h : Str} {e : Str × Str} : SubL ss (mineL (sdT rs) h L e) ∧ SubL ss (othL (sdT rs) h L e) := by
  by_cases z : h ∈ nearL (sdT rs) L e
  · rw [mineL, othL, if_pos z, if_pos z]
    exact ⟨hL.fil _, hL.fil _⟩
  · rw [mineL, othL, if_neg z, if_neg z]
    exact ⟨hL.fil _, hL.fil _⟩
theorem one_lot (T : Tree ss rs) {L : List Str} (hL : SubL ss L) (C : Con rs L) {h : Str} (hh : h ∈ L) : lotN ss L = bitN ss h ↔ L.length = 1 := by
  constructor
  · intro e
    rw [hL.bits T.nd, lot_one T.nd (hL.mem hh), bs_eq] at e
    have all : ∀ z ∈ L, z = h := fun z hz => by
      have := e z (hL.mem hz)
      rw [decide_eq_true hz] at this
      exact of_decide_eq_true this.symm
    have := nodup_len C.1 (ys := [h]) fun z hz => by rw [all z hz]; exact List.mem_cons_self ..
    have := C.2.1
    simp only [List.length_singleton] at *
    omega
  · intro l
    obtain ⟨x, rfl⟩ := List.length_eq_one_iff.mp l
    rw [List.mem_singleton.mp hh]
    unfold lotN
    simp
theorem depB_con (T : Tree ss rs) (hb : rs.length ^ ss.length < 2 ^ 64) {h : Str} : ∀ (n : Nat) (L : List Str), SubL ss L → Con rs L → L.length ≤ n → h ∈ L → DepB (splU ss ss rs) (bitN ss h) n (lotN ss L)
  | 0, L, _, C, l, _ => absurd C.2.1 (by omega)
  | n + 1, L, hL, C, l, hh => by
    by_cases h1 : L.length = 1
    · exact .inl ((one_lot T hL C hh).mpr h1)
    · refine .inr fun t ht => ?_
      obtain ⟨e, he, hi, q⟩ := apart_mem T hL ht
      obtain ⟨m1, m2, cm, co, lm, lo⟩ := C.mine (sd_ok T) he hi hh
      obtain ⟨s1, s2⟩ := hL.mine (rs := rs) (h := h) (e := e)
      obtain ⟨q1, q2⟩ := mine_lot T hL (hL.mem hh) q
      rw [q1, q2]
      refine ⟨depB_con T hb n _ s1 cm (by omega) m1, dep_con T hb n _ s2 co (by omega), ?_⟩
      rw [cnt_many T n _ s2 co]
      exact many_lt T hb s2 co (List.ne_nil_of_mem he) n
theorem foldl_map2 {α β γ : Type} {f : γ → β → γ} {g : α → β} : ∀ {xs : List α} {c : γ}, (xs.map g).foldl f c = xs.foldl (fun c x => f c (g x)) c
  | [], _ => rfl
  | x :: xs, c => foldl_map2 (xs := xs)
theorem byF_byL (T : Tree ss rs) {h : Str} {N : Nat} : ∀ (n : Nat) (L : List Str), SubL ss L → Con rs L → h ∈ L → byF N n (splU ss ss rs) (bitN ss h) (lotN ss L) = byL rs (sdT rs) h N n L
  | 0, L, _, _, _ => rfl
  | n + 1, L, hL, C, hh => by
    rw [byF, byL]
    by_cases h1 : L.length = 1
    · rw [if_pos h1, if_pos ((one_lot T hL C hh).mpr h1)]
    · rw [if_neg h1, if_neg fun z => h1 ((one_lot T hL C hh).mp z)]
      have go : ∀ t : Spl, t ∈ apart (splU ss ss rs) (lotN ss L) → ∀ c, bring (byF N n (splU ss ss rs) (bitN ss h) (mineB (bitN ss h) t)) (cntF N (splU ss ss rs) (othB (bitN ss h) t)) c (byF N n (splU ss ss rs) (bitN ss h) (mineB (bitN ss h) t)) =
          (fun c (p : Nat × Nat) => bring (byF N n (splU ss ss rs) (bitN ss h) (mineB (bitN ss h) (0, p))) (cntF N (splU ss ss rs) (othB (bitN ss h) (0, p))) c (byF N n (splU ss ss rs) (bitN ss h) (mineB (bitN ss h) (0, p)))) c t.2 := fun t _ c => rfl
      rw [foldl_congr_mem go, ← foldl_map2 (g := fun t : Spl => t.2) (f := fun c (p : Nat × Nat) => bring (byF N n (splU ss ss rs) (bitN ss h) (mineB (bitN ss h) (0, p))) (cntF N (splU ss ss rs) (othB (bitN ss h) (0, p))) c (byF N n (splU ss ss rs) (bitN ss h) (mineB (bitN ss h) (0, p)))), apart_lot T hL, foldl_map2]
      refine foldl_congr_mem fun e he c => ?_
      obtain ⟨h2, h3⟩ := List.mem_filter.mp he
      obtain ⟨m1, m2, cm, co, lm, lo⟩ := C.mine (sd_ok T) h2 h3 hh
      obtain ⟨s1, s2⟩ := hL.mine (rs := rs) (h := h) (e := e)
      obtain ⟨q1, q2⟩ := mine_lot T hL (hL.mem hh) (t := (0, lotsL ss rs L e)) rfl
      rw [q1, q2, byF_byL T n _ s1 cm m1, cnt_many T N _ s2 co]
end
end K1
end
-- UMean
section
set_option Elab.async false
set_option linter.all false
set_option maxRecDepth 100000
set_option maxHeartbeats 1000000
namespace K1
open PySem PySem.Spec PyProof.Rows L2 W0
abbrev sFr : Stmt := top 19
abbrev sMu : Stmt := top 44
/-- the sum of each number times how many there are with it -/
def msum (c : List (Nat × Nat)) : Nat := (c.map fun e => e.1 * e.2).sum
theorem sum_cast : ∀ xs : List Nat, (xs.map fun n : Nat => ((n : Nat) : Int)).sum = ((xs.sum : Nat) : Int)
  | [] => rfl
  | x :: xs => by
    rw [List.map_cons, List.sum_cons, List.sum_cons, sum_cast xs, Int.natCast_add]
theorem msum_int (c : List (Nat × Nat)) : (c.map fun e : Nat × Nat => ((e.1 : Nat) : Int) * ((e.2 : Nat) : Int)).sum = ((msum c : Nat) : Int) := by
  unfold msum
  rw [← sum_cast, List.map_map]
  congr 1
theorem vsum_int (c : List (Nat × Nat)) : (c.map fun e : Nat × Nat => ((e.2 : Nat) : Int)).sum = ((vsumN c : Nat) : Int) := by
  unfold vsumN
  rw [← sum_cast, List.map_map]
  congr 1
theorem dQ_vals (c : List (Nat × Nat)) : (dQ c).map (·.2) = (c.map fun e : Nat × Nat => ((e.2 : Nat) : Int)).map V.int := by
  unfold dQ
  rw [List.map_map, List.map_map]
  rfl
theorem lk_get {c : List (Nat × Nat)} {j : Nat} {k : Key} {v : V} (h : (dQ c)[j]? = some (k, v)) : ∃ hj : j < c.length, k = .inl ((c[j].1 : Nat) : Int) := by
  unfold dQ at h
  rw [List.getElem?_map] at h
  rcases Nat.lt_or_ge j c.length with hj | hj
  · rw [List.getElem?_eq_getElem hj] at h
    exact ⟨hj, (congrArg Prod.fst (Option.some.inj h)).symm⟩
  · rw [List.getElem?_eq_none hj] at h
    cases h
theorem mul_sum {K : PySem.W.Frag} {σ : L2.St} {H : Hp} {Q : VK} {d i : Nat} {C : Addr} {c : List (Nat × Nat)} (nt : NoTw c) (lc : c.length ≤ 1000) (hk : ∀ e ∈ c, e.1 < 2 ^ 60) (hC : H C = some (.dK (dQ c))) (hσ : σ[d]? = some (some (.ref C)))
    (hw : ∀ v : V, (((wipe σ [i]).set i (some v))[i]? = some (some v) ∧ ((wipe σ [i]).set i (some v))[d]? = some (some (.ref C))) ∧ wipe ((wipe σ [i]).set i (some v)) [i] = wipe σ [i])
    (q : ∀ H', Same H H' → Q (.int ((msum c : Nat) : Int)) H') :
    tLockE (tCB (rSum K) (tCons (tLc (iKeys (tVar d)) (gName i) tYes (tOp (rI CMul fun a b => .int (a * b)) (tVar i) (tDGet (tVar d) (tVar i))) [i]) tNil)) σ H Q := by
  refine ⟨C, _, hC, trivial, fun od => ?_⟩
  refine ⟨_, hσ, C, od, rfl, .inl ⟨_, upd_same, fun D hD => ?_⟩⟩
  have DC : D ≠ C := fun z => by rw [z, upd_same] at hD; cases hD
  have D0 : H D = none := by rw [upd_ne DC] at hD; exact hD
  have lq : (dQ c).length = c.length := by unfold dQ; rw [List.length_map]
  refine lc_it (Qd := _) walk_keys (fun j Hx => Hx C = some (.frz od (.dK (dQ c))) ∧ (∀ b o, b ≠ C → H b = some o → Hx b = some o) ∧ Hx D = some (.lst (((c.take j).map fun e : Nat × Nat => ((e.1 : Nat) : Int) * ((e.2 : Nat) : Int)).map V.int)))
    ⟨by rw [upd_ne DC.symm, upd_same], fun b o nb h => by rw [upd_ne (ne_of_none h D0), upd_ne nb]; exact h, upd_same⟩ (fun j Hx _ h => h.1) ?_ ?_
  · rintro j v Hx H' hj ⟨x1, x2, x3⟩ ⟨rfl, key, v', hkv, rfl⟩
    obtain ⟨hj2, rfl⟩ := lk_get hkv
    obtain ⟨⟨wi, wd⟩, ww⟩ := hw (kV (.inl ((c[j].1 : Nat) : Int)))
    refine ⟨ww, ?_⟩
    unfold tYes
    have hm := List.getElem_mem hj2
    have val : valV (dQ c) (.inl ((c[j].1 : Nat) : Int)) = some (.int ((c[j].2 : Nat) : Int)) := by
      rw [dQ_val, getN_at nt hm]
      rfl
    have kk := hk _ hm
    refine iteT ⟨_, wi, _, wd, _, wi, C, .int ((c[j].2 : Nat) : Int), rfl, .inl ⟨_, .inl ((c[j].1 : Nat) : Int), .inr ⟨od, x1⟩, rfl, val.symm⟩, _, _, rfl, rfl, .inl ⟨by omega, by omega⟩, _, x3, by rw [List.length_map, List.length_map, List.length_take]; exact small1000 (by omega), ?_, fun b o nb h => ?_, ?_⟩
    · rw [upd_ne DC.symm]
      exact x1
    · rw [upd_ne (ne_of_none h D0)]
      exact x2 b o nb h
    · rw [upd_same, take_snoc hj2, List.map_append, List.map_append]
      rfl
  rintro Hx ⟨x1, x2, x3⟩
  rw [lq, List.take_length] at x3
  refine ⟨D, _, rfl, SqL.of x3, x1, ?_⟩
  rw [msum_int]
  refine q _ fun b o h => ?_
  by_cases z : b = C
  · rw [z, hC] at h
    rw [z, upd_same, ← Option.some.inj h]
  · rw [upd_ne z]
    exact x2 b o z h
def spFr : Sp := fun vs H Q _ => ∃ a b : Nat, vs = [.int ((a : Nat) : Int), .int ((b : Nat) : Int)] ∧ 0 < b ∧ b < 2 ^ 100 ∧ ∀ p H', Same H H' → H p = none → H' p = some (.tup [.int ((a / Nat.gcd a b : Nat) : Int), .int ((b / Nat.gcd a b : Nat) : Int)]) → Q (.ref p) H'
theorem scFr : FnScope ["top", "bottom", "common"] ["top", "bottom"] (defScope sFr) := ⟨rfl, rfl, rfl, by decide +kernel, rfl, by decide +kernel, by decide +kernel⟩
theorem scMu : FnScope ["valley", "house", "counts", "number"] ["valley", "house"] (defScope sMu) := ⟨rfl, rfl, rfl, by decide +kernel, rfl, by decide +kernel, by decide +kernel⟩
def spMu (K : PySem.W.Frag) (C CV CN : Addr) (N B : Nat) : Sp := fun vs H Q E => ∃ v u, vs = [v, u] ∧ ((NoV K H v ∧ GoesF CV [("thing", v)] H E) ∨ ∃ x ss rs ns, v = .ref x ∧ IsV C H x ss rs ns ∧ ((NoHo K H ss u ∧ GoesF CN [("house", u)] H E) ∨
  ∃ s, u = .str s ∧ s ∈ ss ∧ Tree ss rs ∧ ss.Nodup ∧ ss.length ≤ 1000 ∧ rs.length ≤ 1000 ∧ lotN ss ss < B ∧ bitN ss s < B ∧ 1 ≤ N ∧ DepB (splU ss ss rs) (bitN ss s) N (lotN ss ss) ∧ 0 < vsumN (byH N ss rs s) ∧ vsumN (byH N ss rs s) < 2 ^ 100 ∧
    ∀ r H', Same H H' → H r = none → H' r = some (.tup [.int ((msum (byH N ss rs s) / Nat.gcd (msum (byH N ss rs s)) (vsumN (byH N ss rs s)) : Nat) : Int), .int ((vsumN (byH N ss rs s) / Nat.gcd (msum (byH N ss rs s)) (vsumN (byH N ss rs s)) : Nat) : Int)]) → Q (.ref r) H'))
theorem dBy_self {c : List (Nat × Nat)} (n : NoTw c) : dBy c (c.map (·.1)) = c := by
  unfold dBy
  rw [List.map_map]
  refine (List.map_congr_left fun e he => ?_).trans (List.map_id c)
  show (e.1, (getN c e.1).getD 0) = e
  rw [getN_at n he]
  rfl
theorem dBy_perm {c : List (Nat × Nat)} (n : NoTw c) {ks : List Nat} (p : ks.Perm (c.map (·.1))) : (dBy c ks).Perm c := by
  have := p.map fun k => (k, (getN c k).getD 0)
  rw [show (c.map (·.1)).map (fun k => (k, (getN c k).getD 0)) = c from dBy_self n] at this
  exact this
theorem msum_perm {c d : List (Nat × Nat)} (p : c.Perm d) : msum c = msum d := (p.map _).sum_nat
theorem vsum_perm {c d : List (Nat × Nat)} (p : c.Perm d) : vsumN c = vsumN d := (p.map _).sum_nat
theorem noTw_perm {c d : List (Nat × Nat)} (p : c.Perm d) (n : NoTw d) : NoTw c := (p.map Prod.fst).nodup_iff.mpr n
section
variable {P : Program} {w : World} {K : PySem.W.Frag} {mg : Str → Option Value} {base : Heap} {C CN CO CV : Addr}
theorem ok_Fr {f : Addr} {fd : FuncData} (F : Fun K "fraction" "fraction" sFr f fd) (mg' : mg "gcd" = some (.builtin "math.gcd")) : FnOk P w K mg base CX0 1 f fd ["top", "bottom"] spFr := by
  refine F.ok scFr (fun vs H Q E h => ?_) (fun cdv A outer s H vs Q E hr h => ?_)
  · obtain ⟨a, b, rfl, _⟩ := h
    rfl
  obtain ⟨a, b, rfl, hb, hb2, q⟩ := h
  have nd := scFr.nd
  refine ⟨_, pss_cons (by exact (ps_set (i := 2) nd rfl (.inl rfl) (pe_callBfun cr_gcd rfl mg' (pa_cons (pv 0) (pa_cons (pv 1) pa_nil)))))
    (pss_one (by exact (ps_ret (pe_tup (pa_cons (pe_op op_fdivW (pv 0) (pv 2)) (pa_cons (pe_op op_fdivW (pv 1) (pv 2)) pa_nil)))))), ?_⟩
  have g0 : 0 < Nat.gcd a b := Nat.gcd_pos_of_pos_right _ hb
  have g1 : Nat.gcd a b < 2 ^ 100 := Nat.lt_of_le_of_lt (Nat.gcd_le_right _ hb) hb2
  have cd : CDivW ((a : Nat) : Int) ((Nat.gcd a b : Nat) : Int) := wide_div (b := 100) (by omega) (by rw [Int.natAbs_natCast]; exact g1) (by decide) (by decide)
  have cd2 : CDivW ((b : Nat) : Int) ((Nat.gcd a b : Nat) : Int) := wide_div (b := 100) (by omega) (by rw [Int.natAbs_natCast]; exact g1) (by decide) (by decide)
  refine ⟨_, rfl, _, rfl, _, _, rfl, ?_⟩
  rw [Int.natAbs_natCast, Int.natAbs_natCast]
  refine K1.gN ?_
  refine ⟨_, rfl, _, rfl, _, _, rfl, rfl, cd, _, rfl, _, rfl, _, _, rfl, rfl, cd2, (by show 2 ≤ sizeLine; decide), fun p hp => ?_⟩
  show Q (.ref p) (L2.upd H p (.tup [.int (((a : Nat) : Int) / ((Nat.gcd a b : Nat) : Int)), .int (((b : Nat) : Int) / ((Nat.gcd a b : Nat) : Int))]))
  rw [← Int.natCast_ediv, ← Int.natCast_ediv]
  exact q p _ (K1.Same.upd hp) hp upd_same
theorem ok_Mu {N B : Nat} (hN2 : N ≤ 1000) {f fB fF : Addr} {fd bd frd : FuncData} (F : Fun K "mean_of_unlike" "mean_of_unlike" sMu f fd) (BL : Bl mg) (msu : mg "sum" = none)
    (GB : FnOk P w K mg base (L2.CX P w) (N + 10) fB bd ["valley", "house"] (spCb K C CV CN N B)) (FB : Fun K "count_by_feasts" "count_by_feasts" sCb fB bd) (bB : Binds K bd ["valley", "house"] []) (mB : mg "count_by_feasts" = some (.ref fB))
    (GR : FnOk P w K mg base CX0 1 fF frd ["top", "bottom"] spFr) (FR : Fun K "fraction" "fraction" sFr fF frd) (bR : Binds K frd ["top", "bottom"] []) (mR : mg "fraction" = some (.ref fF)) :
    FnOk P w K mg base (L2.CX P w) (N + 11) f fd ["valley", "house"] (spMu K C CV CN N B) := by
  refine F.okX scMu (fun vs H Q E h => ?_) (fun cdv A outer s H vs Q E hr h => ?_)
  · obtain ⟨v, u, rfl, _⟩ := h
    rfl
  obtain ⟨v, u, rfl, h⟩ := h
  have nd := scMu.nd
  have hu := hu_of hr
  have hr1 : Room 1 _ := hr.mono (by omega)
  refine ⟨_, pss_cons (by exact (ps_set (i := 2) nd rfl (.inr rfl) (pe_call GB hr rfl mB FB.kp bB .nil (passes_call (takes_of rfl rfl rfl rfl) (fun _ _ _ _ h => h)) (pa_cons (pv 0) (pa_cons (pv 1) pa_nil)))))
    (pss_one (by exact (ps_ret (pe_call GR hr1 rfl mR FR.kp bR .nil pass0 (pa_cons (pe_lock (pe_callB (cr_sum rfl) rfl msu PyProof.Rows.boot_sum (pa_cons (pe_lc (own := [("number", 3)]) (g := gName 3) (tt := tYes) (te := tOp (rI CMul fun a b => .int (a * b)) (tVar 3) (tDGet (tVar 2) (tVar 3))) rfl nd (by exact pi_keys (pv 2)) (by exact blkOk_by (N := ["valley", "house", "counts", "number"]) (sc := defScope sMu) (by decide +kernel)) (fun _ _ _ _ _ => by exact (pg_name (i := 3) nd rfl (.inl rfl))) (fun _ _ _ _ _ => by exact pts_nil) (fun _ _ _ _ _ => by exact (pe_op op_mul (pv 3) (pe_dget hu (pv 2) (pv 3) (fun _ _ => rfl))))) pa_nil)))
      (pa_cons (pe_callB (cr_sum rfl) rfl msu PyProof.Rows.boot_sum (pa_cons (pe_listVals rfl (pv 2) rfl BL.list PyProof.Rows.boot_list) pa_nil)) pa_nil)))))), ?_⟩
  refine ⟨_, rfl, _, rfl, v, u, rfl, ?_⟩
  rcases h with ⟨nv, g⟩ | ⟨x, ss, rs, ns, rfl, iv, h⟩
  · exact .inl ⟨nv, g⟩
  refine .inr ⟨x, ss, rs, ns, rfl, iv, ?_⟩
  rcases h with ⟨nh, g⟩ | ⟨s', rfl, hs, tr, nds, hl, lrs, hB, hbB, hN1, dp, v0, v1, q⟩
  · exact .inl ⟨nh, g⟩
  refine .inr ⟨s', rfl, hs, tr, nds, hl, lrs, hB, hbB, hN1, dp, fun r H1 ks e1 n1 pm pw g1 => ?_⟩
  refine K1.gN ?_
  have kin : KeysB N (byH N ss rs s') := byF_keys
  generalize byH N ss rs s' = cs at pm g1 kin v0 v1 q
  have pc : (dBy cs ks).Perm cs := dBy_perm kin.1 pm
  have nt : NoTw (dBy cs ks) := noTw_perm pc kin.1
  have ld : (dBy cs ks).length ≤ 1000 := by have := pc.length_eq; have := kin.len; omega
  have ke : ∀ e ∈ dBy cs ks, e.1 < 2 ^ 60 := fun e he => by
    have := kin.2 e.1 (List.mem_map.mpr ⟨e, pc.mem_iff.mp he, rfl⟩)
    omega
  rw [← msum_perm pc, ← vsum_perm pc] at q
  rw [← vsum_perm pc] at v0 v1
  generalize dBy cs ks = ds at g1 nt ld ke q v0 v1
  dsimp only
  refine ret_run ?_
  refine cons_run ?_
  refine mul_sum (σ := [some (.ref x), some (.str s'), some (.ref r), none]) nt ld ke g1 rfl (fun v => ⟨⟨rfl, rfl⟩, rfl⟩) fun H2 e2 => ?_
  refine cons_run ?_
  refine cons_run ⟨_, rfl, r, _, rfl, e2 _ _ g1, fun p hp => ?_⟩
  rw [dQ_vals]
  have e3 := K1.Same.upd (H := H2) (p := p) (o := .lst ((ds.map fun e : Nat × Nat => ((e.2 : Nat) : Int)).map V.int)) hp
  have gp := upd_same' H2 p (.lst ((ds.map fun e : Nat × Nat => ((e.2 : Nat) : Int)).map V.int))
  generalize L2.upd H2 p (.lst ((ds.map fun e : Nat × Nat => ((e.2 : Nat) : Int)).map V.int)) = H3 at e3 gp ⊢
  refine ⟨p, _, rfl, SqL.of gp, ?_⟩
  rw [vsum_int]
  have e03 : Same H H3 := e1.trans (e2.trans e3)
  exact ⟨msum ds, vsumN ds, rfl, v0, v1, fun z H4 e4 n4 g4 => q z H4 (e03.trans e4) (e03.free n4) g4⟩
end
end K1
end
-- ULow
section
set_option Elab.async false
set_option linter.all false
set_option maxRecDepth 100000
set_option maxHeartbeats 1000000
namespace K1
open PySem PySem.Spec PyProof.Rows L2 W0
abbrev sCL : Stmt := top 56
theorem scCL : FnScope ["top", "bottom", "one", "other"] ["top", "bottom"] (defScope sCL) := ⟨rfl, rfl, rfl, by decide +kernel, rfl, by decide +kernel, by decide +kernel⟩
section
variable {P : Program} {w : World} {K : PySem.W.Frag} {mg : Str → Option Value} {base : Heap}
theorem ok_CL {f : Addr} {fd : FuncData} (F : Fun K "_law_c_lowest" "_law_c_lowest" sCL f fd) (mi : mg "int" = none) : FnOk P w K mg base CX0 1 f fd ["top", "bottom"] spFr := by
  refine F.ok scCL (fun vs H Q E h => ?_) (fun cdv A outer s H vs Q E hr h => ?_)
  · obtain ⟨a, b, rfl, _⟩ := h
    rfl
  obtain ⟨a, b, rfl, hb, hb2, q⟩ := h
  have nd := scCL.nd
  refine ⟨_, (pss_cons (by exact (ps_par (i := 2) (j := 3) rfl nd rfl rfl (by decide) rfl rfl (pa_cons (pv 1) (pa_cons (pv 0) pa_nil)) (by rfl)))
  (pss_cons (by exact (ps_while PassesOwn.never (pt_cmpR op_gt (pv 3) pe_int (nomark _)) (pss_one (by exact (ps_par (i := 2) (j := 3) rfl nd rfl rfl (by decide) rfl rfl (pa_cons (pv 3) (pa_cons (pe_op op_mod (pe_callTy call_int1 rfl mi PyProof.Rows.boot_int (pa_cons (pv 2) pa_nil)) (pv 3)) pa_nil)) (by rfl))))))
  (pss_one (by exact (ps_ret (pe_tup (pa_cons (pe_op op_fdivW (pv 0) (pv 2)) (pa_cons (pe_op op_fdivW (pv 1) (pv 2)) pa_nil)))))))), ?_⟩
  refine ⟨_, rfl, _, rfl, _, _, rfl, ?_⟩
  with_reducible refine sQ ?_
  refine while_gh (fun m σ Hc => Hc = H ∧ ∃ o : Nat, σ = [some (.int ((a : Nat) : Int)), some (.int ((b : Nat) : Int)), some (.int ((o : Nat) : Int)), some (.int ((m : Nat) : Int))] ∧ Nat.gcd o m = Nat.gcd b a) a ⟨rfl, b, rfl, rfl⟩ ?_ ?_
  · rintro m σ Hc ⟨rfl, o, rfl, hg⟩
    refine ⟨_, rfl, _, _, rfl, rfl, _, rfl, ?_⟩
    by_cases z : m = 0
    · subst z
      have e0 : decide (((0 : Nat) : Int) > 0) = false := by decide
      rw [e0]
      refine iteF ?_
      rw [Nat.gcd_zero_right] at hg
      rw [Nat.gcd_comm] at hg
      subst hg
      have g0 : 0 < Nat.gcd a b := Nat.gcd_pos_of_pos_right _ hb
      have g1 : Nat.gcd a b < 2 ^ 100 := Nat.lt_of_le_of_lt (Nat.gcd_le_right _ hb) hb2
      have cd : CDivW ((a : Nat) : Int) ((Nat.gcd a b : Nat) : Int) := wide_div (b := 100) (by omega) (by rw [Int.natAbs_natCast]; exact g1) (by decide) (by decide)
      have cd2 : CDivW ((b : Nat) : Int) ((Nat.gcd a b : Nat) : Int) := wide_div (b := 100) (by omega) (by rw [Int.natAbs_natCast]; exact g1) (by decide) (by decide)
      refine ⟨_, rfl, _, rfl, _, _, rfl, rfl, cd, _, rfl, _, rfl, _, _, rfl, rfl, cd2, (by show 2 ≤ sizeLine; decide), fun p hp => ?_⟩
      show Q (.ref p) (L2.upd Hc p (.tup [.int (((a : Nat) : Int) / ((Nat.gcd a b : Nat) : Int)), .int (((b : Nat) : Int) / ((Nat.gcd a b : Nat) : Int))]))
      rw [← Int.natCast_ediv, ← Int.natCast_ediv]
      exact q p _ (K1.Same.upd hp) hp upd_same
    · have e0 : decide (((m : Nat) : Int) > 0) = true := decide_eq_true (by omega)
      rw [e0]
      refine iteT ?_
      refine ⟨_, rfl, _, rfl, .inl ⟨_, rfl, _, rfl, _, _, rfl, rfl, (by show (0 : Int) < ((m : Nat) : Int); omega), ?_⟩⟩
      refine ⟨_, _, rfl, o % m, Nat.mod_lt _ (by omega), rfl, m, ?_, ?_⟩
      · show _ = [some (V.int ((a : Nat) : Int)), some (.int ((b : Nat) : Int)), some (.int ((m : Nat) : Int)), some (.int ((o % m : Nat) : Int))]
        rw [Int.natCast_emod]
        rfl
      · rw [← hg, Nat.gcd_comm o m, Nat.gcd_rec m o, Nat.gcd_comm]
  · rintro σ Hc Q1 Q2 hq ⟨v, hv, x, y, e1, e2, k, tk, z⟩
    exact ⟨v, hv, x, y, e1, e2, k, tk, hq _ _ z⟩
end
end K1
end
-- UVs
section
set_option Elab.async false
set_option linter.all false
set_option maxRecDepth 100000
set_option maxHeartbeats 1000000
namespace K1
open PySem PySem.Spec PyProof.Rows L2 W0
abbrev sVs : Stmt := top 57
theorem str_at {ss : List Str} {i : Nat} {x : V} (e : (ss.map V.str)[i]? = some x) : ∃ h : i < ss.length, x = .str ss[i] := by
  rw [List.getElem?_map] at e
  rcases Nat.lt_or_ge i ss.length with hi | hi
  · rw [List.getElem?_eq_getElem hi] at e
    exact ⟨hi, (Option.some.inj e).symm⟩
  · rw [List.getElem?_eq_none hi] at e
    cases e
theorem snoc_paired {α β : Type} {F G : α → β → Prop} {a : α} {b : β} (h : G a b) : ∀ {xs : List α} {ys : List β}, Paired F xs ys → (∀ x y, x ∈ xs → F x y → G x y) → Paired G (xs ++ [a]) (ys ++ [b])
  | _, _, .nil, _ => .cons h .nil
  | _, _, .cons f r, k => .cons (k _ _ (List.mem_cons_self ..) f) (snoc_paired h r fun x y hx => k x y (List.mem_cons_of_mem _ hx))
theorem merge_new : ∀ {ps : List (Key × V)} {acc : List (Key × V)}, (∀ p ∈ ps, p.1 ∉ acc.map (·.1)) → (ps.map (·.1)).Nodup → mergeK acc ps = acc ++ ps
  | [], acc, _, _ => by
    show acc = acc ++ []
    rw [List.append_nil]
  | p :: ps, acc, h1, h2 => by
    rw [List.map_cons, List.nodup_cons] at h2
    have h0 := h1 p (List.mem_cons_self ..)
    show mergeK (putK acc p.1 p.2) ps = _
    rw [putK_new h0, merge_new (fun q hq => ?_) h2.2, List.append_assoc]
    · rfl
    · rw [List.map_append, List.mem_append]
      rintro (z | z)
      · exact h1 q (List.mem_cons_of_mem _ hq) z
      · have z : q.1 = p.1 := List.mem_singleton.mp z
        exact h2.1 (List.mem_map.mpr ⟨q, hq, z⟩)
/-- who lies beside a house, by some roads -/
def nE (es : List (Str × Str)) (s : Str) : List Str := es.flatMap fun e => (if e.1 = s then [e.2] else []) ++ (if e.2 = s then [e.1] else [])
theorem nE_snoc {es : List (Str × Str)} {e : Str × Str} {s : Str} : nE (es ++ [e]) s = nE es s ++ ((if e.1 = s then [e.2] else []) ++ (if e.2 = s then [e.1] else [])) := by
  unfold nE
  rw [List.flatMap_append]
  simp
theorem mem_nE {es : List (Str × Str)} {s t : Str} : t ∈ nE es s ↔ (s, t) ∈ es ∨ (t, s) ∈ es := by
  unfold nE
  rw [List.mem_flatMap]
  constructor
  · rintro ⟨e, he, h⟩
    rcases List.mem_append.mp h with h | h
    · by_cases z : e.1 = s
      · rw [if_pos z] at h
        have : t = e.2 := by simpa using h
        exact .inl (by rw [this, ← z]; exact he)
      · rw [if_neg z] at h
        exact absurd h (by simp)
    · by_cases z : e.2 = s
      · rw [if_pos z] at h
        have : t = e.1 := by simpa using h
        exact .inr (by rw [this, ← z]; exact he)
      · rw [if_neg z] at h
        exact absurd h (by simp)
  · rintro (h | h)
    · exact ⟨_, h, List.mem_append_left _ (by rw [if_pos rfl]; simp)⟩
    · exact ⟨_, h, List.mem_append_right _ (by rw [if_pos rfl]; simp)⟩
theorem nE_len {s : Str} : ∀ es : List (Str × Str), (nE es s).length ≤ 2 * es.length
  | [] => Nat.zero_le _
  | e :: es => by
    have := nE_len (s := s) es
    unfold nE at this ⊢
    rw [List.flatMap_cons, List.length_append, List.length_append, List.length_cons]
    have h1 : (if e.1 = s then [e.2] else []).length ≤ 1 := by split <;> simp
    have h2 : (if e.2 = s then [e.1] else []).length ≤ 1 := by split <;> simp
    omega
/-- the roads of a lot but one -/
def offE (L : List Str) (e : Str × Str) (rs : List (Str × Str)) : List (Str × Str) := rs.filter fun r => inL L r && decide (r ≠ e)
theorem offE_succ {L : List Str} {e : Str × Str} {rs : List (Str × Str)} {i : Nat} (hi : i < rs.length) : offE L e (rs.take (i + 1)) = offE L e (rs.take i) ++ if (inL L rs[i] && decide (rs[i] ≠ e)) = true then [rs[i]] else [] := by
  unfold offE
  rw [take_snoc hi, List.filter_append]
  congr 1
  rw [List.filter_cons, List.filter_nil]
theorem shaped_pair {e : Str × Str} (h1 : nameOk e.1 = true) (h2 : nameOk e.2 = true) : SeqAt.shaped (.tuple [.str e.1, .str e.2]) = true := by
  show ((PyData.strOk e.1 && (PyData.strOk e.2 && true)) && decide (max 0 (max 0 0) + 1 ≤ 64)) = true
  rw [strOk_of h1, strOk_of h2]
  rfl
theorem dp_pair {K : PySem.W.Frag} {H : Hp} {u : Addr} {e : Str × Str} (h : H u = some (.tup [.str e.1, .str e.2])) : Dp K H (.ref u) (.tuple [.str e.1, .str e.2]) := .tup (SqT.of h) (.cons (.str _) (.cons (.str _) .nil))
/-- a law's drawn valley -/
structure Frm (H : Hp) (t p1 p2 : Addr) (x3 : V) (qs : List Addr) (ss : List Str) (rs : List (Str × Str)) : Prop where
  t0 : H t = some (.lst [.ref p1, .ref p2, x3])
  h1 : H p1 = some (.lst (ss.map V.str))
  h2 : H p2 = some (.lst (qs.map V.ref))
  pr : Paired (TupP H) qs rs
  tr : Tree ss rs
  ls : ss.length ≤ 60
  ok : ∀ s ∈ ss, nameOk s = true
theorem Frm.lr {H : Hp} {t p1 p2 : Addr} {x3 : V} {qs : List Addr} {ss : List Str} {rs : List (Str × Str)} (f : Frm H t p1 p2 x3 qs ss rs) : rs.length ≤ 60 := by
  have := f.tr.len
  have := f.ls
  omega
theorem Frm.same {H H' : Hp} {t p1 p2 : Addr} {x3 : V} {qs : List Addr} {ss : List Str} {rs : List (Str × Str)} (f : Frm H t p1 p2 x3 qs ss rs) (e : Same H H') : Frm H' t p1 p2 x3 qs ss rs :=
  ⟨e _ _ f.t0, e _ _ f.h1, e _ _ f.h2, TupP.ext f.pr e, f.tr, f.ls, f.ok⟩
/-- the dict of neighbours -/
def NearD (Hc : Hp) (D : Addr) (bs : Str → Addr) (L : List Str) (es : List (Str × Str)) : Prop := ∃ kvs : List (Key × V), Hc D = some (.dK kvs) ∧ kvs.length ≤ 60 ∧ (∀ s, ((Sum.inr s : Key) ∈ kvs.map (·.1)) ↔ s ∈ L) ∧ (∀ s ∈ L, valV kvs (.inr s) = some (.ref (bs s))) ∧
  (∀ s ∈ L, ∀ u ∈ L, bs s = bs u → s = u) ∧ ∀ s ∈ L, Hc (bs s) = some (.lst ((nE es s).map V.str))
theorem valV_no {kvs : List (Key × V)} {k : Key} (h : k ∉ kvs.map (·.1)) : valV kvs k = none := by
  unfold valV
  rw [List.find?_eq_none.mpr]
  · rfl
  · intro p hp z
    exact h (List.mem_map.mpr ⟨p, hp, of_decide_eq_true z⟩)
/-- the address of a house's list -/
def atD : List Str → List Addr → Str → Addr
  | x :: L, d :: ds, s => if x = s then d else atD L ds s
  | _, _, _ => 0
def zipK (L : List Str) (ds : List Addr) : List (Key × V) := (L.zip ds).map fun x => ((.inr x.1 : Key), V.ref x.2)
theorem zipK_keys : ∀ {L : List Str} {ds : List Addr}, ds.length = L.length → (zipK L ds).map (·.1) = L.map Sum.inr
  | [], _, _ => rfl
  | x :: L, d :: ds, h => by
    show _ :: (zipK L ds).map (·.1) = _ :: L.map Sum.inr
    rw [zipK_keys (by simpa using h)]
theorem atD_mem : ∀ {L : List Str} {ds : List Addr} {s : Str}, ds.length = L.length → s ∈ L → valV (zipK L ds) (.inr s) = some (.ref (atD L ds s)) ∧ atD L ds s ∈ ds
  | x :: L, d :: ds, s, h, hs => by
    show valV ((.inr x, .ref d) :: zipK L ds) (.inr s) = some (.ref (if x = s then d else atD L ds s)) ∧ (if x = s then d else atD L ds s) ∈ d :: ds
    by_cases z : x = s
    · rw [if_pos z, valV_pos (by rw [z])]
      exact ⟨rfl, List.mem_cons_self ..⟩
    · rw [if_neg z, valV_neg fun y => z (Sum.inr.inj y)]
      obtain ⟨a, b⟩ := atD_mem (ds := ds) (by simpa using h) ((List.mem_cons.mp hs).resolve_left fun y => z y.symm)
      exact ⟨a, List.mem_cons_of_mem _ b⟩
theorem atD_inj : ∀ {L : List Str} {ds : List Addr}, ds.length = L.length → ds.Nodup → ∀ s ∈ L, ∀ u ∈ L, atD L ds s = atD L ds u → s = u
  | x :: L, d :: ds, h, n, s, hs, u, hu, q => by
    have n2 := List.nodup_cons.mp n
    have h2 : ds.length = L.length := by simpa using h
    have q : (if x = s then d else atD L ds s) = (if x = u then d else atD L ds u) := q
    by_cases z : x = s
    · by_cases y : x = u
      · rw [← z, y]
      · rw [if_pos z, if_neg y] at q
        exact absurd (by rw [q]; exact (atD_mem h2 ((List.mem_cons.mp hu).resolve_left fun w => y w.symm)).2) n2.1
    · have hs2 := (List.mem_cons.mp hs).resolve_left fun w => z w.symm
      by_cases y : x = u
      · rw [if_neg z, if_pos y] at q
        exact absurd (by rw [← q]; exact (atD_mem h2 hs2).2) n2.1
      · rw [if_neg z, if_neg y] at q
        exact atD_inj h2 n2.2 s hs2 u ((List.mem_cons.mp hu).resolve_left fun w => y w.symm) q
/-- a search from one end of a road within its lot -/
structure SeaU (ss : List Str) (N : List Str) (o : Str) (done wt : List Str) (kvs : List (Key × V)) : Prop where
  nd : (done ++ wt).Nodup
  ins : ∀ s ∈ done ++ wt, s ∈ N
  key : ∀ s, ((Sum.inr s : Key) ∈ kvs.map (·.1)) ↔ s ∈ done ++ wt
  len : kvs.length ≤ (done ++ wt).length
  st : o ∈ done ++ wt
theorem SeaU.take {ss N : List Str} {o h : Str} {done wt : List Str} {kvs : List (Key × V)} (S : SeaU ss N o done (wt ++ [h]) kvs) : SeaU ss N o (done ++ [h]) wt kvs := by
  have p : (done ++ (wt ++ [h])).Perm (done ++ [h] ++ wt) := by
    rw [List.append_assoc]
    exact List.Perm.append_left _ List.perm_append_comm
  have m : ∀ z, z ∈ done ++ (wt ++ [h]) ↔ z ∈ done ++ [h] ++ wt := fun z => p.mem_iff
  exact ⟨p.nodup_iff.mp S.nd, fun s hs => S.ins s ((m s).mpr hs), fun z => by rw [S.key z, m z], by rw [← p.length_eq]; exact S.len, (m o).mp S.st⟩
theorem SeaU.add {ss N : List Str} {o h : Str} {done wt : List Str} {kvs : List (Key × V)} (S : SeaU ss N o done wt kvs) (hn : h ∈ N) (n : h ∉ done ++ wt) : SeaU ss N o done (wt ++ [h]) (putK kvs (.inr h) (.bl true)) := by
  have m : ∀ z, z ∈ done ++ (wt ++ [h]) ↔ z ∈ done ++ wt ∨ z = h := fun z => by
    rw [← List.append_assoc, List.mem_append, List.mem_singleton]
  have nk : (Sum.inr h : Key) ∉ kvs.map (·.1) := fun z => n ((S.key h).mp z)
  refine ⟨?_, fun s hs => ?_, fun s => ?_, ?_, (m o).mpr (.inl S.st)⟩
  · rw [← List.append_assoc, List.nodup_append]
    refine ⟨S.nd, by simp, fun a ha b hb e => n ?_⟩
    rw [← List.mem_singleton.mp hb, ← e]
    exact ha
  · rcases (m s).mp hs with hs | rfl
    · exact S.ins s hs
    · exact hn
  · rw [putK_new nk, List.map_append, List.mem_append, m s, S.key s]
    refine or_congr Iff.rfl ?_
    show _ ∈ [(Sum.inr h : Key)] ↔ _
    rw [List.mem_singleton]
    exact ⟨fun z => Sum.inr.inj z, fun z => by rw [z]⟩
  · rw [putK_new nk, List.length_append, ← List.append_assoc, List.length_append]
    have := S.len
    simp only [List.length_singleton]
    omega
theorem scVs : FnScope ["form", "part", "road", "name", "near", "mine", "waiting", "one", "other"] ["form", "part", "road"] (defScope sVs) := ⟨rfl, rfl, rfl, by decide +kernel, rfl, by decide +kernel, by decide +kernel⟩
def spVs : Sp := fun vs H Q _ => ∃ (t p r p1 p2 : Addr) (x3 : V) (qs : List Addr) (ss : List Str) (rs : List (Str × Str)) (L : List Str) (e : Str × Str), vs = [.ref t, .ref p, .ref r] ∧ Frm H t p1 p2 x3 qs ss rs ∧ SubL ss L ∧ Con rs L ∧ e ∈ rs ∧ inL L e = true ∧ H p = some (.lst (L.map V.str)) ∧ H r = some (.tup [.str e.1, .str e.2]) ∧
  ∀ u m n H', Same H H' → H u = none → H' u = some (.tup [.ref m, .ref n]) → H' m = some (.lst ((nearL (sdT rs) L e).map V.str)) → H' n = some (.lst ((farL (sdT rs) L e).map V.str)) → Q (.ref u) H'
section
variable {P : Program} {w : World} {K : PySem.W.Frag} {mg : Str → Option Value} {base : Heap}
/-- the names that are, or are not, in a dict -/
theorem lc_din {σ : L2.St} {H : Hp} {Q : VK} {p m : Addr} {L : List Str} {kvs : List (Key × V)} {f : Str → Bool} (h1 : σ[1]? = some (some (.ref p))) (hw : ∀ v : V, (((wipe σ [3]).set 3 (some v))[3]? = some (some v) ∧ ((wipe σ [3]).set 3 (some v))[5]? = some (some (.ref m))) ∧ wipe ((wipe σ [3]).set 3 (some v)) [3] = wipe σ [3])
    (hp : H p = some (.lst (L.map V.str))) (lL : L.length ≤ 1000) (hm : H m = some (.dK kvs)) (hf : ∀ s ∈ L, (valV kvs (.inr s)).isSome = f s)
    (q : ∀ D H', Same H H' → H D = none → H' D = some (.lst ((L.filter f).map V.str)) → Q (.ref D) H') :
    tLc (iList K (tVar 1)) (gName 3) (tB (tDIn (tVar 3) (tVar 5))) (tVar 3) [3] σ H Q := by
  refine ⟨_, h1, p, rfl, ⟨_, SqL.of hp⟩, fun D hD => ?_⟩
  have lm : (L.map V.str).length = L.length := List.length_map ..
  refine lc_it (Qd := _) walk_list (fun i Hc => Same H Hc ∧ Hc D = some (.lst (((L.take i).filter f).map V.str))) ⟨K1.Same.upd hD, upd_same⟩ (fun i Hc _ h => SqL.of (h.1 _ _ hp)) ?_ ?_
  · rintro i v Hc H' hi ⟨c1, c2⟩ ⟨rfl, hv⟩
    obtain ⟨hi', rfl⟩ := str_at hv
    obtain ⟨⟨w3, w5⟩, ww⟩ := hw (.str L[i])
    refine ⟨ww, ?_⟩
    refine ⟨_, w3, _, w5, m, _, rfl, DGet.k (k := .inr L[i]) (c1 _ _ hm), _, rfl, ?_⟩
    rw [hf _ (List.getElem_mem hi')]
    have us := take_filter_succ (f := f) hi'
    have ll : ((L.take i).filter f).length ≤ 1000 := Nat.le_trans (List.length_filter_le _ _) (by rw [List.length_take]; omega)
    refine ite2 (fun y => ?_) (fun y => ?_)
    · rw [if_pos y] at us
      refine ⟨_, w3, _, c2, by rw [List.length_map]; exact small1000 ll, ps_same_upd c1 hD, ?_⟩
      rw [upd_same, us, List.map_append]
      rfl
    · rw [if_neg y] at us
      refine ⟨c1, ?_⟩
      rw [us, c2]
      simp
  · rintro Hc ⟨c1, c2⟩
    rw [lm, List.take_length] at c2
    exact q D Hc c1 hD c2
theorem lc_dnin {σ : L2.St} {H : Hp} {Q : VK} {p m : Addr} {L : List Str} {kvs : List (Key × V)} {f : Str → Bool} (h1 : σ[1]? = some (some (.ref p))) (hw : ∀ v : V, (((wipe σ [3]).set 3 (some v))[3]? = some (some v) ∧ ((wipe σ [3]).set 3 (some v))[5]? = some (some (.ref m))) ∧ wipe ((wipe σ [3]).set 3 (some v)) [3] = wipe σ [3])
    (hp : H p = some (.lst (L.map V.str))) (lL : L.length ≤ 1000) (hm : H m = some (.dK kvs)) (hf : ∀ s ∈ L, (!(valV kvs (.inr s)).isSome) = f s)
    (q : ∀ D H', Same H H' → H D = none → H' D = some (.lst ((L.filter f).map V.str)) → Q (.ref D) H') :
    tLc (iList K (tVar 1)) (gName 3) (tB (tDNotIn (tVar 3) (tVar 5))) (tVar 3) [3] σ H Q := by
  refine ⟨_, h1, p, rfl, ⟨_, SqL.of hp⟩, fun D hD => ?_⟩
  have lm : (L.map V.str).length = L.length := List.length_map ..
  refine lc_it (Qd := _) walk_list (fun i Hc => Same H Hc ∧ Hc D = some (.lst (((L.take i).filter f).map V.str))) ⟨K1.Same.upd hD, upd_same⟩ (fun i Hc _ h => SqL.of (h.1 _ _ hp)) ?_ ?_
  · rintro i v Hc H' hi ⟨c1, c2⟩ ⟨rfl, hv⟩
    obtain ⟨hi', rfl⟩ := str_at hv
    obtain ⟨⟨w3, w5⟩, ww⟩ := hw (.str L[i])
    refine ⟨ww, ?_⟩
    refine ⟨_, w3, _, w5, m, _, rfl, DGet.k (k := .inr L[i]) (c1 _ _ hm), _, rfl, ?_⟩
    rw [hf _ (List.getElem_mem hi')]
    have us := take_filter_succ (f := f) hi'
    have ll : ((L.take i).filter f).length ≤ 1000 := Nat.le_trans (List.length_filter_le _ _) (by rw [List.length_take]; omega)
    refine ite2 (fun y => ?_) (fun y => ?_)
    · rw [if_pos y] at us
      refine ⟨_, w3, _, c2, by rw [List.length_map]; exact small1000 ll, ps_same_upd c1 hD, ?_⟩
      rw [upd_same, us, List.map_append]
      rfl
    · rw [if_neg y] at us
      refine ⟨c1, ?_⟩
      rw [us, c2]
      simp
  · rintro Hc ⟨c1, c2⟩
    rw [lm, List.take_length] at c2
    exact q D Hc c1 hD c2
/-- who lies beside a house of the near lot is in it -/
theorem nE_near {ss : List Str} {rs : List (Str × Str)} (T : Tree ss rs) {L : List Str} {e : Str × Str} (he : e ∈ rs) {h t : Str} (hh : h ∈ nearL (sdT rs) L e) (ht : t ∈ nE (offE L e rs) h) : t ∈ nearL (sdT rs) L e := by
  obtain ⟨h1, h2⟩ := mem_near.mp hh
  have go : ∀ x ∈ offE L e rs, x.1 ∈ L ∧ x.2 ∈ L ∧ sdT rs e x.1 = sdT rs e x.2 := fun x hx => by
    obtain ⟨m, q⟩ := List.mem_filter.mp hx
    rw [Bool.and_eq_true, decide_eq_true_eq] at q
    exact ⟨(inL_iff.mp q.1).1, (inL_iff.mp q.1).2, (sd_ok T).c e he x m q.2⟩
  rcases mem_nE.mp ht with m | m
  · obtain ⟨_, b, c⟩ := go _ m
    exact mem_near.mpr ⟨b, by rw [← c]; exact h2⟩
  · obtain ⟨b, _, c⟩ := go _ m
    exact mem_near.mpr ⟨b, by rw [c]; exact h2⟩
/-- what is closed under lying beside holds the whole near lot -/
theorem near_all {ss : List Str} {rs : List (Str × Str)} (T : Tree ss rs) {L : List Str} (C : Con rs L) {e : Str × Str} (he : e ∈ rs) (hi : inL L e = true) {done : List Str} (h0 : e.1 ∈ done) (hc : ∀ z ∈ done, ∀ y ∈ nE (offE L e rs) z, y ∈ done) {z : Str} (hz : z ∈ nearL (sdT rs) L e) : z ∈ done := by
  have S := sd_ok T
  have n1 : e.1 ∈ nearL (sdT rs) L e := mem_near.mpr ⟨(inL_iff.mp hi).1, S.a e he⟩
  have c1 := (C.cut S he hi).1
  have r := c1.2.2 _ n1 _ hz
  clear hz
  induction r with
  | base => exact h0
  | @step s t g ed m ih =>
    refine hc s ih t (mem_nE.mpr ?_)
    have hs := mem_near.mp (g.mem n1)
    have ht := mem_near.mp m
    refine ed.imp (fun x => ?_) (fun x => ?_)
    · refine List.mem_filter.mpr ⟨x, ?_⟩
      rw [Bool.and_eq_true, decide_eq_true_eq]
      refine ⟨inL_iff.mpr ⟨hs.1, ht.1⟩, fun y => ?_⟩
      have h2 := S.b e he
      rw [← y] at h2
      rw [y] at h2
      have : t = e.2 := congrArg Prod.snd y
      rw [← this, ht.2] at h2
      cases h2
    · refine List.mem_filter.mpr ⟨x, ?_⟩
      rw [Bool.and_eq_true, decide_eq_true_eq]
      refine ⟨inL_iff.mpr ⟨ht.1, hs.1⟩, fun y => ?_⟩
      have h2 := S.b e he
      have : s = e.2 := congrArg Prod.snd y
      rw [← this, hs.2] at h2
      cases h2
theorem ok_Vs {f : Addr} {fd : FuncData} (F : Fun K "_law_v_side" "_law_v_side" sVs f fd) (B : Bl mg) : FnOk P w K mg base CX0 1 f fd ["form", "part", "road"] spVs := by
  refine F.ok scVs (fun vs H Q E h => ?_) (fun cdv A outer s H vs Q E hr h => ?_)
  · obtain ⟨t, p, r, p1, p2, x3, qs, ss, rs, L, e, rfl, _⟩ := h
    rfl
  obtain ⟨t, p, r, p1, p2, x3, qs, ss, rs, L, e, rfl, fm, sub, con, he, hi, hp, hr0, q⟩ := h
  have nd := scVs.nd
  have hu64 := hr.units
  have hu := hu_of hr
  refine ⟨_, (pss_cons (by exact (ps_asg (pe_tup (pa_cons (pe_callTy (call_dictP rfl) rfl B.dict PyProof.Rows.boot_dict (pa_cons (pe_lc (own := [("name", 3)]) (g := gName 3) (tt := tYes) (te := tTup (tCons (tVar 3) (tCons (tLst tNil) tNil))) rfl nd (by exact pi_list (pv 1)) (by exact blkOk_by (N := ["form", "part", "road", "name", "near", "mine", "waiting", "one", "other"]) (sc := defScope sVs) (by decide +kernel)) (fun _ _ _ _ _ => by exact (pg_name (i := 3) nd rfl (.inl rfl))) (fun _ _ _ _ _ => by exact pts_nil) (fun _ _ _ _ _ => by exact (pe_tup (pa_cons (pv 3) (pa_cons (pe_lst pa_nil) pa_nil))))) pa_nil)) (pa_cons (pe_disp (pps_cons (pe_ix ix_tup (pv 2) pe_int (fun _ _ => rfl)) pe_bl pps_nil) (by rfl) (by rfl) (fun z => by cases z) (by decide)) (pa_cons (pe_lst (pa_cons (pe_ix ix_tup (pv 2) pe_int (fun _ _ => rfl)) pa_nil)) pa_nil)))) (pg_tup rfl (pgs_cons (pg_name (i := 4) nd rfl (.inl rfl)) (pgs_cons (pg_name (i := 5) nd rfl (.inr rfl)) (pgs_cons (pg_name (i := 6) nd rfl (.inl rfl)) pgs_nil))))))
  (pss_cons (by exact (ps_for PassesOwn.never rfl (by exact pi_list (pe_ix ix_list (pv 0) pe_int (fun _ _ => rfl))) (pg_tup rfl (pgs_cons (pg_name (i := 7) nd rfl (.inl rfl)) (pgs_cons (pg_name (i := 8) nd rfl (.inl rfl)) pgs_nil))) (pss_one (by exact (ps_if (PW.pt (pw_and (pt_cmp (pc_din hu (pv 7) (pv 4)) (by with_unfolding_all rfl)) (pw_and (pt_cmp (pc_din hu (pv 8) (pv 4)) (by with_unfolding_all rfl)) (pw_and1 (pt_cmpR (op_neD hu64) (pe_tup (pa_cons (pv 7) (pa_cons (pv 8) pa_nil))) (pv 2) (nomark _)))))) (pss_cons (by exact (ps_expr (pe_bm PySem.F.plainAttrs_list PySem.F.slot_list_append PySem.F.type_list_append mt_append (pe_dget hu (pv 4) (pv 7) (fun _ _ => rfl)) (pa_cons (pv 8) pa_nil))))
  (pss_one (by exact (ps_expr (pe_bm PySem.F.plainAttrs_list PySem.F.slot_list_append PySem.F.type_list_append mt_append (pe_dget hu (pv 4) (pv 8) (fun _ _ => rfl)) (pa_cons (pv 7) pa_nil)))))) pss_nil)))))
  (pss_cons (by exact (ps_while PassesOwn.never (pt_cmpR (op_neD hu64) (pv 6) (pe_lst pa_nil) (nomark _)) (pss_one (by exact (ps_for PassesOwn.never rfl (by exact pi_list (pe_dget hu (pv 4) (pe_bm0 PySem.F.plainAttrs_list PySem.F.slot_list_pop PySem.F.type_list_pop mt_pop (pv 6)) (fun _ _ => rfl))) (pg_name (i := 3) nd rfl (.inl rfl)) (pss_one (by exact (ps_if (pt_cmp (pc_dnotin hu (pv 3) (pv 5)) (by with_unfolding_all rfl)) (pss_cons (by exact (ps_dput hu (pv 5) (pv 3) pe_bl rfl))
  (pss_one (by exact (ps_expr (pe_bm PySem.F.plainAttrs_list PySem.F.slot_list_append PySem.F.type_list_append mt_append (pv 6) (pa_cons (pv 3) pa_nil)))))) pss_nil))))))))
  (pss_one (by exact (ps_ret (pe_tup (pa_cons (pe_lc (own := [("name", 3)]) (g := gName 3) (tt := tB (tDIn (tVar 3) (tVar 5))) (te := tVar 3) rfl nd (by exact pi_list (pv 1)) (by exact blkOk_by (N := ["form", "part", "road", "name", "near", "mine", "waiting", "one", "other"]) (sc := defScope sVs) (by decide +kernel)) (fun _ _ _ _ _ => by exact (pg_name (i := 3) nd rfl (.inl rfl))) (fun _ _ _ _ _ => by exact (pts_one (pt_cmp (pc_din hu (pv 3) (pv 5)) (by with_unfolding_all rfl)))) (fun _ _ _ _ _ => by exact (pv 3))) (pa_cons (pe_lc (own := [("name", 3)]) (g := gName 3) (tt := tB (tDNotIn (tVar 3) (tVar 5))) (te := tVar 3) rfl nd (by exact pi_list (pv 1)) (by exact blkOk_by (N := ["form", "part", "road", "name", "near", "mine", "waiting", "one", "other"]) (sc := defScope sVs) (by decide +kernel)) (fun _ _ _ _ _ => by exact (pg_name (i := 3) nd rfl (.inl rfl))) (fun _ _ _ _ _ => by exact (pts_one (pt_cmp (pc_dnotin hu (pv 3) (pv 5)) (by with_unfolding_all rfl)))) (fun _ _ _ _ _ => by exact (pv 3))) pa_nil))))))))), ?_⟩
  have r0 : atI [V.str e.1, .str e.2] 0 = some (.str e.1) := rfl
  have lL : L.length ≤ 60 := Nat.le_trans (nodup_len con.1 fun z hz => sub.mem hz) fm.ls
  -- the dict of neighbours, at first
  refine ⟨_, rfl, p, rfl, ⟨_, SqL.of hp⟩, fun D0 hD0 => ?_⟩
  refine lc_it (Qd := _) walk_list (fun i Hc => Same H Hc ∧ ∃ (ts ds : List Addr), Hc D0 = some (.lst (ts.map V.ref)) ∧ Paired (fun t kv => Hc t = some (.tup [kV kv.1, kv.2])) ts (((L.take i).zip ds).map fun x => ((.inr x.1 : Key), V.ref x.2)) ∧ ds.length = (L.take i).length ∧ ds.Nodup ∧ ∀ d ∈ ds, Hc d = some (.lst []) ∧ d ≠ D0 ∧ H d = none)
    ⟨K1.Same.upd hD0, [], [], upd_same, .nil, rfl, by simp, fun d hd => absurd hd (by simp)⟩ (fun i Hc _ h => SqL.of (h.1 _ _ hp)) ?_ ?_
  · rintro i x Hc H' hi ⟨f1, ts, ds, f2, f3, f4, f5, f6⟩ ⟨rfl, hx⟩
    obtain ⟨hi', rfl⟩ := str_at hx
    refine ⟨rfl, ?_⟩
    unfold tYes
    refine iteT ?_
    refine ⟨_, rfl, (by show 0 ≤ sizeLine; decide), fun l hl => ⟨(by show 2 ≤ sizeLine; decide), fun u hu' => ?_⟩⟩
    have lD : l ≠ D0 := fun z => by rw [z, f2] at hl; cases hl
    have ul : u ≠ l := fun z => by rw [z, upd_same] at hu'; cases hu'
    have uD : u ≠ D0 := fun z => by rw [z, upd_ne lD.symm, f2] at hu'; cases hu'
    have lt : ts.length ≤ i := by
      have := f3.length
      rw [List.length_map, List.length_zip, f4, List.length_take] at this
      omega
    refine ⟨ts.map V.ref, by rw [upd_ne uD.symm, upd_ne lD.symm]; exact f2, by rw [List.length_map]; exact small1000 (by omega), ?_⟩
    have kd : Kept D0 H' (L2.upd (L2.upd (L2.upd H' l (.lst [])) u (.tup [.str L[i], .ref l])) D0 (.lst (ts.map V.ref ++ [.ref u]))) := (Kept.new hl).trans ((Kept.new hu').trans Kept.upd)
    have lds : l ∉ ds := fun z => by have := (f6 l z).1; rw [this] at hl; cases hl
    refine ⟨fun b o n => kd b o (ne_of_none n hD0) (f1 b o n), ts ++ [u], ds ++ [l], by rw [upd_same, List.map_append]; rfl, ?_, ?_, ?_, fun d hd => ?_⟩
    · rw [take_snoc hi', List.zip_append f4.symm, List.map_append]
      exact snoc_paired (by show L2.upd _ _ _ u = _; rw [upd_ne uD, upd_same]; rfl) f3 (fun y kv _ ey => kd _ _ (fun z => by rw [z, f2] at ey; cases ey) ey)
    · rw [take_snoc hi', List.length_append, List.length_append, f4]
      rfl
    · exact List.nodup_append.mpr ⟨f5, by simp, fun a ha b hb z => lds (by rw [← List.mem_singleton.mp hb, ← z]; exact ha)⟩
    · rcases List.mem_append.mp hd with hd | hd
      · obtain ⟨a1, a2, a3⟩ := f6 d hd
        exact ⟨kd _ _ a2 a1, a2, a3⟩
      · rw [List.mem_singleton.mp hd]
        exact ⟨by rw [upd_ne lD, upd_ne ul.symm, upd_same], lD, f1.free hl⟩
  rintro H1 ⟨e1, ts0, ds, f2, f3, f4, f5, f6⟩
  rw [List.length_map, List.take_length] at f3 f4
  refine ⟨D0, ts0, _, rfl, SqL.of f2, paired_imp (fun _ _ h => SqT.of h) f3, fun D hD => ?_⟩
  have h3 : e.1 ∈ L := (inL_iff.mp hi).1
  have mk : mergeK [] ((L.zip ds).map fun x => ((.inr x.1 : Key), V.ref x.2)) = zipK L ds := by
    show mergeK [] (zipK L ds) = _
    rw [merge_new (fun p _ => by simp), List.nil_append]
    rw [zipK_keys f4]
    exact List.Pairwise.map _ (fun a b (h : a ≠ b) z => h (Sum.inr.inj z)) con.1
  rw [mk]
  have s1 := K1.Same.upd (H := H1) (p := D) (o := .dK (zipK L ds)) hD
  have gD := upd_same' H1 D (.dK (zipK L ds))
  generalize L2.upd H1 D (.dK (zipK L ds)) = H2 at s1 gD ⊢
  have e12 : Same H H2 := e1.trans s1
  dsimp only
  refine cons_run fun M hM => ?_
  have s2 := K1.Same.upd (H := H2) (p := M) (o := .dK []) hM
  have gM := upd_same' H2 M (.dK [])
  have DM : D ≠ M := ne_of_none gD hM
  have s22 : Same H2 (L2.upd (L2.upd H2 M (.dK [])) M (.dK (mergeK [] [((.inr e.1 : Key), V.bl true)]))) := ps_same_upd s2 hM
  have gM2 : L2.upd (L2.upd H2 M (.dK [])) M (.dK (mergeK [] [((.inr e.1 : Key), V.bl true)])) M = some (.dK [(.inr e.1, .bl true)]) := upd_same
  refine ⟨_, rfl, r, _, (0 : Int), .str e.1, rfl, rfl, SqT.of ((e12.trans s2) _ _ hr0), r0, gM, [(.inr e.1, .bl true)], rfl, (by show 1 ≤ 15; decide), ?_⟩
  generalize L2.upd (L2.upd H2 M (.dK [])) M (.dK (mergeK [] [((.inr e.1 : Key), V.bl true)])) = H3 at s22 gM2 ⊢
  have e13 : Same H H3 := e12.trans s22
  refine cons_run ⟨_, rfl, r, _, (0 : Int), .str e.1, rfl, rfl, SqT.of (e13 _ _ hr0), r0, (by show 1 ≤ sizeLine; decide), fun W hW => ?_⟩
  have s3 := K1.Same.upd (H := H3) (p := W) (o := .lst [.str e.1]) hW
  have gW := upd_same' H3 W (.lst [.str e.1])
  have e1W : Same H1 H3 := s1.trans s22
  have bW : ∀ d ∈ ds, d ≠ W := fun d hd => ne_of_none (e1W _ _ (f6 d hd).1) hW
  have MW : M ≠ W := ne_of_none gM2 hW
  have DW : D ≠ W := ne_of_none (s22 _ _ gD) hW
  generalize L2.upd H3 W (.lst [.str e.1]) = H4 at s3 gW ⊢
  refine ⟨(by show 3 ≤ sizeLine; decide), fun T hT => ?_⟩
  have s4 := K1.Same.upd (H := H4) (p := T) (o := .tup [.ref D, .ref M, .ref W]) hT
  have gT := upd_same' H4 T (.tup [.ref D, .ref M, .ref W])
  generalize L2.upd H4 T (.tup [.ref D, .ref M, .ref W]) = H5 at s4 gT ⊢
  refine ⟨T, _, rfl, SqT.of gT, rfl, _, _, rfl, _, _, rfl, _, _, rfl, rfl, ?_⟩
  with_reducible refine sQ ?_
  have e05 : Same H H5 := e13.trans (s3.trans s4)
  have e15 : Same H1 H5 := e1W.trans (s3.trans s4)
  have bs_ok : ∀ s ∈ L, atD L ds s ∈ ds := fun s hs => (atD_mem f4 hs).2
  have near0 : NearD H5 D (atD L ds) L (offE L e (rs.take 0)) := by
    refine ⟨zipK L ds, s4 _ _ (s3 _ _ (s22 _ _ gD)), ?_, fun s => ?_, fun s hs => (atD_mem f4 hs).1, atD_inj f4 f5, fun s hs => e15 _ _ (f6 _ (bs_ok s hs)).1⟩
    · unfold zipK
      rw [List.length_map, List.length_zip]
      omega
    · rw [zipK_keys f4, List.mem_map]
      exact ⟨fun ⟨a, h, z⟩ => Sum.inr.inj z ▸ h, fun h => ⟨s, h, rfl⟩⟩
  have gM5 := s4 _ _ (s3 _ _ gM2)
  have gW5 := s4 _ _ gW
  have DH : ∀ d ∈ ds, H d = none := fun d hd => (f6 d hd).2.2
  have D0 : H D = none := e1.free hD
  have M0 : H M = none := e12.free hM
  have W0 : H W = none := e13.free hW
  clear s1 gD s2 gM s22 gM2 s3 gW s4 gT e1W hD hM hW hT f2 f3 e15 e12 e13 e1
  have fm5 := fm.same e05
  have lqs : qs.length = rs.length := fm.pr.length
  -- the roads
  refine ⟨_, rfl, t, _, (1 : Int), .ref p2, rfl, rfl, SqL.of fm5.t0, atI_nat (j := 1) rfl, p2, rfl, ⟨_, SqL.of fm5.h2⟩, ?_⟩
  refine for_it walk_list (fun i σ Hc => (∃ a b, σ = [some (.ref t), some (.ref p), some (.ref r), none, some (.ref D), some (.ref M), some (.ref W), a, b]) ∧ Same H Hc ∧ NearD Hc D (atD L ds) L (offE L e (rs.take i)) ∧ Hc M = some (.dK [(.inr e.1, .bl true)]) ∧ Hc W = some (.lst [.str e.1]))
    ⟨⟨_, _, rfl⟩, e05, near0, gM5, gW5⟩ (fun i σ Hc _ h => SqL.of (h.2.1 _ _ fm.h2)) ?_ ?_
  · rintro i x σ Hc H' hi' ⟨⟨xa, xb, rfl⟩, g1, g2, g3, g4⟩ ⟨rfl, hx⟩
    rw [List.length_map, lqs] at hi'
    obtain ⟨tq, rfl, htq⟩ := paired_ref fm.pr hi' hx
    obtain ⟨kvs, b1, b2, b3, b4, b5, b6⟩ := g2
    refine ⟨tq, _, rfl, SqT.of (g1 _ _ htq), rfl, _, _, rfl, _, _, rfl, rfl, ?_⟩
    have e_in : ∀ s, ((valV kvs (.inr s)).isSome) = decide (s ∈ L) := fun s => by
      by_cases z : s ∈ L
      · rw [b4 s z, decide_eq_true z]; rfl
      · rw [valV_no fun y => z ((b3 s).mp y), decide_eq_false z]; rfl
    have us := offE_succ (L := L) (e := e) hi'
    have hm := List.getElem_mem hi'
    have skip : (inL L rs[i] && decide (rs[i] ≠ e)) = false → ∀ Hx, Same H' Hx → Same H Hx ∧ NearD Hx D (atD L ds) L (offE L e (rs.take (i + 1))) ∧ Hx M = some (.dK [(.inr e.1, .bl true)]) ∧ Hx W = some (.lst [.str e.1]) := fun z Hx ex => by
      rw [z, if_neg (by decide), List.append_nil] at us
      rw [us]
      exact ⟨g1.trans ex, ⟨kvs, ex _ _ b1, b2, b3, b4, b5, fun s hs => ex _ _ (b6 s hs)⟩, ex _ _ g3, ex _ _ g4⟩
    refine ⟨_, rfl, _, rfl, D, _, rfl, DGet.k (k := .inr rs[i].1) b1, _, rfl, ?_⟩
    rw [e_in]
    by_cases z1 : rs[i].1 ∈ L
    case neg =>
      rw [decide_eq_false z1]
      refine iteF (iteF ⟨⟨_, _, rfl⟩, skip ?_ H' (Same.refl _)⟩)
      unfold inL
      rw [decide_eq_false z1]
      rfl
    rw [decide_eq_true z1]
    refine iteT ?_
    refine ⟨_, rfl, _, rfl, D, _, rfl, DGet.k (k := .inr rs[i].2) b1, _, rfl, ?_⟩
    rw [e_in]
    by_cases z2 : rs[i].2 ∈ L
    case neg =>
      rw [decide_eq_false z2]
      refine iteF (iteF ⟨⟨_, _, rfl⟩, skip ?_ H' (Same.refl _)⟩)
      unfold inL
      rw [decide_eq_false z2, Bool.and_false]
      rfl
    rw [decide_eq_true z2]
    refine iteT ?_
    refine ⟨_, rfl, _, rfl, (by show 2 ≤ sizeLine; decide), fun u hu' => ?_⟩
    have e6 := K1.Same.upd (H := H') (p := u) (o := .tup [.str rs[i].1, .str rs[i].2]) hu'
    have gu := upd_same' H' u (.tup [.str rs[i].1, .str rs[i].2])
    generalize L2.upd H' u (.tup [.str rs[i].1, .str rs[i].2]) = H6 at e6 gu ⊢
    have ie := inL_iff.mpr ⟨z1, z2⟩
    refine ⟨_, rfl, _, _, dp_pair gu, dp_pair ((g1.trans e6) _ _ hr0), shaped_pair (fm.ok _ (sub.mem z1)) (fm.ok _ (sub.mem z2)), shaped_pair (fm.ok _ (sub.mem (inL_iff.mp hi).1)) (fm.ok _ (sub.mem (inL_iff.mp hi).2)), _, rfl, ?_⟩
    rw [eqv_pair]
    by_cases z3 : rs[i] = e
    · rw [decide_eq_true z3]
      refine iteF ⟨⟨_, _, rfl⟩, skip ?_ H6 e6⟩
      rw [decide_eq_false fun y => y z3, Bool.and_false]
    rw [decide_eq_false z3]
    refine iteT ?_
    rw [ie, decide_eq_true z3] at us
    have us : offE L e (rs.take (i + 1)) = offE L e (rs.take i) ++ [rs[i]] := us
    have lo : (offE L e (rs.take i)).length ≤ 60 := Nat.le_trans (List.length_filter_le _ _) (Nat.le_trans (List.length_take_le _ _) (by have := fm.lr; omega))
    have ll : ∀ s, (nE (offE L e (rs.take i)) s).length ≤ 1000 := fun s => Nat.le_trans (nE_len _) (by omega)
    have AB : atD L ds rs[i].1 ≠ atD L ds rs[i].2 := fun y => (sd_ok fm.tr).ne hm (b5 _ z1 _ z2 y)
    have dg1 := DGet.k (k := .inr rs[i].1) (e6 _ _ b1)
    rw [b4 _ z1] at dg1
    have ga := e6 _ _ (b6 _ z1)
    refine ⟨_, rfl, _, rfl, D, _, rfl, dg1, .inl ⟨rfl, _, SqL.of ga⟩, _, rfl, atD L ds rs[i].1, _, _, rfl, rfl, ga, by rw [List.length_map]; exact small1000 (ll _), ?_⟩
    have DA : ∀ s ∈ L, D ≠ atD L ds s := fun s hs y => by have := b6 s hs; rw [← y, b1] at this; cases this
    have MA : ∀ s ∈ L, M ≠ atD L ds s := fun s hs y => by have := b6 s hs; rw [← y, g3] at this; cases this
    have WA : ∀ s ∈ L, W ≠ atD L ds s := fun s hs y => bW _ (bs_ok s hs) y.symm
    have b17 : L2.upd H6 (atD L ds rs[i].1) (.lst ((nE (offE L e (rs.take i)) rs[i].1).map V.str ++ [V.str rs[i].2])) D = some (.dK kvs) := by rw [upd_ne (DA _ z1)]; exact e6 _ _ b1
    have dg2 := DGet.k (k := .inr rs[i].2) b17
    rw [b4 _ z2] at dg2
    have gb : L2.upd H6 (atD L ds rs[i].1) (.lst ((nE (offE L e (rs.take i)) rs[i].1).map V.str ++ [V.str rs[i].2])) (atD L ds rs[i].2) = some (.lst ((nE (offE L e (rs.take i)) rs[i].2).map V.str)) := by rw [upd_ne AB.symm]; exact e6 _ _ (b6 _ z2)
    refine ⟨_, rfl, _, rfl, D, _, rfl, dg2, .inl ⟨rfl, _, SqL.of gb⟩, _, rfl, atD L ds rs[i].2, _, _, rfl, rfl, gb, by rw [List.length_map]; exact small1000 (ll _), ?_⟩
    refine ⟨⟨_, _, rfl⟩, fun b o n => ?_, ⟨kvs, by rw [upd_ne (DA _ z2), upd_ne (DA _ z1)]; exact e6 _ _ b1, b2, b3, b4, b5, fun s hs => ?_⟩, by rw [upd_ne (MA _ z2), upd_ne (MA _ z1)]; exact e6 _ _ g3, by rw [upd_ne (WA _ z2), upd_ne (WA _ z1)]; exact e6 _ _ g4⟩
    · rw [upd_ne (ne_of_none n (DH _ (bs_ok _ z2))), upd_ne (ne_of_none n (DH _ (bs_ok _ z1)))]
      exact e6 _ _ (g1 _ _ n)
    · rw [us, nE_snoc]
      by_cases y1 : rs[i].1 = s
      · rw [if_pos y1, if_neg fun y2 => (sd_ok fm.tr).ne hm (y1.trans y2.symm), ← y1, upd_ne AB, upd_same, List.map_append]
        rfl
      · rw [if_neg y1]
        by_cases y2 : rs[i].2 = s
        · rw [if_pos y2, ← y2, upd_same, List.map_append]
          rfl
        · rw [if_neg y2, List.append_nil, List.append_nil, upd_ne fun y => y2 (b5 _ hs _ z2 y).symm, upd_ne fun y => y1 (b5 _ hs _ z1 y).symm]
          exact e6 _ _ (b6 s hs)
  rintro σ Hc ⟨⟨xa, xb, rfl⟩, g1, g2, g3, g4⟩
  rw [List.length_map, lqs, List.take_length] at g2
  obtain ⟨kvs, b1, b2, b3, b4, b5, b6⟩ := g2
  with_reducible refine sQ ?_
  have n1 : e.1 ∈ nearL (sdT rs) L e := mem_near.mpr ⟨h3, (sd_ok fm.tr).a e he⟩
  have nL : ∀ z ∈ nearL (sdT rs) L e, z ∈ L := fun z hz => (mem_near.mp hz).1
  have lE : (offE L e rs).length ≤ 60 := Nat.le_trans (List.length_filter_le _ _) fm.lr
  have MD : D ≠ M := DM
  have AM : ∀ s ∈ L, atD L ds s ≠ M := fun s hs y => by have := b6 s hs; rw [y, g3] at this; cases this
  have AW : ∀ s ∈ L, atD L ds s ≠ W := fun s hs => bW _ (bs_ok s hs)
  generalize hes : offE L e rs = es at b6 lE
  refine while_gh (fun m σ Hd => (∃ a b c, σ = [some (.ref t), some (.ref p), some (.ref r), a, some (.ref D), some (.ref M), some (.ref W), b, c]) ∧ Same H Hd ∧ (∀ b o, b ≠ M → b ≠ W → Hc b = some o → Hd b = some o) ∧ ∃ done wt kvm, Hd M = some (.dK kvm) ∧ Hd W = some (.lst (wt.map V.str)) ∧ SeaU ss (nearL (sdT rs) L e) e.1 done wt kvm ∧ (∀ z ∈ done, ∀ y ∈ nE es z, y ∈ done ++ wt) ∧ m = L.length - done.length) L.length
    ⟨⟨_, _, _, rfl⟩, g1, fun b o _ _ h => h, [], [e.1], _, g3, g4, ⟨by simp, fun s hs => by rw [List.mem_singleton.mp hs]; exact n1, fun s => ?_, by simp, by simp⟩, fun s hs => absurd hs (by simp), by simp⟩ ?_ ?_
  · show _ ∈ [(Sum.inr e.1 : Key)] ↔ s ∈ [e.1]
    rw [List.mem_singleton, List.mem_singleton]
    exact ⟨fun z => Sum.inr.inj z, fun z => by rw [z]⟩
  · rintro m σ Hd ⟨⟨ya, yb, yc, rfl⟩, e4, fr, done, wt, kvm, k1, k2, S, C1, rfl⟩
    have lS : (done ++ wt).length ≤ L.length := nodup_len S.nd fun z hz => nL z (S.ins z hz)
    refine ⟨_, rfl, Nat.zero_le _, fun x hx => ?_⟩
    have xM : M ≠ x := ne_of_none k1 hx
    have xW : W ≠ x := ne_of_none k2 hx
    have e5 := K1.Same.upd (H := Hd) (p := x) (o := .lst []) hx
    have gx := upd_same' Hd x (.lst [])
    generalize L2.upd Hd x (.lst []) = He at e5 gx ⊢
    refine ⟨dN wt, dN [], dp_dN (e5 _ _ k2), dp_dN gx, shaped_dN fun s hs => fm.ok s (sub.mem (nL _ (S.ins s (List.mem_append_right _ hs)))), rfl, _, rfl, ?_⟩
    rw [eqv_dN]
    have e4e : Same H He := e4.trans e5
    rcases List.eq_nil_or_concat wt with rfl | ⟨wt, h, rfl⟩
    · refine iteF ?_
      rw [List.append_nil] at C1
      have inN : ∀ s ∈ L, decide (s ∈ done) = !sdT rs e s := fun s hs => by
        rw [Bool.eq_iff_iff, decide_eq_true_eq, Bool.not_eq_true']
        constructor
        · exact fun z => (mem_near.mp (S.ins s (List.mem_append_left _ z))).2
        · exact fun z => near_all fm.tr con he hi (by have := S.st; rwa [List.append_nil] at this) (by rw [hes]; exact C1) (mem_near.mpr ⟨hs, z⟩)
      have hf1 : ∀ s ∈ L, (valV kvm (.inr s)).isSome = !sdT rs e s := fun s hs => by
        rw [← inN s hs]
        by_cases z : s ∈ done
        · have hk : (Sum.inr s : Key) ∈ kvm.map (·.1) := (S.key s).mpr (List.mem_append_left _ z)
          rw [decide_eq_true z, ← valV_any, List.any_eq_true]
          obtain ⟨pp, hp1, hp2⟩ := List.mem_map.mp hk
          exact ⟨pp, hp1, decide_eq_true hp2⟩
        · rw [decide_eq_false z, valV_no fun y => z (by have := (S.key s).mp y; rwa [List.append_nil] at this)]
          rfl
      have hf2 : ∀ s ∈ L, (!(valV kvm (.inr s)).isSome) = sdT rs e s := fun s hs => by
        rw [hf1 s hs, Bool.not_not]
      have kM := e5 _ _ k1
      dsimp only
      refine ret_run (tup_runE (cons_run ?_))
      refine lc_din (σ := [some (.ref t), some (.ref p), some (.ref r), ya, some (.ref D), some (.ref M), some (.ref W), yb, yc]) rfl (fun v => ⟨⟨rfl, rfl⟩, rfl⟩) (e4e _ _ hp) (by omega) kM hf1 fun U H6 e6 nU gU => ?_
      refine cons_run ?_
      refine lc_dnin (σ := [some (.ref t), some (.ref p), some (.ref r), ya, some (.ref D), some (.ref M), some (.ref W), yb, yc]) rfl (fun v => ⟨⟨rfl, rfl⟩, rfl⟩) (e6 _ _ (e4e _ _ hp)) (by omega) (e6 _ _ kM) hf2 fun U2 H7 e7 nU2 gU2 => ⟨(by show 2 ≤ sizeLine; decide), fun T hT => ?_⟩
      have e8 := K1.Same.upd (H := H7) (p := T) (o := .tup [.ref U, .ref U2]) hT
      exact q T U U2 _ (e4e.trans (e6.trans (e7.trans e8))) ((e4e.trans (e6.trans e7)).free hT) upd_same (e8 _ _ (e7 _ _ gU)) (e8 _ _ gU2)
    · rw [List.concat_eq_append] at k2 S C1 lS ⊢
      have ne : (!decide (wt ++ [h] = [])) = true := by rw [decide_eq_false (by simp)]; rfl
      rw [ne]
      refine iteT ?_
      have lt1 : done.length < L.length := by
        rw [List.length_append, List.length_append] at lS
        simp only [List.length_singleton] at lS
        omega
      have hlast : ((wt ++ [h]).map V.str)[((wt ++ [h]).map V.str).length - 1]? = some (.str h) := by
        rw [List.map_append]
        simp
      have dl : ((wt ++ [h]).map V.str).dropLast = wt.map V.str := by rw [List.map_append]; exact List.dropLast_concat
      have kW := e5 _ _ k2
      refine ⟨_, rfl, _, rfl, .inl ⟨rfl, _, SqL.of kW⟩, W, _, .str h, rfl, rfl, kW, hlast, ?_⟩
      rw [dl]
      have S1 := S.take
      have hN : h ∈ nearL (sdT rs) L e := S1.ins h (by simp)
      have hL := nL _ hN
      have e6 : Same H (L2.upd He W (.lst (wt.map V.str))) := ps_same_upd e4e W0
      have fr6 : ∀ b o, b ≠ M → b ≠ W → Hc b = some o → L2.upd He W (.lst (wt.map V.str)) b = some o := fun b o n1 n2 h => by rw [upd_ne n2]; exact e5 _ _ (fr b o n1 n2 h)
      have gW6 : L2.upd He W (.lst (wt.map V.str)) W = some (.lst (wt.map V.str)) := upd_same
      have gM6 : L2.upd He W (.lst (wt.map V.str)) M = some (.dK kvm) := by rw [upd_ne MW]; exact e5 _ _ k1
      generalize L2.upd He W (.lst (wt.map V.str)) = H6 at e6 fr6 gW6 gM6 ⊢
      have dg := DGet.k (k := .inr h) (fr6 _ _ DM DW b1)
      rw [b4 h hL] at dg
      have ga := fr6 _ _ (AM h hL) (AW h hL) (b6 h hL)
      refine ⟨D, _, rfl, dg, atD L ds h, rfl, ⟨_, SqL.of ga⟩, ?_⟩
      have lnE : (nE es h).length ≤ 1000 := Nat.le_trans (nE_len _) (by omega)
      refine for_it walk_list (fun i σ Hd => (∃ a b c, σ = [some (.ref t), some (.ref p), some (.ref r), a, some (.ref D), some (.ref M), some (.ref W), b, c]) ∧ Same H Hd ∧ (∀ b o, b ≠ M → b ≠ W → Hc b = some o → Hd b = some o) ∧ ∃ wt' kvm', Hd M = some (.dK kvm') ∧ Hd W = some (.lst (wt'.map V.str)) ∧ SeaU ss (nearL (sdT rs) L e) e.1 (done ++ [h]) wt' kvm' ∧ (∀ z ∈ done, ∀ y ∈ nE es z, y ∈ done ++ [h] ++ wt') ∧ ∀ y ∈ (nE es h).take i, y ∈ done ++ [h] ++ wt')
        ⟨⟨_, _, _, rfl⟩, e6, fr6, wt, kvm, gM6, gW6, S1, fun z hz y hy => ?_, fun y hy => absurd hy (by simp)⟩ (fun i σ Hd _ hh => SqL.of (hh.2.2.1 _ _ (AM h hL) (AW h hL) (b6 h hL))) ?_ ?_
      · have := C1 z hz y hy
        simp only [List.mem_append, List.mem_singleton] at this ⊢
        rcases this with a | a | a
        · exact .inl (.inl a)
        · exact .inr a
        · exact .inl (.inr a)
      · rintro i y σ Hf H' hi' ⟨⟨za, zb, zc, rfl⟩, e7, fr7, wt', kvm', x1, x2, S3, C3, N3⟩ ⟨rfl, hy⟩
        obtain ⟨hi2, rfl⟩ := str_at hy
        have hf := List.getElem_mem hi2
        have lk : (done ++ [h] ++ wt').length ≤ L.length := nodup_len S3.nd fun z hz => nL z (S3.ins z hz)
        refine ⟨_, rfl, _, rfl, M, _, rfl, DGet.k (k := .inr (nE es h)[i]) x1, _, rfl, ?_⟩
        by_cases c : (nE es h)[i] ∈ done ++ [h] ++ wt'
        · have hs : (!(valV kvm' (.inr (nE es h)[i])).isSome) = false := by
            rw [← valV_any]
            obtain ⟨pp, hp1, hp2⟩ := List.mem_map.mp ((S3.key _).mpr c)
            rw [List.any_eq_true.mpr ⟨pp, hp1, decide_eq_true hp2⟩]
            rfl
          rw [hs]
          refine iteF ⟨⟨_, _, _, rfl⟩, e7, fr7, wt', kvm', x1, x2, S3, C3, fun y hy => ?_⟩
          rcases (mem_take_succ hi2).mp hy with hy | rfl
          · exact N3 y hy
          · exact c
        · rw [valV_no fun z => c ((S3.key _).mp z)]
          refine iteT ?_
          have lw : wt'.length ≤ 1000 := by rw [List.length_append] at lk; omega
          refine ⟨_, rfl, _, rfl, M, _, rfl, DPut.k (k := .inr (nE es h)[i]) x1 (by have := S3.len; show _ < 2 ^ 24; omega), ?_⟩
          have x2' : L2.upd H' M (.dK (putK kvm' (.inr (nE es h)[i]) (.bl true))) W = some (.lst (wt'.map V.str)) := by rw [upd_ne MW.symm]; exact x2
          refine ⟨_, rfl, .inl ⟨rfl, _, SqL.of x2'⟩, _, rfl, W, _, _, rfl, rfl, x2', by rw [List.length_map]; exact small1000 lw, ?_⟩
          refine ⟨⟨_, _, _, rfl⟩, fun b o n => ?_, fun b o n1 n2 hb => by rw [upd_ne n2, upd_ne n1]; exact fr7 b o n1 n2 hb, wt' ++ [(nE es h)[i]], _, by rw [upd_ne MW]; exact upd_same, by rw [upd_same, List.map_append]; rfl, S3.add (nE_near fm.tr he hN (by rw [hes]; exact hf)) c, fun z hz y hy => ?_, fun y hy => ?_⟩
          · rw [upd_ne (ne_of_none n W0), upd_ne (ne_of_none n M0)]
            exact e7 b o n
          · rw [← List.append_assoc]
            exact List.mem_append_left _ (C3 z hz y hy)
          · rw [← List.append_assoc]
            rcases (mem_take_succ hi2).mp hy with hy | rfl
            · exact List.mem_append_left _ (N3 y hy)
            · exact List.mem_append_right _ (by simp)
      · rintro σ Hf ⟨⟨za, zb, zc, rfl⟩, e7, fr7, wt', kvm', x1, x2, S3, C3, N3⟩
        rw [List.length_map, List.take_length] at N3
        refine ⟨L.length - (done ++ [h]).length, by rw [List.length_append, List.length_singleton]; omega, ⟨_, _, _, rfl⟩, e7, fr7, done ++ [h], wt', kvm', x1, x2, S3, fun z hz => ?_, rfl⟩
        rcases List.mem_append.mp hz with hz | hz
        · exact C3 z hz
        · rw [List.mem_singleton.mp hz]
          exact N3
  · rintro σ Hc Q1 Q2 hq ⟨v, hv, z0, z⟩
    refine ⟨v, hv, z0, fun p hp => ?_⟩
    obtain ⟨d, e, a1, a2, a3, a4, b, a5, a6⟩ := z p hp
    exact ⟨d, e, a1, a2, a3, a4, b, a5, hq _ _ a6⟩
end
end K1
end
-- ULt
section
set_option Elab.async false
set_option linter.all false
set_option maxRecDepth 100000
set_option maxHeartbeats 1000000
namespace K1
open PySem PySem.Spec PyProof.Rows L2 W0
abbrev sUl : Stmt := top 58
abbrev sUr : Stmt := top 59
theorem scUl : FnScope ["form", "lot", "road", "mine", "theirs"] ["form", "lot", "road"] (defScope sUl) := ⟨rfl, rfl, rfl, by decide +kernel, rfl, by decide +kernel, by decide +kernel⟩
theorem scUr : FnScope ["form", "lot", "name", "known", "road"] ["form", "lot"] (defScope sUr) := ⟨rfl, rfl, rfl, by decide +kernel, rfl, by decide +kernel, by decide +kernel⟩
def spUl : Sp := fun vs H Q _ => ∃ (t p r p1 p2 : Addr) (x3 : V) (qs : List Addr) (ss : List Str) (rs : List (Str × Str)) (L : List Str) (e : Str × Str), vs = [.ref t, .ref p, .ref r] ∧ Frm H t p1 p2 x3 qs ss rs ∧ SubL ss L ∧ Con rs L ∧ e ∈ rs ∧ inL L e = true ∧ H p = some (.tup (L.map V.str)) ∧ H r = some (.tup [.str e.1, .str e.2]) ∧
  ∀ u m n H', Same H H' → H u = none → H' u = some (.tup [.ref m, .ref n]) → H' m = some (.tup ((nearL (sdT rs) L e).map V.str)) → H' n = some (.tup ((farL (sdT rs) L e).map V.str)) → Q (.ref u) H'
def spUr : Sp := fun vs H Q _ => ∃ (t p p1 p2 : Addr) (x3 : V) (qs : List Addr) (ss : List Str) (rs : List (Str × Str)) (L : List Str), vs = [.ref t, .ref p] ∧ Frm H t p1 p2 x3 qs ss rs ∧ SubL ss L ∧ L.Nodup ∧ H p = some (.tup (L.map V.str)) ∧
  ∀ r us H', Same H H' → H r = none → H' r = some (.lst (us.map V.ref)) → Paired (TupP H') us (rs.filter (inL L)) → Q (.ref r) H'
section
variable {P : Program} {w : World} {K : PySem.W.Frag} {mg : Str → Option Value} {base : Heap}
theorem ok_Ul {f fV : Addr} {fd vd : FuncData} (F : Fun K "_law_u_lots" "_law_u_lots" sUl f fd) (B : Bl mg)
    (GV : FnOk P w K mg base CX0 1 fV vd ["form", "part", "road"] spVs) (bV : Binds K vd ["form", "part", "road"] []) (kV : PySem.W.keepIn K (.ref fV) = true) (mV : mg "_law_v_side" = some (.ref fV)) :
    FnOk P w K mg base CX0 2 f fd ["form", "lot", "road"] spUl := by
  refine F.ok scUl (fun vs H Q E h => ?_) (fun cdv A outer s H vs Q E hr h => ?_)
  · obtain ⟨t, p, r, p1, p2, x3, qs, ss, rs, L, e, rfl, _⟩ := h
    rfl
  obtain ⟨t, p, r, p1, p2, x3, qs, ss, rs, L, e, rfl, fm, sub, con, he, hi, hp, hr0, q⟩ := h
  have nd := scUl.nd
  refine ⟨_, (pss_cons (by exact (ps_asg (pe_call GV hr rfl mV kV bV .nil pass0 (pa_cons (pv 0) (pa_cons (pe_callTy call_list_of rfl B.list PyProof.Rows.boot_list (pa_cons (pv 1) pa_nil)) (pa_cons (pv 2) pa_nil)))) (pg_tup rfl (pgs_cons (pg_name (i := 3) nd rfl (.inl rfl)) (pgs_cons (pg_name (i := 4) nd rfl (.inl rfl)) pgs_nil)))))
  (pss_one (by exact (ps_ret (pe_tup (pa_cons (pe_callTy call_tuple_of rfl B.tuple PyProof.Rows.boot_tuple (pa_cons (pv 3) pa_nil)) (pa_cons (pe_callTy call_tuple_of rfl B.tuple PyProof.Rows.boot_tuple (pa_cons (pv 4) pa_nil)) pa_nil))))))), ?_⟩
  refine ⟨_, rfl, _, rfl, p, _, rfl, .inr (SqT.of hp), fun l hl => ?_⟩
  have e1 := K1.Same.upd (H := H) (p := l) (o := .lst (L.map V.str)) hl
  have gl := upd_same' H l (.lst (L.map V.str))
  generalize L2.upd H l (.lst (L.map V.str)) = H1 at e1 gl ⊢
  refine ⟨_, rfl, t, l, r, p1, p2, x3, qs, ss, rs, L, e, rfl, fm.same e1, sub, con, he, hi, gl, e1 _ _ hr0, fun u m n H2 e2 nu gu gm gn => ?_⟩
  refine ⟨u, _, rfl, SqT.of gu, rfl, _, _, rfl, _, _, rfl, rfl, ?_⟩
  dsimp only
  refine ret_run (tup_runE (cons_run ⟨_, rfl, m, _, rfl, .inl ⟨SqL.of gm, fun m2 hm2 => ?_⟩⟩))
  have e3 := K1.Same.upd (H := H2) (p := m2) (o := .tup ((nearL (sdT rs) L e).map V.str)) hm2
  have gm2 := upd_same' H2 m2 (.tup ((nearL (sdT rs) L e).map V.str))
  generalize L2.upd H2 m2 (.tup ((nearL (sdT rs) L e).map V.str)) = H3 at e3 gm2 ⊢
  refine cons_run ⟨_, rfl, n, _, rfl, .inl ⟨SqL.of (e3 _ _ gn), fun n2 hn2 => ?_⟩⟩
  have e4 := K1.Same.upd (H := H3) (p := n2) (o := .tup ((farL (sdT rs) L e).map V.str)) hn2
  have gn2 := upd_same' H3 n2 (.tup ((farL (sdT rs) L e).map V.str))
  generalize L2.upd H3 n2 (.tup ((farL (sdT rs) L e).map V.str)) = H4 at e4 gn2 ⊢
  refine ⟨(by show 2 ≤ sizeLine; decide), fun T hT => ?_⟩
  have e5 := K1.Same.upd (H := H4) (p := T) (o := .tup [.ref m2, .ref n2]) hT
  have e04 : Same H H4 := e1.trans (e2.trans (e3.trans e4))
  exact q T m2 n2 _ (e04.trans e5) (e04.free hT) upd_same (e5 _ _ (e4 _ _ gm2)) (e5 _ _ gn2)
theorem ok_Ur {f : Addr} {fd : FuncData} (F : Fun K "_law_u_roads" "_law_u_roads" sUr f fd) (B : Bl mg) :
    FnOk P w K mg base CX0 1 f fd ["form", "lot"] spUr := by
  refine F.ok scUr (fun vs H Q E h => ?_) (fun cdv A outer s H vs Q E hr h => ?_)
  · obtain ⟨t, p, p1, p2, x3, qs, ss, rs, L, rfl, _⟩ := h
    rfl
  obtain ⟨t, p, p1, p2, x3, qs, ss, rs, L, rfl, fm, sub, ndL, hp, q⟩ := h
  have nd := scUr.nd
  have hu := hu_of hr
  refine ⟨_, (pss_cons (by exact (ps_set (i := 3) nd rfl (.inr rfl) (pe_callTy (call_dictP rfl) rfl B.dict PyProof.Rows.boot_dict (pa_cons (pe_lc (own := [("name", 2)]) (g := gName 2) (tt := tYes) (te := tTup (tCons (tVar 2) (tCons (tC (.bl true)) tNil))) rfl nd (by exact pi_tup (pv 1)) (by exact blkOk_by (N := ["form", "lot", "name", "known", "road"]) (sc := defScope sUr) (by decide +kernel)) (fun _ _ _ _ _ => by exact (pg_name (i := 2) nd rfl (.inl rfl))) (fun _ _ _ _ _ => by exact pts_nil) (fun _ _ _ _ _ => by exact (pe_tup (pa_cons (pv 2) (pa_cons pe_bl pa_nil))))) pa_nil))))
  (pss_one (by exact (ps_ret (pe_lc (own := [("road", 4)]) (g := gName 4) (tt := tAnd (tB (tDIn (tOp (rIxT K) (tVar 4) (tC (.int 0))) (tVar 3))) (tB (tDIn (tOp (rIxT K) (tVar 4) (tC (.int 1))) (tVar 3)))) (te := tVar 4) rfl nd (by exact pi_list (pe_ix ix_list (pv 0) pe_int (fun _ _ => rfl))) (by exact blkOk_by (N := ["form", "lot", "name", "known", "road"]) (sc := defScope sUr) (by decide +kernel)) (fun _ _ _ _ _ => by exact (pg_name (i := 4) nd rfl (.inl rfl))) (fun _ _ _ _ _ => by exact (pts_one (PW.pt (pw_and (pt_cmp (pc_din hu (pe_ix ix_tup (pv 4) pe_int (fun _ _ => rfl)) (pv 3)) (by with_unfolding_all rfl)) (pw_and1 (pt_cmp (pc_din hu (pe_ix ix_tup (pv 4) pe_int (fun _ _ => rfl)) (pv 3)) (by with_unfolding_all rfl))))))) (fun _ _ _ _ _ => by exact (pv 4))))))), ?_⟩
  have lL : L.length ≤ 60 := Nat.le_trans (nodup_len ndL fun z hz => sub.mem hz) fm.ls
  refine ⟨_, rfl, p, rfl, ⟨_, SqT.of hp⟩, fun D0 hD0 => ?_⟩
  refine lc_it (Qd := _) walk_tup (fun i Hc => Same H Hc ∧ ∃ (ts : List Addr), Hc D0 = some (.lst (ts.map V.ref)) ∧ Paired (fun t kv => Hc t = some (.tup [kV kv.1, kv.2])) ts ((L.take i).map fun s => ((.inr s : Key), V.bl true)))
    ⟨K1.Same.upd hD0, [], upd_same, .nil⟩ (fun i Hc _ h => SqT.of (h.1 _ _ hp)) ?_ ?_
  · rintro i x Hc H' hi ⟨f1, ts, f2, f3⟩ ⟨rfl, hx⟩
    obtain ⟨hi', rfl⟩ := str_at hx
    refine ⟨rfl, ?_⟩
    unfold tYes
    refine iteT ?_
    refine ⟨_, rfl, (by show 2 ≤ sizeLine; decide), fun u hu' => ?_⟩
    have uD : u ≠ D0 := fun z => by rw [z, f2] at hu'; cases hu'
    have lt : ts.length ≤ i := by
      have := f3.length
      rw [List.length_map, List.length_take] at this
      omega
    have kd : Kept D0 H' (L2.upd (L2.upd H' u (.tup [.str L[i], .bl true])) D0 (.lst (ts.map V.ref ++ [.ref u]))) := (Kept.new hu').trans Kept.upd
    refine ⟨ts.map V.ref, by rw [upd_ne uD.symm]; exact f2, by rw [List.length_map]; exact small1000 (by omega), fun b o n => kd b o (ne_of_none n hD0) (f1 b o n), ts ++ [u], by rw [upd_same, List.map_append]; rfl, ?_⟩
    rw [take_snoc hi', List.map_append]
    exact snoc_paired (by show L2.upd _ _ _ u = _; rw [upd_ne uD, upd_same]; rfl) f3 (fun y kv _ ey => kd _ _ (fun z => by rw [z, f2] at ey; cases ey) ey)
  rintro H1 ⟨e1, ts0, f2, f3⟩
  rw [List.length_map, List.take_length] at f3
  refine ⟨D0, ts0, _, rfl, SqL.of f2, paired_imp (fun _ _ h => SqT.of h) f3, fun D hD => ?_⟩
  have mk : mergeK [] (L.map fun s => ((.inr s : Key), V.bl true)) = L.map fun s => ((.inr s : Key), V.bl true) := by
    rw [merge_new (fun p _ => by simp), List.nil_append]
    rw [List.map_map]
    exact List.Pairwise.map _ (fun a b (h : a ≠ b) z => h (Sum.inr.inj z)) ndL
  rw [mk]
  have s1 := K1.Same.upd (H := H1) (p := D) (o := .dK (L.map fun s => ((.inr s : Key), V.bl true))) hD
  have gD := upd_same' H1 D (.dK (L.map fun s => ((.inr s : Key), V.bl true)))
  generalize L2.upd H1 D (.dK (L.map fun s => ((.inr s : Key), V.bl true))) = H2 at s1 gD ⊢
  have e12 : Same H H2 := e1.trans s1
  have fm2 := fm.same e12
  have lqs : qs.length = rs.length := fm.pr.length
  refine K1.gN ?_
  have e_in : ∀ s, ((valV (L.map fun s => ((.inr s : Key), V.bl true)) (.inr s)).isSome) = decide (s ∈ L) := fun s => by
    by_cases z : s ∈ L
    · rw [decide_eq_true z, ← valV_any, List.any_eq_true]
      exact ⟨_, List.mem_map.mpr ⟨s, z, rfl⟩, decide_eq_true rfl⟩
    · rw [decide_eq_false z, valV_no]
      · rfl
      · rw [List.map_map]
        intro h
        obtain ⟨y, hy, ey⟩ := List.mem_map.mp h
        exact z (Sum.inr.inj ey ▸ hy)
  refine ⟨_, rfl, t, _, (1 : Int), .ref p2, rfl, rfl, SqL.of fm2.t0, atI_nat (j := 1) rfl, p2, rfl, ⟨_, SqL.of fm2.h2⟩, fun R hR => ?_⟩
  refine lc_it (Qd := _) walk_list (fun i Hc => Same H2 Hc ∧ ∃ (us : List Addr), Hc R = some (.lst (us.map V.ref)) ∧ Paired (TupP Hc) us ((rs.take i).filter (inL L)))
    ⟨K1.Same.upd hR, [], upd_same, .nil⟩ (fun i Hc _ h => SqL.of (h.1 _ _ fm2.h2)) ?_ ?_
  · rintro i x Hc H' hi ⟨f1, us, f2, f3⟩ ⟨rfl, hx⟩
    rw [List.length_map, lqs] at hi
    obtain ⟨tq, rfl, htq⟩ := paired_ref fm2.pr hi hx
    have hq := f1 _ _ htq
    refine ⟨rfl, ?_⟩
    have a0 : atI [V.str rs[i].1, .str rs[i].2] 0 = some (.str rs[i].1) := rfl
    have a1 : atI [V.str rs[i].1, .str rs[i].2] 1 = some (.str rs[i].2) := rfl
    have us' : (rs.take (i + 1)).filter (inL L) = (rs.take i).filter (inL L) ++ if inL L rs[i] = true then [rs[i]] else [] := by
      rw [take_snoc hi, List.filter_append]
      congr 1
      rw [List.filter_cons, List.filter_nil]
    have skip : inL L rs[i] = false → Same H2 H' ∧ ∃ (us : List Addr), H' R = some (.lst (us.map V.ref)) ∧ Paired (TupP H') us ((rs.take (i + 1)).filter (inL L)) := fun z => by
      rw [z, if_neg (by decide), List.append_nil] at us'
      rw [us']
      exact ⟨f1, us, f2, f3⟩
    refine ⟨_, rfl, tq, _, (0 : Int), _, rfl, rfl, SqT.of hq, a0, _, rfl, D, _, rfl, DGet.k (k := .inr rs[i].1) (f1 _ _ gD), _, rfl, ?_⟩
    rw [e_in]
    by_cases z1 : rs[i].1 ∈ L
    case neg =>
      rw [decide_eq_false z1]
      refine iteF (iteF (skip ?_))
      unfold inL
      rw [decide_eq_false z1]
      rfl
    rw [decide_eq_true z1]
    refine iteT ?_
    refine ⟨_, rfl, tq, _, (1 : Int), _, rfl, rfl, SqT.of hq, a1, _, rfl, D, _, rfl, DGet.k (k := .inr rs[i].2) (f1 _ _ gD), _, rfl, ?_⟩
    rw [e_in]
    by_cases z2 : rs[i].2 ∈ L
    case neg =>
      rw [decide_eq_false z2]
      refine iteF (skip ?_)
      unfold inL
      rw [decide_eq_false z2, Bool.and_false]
    rw [decide_eq_true z2]
    refine iteT ?_
    rw [inL_iff.mpr ⟨z1, z2⟩, if_pos rfl] at us'
    have lu : us.length ≤ 1000 := by
      have := f3.length
      have l2 := List.length_filter_le (inL L) (rs.take i)
      rw [List.length_take] at l2
      have := fm.lr
      omega
    refine ⟨_, rfl, _, f2, by rw [List.length_map]; exact small1000 lu, ps_same_upd f1 hR, us ++ [tq], by rw [upd_same, List.map_append]; rfl, ?_⟩
    rw [us']
    have pp := paired_snoc f3 (show TupP H' tq rs[i] from hq)
    exact paired_imp (fun x y h => by
      have n : x ≠ R := fun z => by
        have h : H' x = _ := h
        rw [z, f2] at h
        cases h
      show L2.upd H' R _ x = _
      rw [upd_ne n]
      exact h) pp
  rintro H3 ⟨f1, us, f2, f3⟩
  rw [show (qs.map V.ref).length = rs.length by rw [List.length_map, lqs], List.take_length] at f3
  exact q R us H3 (e12.trans f1) (e12.free hR) f2 f3
end
end K1
end
-- UMy
section
set_option Elab.async false
set_option linter.all false
set_option maxRecDepth 100000
set_option maxHeartbeats 1000000
namespace K1
open PySem PySem.Spec PyProof.Rows L2 W0
abbrev sUm : Stmt := top 60
theorem scUm : FnScope ["form", "lot", "known", "whole", "road", "mine", "theirs"] ["form", "lot", "known"] (defScope sUm) := ⟨rfl, rfl, rfl, by decide +kernel, rfl, by decide +kernel, by decide +kernel⟩
/-! what is known by lots as tuples -/
theorem keyS_inj {a b : List Str} (h : keyS a = keyS b) : a = b := by
  unfold keyS at h
  exact (List.map_inj_right fun x y z => Sum.inr.inj z).mp h
def tabT (f : List Str → V) (Ls : List (List Str)) : List (List Key × V) := Ls.map fun L => (keyS L, f L)
theorem tabT_keys {f : List Str → V} {Ls : List (List Str)} {L : List Str} : keyS L ∈ (tabT f Ls).map (·.1) ↔ L ∈ Ls := by
  unfold tabT
  rw [List.map_map, List.mem_map]
  constructor
  · rintro ⟨a, h, e⟩
    rw [← keyS_inj e]
    exact h
  · intro h
    exact ⟨L, h, rfl⟩
theorem tabT_val {f : List Str → V} : ∀ {Ls : List (List Str)} {L : List Str}, valV (tabT f Ls) (keyS L) = if L ∈ Ls then some (f L) else none
  | [], L => rfl
  | M :: Ls, L => by
    show valV ((keyS M, f M) :: tabT f Ls) _ = _
    by_cases e : M = L
    · subst e
      rw [valV_pos rfl, if_pos (List.mem_cons_self ..)]
    · rw [valV_neg (fun z => e (keyS_inj z)), tabT_val]
      have : (L ∈ M :: Ls) ↔ L ∈ Ls := by
        rw [List.mem_cons]
        exact ⟨fun z => z.resolve_left fun y => e y.symm, .inr⟩
      by_cases m : L ∈ Ls
      · rw [if_pos m, if_pos (this.mpr m)]
      · rw [if_neg m, if_neg fun z => m (this.mp z)]
theorem putT_new {kvs : List (List Key × V)} {k : List Key} {v : V} (h : k ∉ kvs.map (·.1)) : putK kvs k v = kvs ++ [(k, v)] := by
  unfold putK
  rw [if_neg]
  intro z
  rw [List.any_eq_true] at z
  obtain ⟨e, he, hk⟩ := z
  exact h (List.mem_map.mpr ⟨e, he, of_decide_eq_true hk⟩)
theorem putT_old {f : List Str → V} {Ls : List (List Str)} {L : List Str} (h : L ∈ Ls) : putK (tabT f Ls) (keyS L) (f L) = tabT f Ls := by
  unfold putK
  rw [if_pos]
  · unfold tabT
    rw [List.map_map]
    refine List.map_congr_left fun M hM => ?_
    show (if keyS M = keyS L then _ else _) = _
    by_cases e : keyS M = keyS L
    · rw [if_pos e, keyS_inj e]
    · rw [if_neg e]
  · rw [List.any_eq_true]
    exact ⟨_, List.mem_map.mpr ⟨L, h, rfl⟩, decide_eq_true rfl⟩
def MemoT (ss : List Str) (Ls : List (List Str)) : Prop := Ls.Nodup ∧ ∀ L ∈ Ls, SubL ss L
theorem SubL.inj {ss L M : List Str} (nd : ss.Nodup) (h1 : SubL ss L) (h2 : SubL ss M) (e : lotN ss L = lotN ss M) : L = M := by
  rw [h1.bits nd, h2.bits nd, bs_eq] at e
  rw [h1, h2]
  exact List.filter_congr e
theorem SubL.lt {ss L : List Str} (nd : ss.Nodup) (h : SubL ss L) : lotN ss L < 2 ^ ss.length := by
  rw [h.bits nd]
  have := bsum_lt (ss.map fun z => decide (z ∈ L))
  rw [List.length_map] at this
  exact this
theorem MemoT.len {ss : List Str} {Ls : List (List Str)} (nd : ss.Nodup) (h : MemoT ss Ls) : Ls.length ≤ 2 ^ ss.length := by
  have n2 : (Ls.map (lotN ss)).Nodup := by
    have h1 := h.1
    have h2 := h.2
    clear h
    induction Ls with
    | nil => exact List.nodup_nil
    | cons L Ls ih =>
      have hc := List.nodup_cons.mp h1
      refine List.nodup_cons.mpr ⟨fun m => ?_, ih hc.2 fun M hM => h2 M (List.mem_cons_of_mem _ hM)⟩
      obtain ⟨M, hM, e⟩ := List.mem_map.mp m
      exact hc.1 (by rw [← SubL.inj nd (h2 M (List.mem_cons_of_mem _ hM)) (h2 L (List.mem_cons_self ..)) e]; exact hM)
  have := nodup_below n2 (B := 2 ^ ss.length) fun l hl => by
    obtain ⟨M, hM, rfl⟩ := List.mem_map.mp hl
    exact (h.2 M hM).lt nd
  rw [List.length_map] at this
  exact this
theorem MemoT.nil {ss : List Str} : MemoT ss [] := ⟨List.nodup_nil, fun L h => absurd h (by simp)⟩
theorem MemoT.put {ss : List Str} {Ls : List (List Str)} {L : List Str} {f : List Str → V} (h : MemoT ss Ls) (s : SubL ss L) : ∃ Ls2, putK (tabT f Ls) (keyS L) (f L) = tabT f Ls2 ∧ MemoT ss Ls2 ∧ L ∈ Ls2 := by
  by_cases m : L ∈ Ls
  · exact ⟨Ls, putT_old m, h, m⟩
  · refine ⟨Ls ++ [L], ?_, ⟨List.nodup_append.mpr ⟨h.1, by simp, fun a ha b hb e => m ?_⟩, fun M hM => ?_⟩, by simp⟩
    · rw [putT_new fun z => m (tabT_keys.mp z)]
      unfold tabT
      rw [List.map_append]
      rfl
    · rw [← List.mem_singleton.mp hb, ← e]
      exact ha
    · rcases List.mem_append.mp hM with hM | hM
      · exact h.2 M hM
      · rw [List.mem_singleton.mp hM]
        exact s
theorem tabT_len {f : List Str → V} {Ls : List (List Str)} : (tabT f Ls).length = Ls.length := List.length_map ..
noncomputable def fMany (N : Nat) (rs : List (Str × Str)) (L : List Str) : V := .int ((manyL rs (sdT rs) N L : Nat) : Int)
noncomputable def wayL (N : Nat) (rs : List (Str × Str)) (L : List Str) (e : Str × Str) : Nat := manyL rs (sdT rs) N (nearL (sdT rs) L e) * manyL rs (sdT rs) N (farL (sdT rs) L e)
theorem many_step {ss : List Str} {rs : List (Str × Str)} (T : Tree ss rs) {N : Nat} {L : List Str} (C : Con rs L) (l : L.length ≤ N) (h1 : L.length ≠ 1) : manyL rs (sdT rs) N L = ((rs.filter (inL L)).map (wayL N rs L)).sum := by
  have p := C.2.1
  obtain ⟨M, rfl⟩ : ∃ M, N = M + 1 := ⟨N - 1, by omega⟩
  rw [manyL, if_neg h1]
  congr 1
  refine List.map_congr_left fun e he => ?_
  obtain ⟨he1, he2⟩ := List.mem_filter.mp he
  obtain ⟨c1, c2, ll, l3, l4⟩ := C.cut (sd_ok T) he1 he2
  unfold wayL
  rw [manyL_mono (sd_ok T) M (M + 1) _ c1 (by omega) (by omega), manyL_mono (sd_ok T) M (M + 1) _ c2 (by omega) (by omega)]
theorem many_one {rs : List (Str × Str)} {N : Nat} {L : List Str} (l : 1 ≤ N) (h1 : L.length = 1) : manyL rs (sdT rs) N L = 1 := by
  obtain ⟨M, rfl⟩ : ∃ M, N = M + 1 := ⟨N - 1, by omega⟩
  rw [manyL, if_pos h1]
theorem Frm.kept {H H' : Hp} {k t p1 p2 : Addr} {x3 : V} {qs : List Addr} {ss : List Str} {rs : List (Str × Str)} {kvs : List (List Key × V)} (f : Frm H t p1 p2 x3 qs ss rs) (hk : H k = some (.dT kvs)) (e : Kept k H H') : Frm H' t p1 p2 x3 qs ss rs := by
  have ne : ∀ {a : Addr} {o : HO}, H a = some o → (∀ kv, o ≠ .dT kv) → H' a = some o := fun h n => e _ _ (fun z => by rw [z, hk] at h; exact n _ (Option.some.inj h).symm) h
  exact ⟨ne f.t0 (fun kv z => by cases z), ne f.h1 (fun kv z => by cases z), ne f.h2 (fun kv z => by cases z), paired_imp (fun x y q => ne q (fun kv z => by cases z)) f.pr, f.tr, f.ls, f.ok⟩
def spUm (N : Nat) : Nat → Sp
  | 0 => fun _ _ _ _ => False
  | n + 1 => fun vs H Q _ => ∃ (t p k p1 p2 : Addr) (x3 : V) (qs : List Addr) (ss : List Str) (rs : List (Str × Str)) (L : List Str) (Ls : List (List Str)), vs = [.ref t, .ref p, .ref k] ∧ Frm H t p1 p2 x3 qs ss rs ∧ SubL ss L ∧ Con rs L ∧ L.length ≤ n + 1 ∧ n + 1 ≤ N ∧ ss.length ≤ 20 ∧ rs.length ^ ss.length < 2 ^ 64 ∧
    H p = some (.tup (L.map V.str)) ∧ H k = some (.dT (tabT (fMany N rs) Ls)) ∧ MemoT ss Ls ∧
    ∀ H' Ls', Kept k H H' → H' k = some (.dT (tabT (fMany N rs) Ls')) → MemoT ss Ls' → Q (.int ((manyL rs (sdT rs) N L : Nat) : Int)) H'
section
variable {P : Program} {w : World} {K : PySem.W.Frag} {mg : Str → Option Value} {base : Heap}
theorem ok_Um0 {N : Nat} {f : Addr} {fd : FuncData} (F : Fun K "_law_u_many" "_law_u_many" sUm f fd) : FnOk P w K mg base CX0 2 f fd ["form", "lot", "known"] (spUm N 0) :=
  F.ok scUm (fun vs H Q E h => h.elim) (fun cdv A outer s H vs Q E hr h => h.elim)
theorem ok_Um1 {N n : Nat} {f fR fL : Addr} {fd rd ld : FuncData} (F : Fun K "_law_u_many" "_law_u_many" sUm f fd) (B : Bl mg)
    (bM : Binds K fd ["form", "lot", "known"] []) (mM : mg "_law_u_many" = some (.ref f))
    (GR : FnOk P w K mg base CX0 1 fR rd ["form", "lot"] spUr) (bR : Binds K rd ["form", "lot"] []) (kR : PySem.W.keepIn K (.ref fR) = true) (mR : mg "_law_u_roads" = some (.ref fR))
    (GL : FnOk P w K mg base CX0 2 fL ld ["form", "lot", "road"] spUl) (bL : Binds K ld ["form", "lot", "road"] []) (kL : PySem.W.keepIn K (.ref fL) = true) (mL : mg "_law_u_lots" = some (.ref fL))
    (G : FnOk P w K mg base CX0 (n + 2) f fd ["form", "lot", "known"] (spUm N n)) : FnOk P w K mg base CX0 (n + 3) f fd ["form", "lot", "known"] (spUm N (n + 1)) := by
  refine F.ok scUm (fun vs H Q E h => ?_) (fun cdv A outer s H vs Q E hr h => ?_)
  · obtain ⟨t, p, k, p1, p2, x3, qs, ss, rs, L, Ls, rfl, _⟩ := h
    rfl
  obtain ⟨t, p, k, p1, p2, x3, qs, ss, rs, L, Ls, rfl, fm, sub, con, lL, hN, l20, hb, hp, hk, ml, q⟩ := h
  have nd := scUm.nd
  have hu := hu_of hr
  have hr1 : Room 1 _ := hr.mono (by omega)
  have hr2 : Room 2 _ := hr.mono (by omega)
  refine ⟨_, (pss_cons (by exact (ps_if (pt_cmpR op_eq (pe_callB call_len_seq rfl B.len PySem.boot_len (pa_cons (pv 1) pa_nil)) pe_int (nomark _)) (pss_one (by exact (ps_ret pe_int))) pss_nil))
  (pss_cons (by exact (ps_if (pt_cmp (pc_dnotin hu (pv 1) (pv 2)) (by with_unfolding_all rfl)) (pss_cons (by exact (ps_set (i := 3) nd rfl (.inl rfl) pe_int))
  (pss_cons (by exact (ps_for PassesOwn.never rfl (by exact pi_list (pe_call GR hr1 rfl mR kR bR .nil pass0 (pa_cons (pv 0) (pa_cons (pv 1) pa_nil)))) (pg_name (i := 4) nd rfl (.inl rfl)) (pss_cons (by exact (ps_asg (pe_call GL hr2 rfl mL kL bL .nil pass0 (pa_cons (pv 0) (pa_cons (pv 1) (pa_cons (pv 4) pa_nil)))) (pg_tup rfl (pgs_cons (pg_name (i := 5) nd rfl (.inl rfl)) (pgs_cons (pg_name (i := 6) nd rfl (.inl rfl)) pgs_nil)))))
  (pss_one (by exact (ps_set (i := 3) nd rfl (.inl rfl) (pe_op op_add (pv 3) (pe_op op_mul (pe_call G hr rfl mM F.kp bM .nil pass0 (pa_cons (pv 0) (pa_cons (pv 5) (pa_cons (pv 2) pa_nil)))) (pe_call G hr rfl mM F.kp bM .nil pass0 (pa_cons (pv 0) (pa_cons (pv 6) (pa_cons (pv 2) pa_nil))))))))))))
  (pss_one (by exact (ps_dput hu (pv 2) (pv 1) (pv 3) rfl))))) pss_nil))
  (pss_one (by exact (ps_ret (pe_dget hu (pv 2) (pv 1) (fun _ _ => rfl))))))), ?_⟩
  have nds := fm.tr.nd
  have keyL : (keyS L).map kV = L.map V.str := keyS_map L
  have hpk : H p = some (.tup ((keyS L).map kV)) := by rw [keyL]; exact hp
  refine ⟨_, rfl, p, _, rfl, .inr (SqT.of hp), rfl, _, rfl, ?_⟩
  rw [List.length_map]
  by_cases h1 : L.length = 1
  · rw [h1, decide_eq_true (by rfl)]
    refine iteT ?_
    have := q H Ls Kept.refl hk ml
    rw [many_one (by omega) h1] at this
    exact this
  rw [decide_eq_false (fun z => h1 (by have := V.int.inj z; omega))]
  refine iteF ?_
  refine nQ ?_
  with_reducible refine sQ ?_
  refine ⟨_, rfl, _, rfl, k, _, rfl, DGet.t (k := keyS L) hk hpk, _, rfl, ?_⟩
  rw [tabT_val]
  by_cases hm : L ∈ Ls
  · rw [if_pos hm]
    refine iteF ?_
    have dg := DGet.t (k := keyS L) hk hpk
    rw [tabT_val, if_pos hm] at dg
    exact ⟨_, rfl, _, rfl, k, _, rfl, dg, q H Ls Kept.refl hk ml⟩
  rw [if_neg hm]
  refine iteT ?_
  refine K1.gN ?_
  with_reducible refine sQ ?_
  refine ⟨_, rfl, _, rfl, t, p, p1, p2, x3, qs, ss, rs, L, rfl, fm, sub, con.1, hp, fun R us H1 e1 nR gR pU => ?_⟩
  refine ⟨R, rfl, ⟨_, SqL.of gR⟩, ?_⟩
  have hk1 := e1 _ _ hk
  have Rk : R ≠ k := fun z => by rw [z, hk] at nR; cases nR
  have fm1 := fm.same e1
  have lus : us.length = (rs.filter (inL L)).length := pU.length
  have pk : p ≠ k := fun z => by rw [z, hk] at hp; cases hp
  refine for_it walk_list (fun i σ Hc => (∃ a b c, σ = [some (.ref t), some (.ref p), some (.ref k), some (.int (((((rs.filter (inL L)).take i).map (wayL N rs L)).sum : Nat) : Int)), a, b, c]) ∧ Kept k H1 Hc ∧ ∃ Ls', Hc k = some (.dT (tabT (fMany N rs) Ls')) ∧ MemoT ss Ls')
    ⟨⟨_, _, _, rfl⟩, Kept.refl, Ls, hk1, ml⟩ (fun i σ Hc _ h => SqL.of (h.2.1 _ _ Rk gR)) ?_ ?_
  · rintro i v σ Hc H' hi ⟨⟨xa, xb, xc, rfl⟩, c1, Ls', c3, c4⟩ ⟨rfl, hv⟩
    rw [List.length_map, lus] at hi
    obtain ⟨tq, rfl, htq⟩ := paired_ref pU hi hv
    have hem := List.getElem_mem hi
    obtain ⟨he, hin⟩ := List.mem_filter.mp hem
    have tqk : tq ≠ k := fun z => by rw [z, hk1] at htq; cases htq
    have htq' := c1 _ _ tqk htq
    have fmc := fm1.kept hk1 c1
    have hp' := c1 _ _ pk (e1 _ _ hp)
    obtain ⟨cn, cf, ll, l3, l4⟩ := con.cut (sd_ok fm.tr) he hin
    have sumS : (((rs.filter (inL L)).take (i + 1)).map (wayL N rs L)).sum = (((rs.filter (inL L)).take i).map (wayL N rs L)).sum + wayL N rs L (rs.filter (inL L))[i] := by
      rw [take_snoc hi, List.map_append, List.sum_append]
      simp
    generalize hge : (rs.filter (inL L))[i] = e at he hin htq' cn cf ll l3 l4 sumS
    refine ⟨_, rfl, _, rfl, _, rfl, t, p, tq, p1, p2, x3, qs, ss, rs, L, e, rfl, fmc, sub, con, he, hin, hp', htq', fun u m n' H2 e2 nu gu gm gn => ?_⟩
    refine ⟨u, _, rfl, SqT.of gu, rfl, _, _, rfl, _, _, rfl, rfl, ?_⟩
    have c32 := e2 _ _ c3
    rcases n with _ | n
    · exact absurd cn.2.1 (by omega)
    refine ⟨_, rfl, _, rfl, _, rfl, _, rfl, t, m, k, p1, p2, x3, qs, ss, rs, nearL (sdT rs) L e, Ls', rfl, fmc.same e2, sub.fil _, cn, by omega, by omega, l20, hb, gm, c32, c4, fun H5 Ls5 k5 g5 m5 => ?_⟩
    have gn5 : H5 n' = some (.tup ((farL (sdT rs) L e).map V.str)) := k5 _ _ (fun z => by rw [z, c32] at gn; cases gn) gn
    refine ⟨_, rfl, _, rfl, _, rfl, t, n', k, p1, p2, x3, qs, ss, rs, farL (sdT rs) L e, Ls5, rfl, (fmc.same e2).kept c32 k5, sub.fil _, cf, by omega, by omega, l20, hb, gn5, g5, m5, fun H6 Ls6 k6 g6 m6 => ?_⟩
    have sm : manyL rs (sdT rs) N (nearL (sdT rs) L e) < 2 ^ 64 := many_lt fm.tr hb (sub.fil _) cn (List.ne_nil_of_mem he) N
    refine ⟨_, _, rfl, rfl, .inl ⟨by omega, by omega⟩, _, _, rfl, rfl, ?_⟩
    refine ⟨⟨some (.ref tq), some (.ref m), some (.ref n'), ?_⟩, fun b o nb h => k6 _ _ nb (k5 _ _ nb (e2 _ _ (c1 _ _ nb h))), Ls6, g6, m6⟩
    rw [sumS]
    unfold wayL
    rw [Int.natCast_add, Int.natCast_mul]
    rfl
  · rintro σ Hc ⟨⟨xa, xb, xc, rfl⟩, c1, Ls', c3, c4⟩
    rw [List.length_map, lus, List.take_length, ← many_step fm.tr con (by omega) h1]
    obtain ⟨Ls2, q1, q2, q3⟩ := c4.put (f := fMany N rs) sub
    have hpc : Hc p = some (.tup ((keyS L).map kV)) := c1 _ _ pk (e1 _ _ hpk)
    have l2 : 2 ^ ss.length ≤ 2 ^ 20 := Nat.pow_le_pow_right (by decide) l20
    have dput := DPut.t (k := keyS L) (v := fMany N rs L) c3 hpc (by have := c4.len nds; rw [tabT_len]; show _ < 2 ^ 24; omega)
    rw [q1] at dput
    have g7 := upd_same' Hc k (.dT (tabT (fMany N rs) Ls2))
    have k7 : Kept k H (L2.upd Hc k (.dT (tabT (fMany N rs) Ls2))) := ((Kept.same e1).trans c1).trans Kept.upd
    have hp7 : L2.upd Hc k (.dT (tabT (fMany N rs) Ls2)) p = some (.tup ((keyS L).map kV)) := by rw [upd_ne pk]; exact hpc
    generalize L2.upd Hc k (.dT (tabT (fMany N rs) Ls2)) = H7 at dput g7 k7 hp7
    have dg := DGet.t (k := keyS L) g7 hp7
    rw [tabT_val, if_pos q3] at dg
    exact ⟨_, rfl, _, rfl, _, rfl, k, _, rfl, dput, _, rfl, _, rfl, k, _, rfl, dg, q H7 Ls2 k7 g7 q2⟩
end
end K1
end
-- UAy
section
set_option Elab.async false
set_option linter.all false
set_option maxRecDepth 100000
set_option maxHeartbeats 1000000
namespace K1
open PySem PySem.Spec PyProof.Rows L2 W0
abbrev sUa : Stmt := top 61
theorem scUa : FnScope ["form", "lot", "found", "road", "mine", "theirs", "others", "one", "other"] ["form", "lot"] (defScope sUa) := ⟨rfl, rfl, rfl, by decide +kernel, rfl, by decide +kernel, by decide +kernel⟩
/-! rows of parts in the heap -/
def PrtP (H : Hp) (t : Addr) (part : List Str) : Prop := ∃ v a, H t = some (.tup [v, .ref a]) ∧ H a = some (.lst (part.map V.str))
def RowP (H : Hp) (p : Addr) (row : List (List Str)) : Prop := ∃ ts : List Addr, H p = some (.lst (ts.map V.ref)) ∧ Paired (PrtP H) ts row
def AllP (H : Hp) (r : Addr) (rows : List (List (List Str))) : Prop := ∃ ps : List Addr, H r = some (.lst (ps.map V.ref)) ∧ Paired (RowP H) ps rows
theorem PrtP.ext {H H' : Hp} {t : Addr} {p : List Str} (h : PrtP H t p) (e : Same H H') : PrtP H' t p := by
  obtain ⟨v, a, h1, h2⟩ := h
  exact ⟨v, a, e _ _ h1, e _ _ h2⟩
theorem RowP.ext {H H' : Hp} {p : Addr} {row : List (List Str)} (h : RowP H p row) (e : Same H H') : RowP H' p row := by
  obtain ⟨ts, h1, h2⟩ := h
  exact ⟨ts, e _ _ h1, paired_imp (fun _ _ q => q.ext e) h2⟩
theorem AllP.ext {H H' : Hp} {r : Addr} {rows : List (List (List Str))} (h : AllP H r rows) (e : Same H H') : AllP H' r rows := by
  obtain ⟨ps, h1, h2⟩ := h
  exact ⟨ps, e _ _ h1, paired_imp (fun _ _ q => q.ext e) h2⟩
theorem paired_app {α β : Type} {F : α → β → Prop} : ∀ {xs : List α} {ys : List β}, Paired F xs ys → ∀ {as : List α} {bs : List β}, Paired F as bs → Paired F (xs ++ as) (ys ++ bs)
  | _, _, .nil, _, _, h => h
  | _, _, .cons f r, _, _, h => .cons f (paired_app r h)
section
variable {α : Type} [DecidableEq α] {rs : List (α × α)} {sd : α × α → α → Bool}
theorem allL_rows (S : Sd rs sd) : ∀ (n : Nat) (L : List α), Con rs L → ∀ row ∈ allL rs sd n L, row.length + 1 ≤ L.length
  | 0, _, _, row, h => absurd h (by simp [allL])
  | n + 1, L, C, row, h => by
    rw [allL] at h
    by_cases h1 : L.length = 1
    · rw [if_pos h1] at h
      rw [List.mem_singleton.mp h, h1]
      exact Nat.le_refl _
    · rw [if_neg h1] at h
      obtain ⟨e, he, h⟩ := List.mem_flatMap.mp h
      obtain ⟨one, ho, h⟩ := List.mem_flatMap.mp h
      obtain ⟨other, hq, rfl⟩ := List.mem_map.mp h
      obtain ⟨he1, he2⟩ := List.mem_filter.mp he
      obtain ⟨c1, c2, ll, l3, l4⟩ := C.cut S he1 he2
      have a := allL_rows S n _ c1 one ho
      have b := allL_rows S n _ c2 other hq
      rw [List.length_append, List.length_append, List.length_singleton]
      omega
theorem flat_take {β γ : Type} (xs : List β) (f : β → List γ) (k : Nat) : ((xs.take k).flatMap f).length ≤ (xs.flatMap f).length := by
  have e : xs = xs.take k ++ xs.drop k := (List.take_append_drop k xs).symm
  have : (xs.flatMap f).length = ((xs.take k ++ xs.drop k).flatMap f).length := by rw [← e]
  rw [this, List.flatMap_append, List.length_append]
  omega
theorem flat_snoc {β γ : Type} {xs : List β} {f : β → List γ} {i : Nat} (hi : i < xs.length) : (xs.take (i + 1)).flatMap f = (xs.take i).flatMap f ++ f xs[i] := by
  rw [List.take_succ, List.getElem?_eq_getElem hi, List.flatMap_append]
  simp
end
noncomputable abbrev chunkL (rs : List (Str × Str)) (n : Nat) (L : List Str) (e : Str × Str) (one : List (List Str)) : List (List (List Str)) := (allL rs (sdT rs) n (farL (sdT rs) L e)).map fun other => [L] ++ one ++ other
noncomputable abbrev roadL (rs : List (Str × Str)) (n : Nat) (L : List Str) (e : Str × Str) : List (List (List Str)) := (allL rs (sdT rs) n (nearL (sdT rs) L e)).flatMap (chunkL rs n L e)
/-- the new part of a heap -/
abbrev oldZ (H : Hp) : Addr → Prop := fun b => H b ≠ none
def spUa : Nat → Sp
  | 0 => fun _ _ _ _ => False
  | n + 1 => fun vs H Q _ => ∃ (t p p1 p2 : Addr) (x3 : V) (qs : List Addr) (ss : List Str) (rs : List (Str × Str)) (L : List Str), vs = [.ref t, .ref p] ∧ Frm H t p1 p2 x3 qs ss rs ∧ SubL ss L ∧ Con rs L ∧ L.length ≤ n + 1 ∧ rs.length ^ ss.length < 2 ^ 20 ∧
    H p = some (.tup (L.map V.str)) ∧ ∀ r H', Same H H' → H r = none → AllP (wo (oldZ H) H') r (allL rs (sdT rs) (n + 1) L) → Q (.ref r) H'
theorem many_lt2 {ss : List Str} {rs : List (Str × Str)} (T : Tree ss rs) (hb : rs.length ^ ss.length < 2 ^ 20) {L : List Str} (hL : SubL ss L) (C : Con rs L) (n : Nat) : manyL rs (sdT rs) n L < 2 ^ 20 := by
  by_cases hr : rs = []
  · subst hr
    refine Nat.lt_of_le_of_lt (manyL_le (sd_ok T) n L C) ?_
    have : L.length = 1 := by
      have h1 : ss.length = 1 := by have := T.len; simpa using this.symm
      have h2 : L.length ≤ ss.length := by rw [hL]; exact List.length_filter_le _ _
      have := C.2.1
      omega
    rw [this]
    decide
  · refine Nat.lt_of_le_of_lt (manyL_le (sd_ok T) n L C) (Nat.lt_of_le_of_lt ?_ hb)
    refine Nat.pow_le_pow_right (List.length_pos_iff.mpr hr) ?_
    have : L.length ≤ ss.length := by rw [hL]; exact List.length_filter_le _ _
    omega
section
variable {P : Program} {w : World} {K : PySem.W.Frag} {mg : Str → Option Value} {base : Heap}
theorem ok_Ua0 {f : Addr} {fd : FuncData} (F : Fun K "_law_u_all" "_law_u_all" sUa f fd) : FnOk P w K mg base CX0 2 f fd ["form", "lot"] (spUa 0) :=
  F.ok scUa (fun vs H Q E h => h.elim) (fun cdv A outer s H vs Q E hr h => h.elim)
theorem ok_Ua1 {n : Nat} {f fR fL : Addr} {fd rd ld : FuncData} (F : Fun K "_law_u_all" "_law_u_all" sUa f fd) (B : Bl mg)
    (bM : Binds K fd ["form", "lot"] []) (mM : mg "_law_u_all" = some (.ref f))
    (GR : FnOk P w K mg base CX0 1 fR rd ["form", "lot"] spUr) (bR : Binds K rd ["form", "lot"] []) (kR : PySem.W.keepIn K (.ref fR) = true) (mR : mg "_law_u_roads" = some (.ref fR))
    (GL : FnOk P w K mg base CX0 2 fL ld ["form", "lot", "road"] spUl) (bL : Binds K ld ["form", "lot", "road"] []) (kL : PySem.W.keepIn K (.ref fL) = true) (mL : mg "_law_u_lots" = some (.ref fL))
    (G : FnOk P w K mg base CX0 (n + 2) f fd ["form", "lot"] (spUa n)) : FnOk P w K mg base CX0 (n + 3) f fd ["form", "lot"] (spUa (n + 1)) := by
  refine F.ok scUa (fun vs H Q E h => ?_) (fun cdv A outer s H vs Q E hr h => ?_)
  · obtain ⟨t, p, p1, p2, x3, qs, ss, rs, L, rfl, _⟩ := h
    rfl
  obtain ⟨t, p, p1, p2, x3, qs, ss, rs, L, rfl, fm, sub, con, lL, hb, hp, q⟩ := h
  have nd := scUa.nd
  have hu := hu_of hr
  have hr1 : Room 1 _ := hr.mono (by omega)
  have hr2 : Room 2 _ := hr.mono (by omega)
  refine ⟨_, (pss_cons (by exact (ps_if (pt_cmpR op_eq (pe_callB call_len_seq rfl B.len PySem.boot_len (pa_cons (pv 1) pa_nil)) pe_int (nomark _)) (pss_one (by exact (ps_ret (pe_lst (pa_cons (pe_lst pa_nil) pa_nil))))) pss_nil))
  (pss_cons (by exact (ps_set (i := 2) nd rfl (.inl rfl) (pe_lst pa_nil)))
  (pss_cons (by exact (ps_for PassesOwn.never rfl (by exact pi_list (pe_call GR hr1 rfl mR kR bR .nil pass0 (pa_cons (pv 0) (pa_cons (pv 1) pa_nil)))) (pg_name (i := 3) nd rfl (.inr rfl)) (pss_cons (by exact (ps_asg (pe_call GL hr2 rfl mL kL bL .nil pass0 (pa_cons (pv 0) (pa_cons (pv 1) (pa_cons (pv 3) pa_nil)))) (pg_tup rfl (pgs_cons (pg_name (i := 4) nd rfl (.inl rfl)) (pgs_cons (pg_name (i := 5) nd rfl (.inl rfl)) pgs_nil)))))
  (pss_cons (by exact (ps_set (i := 6) nd rfl (.inl rfl) (pe_call G hr rfl mM F.kp bM .nil pass0 (pa_cons (pv 0) (pa_cons (pv 5) pa_nil)))))
  (pss_one (by exact (ps_for PassesOwn.never rfl (by exact pi_list (pe_call G hr rfl mM F.kp bM .nil pass0 (pa_cons (pv 0) (pa_cons (pv 4) pa_nil)))) (pg_name (i := 7) nd rfl (.inr rfl)) (pss_one (by exact (ps_expr (pe_bm PySem.F.plainAttrs_list PySem.F.slot_list_extend PySem.F.type_list_extend mt_extend (pv 2) (pa_cons (pe_lc (own := [("other", 8)]) (g := gName 8) (tt := tYes)
    (te := tOp rCat (tOp rCat (tLst (tCons (tTup (tCons (tVar 3) (tCons (tCB (fun xs H Q => ∃ p ys, xs = [.ref p] ∧ (SqL K H p ys ∨ SqT K H p ys) ∧ ∀ l, H l = none → Q (.ref l) (L2.upd H l (.lst ys))) (tCons (tVar 1) tNil)) tNil))) tNil)) (tVar 7)) (tVar 8))
    rfl nd (by exact pi_list (pv 6)) (by exact blkOk_by (N := ["form", "lot", "found", "road", "mine", "theirs", "others", "one", "other"]) (sc := defScope sUa) (by decide +kernel)) (fun _ _ _ _ _ => by exact (pg_name (i := 8) nd rfl (.inl rfl))) (fun _ _ _ _ _ => by exact pts_nil) (fun _ _ _ _ _ => by exact (pe_op op_cat (pe_op op_cat (pe_lst (pa_cons (pe_tup (pa_cons (pv 3) (pa_cons (pe_callTy call_list_of rfl B.list PyProof.Rows.boot_list (pa_cons (pv 1) pa_nil)) pa_nil))) pa_nil)) (pv 7)) (pv 8)))) pa_nil))))))))))))
  (pss_one (by exact (ps_ret (pv 2))))))), ?_⟩
  refine ⟨_, rfl, p, _, rfl, .inr (SqT.of hp), rfl, _, rfl, ?_⟩
  rw [List.length_map]
  by_cases h1 : L.length = 1
  · rw [h1, decide_eq_true (by rfl)]
    refine iteT ?_
    refine ⟨Nat.zero_le _, fun a ha => ?_⟩
    have e1 := K1.Same.upd (H := H) (p := a) (o := .lst []) ha
    have ga := upd_same' H a (.lst [])
    generalize L2.upd H a (.lst []) = H1 at e1 ga ⊢
    refine ⟨(by show 1 ≤ sizeLine; decide), fun b hb' => ?_⟩
    have e2 := K1.Same.upd (H := H1) (p := b) (o := .lst [.ref a]) hb'
    have gb := upd_same' H1 b (.lst [.ref a])
    refine q b _ (e1.trans e2) (e1.free hb') ?_
    rw [allL, if_pos h1]
    exact ⟨[a], wo_some.mpr ⟨fun z => z (e1.free hb'), gb⟩, .cons ⟨[], wo_some.mpr ⟨fun z => z ha, e2 _ _ ga⟩, .nil⟩ .nil⟩
  rw [decide_eq_false (fun z => h1 (by have := V.int.inj z; omega))]
  refine iteF ?_
  refine nQ ?_
  with_reducible refine sQ ?_
  refine ⟨Nat.zero_le _, fun Fd hF => ?_⟩
  have e1 := K1.Same.upd (H := H) (p := Fd) (o := .lst []) hF
  have gF := upd_same' H Fd (.lst [])
  generalize L2.upd H Fd (.lst []) = H1 at e1 gF ⊢
  refine K1.gN ?_
  with_reducible refine sQ ?_
  have fm1 := fm.same e1
  have pF : p ≠ Fd := ne_of_none hp hF
  refine ⟨_, rfl, _, rfl, t, p, p1, p2, x3, qs, ss, rs, L, rfl, fm1, sub, con.1, e1 _ _ hp, fun R us H2 e2 nR gR pU => ?_⟩
  refine ⟨R, rfl, ⟨_, SqL.of gR⟩, ?_⟩
  have e02 := e1.trans e2
  have RF : R ≠ Fd := fun z => by rw [z, gF] at nR; cases nR
  have lus : us.length = (rs.filter (inL L)).length := pU.length
  have keepF : ∀ {Hc : Hp} {a : Addr} {o : HO}, Kept Fd H Hc → H a = some o → Hc a = some o := fun k h => k _ _ (ne_of_none h hF) h
  have frK : ∀ {Hc : Hp}, Kept Fd H Hc → Frm Hc t p1 p2 x3 qs ss rs := fun k => ⟨keepF k fm.t0, keepF k fm.h1, keepF k fm.h2, paired_imp (fun x y q => keepF k q) fm.pr, fm.tr, fm.ls, fm.ok⟩
  have tot : ((rs.filter (inL L)).flatMap (roadL rs n L)).length < 2 ^ 20 := by
    have a := allL_len (rs := rs) (sd := sdT rs) (n + 1) L
    have b := many_lt2 fm.tr hb sub con (n + 1)
    rw [allL, if_neg h1] at a
    rw [← a] at b
    exact b
  refine for_it walk_list (fun i σ Hc => (∃ a b c d e g, σ = [some (.ref t), some (.ref p), some (.ref Fd), a, b, c, d, e, g]) ∧ Kept Fd H2 Hc ∧ ∃ ps : List Addr, Hc Fd = some (.lst (ps.map V.ref)) ∧ Paired (RowP (wo (fun b => H b ≠ none ∨ b = Fd) Hc)) ps (((rs.filter (inL L)).take i).flatMap (roadL rs n L)))
    ⟨⟨_, _, _, _, _, _, rfl⟩, Kept.refl, [], e2 _ _ gF, .nil⟩ (fun i σ Hc _ h => SqL.of (h.2.1 _ _ RF gR)) ?_ ?_
  · rintro i v σ Hc H' hi ⟨⟨xa, xb, xc, xd, xe, xg, rfl⟩, c1, ps, c3, c4⟩ ⟨rfl, hv⟩
    rw [List.length_map, lus] at hi
    obtain ⟨tq, rfl, htq⟩ := paired_ref pU hi hv
    have hem := List.getElem_mem hi
    obtain ⟨he, hin⟩ := List.mem_filter.mp hem
    have tqF : tq ≠ Fd := fun z => by rw [z, e2 _ _ gF] at htq; cases htq
    have htq' := c1 _ _ tqF htq
    have kH : Kept Fd H H' := (Kept.same e02).trans c1
    have fmc := frK kH
    have hp' := keepF kH hp
    obtain ⟨cn, cf, ll, l3, l4⟩ := con.cut (sd_ok fm.tr) he hin
    have stp := flat_snoc (f := roadL rs n L) hi
    have lim : ((((rs.filter (inL L)).take i).flatMap (roadL rs n L)).length + (roadL rs n L (rs.filter (inL L))[i]).length) < 2 ^ 20 := by
      have := flat_take (rs.filter (inL L)) (roadL rs n L) (i + 1)
      rw [stp, List.length_append] at this
      omega
    generalize hge : (rs.filter (inL L))[i] = e at he hin htq' cn cf ll l3 l4 stp lim
    refine ⟨_, rfl, _, rfl, _, rfl, t, p, tq, p1, p2, x3, qs, ss, rs, L, e, rfl, fmc, sub, con, he, hin, hp', htq', fun u m n' H3 e3 nu gu gm gn => ?_⟩
    refine ⟨u, _, rfl, SqT.of gu, rfl, _, _, rfl, _, _, rfl, rfl, ?_⟩
    rcases n with _ | n
    · exact absurd cn.2.1 (by omega)
    refine ⟨_, rfl, _, rfl, t, n', p1, p2, x3, qs, ss, rs, farL (sdT rs) L e, rfl, fmc.same e3, sub.fil _, cf, by omega, hb, gn, fun r1 H4 e4 nr1 ⟨ps1, wg1, pr1⟩ => ?_⟩
    refine K1.gN ?_
    have e34 := e3.trans e4
    refine ⟨_, rfl, _, rfl, t, m, p1, p2, x3, qs, ss, rs, nearL (sdT rs) L e, rfl, fmc.same e34, sub.fil _, cn, by omega, hb, e4 _ _ gm, fun r2 H5 e5 nr2 ⟨ps2, wg2, pr2⟩ => ?_⟩
    have g1 := (wo_some.mp wg1).2
    have g2 := (wo_some.mp wg2).2
    refine ⟨r2, rfl, ⟨_, SqL.of g2⟩, ?_⟩
    have gF5 := e5 _ _ (e34 _ _ c3)
    have gF4 := e34 _ _ c3
    have r2F : r2 ≠ Fd := fun z => by rw [z, gF4] at nr2; cases nr2
    have r1F : r1 ≠ Fd := fun z => by rw [z, e3 _ _ c3] at nr1; cases nr1
    have H0 : ∀ b, H b ≠ none → H' b ≠ none := fun b hb' => by
      cases hx : H b with
      | none => exact absurd hx hb'
      | some o => rw [kH _ _ (ne_of_none hx hF) hx]; exact fun z => by cases z
    have up : ∀ {Ha Hb : Hp} {b : Addr}, Same Ha Hb → Ha b ≠ none → Hb b ≠ none := fun {Ha Hb b} s h z => by
      cases hx : Ha b with
      | none => exact h hx
      | some o => rw [s _ _ hx] at z; cases z
    have k1 : Same (wo (oldZ H3) H4) (wo (fun b => H b ≠ none ∨ b = Fd) H5) := fun b o hbo => by
      obtain ⟨z1, z2⟩ := wo_some.mp hbo
      refine wo_some.mpr ⟨fun z => z1 ?_, e5 _ _ z2⟩
      rcases z with z | rfl
      · exact up e3 (H0 b z)
      · exact fun y => by rw [e3 _ _ c3] at y; cases y
    have k2 : Same (wo (oldZ H4) H5) (wo (fun b => H b ≠ none ∨ b = Fd) H5) := wo_le fun b z => by
      rcases z with z | rfl
      · exact up e34 (H0 b z)
      · exact fun y => by rw [gF4] at y; cases y
    have pr1 := paired_imp (fun _ _ q => RowP.ext q k1) pr1
    have pr2 := paired_imp (fun _ _ q => RowP.ext q k2) pr2
    have l1 : ps1.length = (allL rs (sdT rs) (n + 1) (farL (sdT rs) L e)).length := pr1.length
    have l2 : ps2.length = (allL rs (sdT rs) (n + 1) (nearL (sdT rs) L e)).length := pr2.length
    have ps5 : Paired (RowP (wo (fun b => H b ≠ none ∨ b = Fd) H5)) ps (((rs.filter (inL L)).take i).flatMap (roadL rs (n + 1) L)) := paired_imp (fun _ _ q => q.ext (wo_same fun b o _ h => e5 _ _ (e34 _ _ h))) c4
    have kH5 : Kept Fd H H5 := kH.trans (Kept.same (e34.trans e5))
    have rl1 : ∀ row ∈ allL rs (sdT rs) (n + 1) (farL (sdT rs) L e), row.length ≤ 60 := fun row hr => by
      have := allL_rows (sd_ok fm.tr) (n + 1) _ cf row hr
      have := nodup_len con.1 fun z hz => sub.mem hz
      have := fm.ls
      omega
    have rl2 : ∀ row ∈ allL rs (sdT rs) (n + 1) (nearL (sdT rs) L e), row.length ≤ 60 := fun row hr => by
      have := allL_rows (sd_ok fm.tr) (n + 1) _ cn row hr
      have := nodup_len con.1 fun z hz => sub.mem hz
      have := fm.ls
      omega
    generalize hfar : allL rs (sdT rs) (n + 1) (farL (sdT rs) L e) = fars at pr1 l1 rl1
    have hroad : roadL rs (n + 1) L e = (allL rs (sdT rs) (n + 1) (nearL (sdT rs) L e)).flatMap fun one => fars.map fun other => [L] ++ one ++ other := by
      unfold roadL chunkL
      rw [hfar]
    generalize hnear : allL rs (sdT rs) (n + 1) (nearL (sdT rs) L e) = nears at pr2 l2 rl2 hroad
    generalize ((rs.filter (inL L)).take i).flatMap (roadL rs (n + 1) L) = done at ps5 lim stp
    refine for_it walk_list (fun j σ Hd => (∃ a b, σ = [some (.ref t), some (.ref p), some (.ref Fd), some (.ref tq), some (.ref m), some (.ref n'), some (.ref r1), a, b]) ∧ Kept Fd H5 Hd ∧ ∃ ps : List Addr, Hd Fd = some (.lst (ps.map V.ref)) ∧ Paired (RowP (wo (fun b => H b ≠ none ∨ b = Fd) Hd)) ps (done ++ (nears.take j).flatMap fun one => fars.map fun other => [L] ++ one ++ other))
      ⟨⟨_, _, rfl⟩, Kept.refl, ps, gF5, by rw [List.take_zero, List.flatMap_nil, List.append_nil]; exact ps5⟩ (fun j σ Hd _ h => SqL.of (h.2.1 _ _ r2F g2)) ?_ ?_
    · rintro j v σ Hd H'' hj ⟨⟨ya, yb, rfl⟩, d1, psj, d3, d4⟩ ⟨rfl, hv2⟩
      rw [List.length_map, l2] at hj
      have hv2 : (ps2.map V.ref)[j]? = some v := hv2
      obtain ⟨a1, ea1, ra1⟩ := paired_get pr2 hj
      rw [List.getElem?_map, ea1] at hv2
      obtain rfl := (Option.some.inj hv2).symm
      have d5 : Same (wo (fun b => H b ≠ none ∨ b = Fd) H5) (wo (fun b => H b ≠ none ∨ b = Fd) H'') := wo_same fun b o z h => d1 b o (fun y => z (.inr y)) h
      have g1d := d1 _ _ r1F (e5 _ _ g1)
      have hpd := keepF (kH5.trans d1) hp
      have fl := flat_snoc (f := fun one => fars.map fun other => [L] ++ one ++ other) hj
      have lone := rl2 _ (List.getElem_mem hj)
      have ra1 := ra1.ext d5
      generalize nears[j] = one at ra1 fl lone
      obtain ⟨t1, ga1, pa1⟩ := ra1
      have lt1 : t1.length = one.length := pa1.length
      refine ⟨_, rfl, .inl ⟨rfl, _, SqL.of d3⟩, ?_⟩
      refine cons_run ?_
      refine ⟨_, rfl, r1, rfl, ⟨_, SqL.of g1d⟩, fun D hD => ?_⟩
      have DF : Fd ≠ D := ne_of_none d3 hD
      refine lc_it (Qd := _) walk_list (fun k Hx => Same H'' Hx ∧ ∃ qs' : List Addr, Hx D = some (.lst (qs'.map V.ref)) ∧ Paired (RowP (wo (fun b => (H b ≠ none ∨ b = Fd) ∨ b = D) Hx)) qs' ((fars.take k).map fun other => [L] ++ one ++ other))
        ⟨K1.Same.upd hD, [], upd_same, .nil⟩ (fun k Hx _ h => SqL.of (h.1 _ _ g1d)) ?_ ?_
      · rintro k v Hx H3' hk ⟨x1, qs', x2, x3'⟩ ⟨rfl, hv3⟩
        rw [List.length_map, l1] at hk
        have hv3 : (ps1.map V.ref)[k]? = some v := hv3
        obtain ⟨a2, ea2, ra2⟩ := paired_get pr1 hk
        rw [List.getElem?_map, ea2] at hv3
        obtain rfl := (Option.some.inj hv3).symm
        have ra2 := ra2.ext d5
        have lother := rl1 _ (List.getElem_mem hk)
        have tks : (fars.take (k + 1)).map (fun other => [L] ++ one ++ other) = (fars.take k).map (fun other => [L] ++ one ++ other) ++ [[L] ++ one ++ fars[k]] := by
          rw [take_snoc hk, List.map_append]
          rfl
        generalize fars[k] = other at ra2 lother tks
        obtain ⟨t2, ga2, pa2⟩ := ra2
        have lt2 : t2.length = other.length := pa2.length
        refine ⟨rfl, ?_⟩
        unfold tYes
        refine iteT ?_
        refine ⟨_, rfl, _, rfl, p, _, rfl, .inr (SqT.of (x1 _ _ hpd)), fun l hl => ?_⟩
        have s1 := K1.Same.upd (H := H3') (p := l) (o := .lst (L.map V.str)) hl
        have gl := upd_same' H3' l (.lst (L.map V.str))
        generalize L2.upd H3' l (.lst (L.map V.str)) = G1 at s1 gl ⊢
        refine ⟨(by show 2 ≤ sizeLine; decide), fun T hT => ?_⟩
        have s2 := K1.Same.upd (H := G1) (p := T) (o := .tup [.ref tq, .ref l]) hT
        have gT := upd_same' G1 T (.tup [.ref tq, .ref l])
        generalize L2.upd G1 T (.tup [.ref tq, .ref l]) = G2 at s2 gT ⊢
        refine ⟨(by show 1 ≤ sizeLine; decide), fun A hA => ?_⟩
        have s3 := K1.Same.upd (H := G2) (p := A) (o := .lst [.ref T]) hA
        have gA := upd_same' G2 A (.lst [.ref T])
        generalize L2.upd G2 A (.lst [.ref T]) = G3 at s3 gA ⊢
        have s13 : Same H3' G3 := s1.trans (s2.trans s3)
        have ga1x := (s13) _ _ (x1 _ _ (wo_some.mp ga1).2)
        have ga2x := (s13) _ _ (x1 _ _ (wo_some.mp ga2).2)
        refine ⟨_, rfl, A, a1, _, _, rfl, rfl, gA, ga1x, ?_, fun M hM => ?_⟩
        · rw [List.length_map, lt1]
          show 1 + one.length ≤ 2 ^ 24
          omega
        have s4 := K1.Same.upd (H := G3) (p := M) (o := .lst ([.ref T] ++ t1.map V.ref)) hM
        have gM := upd_same' G3 M (.lst ([.ref T] ++ t1.map V.ref))
        generalize L2.upd G3 M (.lst ([.ref T] ++ t1.map V.ref)) = G4 at s4 gM ⊢
        refine ⟨_, rfl, M, a2, _, _, rfl, rfl, gM, s4 _ _ ga2x, ?_, fun N hN => ?_⟩
        · rw [List.length_append, List.length_map, List.length_map, lt1, lt2]
          show 1 + one.length + other.length ≤ 2 ^ 24
          omega
        have s5 := K1.Same.upd (H := G4) (p := N) (o := .lst (([.ref T] ++ t1.map V.ref) ++ t2.map V.ref)) hN
        have gN' := upd_same' G4 N (.lst (([.ref T] ++ t1.map V.ref) ++ t2.map V.ref))
        generalize L2.upd G4 N (.lst (([.ref T] ++ t1.map V.ref) ++ t2.map V.ref)) = G5 at s5 gN' ⊢
        have s15 : Same H3' G5 := s13.trans (s4.trans s5)
        have xD := s15 _ _ x2
        have lq := x3'.length
        have lk : qs'.length ≤ 2 ^ 20 := by
          rw [lq, List.length_map, List.length_take]
          have a := allL_len (rs := rs) (sd := sdT rs) (n + 1) (farL (sdT rs) L e)
          have b := many_lt2 fm.tr hb (sub.fil _) cf (n + 1)
          rw [← a, hfar] at b
          omega
        have new : ∀ {b : Addr} {o : HO}, H3' b = none → G5 b = some o → L2.upd G5 D (.lst (qs'.map V.ref ++ [.ref N])) b = some o ∧ ¬ ((H b ≠ none ∨ b = Fd) ∨ b = D) := fun {b o} n0 n1 => by
          have bD : b ≠ D := fun z => by rw [z, x2] at n0; cases n0
          refine ⟨by rw [upd_ne bD]; exact n1, ?_⟩
          rintro ((z | z) | z)
          · exact up x1 (up (Same.refl _) (by
              cases hx : H b with
              | none => exact absurd hx z
              | some o => rw [(kH5.trans d1) _ _ (ne_of_none hx hF) hx]; exact fun y => by cases y)) n0
          · rw [z, x1 _ _ d3] at n0
            cases n0
          · exact bD z
        have keepW : Same (wo (fun b => (H b ≠ none ∨ b = Fd) ∨ b = D) H3') (wo (fun b => (H b ≠ none ∨ b = Fd) ∨ b = D) (L2.upd G5 D (.lst (qs'.map V.ref ++ [.ref N])))) := wo_same fun b o z h => by
          rw [upd_ne fun y => z (.inr y)]
          exact s15 _ _ h
        have keepV : Same (wo (fun b => H b ≠ none ∨ b = Fd) H'') (wo (fun b => (H b ≠ none ∨ b = Fd) ∨ b = D) (L2.upd G5 D (.lst (qs'.map V.ref ++ [.ref N])))) := fun b o h => by
          obtain ⟨z1, z2⟩ := wo_some.mp h
          have bD : b ≠ D := ne_of_none z2 hD
          refine wo_some.mpr ⟨fun z => z.elim z1 bD, ?_⟩
          rw [upd_ne bD]
          exact s15 _ _ (x1 _ _ z2)
        refine ⟨_, xD, by rw [List.length_map]; show _ < 2 ^ 24; omega, fun b o h => ?_, qs' ++ [N], by rw [upd_same, List.map_append]; rfl, ?_⟩
        · rw [upd_ne (ne_of_none h hD)]
          exact s15 _ _ (x1 _ _ h)
        · rw [tks]
          refine paired_snoc (paired_imp (fun _ _ q => q.ext keepW) x3') ⟨[T] ++ t1 ++ t2, ?_, ?_⟩
          · have n0 : H3' N = none := (s13.trans s4).free hN
            have := new n0 gN'
            refine wo_some.mpr ⟨this.2, ?_⟩
            rw [this.1, List.map_append, List.map_append]
            rfl
          · refine paired_app (paired_app (.cons ⟨.ref tq, l, ?_, ?_⟩ .nil) (paired_imp (fun _ _ q => q.ext keepV) pa1)) (paired_imp (fun _ _ q => q.ext keepV) pa2)
            · have n0 : H3' T = none := s1.free hT
              have := new n0 (s5 _ _ (s4 _ _ (s3 _ _ gT)))
              exact wo_some.mpr ⟨this.2, this.1⟩
            · have := new hl (s5 _ _ (s4 _ _ (s3 _ _ (s2 _ _ gl))))
              exact wo_some.mpr ⟨this.2, this.1⟩
      · rintro Hx ⟨x1, qs', x2, x3'⟩
        rw [show (ps1.map V.ref).length = fars.length by rw [List.length_map, l1], List.take_length] at x3'
        have gFx := x1 _ _ d3
        have lq := x3'.length
        have lps := d4.length
        refine ⟨Fd, D, _, _, rfl, rfl, gFx, x2, ?_, ?_⟩
        · rw [List.length_map, List.length_map, lq, lps, List.length_append, List.length_map]
          have lim2 := lim
          rw [hroad] at lim2
          have := flat_take nears (fun one => fars.map fun other => [L] ++ one ++ other) (j + 1)
          rw [fl, List.length_append, List.length_map] at this
          show _ ≤ 2 ^ 24
          omega
        · have kW : Same (wo (fun b => (H b ≠ none ∨ b = Fd) ∨ b = D) Hx) (wo (fun b => H b ≠ none ∨ b = Fd) (L2.upd Hx Fd (.lst (psj.map V.ref ++ qs'.map V.ref)))) := fun b o h => by
            obtain ⟨z1, z2⟩ := wo_some.mp h
            refine wo_some.mpr ⟨fun z => z1 (.inl z), ?_⟩
            rw [upd_ne fun y => z1 (.inl (.inr y))]
            exact z2
          have kV : Same (wo (fun b => H b ≠ none ∨ b = Fd) H'') (wo (fun b => H b ≠ none ∨ b = Fd) (L2.upd Hx Fd (.lst (psj.map V.ref ++ qs'.map V.ref)))) := wo_same fun b o z h => by
            rw [upd_ne fun y => z (.inr y)]
            exact x1 _ _ h
          refine ⟨⟨_, _, rfl⟩, d1.trans ((Kept.same x1).trans Kept.upd), psj ++ qs', by rw [upd_same, List.map_append], ?_⟩
          rw [fl, ← List.append_assoc]
          exact paired_app (paired_imp (fun _ _ q => q.ext kV) d4) (paired_imp (fun _ _ q => q.ext kW) x3')
    · rintro σ Hd ⟨⟨ya, yb, rfl⟩, d1, psj, d3, d4⟩
      rw [show (ps2.map V.ref).length = nears.length by rw [List.length_map, l2], List.take_length, ← hroad, ← stp] at d4
      exact ⟨⟨_, _, _, _, _, _, rfl⟩, c1.trans ((Kept.same (e34.trans e5)).trans d1), psj, d3, d4⟩
  · rintro σ Hc ⟨⟨xa, xb, xc, xd, xe, xg, rfl⟩, c1, ps, c3, c4⟩
    rw [List.length_map, lus, List.take_length] at c4
    have kH : Kept Fd H Hc := (Kept.same e02).trans c1
    refine ⟨_, rfl, ?_⟩
    refine q Fd Hc (fun b o h => kH b o (ne_of_none h hF) h) hF ?_
    rw [allL, if_neg h1]
    refine ⟨ps, wo_some.mpr ⟨fun z => z hF, c3⟩, paired_imp (fun _ _ q => q.ext (wo_le fun b z => .inl z)) c4⟩
end
end K1
end
-- UBl0
section
set_option Elab.async false
set_option linter.all false
set_option maxRecDepth 100000
set_option maxHeartbeats 1000000
namespace K1
open PySem PySem.Spec PyProof.Rows L2 W0
section
variable {α : Type} [DecidableEq α] {rs : List (α × α)} {sd : α × α → α → Bool}
theorem byL_mono (S : Sd rs sd) {h : α} {N : Nat} : ∀ (n m : Nat) (L : List α), Con rs L → L.length ≤ n → n ≤ m → h ∈ L → byL rs sd h N m L = byL rs sd h N n L
  | 0, _, L, C, l, _, _ => absurd C.2.1 (by omega)
  | n + 1, 0, _, _, _, l, _ => absurd l (by omega)
  | n + 1, m + 1, L, C, l, lm, hh => by
    rw [byL, byL]
    by_cases h1 : L.length = 1
    · rw [if_pos h1, if_pos h1]
    · rw [if_neg h1, if_neg h1]
      refine foldl_congr_mem fun e he c => ?_
      obtain ⟨he1, he2⟩ := List.mem_filter.mp he
      obtain ⟨m1, m2, cm, co, l3, l4⟩ := C.mine S he1 he2 hh
      rw [byL_mono S n m _ cm (by omega) (by omega) m1]
/-- what the roads so far bring -/
def byTo (rs : List (α × α)) (sd : α × α → α → Bool) (h : α) (N : Nat) (L : List α) (es : List (α × α)) : List (Nat × Nat) := es.foldl (fun c e => bring (byL rs sd h N N (mineL sd h L e)) (manyL rs sd N (othL sd h L e)) c (byL rs sd h N N (mineL sd h L e))) []
theorem byL_step (S : Sd rs sd) {h : α} {N : Nat} {L : List α} (C : Con rs L) (l : L.length ≤ N) (h1 : L.length ≠ 1) (hh : h ∈ L) : byL rs sd h N N L = byTo rs sd h N L (rs.filter (inL L)) := by
  have p := C.2.1
  obtain ⟨M, rfl⟩ : ∃ M, N = M + 1 := ⟨N - 1, by omega⟩
  unfold byTo
  rw [byL, if_neg h1]
  refine foldl_congr_mem fun e he c => ?_
  obtain ⟨he1, he2⟩ := List.mem_filter.mp he
  obtain ⟨m1, m2, cm, co, l3, l4⟩ := C.mine S he1 he2 hh
  rw [byL_mono S M (M + 1) _ cm (by omega) (by omega) m1]
theorem byTo_snoc {h : α} {N : Nat} {L : List α} {es : List (α × α)} {e : α × α} : byTo rs sd h N L (es ++ [e]) = bring (byL rs sd h N N (mineL sd h L e)) (manyL rs sd N (othL sd h L e)) (byTo rs sd h N L es) (byL rs sd h N N (mineL sd h L e)) := by
  unfold byTo
  rw [List.foldl_append]
  rfl
theorem byL_one {h : α} {N : Nat} {L : List α} (l : 1 ≤ N) (h1 : L.length = 1) : byL rs sd h N N L = [(0, 1)] := by
  obtain ⟨M, rfl⟩ : ∃ M, N = M + 1 := ⟨N - 1, by omega⟩
  rw [byL, if_pos h1]
theorem byL_keys {h : α} {N : Nat} : ∀ (n : Nat) (L : List α), KeysB n (byL rs sd h N n L)
  | 0, L => ⟨List.nodup_nil, fun k h => absurd h (by simp [byL])⟩
  | n + 1, L => by
    rw [byL]
    by_cases h1 : L.length = 1
    · rw [if_pos h1]
      exact ⟨by simp, fun k h => by
        have : k = 0 := by simpa using h
        omega⟩
    · rw [if_neg h1]
      have : ∀ (us : List (α × α)) (c : List (Nat × Nat)), KeysB (n + 1) c → KeysB (n + 1) (us.foldl (fun c e => bring (byL rs sd h N n (mineL sd h L e)) (manyL rs sd N (othL sd h L e)) c (byL rs sd h N n (mineL sd h L e))) c) := by
        intro us
        induction us with
        | nil => intro c h; exact h
        | cons u us ih =>
          intro c hc
          refine ih _ (hc.bring fun e he => ?_)
          have := (byL_keys n (mineL sd h L u)).2 e.1 (List.mem_map.mpr ⟨e, he, rfl⟩)
          omega
      exact this _ _ ⟨List.nodup_nil, fun k h => absurd h (by simp)⟩
theorem byTo_keys {h : α} {N : Nat} {L : List α} : ∀ (es : List (α × α)) , KeysB (N + 1) (byTo rs sd h N L es) := by
  intro es
  unfold byTo
  have : ∀ (us : List (α × α)) (c : List (Nat × Nat)), KeysB (N + 1) c → KeysB (N + 1) (us.foldl (fun c e => bring (byL rs sd h N N (mineL sd h L e)) (manyL rs sd N (othL sd h L e)) c (byL rs sd h N N (mineL sd h L e))) c) := by
    intro us
    induction us with
    | nil => intro c h; exact h
    | cons u us ih =>
      intro c hc
      refine ih _ (hc.bring fun e he => ?_)
      have := (byL_keys (rs := rs) (sd := sd) (h := h) (N := N) N (mineL sd h L u)).2 e.1 (List.mem_map.mpr ⟨e, he, rfl⟩)
      omega
  exact this _ _ ⟨List.nodup_nil, fun k h => absurd h (by simp)⟩
end
/-! what is told already: a dict from lots to dicts -/
def fT (fs : List (List Str × Addr)) : List (List Key × V) := fs.map fun e => (keyS e.1, .ref e.2)
def putTA (fs : List (List Str × Addr)) (k : List Str) (a : Addr) : List (List Str × Addr) := if k ∈ fs.map (·.1) then fs.map (fun e => if e.1 = k then (k, a) else e) else fs ++ [(k, a)]
theorem fT_keys {c : List (List Str × Addr)} {k : List Str} : (keyS k ∈ (fT c).map (·.1)) ↔ k ∈ c.map (·.1) := by
  unfold fT
  rw [List.map_map, List.mem_map, List.mem_map]
  constructor
  · rintro ⟨a, h, e⟩
    exact ⟨a, h, keyS_inj e⟩
  · rintro ⟨a, h, e⟩
    exact ⟨a, h, congrArg keyS e⟩
theorem putT_is {kvs : List (List Key × V)} {k : List Key} {v : V} (h : k ∈ kvs.map (·.1)) : putK kvs k v = kvs.map fun kv => if kv.1 = k then (kv.1, v) else kv := by
  unfold putK
  rw [if_pos]
  rw [List.any_eq_true]
  obtain ⟨a, m, e⟩ := List.mem_map.mp h
  exact ⟨a, m, decide_eq_true e⟩
theorem fT_put {c : List (List Str × Addr)} {k : List Str} {a : Addr} : putK (fT c) (keyS k) (.ref a) = fT (putTA c k a) := by
  unfold putTA
  by_cases h : k ∈ c.map (·.1)
  · rw [putT_is (fT_keys.mpr h), if_pos h]
    unfold fT
    rw [List.map_map, List.map_map]
    refine List.map_congr_left fun e _ => ?_
    show (if keyS e.1 = keyS k then (keyS e.1, V.ref a) else (keyS e.1, V.ref e.2)) = (keyS (if e.1 = k then (k, a) else e).1, V.ref (if e.1 = k then (k, a) else e).2)
    by_cases z : e.1 = k
    · rw [if_pos (congrArg keyS z), if_pos z, z]
    · rw [if_neg fun y => z (keyS_inj y), if_neg z]
  · rw [putT_new fun z => h (fT_keys.mp z), if_neg h]
    unfold fT
    rw [List.map_append]
    rfl
theorem fT_in : ∀ {c : List (List Str × Addr)} {k : List Str}, k ∈ c.map (·.1) → ∃ a, (k, a) ∈ c ∧ valV (fT c) (keyS k) = some (.ref a)
  | [], k, h => absurd h (by simp)
  | e :: c, k, h => by
    by_cases z : e.1 = k
    · refine ⟨e.2, ?_, valV_pos (congrArg keyS z)⟩
      rw [← z]
      exact List.mem_cons_self ..
    · have h2 : k ∈ c.map (·.1) := by
        rcases List.mem_cons.mp h with h | h
        · exact absurd h.symm z
        · exact h
      obtain ⟨a, m, v⟩ := fT_in h2
      exact ⟨a, List.mem_cons_of_mem _ m, by
        show valV ((keyS e.1, .ref e.2) :: fT c) _ = _
        rw [valV_neg fun y => z (keyS_inj y)]
        exact v⟩
theorem fT_out : ∀ {c : List (List Str × Addr)} {k : List Str}, ¬ k ∈ c.map (·.1) → valV (fT c) (keyS k) = none
  | [], k, _ => rfl
  | e :: c, k, h => by
    show valV ((keyS e.1, .ref e.2) :: fT c) _ = _
    rw [valV_neg fun y => h (List.mem_cons.mpr (.inl (keyS_inj y).symm))]
    exact fT_out fun z => h (List.mem_cons_of_mem _ z)
theorem putTA_mem {c : List (List Str × Addr)} {k : List Str} {a : Addr} {e : List Str × Addr} (h : e ∈ putTA c k a) : e = (k, a) ∨ e ∈ c ∧ e.1 ≠ k := by
  unfold putTA at h
  by_cases z : k ∈ c.map (·.1)
  · rw [if_pos z] at h
    obtain ⟨d, m, e'⟩ := List.mem_map.mp h
    by_cases y : d.1 = k
    · rw [if_pos y] at e'
      exact .inl e'.symm
    · rw [if_neg y] at e'
      rw [← e']
      exact .inr ⟨m, y⟩
  · rw [if_neg z] at h
    rcases List.mem_append.mp h with m | m
    · exact .inr ⟨m, fun y => z (List.mem_map.mpr ⟨e, m, y⟩)⟩
    · exact .inl (List.mem_singleton.mp m)
theorem putTA_has {c : List (List Str × Addr)} {k : List Str} {a : Addr} : (k, a) ∈ putTA c k a := by
  unfold putTA
  by_cases z : k ∈ c.map (·.1)
  · rw [if_pos z]
    obtain ⟨d, m, e⟩ := List.mem_map.mp z
    exact List.mem_map.mpr ⟨d, m, if_pos e⟩
  · rw [if_neg z]
    simp
theorem putTA_keys {ss : List Str} {c : List (List Str × Addr)} {k : List Str} {a : Addr} (h : MemoT ss (c.map (·.1))) (hk : SubL ss k) : MemoT ss ((putTA c k a).map (·.1)) := by
  unfold putTA
  by_cases z : k ∈ c.map (·.1)
  · rw [if_pos z]
    have : (c.map fun e => if e.1 = k then (k, a) else e).map (·.1) = c.map (·.1) := by
      rw [List.map_map]
      refine List.map_congr_left fun e _ => ?_
      show (if e.1 = k then (k, a) else e).1 = e.1
      by_cases y : e.1 = k
      · rw [if_pos y, y]
      · rw [if_neg y]
    rw [this]
    exact h
  · rw [if_neg z, List.map_append]
    refine ⟨List.nodup_append.mpr ⟨h.1, by simp, fun x hx b hb e => z ?_⟩, fun M hM => ?_⟩
    · have hb : b = k := by simpa using hb
      rw [← hb, ← e]
      exact hx
    · rcases List.mem_append.mp hM with hM | hM
      · exact h.2 M hM
      · have : M = k := by simpa using hM
        rw [this]
        exact hk
/-- what is told holds -/
structure FMt (H : Hp) (m k : Addr) (N : Nat) (ss : List Str) (rs : List (Str × Str)) (h : Str) (fs : List (List Str × Addr)) : Prop where
  ks : MemoT ss (fs.map (·.1))
  at_ : H m = some (.dT (fT fs))
  ok : ∀ e ∈ fs, e.2 ≠ m ∧ e.2 ≠ k ∧ H e.2 = some (.dK (dQ (byL rs (sdT rs) h N N e.1)))
theorem FMt.kept {H H' : Hp} {m k : Addr} {N : Nat} {ss : List Str} {rs : List (Str × Str)} {h : Str} {fs : List (List Str × Addr)} (f : FMt H m k N ss rs h fs) (mk : m ≠ k) (e : Kept k H H') : FMt H' m k N ss rs h fs :=
  ⟨f.ks, e _ _ mk f.at_, fun x hx => ⟨(f.ok x hx).1, (f.ok x hx).2.1, e _ _ (f.ok x hx).2.1 (f.ok x hx).2.2⟩⟩
theorem FMt.same {H H' : Hp} {m k : Addr} {N : Nat} {ss : List Str} {rs : List (Str × Str)} {h : Str} {fs : List (List Str × Addr)} (f : FMt H m k N ss rs h fs) (e : Same H H') : FMt H' m k N ss rs h fs :=
  ⟨f.ks, e _ _ f.at_, fun x hx => ⟨(f.ok x hx).1, (f.ok x hx).2.1, e _ _ (f.ok x hx).2.2⟩⟩
theorem fT_len {ss : List Str} {fs : List (List Str × Addr)} (nd : ss.Nodup) (h : MemoT ss (fs.map (·.1))) : (fT fs).length ≤ 2 ^ ss.length := by
  have := h.len nd
  rw [List.length_map] at this
  unfold fT
  rw [List.length_map]
  exact this
end K1
end
-- UBl
section
set_option Elab.async false
set_option linter.all false
set_option maxRecDepth 100000
set_option maxHeartbeats 1000000
namespace K1
open PySem PySem.Spec PyProof.Rows L2 W0
abbrev sBl : Stmt := top 63
theorem scBl : FnScope ["form", "lot", "house", "known", "told", "found", "road", "mine", "theirs", "near", "far", "some", "often"] ["form", "lot", "house", "known", "told"] (defScope sBl) := ⟨rfl, rfl, rfl, by decide +kernel, rfl, by decide +kernel, by decide +kernel⟩
def spBl (N : Nat) : Nat → Sp
  | 0 => fun _ _ _ _ => False
  | n + 1 => fun vs H Q _ => ∃ (t p k m p1 p2 : Addr) (x3 : V) (qs : List Addr) (ss : List Str) (rs : List (Str × Str)) (L : List Str) (h : Str) (Ls : List (List Str)) (fs : List (List Str × Addr)), vs = [.ref t, .ref p, .str h, .ref k, .ref m] ∧ m ≠ k ∧ Frm H t p1 p2 x3 qs ss rs ∧ SubL ss L ∧ Con rs L ∧ h ∈ L ∧ L.length ≤ n + 1 ∧ n + 1 ≤ N ∧ N ≤ 1000 ∧ ss.length ≤ 20 ∧ rs.length ^ ss.length < 2 ^ 64 ∧
    H p = some (.tup (L.map V.str)) ∧ H k = some (.dT (tabT (fMany N rs) Ls)) ∧ MemoT ss Ls ∧ FMt H m k N ss rs h fs ∧
    ∀ H' fs' Ls' a, (∀ b o, b ≠ m → b ≠ k → H b = some o → H' b = some o) → FMt H' m k N ss rs h fs' → (∀ e ∈ fs', e ∈ fs ∨ H e.2 = none) → H' k = some (.dT (tabT (fMany N rs) Ls')) → MemoT ss Ls' →
      a ≠ m → a ≠ k → H' a = some (.dK (dQ (byL rs (sdT rs) h N N L))) → ((∃ e ∈ fs', e.2 = a) ∨ H a = none) → Q (.ref a) H'
theorem Frm.kept2 {H H' : Hp} {k m t p1 p2 : Addr} {x3 : V} {qs : List Addr} {ss : List Str} {rs : List (Str × Str)} {kvs kvs2 : List (List Key × V)} (f : Frm H t p1 p2 x3 qs ss rs) (hk : H k = some (.dT kvs)) (hm : H m = some (.dT kvs2)) (e : ∀ b o, b ≠ m → b ≠ k → H b = some o → H' b = some o) : Frm H' t p1 p2 x3 qs ss rs := by
  have ne : ∀ {a : Addr} {o : HO}, H a = some o → (∀ kv, o ≠ .dT kv) → H' a = some o := fun h n => e _ _ (fun z => by rw [z, hm] at h; exact n _ (Option.some.inj h).symm) (fun z => by rw [z, hk] at h; exact n _ (Option.some.inj h).symm) h
  exact ⟨ne f.t0 (fun kv z => by cases z), ne f.h1 (fun kv z => by cases z), ne f.h2 (fun kv z => by cases z), paired_imp (fun x y q => ne q (fun kv z => by cases z)) f.pr, f.tr, f.ls, f.ok⟩
theorem inV_str {x : Str} : ∀ {xs : List Str}, inV (.str x) (xs.map V.str) = decide (x ∈ xs)
  | [] => rfl
  | y :: ys => by
    unfold inV
    rw [List.map_cons, List.any_cons]
    have ih := inV_str (x := x) (xs := ys)
    unfold inV at ih
    rw [ih]
    by_cases e : y = x
    · subst e
      simp [eqV]
    · have e2 : ¬ x = y := fun z => e z.symm
      simp [eqV, e, e2]
theorem flat_strs {xs : List Str} : (xs.map V.str).all flatV = true := by
  rw [List.all_eq_true]
  intro v hv
  obtain ⟨s, _, rfl⟩ := List.mem_map.mp hv
  rfl
theorem Frm.flat {H H' : Hp} {t p1 p2 : Addr} {x3 : V} {qs : List Addr} {ss : List Str} {rs : List (Str × Str)} (f : Frm H t p1 p2 x3 qs ss rs) (e : ∀ b o, (∀ kv, o ≠ .dT kv) → (∀ kv, o ≠ .dK kv) → H b = some o → H' b = some o) : Frm H' t p1 p2 x3 qs ss rs :=
  ⟨e _ _ (fun kv z => by cases z) (fun kv z => by cases z) f.t0, e _ _ (fun kv z => by cases z) (fun kv z => by cases z) f.h1, e _ _ (fun kv z => by cases z) (fun kv z => by cases z) f.h2, paired_imp (fun x y q => e _ _ (fun kv z => by cases z) (fun kv z => by cases z) q) f.pr, f.tr, f.ls, f.ok⟩
theorem tIf_near {K : PySem.W.Frag} {σ : L2.St} {H : Hp} {Q : VK} {rs : List (Str × Str)} {L : List Str} {e : Str × Str} {h : Str} {m n : Addr} (h7 : σ[7]? = some (some (.ref m))) (h8 : σ[8]? = some (some (.ref n))) (h2 : σ[2]? = some (some (.str h)))
    (gm : H m = some (.tup ((nearL (sdT rs) L e).map V.str))) (gn : H n = some (.tup ((farL (sdT rs) L e).map V.str)))
    (q : ∀ U H3 a b, Same H H3 → H U = none → H3 U = some (.tup [.ref a, .ref b]) → H a = some (.tup ((mineL (sdT rs) h L e).map V.str)) → H b = some (.tup ((othL (sdT rs) h L e).map V.str)) → Q (.ref U) H3) :
    tIf (tTest (tOp (rIn K false) (tVar 2) (tVar 7))) (tTup (tCons (tVar 7) (tCons (tVar 8) tNil))) (tTup (tCons (tVar 8) (tCons (tVar 7) tNil))) σ H Q := by
  refine ⟨_, h2, _, h7, m, _, rfl, .inr (SqT.of gm), rfl, flat_strs, _, rfl, ?_⟩
  show if inV (V.str h) ((nearL (sdT rs) L e).map V.str) = true then _ else _
  rw [inV_str]
  by_cases z : h ∈ nearL (sdT rs) L e
  · rw [decide_eq_true z]
    refine iteT ⟨_, h7, _, h8, (by show 2 ≤ sizeLine; decide), fun U hU => ?_⟩
    refine q U _ m n (K1.Same.upd hU) hU upd_same ?_ ?_
    · rw [mineL, if_pos z]; exact gm
    · rw [othL, if_pos z]; exact gn
  · rw [decide_eq_false z]
    refine iteF ⟨_, h8, _, h7, (by show 2 ≤ sizeLine; decide), fun U hU => ?_⟩
    refine q U _ n m (K1.Same.upd hU) hU upd_same ?_ ?_
    · rw [mineL, if_neg z]; exact gn
    · rw [othL, if_neg z]; exact gm
section
variable {P : Program} {w : World} {K : PySem.W.Frag} {mg : Str → Option Value} {base : Heap}
theorem ok_Bl0 {N : Nat} {f : Addr} {fd : FuncData} (F : Fun K "_law_by" "_law_by" sBl f fd) : FnOk P w K mg base CX0 2 f fd ["form", "lot", "house", "known", "told"] (spBl N 0) :=
  F.ok scBl (fun vs H Q E h => h.elim) (fun cdv A outer s H vs Q E hr h => h.elim)
theorem ok_Bl1 {N n : Nat} {f fR fL fU : Addr} {fd rd ld ud : FuncData} (F : Fun K "_law_by" "_law_by" sBl f fd) (B : Bl mg)
    (bM : Binds K fd ["form", "lot", "house", "known", "told"] []) (mM : mg "_law_by" = some (.ref f))
    (GR : FnOk P w K mg base CX0 1 fR rd ["form", "lot"] spUr) (bR : Binds K rd ["form", "lot"] []) (kR : PySem.W.keepIn K (.ref fR) = true) (mR : mg "_law_u_roads" = some (.ref fR))
    (GL : FnOk P w K mg base CX0 2 fL ld ["form", "lot", "road"] spUl) (bL : Binds K ld ["form", "lot", "road"] []) (kL : PySem.W.keepIn K (.ref fL) = true) (mL : mg "_law_u_lots" = some (.ref fL))
    (GU : FnOk P w K mg base CX0 (n + 2) fU ud ["form", "lot", "known"] (spUm N n)) (bU : Binds K ud ["form", "lot", "known"] []) (kU : PySem.W.keepIn K (.ref fU) = true) (mU : mg "_law_u_many" = some (.ref fU))
    (G : FnOk P w K mg base CX0 (n + 2) f fd ["form", "lot", "house", "known", "told"] (spBl N n)) : FnOk P w K mg base CX0 (n + 3) f fd ["form", "lot", "house", "known", "told"] (spBl N (n + 1)) := by
  refine F.ok scBl (fun vs H Q E h => ?_) (fun cdv A outer s H vs Q E hr h => ?_)
  · obtain ⟨t, p, k, m, p1, p2, x3, qs, ss, rs, L, hs, Ls, fs, rfl, _⟩ := h
    rfl
  obtain ⟨t, p, k, m, p1, p2, x3, qs, ss, rs, L, hs, Ls, fs, rfl, mk, fm, sub, con, hh, lL, hN, hN2, l20, hb, hp, hk, ml, fmt, q⟩ := h
  have nd := scBl.nd
  have hu := hu_of hr
  have hr1 : Room 1 _ := hr.mono (by omega)
  have hr2 : Room 2 _ := hr.mono (by omega)
  refine ⟨_, (pss_cons (by exact (ps_if (pt_cmpR op_eq (pe_callB call_len_seq rfl B.len PySem.boot_len (pa_cons (pv 1) pa_nil)) pe_int (nomark _)) (pss_one (by exact (ps_ret (pe_disp (pps_cons pe_int pe_int pps_nil) (by rfl) (by rfl) (fun z => by cases z) (by decide))))) pss_nil))
  (pss_cons (by exact (ps_if (pt_cmp (pc_dnotin hu (pv 1) (pv 4)) (by with_unfolding_all rfl)) (pss_cons (by exact (ps_set (i := 5) nd rfl (.inl rfl) pe_dnewK))
  (pss_cons (by exact (ps_for PassesOwn.never rfl (by exact pi_list (pe_call GR hr1 rfl mR kR bR .nil pass0 (pa_cons (pv 0) (pa_cons (pv 1) pa_nil)))) (pg_name (i := 6) nd rfl (.inl rfl)) (pss_cons (by exact (ps_asg (pe_call GL hr2 rfl mL kL bL .nil pass0 (pa_cons (pv 0) (pa_cons (pv 1) (pa_cons (pv 6) pa_nil)))) (pg_tup rfl (pgs_cons (pg_name (i := 7) nd rfl (.inl rfl)) (pgs_cons (pg_name (i := 8) nd rfl (.inl rfl)) pgs_nil)))))
  (pss_cons (by exact (ps_asg (pe_ifExp (pt_cmpR op_in_seq (pv 2) (pv 7) (by with_unfolding_all rfl)) (pe_tup (pa_cons (pv 7) (pa_cons (pv 8) pa_nil))) (pe_tup (pa_cons (pv 8) (pa_cons (pv 7) pa_nil)))) (pg_tup rfl (pgs_cons (pg_name (i := 9) nd rfl (.inl rfl)) (pgs_cons (pg_name (i := 10) nd rfl (.inl rfl)) pgs_nil)))))
  (pss_cons (by exact (ps_set (i := 11) nd rfl (.inl rfl) (pe_call G hr rfl mM F.kp bM .nil pass0 (pa_cons (pv 0) (pa_cons (pv 9) (pa_cons (pv 2) (pa_cons (pv 3) (pa_cons (pv 4) pa_nil))))))))
  (pss_one (by exact (ps_lock (ps_for PassesOwn.never rfl (by exact pi_keys (pv 11)) (pg_name (i := 12) nd rfl (.inl rfl)) (pss_one (by exact (ps_dput hu (pv 5) (pe_op op_add (pv 12) pe_int) (pe_op op_add (pe_dget2 hu (pv 5) (pe_op op_add (pv 12) pe_int) pe_int ⟨rfl, rfl, rfl, rfl⟩) (pe_op op_mul (pe_dget hu (pv 11) (pv 12) (fun _ _ => rfl)) (pe_call GU hr rfl mU kU bU .nil pass0 (pa_cons (pv 0) (pa_cons (pv 10) (pa_cons (pv 3) pa_nil)))))) rfl))))))))))))
  (pss_one (by exact (ps_dput hu (pv 4) (pv 1) (pv 5) rfl))))) pss_nil))
  (pss_one (by exact (ps_ret (pe_dget hu (pv 4) (pv 1) (fun _ _ => rfl))))))), ?_⟩
  have nds := fm.tr.nd
  have hpk : H p = some (.tup ((keyS L).map kV)) := by rw [keyS_map L]; exact hp
  refine ⟨_, rfl, p, _, rfl, .inr (SqT.of hp), rfl, _, rfl, ?_⟩
  rw [List.length_map]
  by_cases h1 : L.length = 1
  · rw [h1, decide_eq_true (by rfl)]
    refine iteT ?_
    refine fun d hd => ⟨upd_same, [(.inl 0, .int 1)], rfl, (by show 1 ≤ 15; decide), ?_⟩
    have e1 : Same H (L2.upd (L2.upd H d (.dK [])) d (.dK (mergeK [] [((.inl 0 : Key), V.int 1)]))) := ps_same_upd (K1.Same.upd hd) hd
    have gd : L2.upd (L2.upd H d (.dK [])) d (.dK (mergeK [] [((.inl 0 : Key), V.int 1)])) d = some (.dK [(.inl 0, .int 1)]) := upd_same
    generalize L2.upd (L2.upd H d (.dK [])) d (.dK (mergeK [] [((.inl 0 : Key), V.int 1)])) = H1 at e1 gd ⊢
    refine q H1 fs Ls d (fun b o _ _ h => e1 b o h) (fmt.same e1) (fun e h => .inl h) (e1 _ _ hk) ml (fun z => by rw [z, fmt.at_] at hd; cases hd) (fun z => by rw [z, hk] at hd; cases hd) ?_ (.inr hd)
    rw [byL_one (by omega) h1]
    exact gd
  rw [decide_eq_false (fun z => h1 (by have := V.int.inj z; omega))]
  refine iteF ?_
  refine nQ ?_
  with_reducible refine sQ ?_
  refine ⟨_, rfl, _, rfl, m, _, rfl, DGet.t (k := keyS L) fmt.at_ hpk, _, rfl, ?_⟩
  by_cases hm : L ∈ fs.map (·.1)
  · obtain ⟨a, ha, hv⟩ := fT_in hm
    rw [hv]
    refine iteF ?_
    have dg := DGet.t (k := keyS L) fmt.at_ hpk
    rw [hv] at dg
    obtain ⟨a1, a2, a3⟩ := fmt.ok _ ha
    exact ⟨_, rfl, _, rfl, m, _, rfl, dg, q H fs Ls a (fun b o _ _ h => h) fmt (fun e h => .inl h) hk ml a1 a2 a3 (.inl ⟨_, ha, rfl⟩)⟩
  rw [fT_out hm]
  refine iteT ?_
  refine fun c hc => ?_
  refine K1.gN ?_
  have mc : m ≠ c := ne_of_none fmt.at_ hc
  have kc : k ≠ c := ne_of_none hk hc
  have e1 := K1.Same.upd (H := H) (p := c) (o := .dK []) hc
  have gc := upd_same' H c (.dK [])
  generalize L2.upd H c (.dK []) = H1 at e1 gc ⊢
  with_reducible refine sQ ?_
  refine ⟨_, rfl, _, rfl, t, p, p1, p2, x3, qs, ss, rs, L, rfl, fm.same e1, sub, con.1, e1 _ _ hp, fun R us H2 e2 nR gR pU => ?_⟩
  refine ⟨R, rfl, ⟨_, SqL.of gR⟩, ?_⟩
  have e02 := e1.trans e2
  have lus : us.length = (rs.filter (inL L)).length := pU.length
  have gc2 := e2 _ _ gc
  have gm2 := e02 _ _ fmt.at_
  have gk2 := e02 _ _ hk
  have nd3 : ∀ {x : Addr} {o : HO}, H2 x = some o → (∀ kv, o ≠ .dT kv) → (∀ kv, o ≠ .dK kv) → x ≠ m ∧ x ≠ k ∧ x ≠ c := fun hx n n2 =>
    ⟨fun z => by rw [z, gm2] at hx; exact n _ (Option.some.inj hx).symm, fun z => by rw [z, gk2] at hx; exact n _ (Option.some.inj hx).symm, fun z => by rw [z, gc2] at hx; exact n2 _ (Option.some.inj hx).symm⟩
  have nR3 := nd3 gR (fun kv z => by cases z) (fun kv z => by cases z)
  have fmt2 := fmt.same e02
  have fm2 := fm.same e02
  have hp2 := e02 _ _ hp
  have np3 := nd3 hp2 (fun kv z => by cases z) (fun kv z => by cases z)
  have frk : ∀ {Hc : Hp}, (∀ b o, b ≠ m → b ≠ k → b ≠ c → H2 b = some o → Hc b = some o) → Frm Hc t p1 p2 x3 qs ss rs := fun {Hc} r => by
    have ne : ∀ {a : Addr} {o : HO}, H2 a = some o → (∀ kv, o ≠ .dT kv) → (∀ kv, o ≠ .dK kv) → Hc a = some o := fun h n n2 => by
      obtain ⟨a1, a2, a3⟩ := nd3 h n n2
      exact r _ _ a1 a2 a3 h
    exact ⟨ne fm2.t0 (fun kv z => by cases z) (fun kv z => by cases z), ne fm2.h1 (fun kv z => by cases z) (fun kv z => by cases z), ne fm2.h2 (fun kv z => by cases z) (fun kv z => by cases z), paired_imp (fun x y q => ne q (fun kv z => by cases z) (fun kv z => by cases z)) fm2.pr, fm2.tr, fm2.ls, fm2.ok⟩
  refine for_it walk_list (fun i σ Hc => (∃ a6 a7 a8 a9 a10 a11 a12, σ = [some (.ref t), some (.ref p), some (.str hs), some (.ref k), some (.ref m), some (.ref c), a6, a7, a8, a9, a10, a11, a12]) ∧
      (∀ b o, b ≠ m → b ≠ k → b ≠ c → H2 b = some o → Hc b = some o) ∧ Hc c = some (.dK (dQ (byTo rs (sdT rs) hs N L ((rs.filter (inL L)).take i)))) ∧
      ∃ fs' Ls', FMt Hc m k N ss rs hs fs' ∧ (∀ e ∈ fs', e ∈ fs ∨ H2 e.2 = none) ∧ Hc k = some (.dT (tabT (fMany N rs) Ls')) ∧ MemoT ss Ls')
    ⟨⟨_, _, _, _, _, _, _, rfl⟩, fun b o _ _ _ h => h, gc2, fs, Ls, fmt2, fun e h => .inl h, gk2, ml⟩ (fun i σ Hc _ h => SqL.of (h.2.1 _ _ nR3.1 nR3.2.1 nR3.2.2 gR)) ?_ ?_
  · rintro i v σ Hc H' hi ⟨⟨a6, a7, a8, a9, a10, a11, a12, rfl⟩, c1, c2, fs', Ls', c3, c4, c5, c6⟩ ⟨rfl, hv⟩
    rw [List.length_map, lus] at hi
    obtain ⟨tq, rfl, htq⟩ := paired_ref pU hi hv
    have hem := List.getElem_mem hi
    obtain ⟨he, hin⟩ := List.mem_filter.mp hem
    have nq3 := nd3 htq (fun kv z => by cases z) (fun kv z => by cases z)
    have htq' := c1 _ _ nq3.1 nq3.2.1 nq3.2.2 htq
    have hp' := c1 _ _ np3.1 np3.2.1 np3.2.2 hp2
    have fmc := frk c1
    obtain ⟨m1, m2, cm, co, lm, lo⟩ := con.mine (sd_ok fm.tr) he hin hh
    obtain ⟨s1, s2⟩ := sub.mine (rs := rs) (h := hs) (e := (rs.filter (inL L))[i])
    have stp : byTo rs (sdT rs) hs N L ((rs.filter (inL L)).take (i + 1)) = bring (byL rs (sdT rs) hs N N (mineL (sdT rs) hs L (rs.filter (inL L))[i])) (manyL rs (sdT rs) N (othL (sdT rs) hs L (rs.filter (inL L))[i])) (byTo rs (sdT rs) hs N L ((rs.filter (inL L)).take i)) (byL rs (sdT rs) hs N N (mineL (sdT rs) hs L (rs.filter (inL L))[i])) := by
      rw [take_snoc hi, byTo_snoc]
    generalize hge : (rs.filter (inL L))[i] = e at he hin htq' m1 m2 cm co lm lo s1 s2 stp
    rcases n with _ | n
    · exact absurd cm.2.1 (by omega)
    refine ⟨_, rfl, _, rfl, _, rfl, t, p, tq, p1, p2, x3, qs, ss, rs, L, e, rfl, fmc, sub, con, he, hin, hp', htq', fun u mm nn H3 e3 nu gu gm gn => ?_⟩
    refine ⟨u, _, rfl, SqT.of gu, rfl, _, _, rfl, _, _, rfl, rfl, ?_⟩
    refine tIf_near (rs := rs) (L := L) (e := e) (h := hs) rfl rfl rfl gm gn fun U H4 a b e4 nU gU ga gb => ?_
    refine ⟨U, _, rfl, SqT.of gU, rfl, _, _, rfl, _, _, rfl, rfl, ?_⟩
    have e34 := e3.trans e4
    have ga := e4 _ _ ga
    have gb := e4 _ _ gb
    have fmt4 := c3.same e34
    have gk4 := e34 _ _ c5
    refine ⟨_, rfl, _, rfl, _, rfl, _, rfl, _, rfl, t, a, k, m, p1, p2, x3, qs, ss, rs, mineL (sdT rs) hs L e, hs, Ls', fs', rfl, mk, fmc.same e34, s1, cm, m1, by omega, by omega, hN2, l20, hb, ga, gk4, c6, fmt4, fun H5 fs5 Ls5 a5 k5 fm5 fr5 g5 m5 am ak ga5 new5 => ?_⟩
    refine K1.gN ?_
    have hu2 : H4 c = some (.dK (dQ (byTo rs (sdT rs) hs N L ((rs.filter (inL L)).take i)))) := e34 _ _ c2
    have gc5 := k5 _ _ mc.symm kc.symm hu2
    have fr : ∀ e ∈ fs5, (e ∈ fs ∨ H2 e.2 = none) ∧ e.2 ≠ c := by
      intro e he
      obtain ⟨n1, n2, _⟩ := fm5.ok e he
      have old : e ∈ fs ∨ H2 e.2 = none → (e ∈ fs ∨ H2 e.2 = none) ∧ e.2 ≠ c := by
        intro h
        refine ⟨h, fun z => ?_⟩
        rcases h with h | h
        · have := (fmt.ok e h).2.2
          rw [z, hc] at this
          cases this
        · rw [z, gc2] at h
          cases h
      rcases fr5 e he with h | h
      · exact old (c4 e h)
      · have nc : e.2 ≠ c := fun z => by rw [z, hu2] at h; cases h
        refine ⟨.inr ?_, nc⟩
        cases hx : H2 e.2 with
        | none => rfl
        | some o =>
          have := e34 _ _ (c1 _ _ n1 n2 nc hx)
          rw [h] at this
          cases this
    have ac : a5 ≠ c := by
      rcases new5 with ⟨e5, he5, rfl⟩ | h
      · exact (fr _ he5).2
      · exact fun z => by rw [z, hu2] at h; cases h
    have kin := byL_keys (rs := rs) (sd := sdT rs) (h := hs) (N := N) N (mineL (sdT rs) hs L e)
    have ntw : NoTw (byL rs (sdT rs) hs N N (mineL (sdT rs) hs L e)) := kin.1
    generalize einn : byL rs (sdT rs) hs N N (mineL (sdT rs) hs L e) = inner at ga5 kin ntw stp
    have sm : manyL rs (sdT rs) N (othL (sdT rs) hs L e) < 2 ^ 64 := many_lt fm.tr hb s2 co (List.ne_nil_of_mem he) N
    have kb : ∀ j, KeysB (N + 1) (bring inner (manyL rs (sdT rs) N (othL (sdT rs) hs L e)) (byTo rs (sdT rs) hs N L ((rs.filter (inL L)).take i)) (inner.take j)) := fun j =>
      (byTo_keys _).bring fun e he => by
        have := kin.2 e.1 (List.mem_map.mpr ⟨e, List.mem_of_mem_take he, rfl⟩)
        omega
    have gb5 : H5 b = some (.tup ((othL (sdT rs) hs L e).map V.str)) := k5 _ _ (fun z => by rw [z, fmt4.at_] at gb; cases gb) (fun z => by rw [z, gk4] at gb; cases gb) gb
    have fm5' : Frm H5 t p1 p2 x3 qs ss rs := (fmc.same e34).kept2 gk4 fmt4.at_ k5
    generalize hbase : byTo rs (sdT rs) hs N L ((rs.filter (inL L)).take i) = cb at hu2 gc5 kb stp c2
    generalize hw : manyL rs (sdT rs) N (othL (sdT rs) hs L e) = ways at sm kb stp
    refine ⟨a5, _, ga5, trivial, fun od => ?_⟩
    refine ⟨_, rfl, a5, od, rfl, .inl ⟨_, upd_same, ?_⟩⟩
    refine for_it walk_keys (fun j σ Hx => (∃ s6 s7 s8 s9 s12, σ = [some (.ref t), some (.ref p), some (.str hs), some (.ref k), some (.ref m), some (.ref c), s6, s7, s8, s9, some (.ref b), some (.ref a5), s12]) ∧
        Hx a5 = some (.frz od (.dK (dQ inner))) ∧ (∀ b o, b ≠ a5 → b ≠ c → b ≠ k → H5 b = some o → Hx b = some o) ∧ Hx c = some (.dK (dQ (bring inner ways cb (inner.take j)))) ∧ ∃ Lx, Hx k = some (.dT (tabT (fMany N rs) Lx)) ∧ MemoT ss Lx)
      ⟨⟨_, _, _, _, _, rfl⟩, upd_same, fun b o n1 n2 _ h => by rw [upd_ne n1]; exact h, by rw [upd_ne ac.symm]; exact gc5, Ls5, by rw [upd_ne ak.symm]; exact g5, m5⟩ (fun j σ Hx _ h => h.2.1) ?_ ?_
    · rintro j v σ Hx H6 hj ⟨⟨s6, s7, s8, s9, s12, rfl⟩, x1, x2, x3', Lx, x4, x5⟩ ⟨rfl, kk, vv, hkv, rfl⟩
      obtain ⟨hj2, rfl⟩ := lk_get hkv
      have hmm := List.getElem_mem hj2
      have val : valV (dQ inner) (.inl ((inner[j].1 : Nat) : Int)) = some (.int ((inner[j].2 : Nat) : Int)) := by
        rw [dQ_val, getN_at ntw hmm]
        rfl
      have dg1 : DGet H6 a5 (.int ((inner[j].1 : Nat) : Int)) (some (.int ((inner[j].2 : Nat) : Int))) := by
        rw [← val]
        exact .inl ⟨dQ inner, .inl ((inner[j].1 : Nat) : Int), .inr ⟨od, x1⟩, rfl, rfl⟩
      have stp2 : bring inner ways cb (inner.take (j + 1)) = putN (bring inner ways cb (inner.take j)) (inner[j].1 + 1) ((getN (bring inner ways cb (inner.take j)) (inner[j].1 + 1)).getD 0 + inner[j].2 * ways) := by
        rw [bring_succ hj2, getN_at ntw hmm]
        rfl
      have kcj := kb j
      generalize ecj : bring inner ways cb (inner.take j) = cj at x3' stp2 kcj
      have dg2 := DGet.k (k := .inl ((inner[j].1 + 1 : Nat) : Int)) x3'
      rw [dQ_val] at dg2
      have eo : ((getN cj (inner[j].1 + 1)).map fun v => V.int ((v : Nat) : Int)).getD (.int 0) = .int ((((getN cj (inner[j].1 + 1)).getD 0 : Nat)) : Int) := by
        cases getN cj (inner[j].1 + 1) <;> rfl
      have lcj : (dQ cj).length < sizeLine := by
        rw [dQ_len]
        have := kcj.len
        show _ < 2 ^ 24
        omega
      refine ⟨_, rfl, c, rfl, .inl ⟨_, .inl x3'⟩, _, rfl, _, _, rfl, rfl, _, dg2, ?_⟩
      have fm6 : Frm H6 t p1 p2 x3 qs ss rs := fm5'.flat fun bb o n1 n2 h => x2 bb o (fun z => by rw [z, ga5] at h; exact n2 _ (Option.some.inj h).symm) (fun z => by rw [z, gc5] at h; exact n2 _ (Option.some.inj h).symm) (fun z => by rw [z, g5] at h; exact n1 _ (Option.some.inj h).symm) h
      have gb6 := x2 b _ (fun z => by rw [z, ga5] at gb5; cases gb5) (fun z => by rw [z, gc5] at gb5; cases gb5) (fun z => by rw [z, g5] at gb5; cases gb5) gb5
      refine ⟨_, rfl, _, rfl, a5, _, rfl, dg1, _, rfl, _, rfl, _, rfl, t, b, k, p1, p2, x3, qs, ss, rs, othL (sdT rs) hs L e, Lx, rfl, fm6, s2, co, by omega, by omega, l20, hb, gb6, x4, x5, fun H7 L7 k7 g7 m7 => ?_⟩
      rw [hw]
      have gc7 := k7 _ _ kc.symm x3'
      have dput := DPut.k (k := .inl ((inner[j].1 + 1 : Nat) : Int)) (v := .int (((getN cj (inner[j].1 + 1)).getD 0 + inner[j].2 * ways : Nat) : Int)) gc7 lcj
      rw [dQ_put] at dput
      refine ⟨_, _, rfl, rfl, .inr ⟨by omega, by omega⟩, _, _, eo, rfl, ?_⟩
      have ev : V.int ((((getN cj (inner[j].1 + 1)).getD 0 : Nat) : Int) + ((inner[j].2 : Nat) : Int) * ((ways : Nat) : Int)) = .int (((getN cj (inner[j].1 + 1)).getD 0 + inner[j].2 * ways : Nat) : Int) := by
        rw [Int.natCast_add, Int.natCast_mul]
      rw [← ev] at dput
      refine ⟨_, rfl, _, rfl, _, _, rfl, rfl, c, _, rfl, dput, ?_⟩
      refine ⟨⟨_, _, _, _, _, rfl⟩, by rw [upd_ne ac]; exact k7 _ _ ak x1, fun bb o n1 n2 n3 h => by rw [upd_ne n2]; exact k7 _ _ n3 (x2 bb o n1 n2 n3 h), ?_, L7, by rw [upd_ne kc]; exact g7, m7⟩
      rw [upd_same, stp2]
    · rintro σ Hx ⟨⟨s6, s7, s8, s9, s12, rfl⟩, x1, x2, x3', Lx, x4, x5⟩
      rw [dQ_len, List.take_length, ← stp] at x3'
      refine ⟨x1, ?_⟩
      have K56 : ∀ b o, b ≠ c → b ≠ k → H5 b = some o → L2.upd Hx a5 (.dK (dQ inner)) b = some o := by
        intro b o n1 n2 h
        by_cases z : b = a5
        · rw [z] at h ⊢
          rw [upd_same, ← ga5, h]
        · rw [upd_ne z]
          exact x2 b o z n1 n2 h
      refine ⟨⟨_, _, _, _, _, _, _, rfl⟩, fun b o n1 n2 n3 h => K56 b o n3 n2 (k5 b o n1 n2 (e34 _ _ (c1 b o n1 n2 n3 h))), by rw [upd_ne ac.symm]; exact x3', fs5, Lx, ?_, fun e he => (fr e he).1, by rw [upd_ne ak.symm]; exact x4, x5⟩
      exact ⟨fm5.ks, K56 _ _ mc mk fm5.at_, fun e he => ⟨(fm5.ok e he).1, (fm5.ok e he).2.1, K56 _ _ (fr e he).2 (fm5.ok e he).2.1 (fm5.ok e he).2.2⟩⟩
  · rintro σ Hc ⟨⟨a6, a7, a8, a9, a10, a11, a12, rfl⟩, c1, c2, fs', Ls', c3, c4, c5, c6⟩
    rw [List.length_map, lus, List.take_length, ← byL_step (sd_ok fm.tr) con (by omega) h1 hh] at c2
    have l2 : 2 ^ ss.length ≤ 2 ^ 20 := Nat.pow_le_pow_right (by decide) l20
    have lf : (fT fs').length < sizeLine := by
      have := fT_len nds c3.ks
      show _ < 2 ^ 24
      omega
    have hpc : Hc p = some (.tup ((keyS L).map kV)) := by rw [keyS_map]; exact c1 _ _ np3.1 np3.2.1 np3.2.2 hp2
    have dput := DPut.t (k := keyS L) (v := .ref c) c3.at_ hpc lf
    rw [fT_put] at dput
    have g7 := upd_same' Hc m (.dT (fT (putTA fs' L c)))
    have n7 : ∀ b, b ≠ m → L2.upd Hc m (.dT (fT (putTA fs' L c))) b = Hc b := fun b n => upd_ne n
    generalize L2.upd Hc m (.dT (fT (putTA fs' L c))) = H7 at dput g7 n7
    have has : (L, c) ∈ putTA fs' L c := putTA_has
    have uniq : valV (fT (putTA fs' L c)) (keyS L) = some (.ref c) := by
      obtain ⟨a, h1, h2⟩ := fT_in (List.mem_map.mpr ⟨_, has, rfl⟩)
      rcases putTA_mem h1 with z | z
      · rw [h2, (Prod.mk.inj z).2]
      · exact absurd rfl z.2
    have dg := DGet.t (k := keyS L) g7 (by rw [n7 p np3.1]; exact hpc)
    rw [uniq] at dg
    refine ⟨_, rfl, _, rfl, _, rfl, m, _, rfl, dput, ?_⟩
    refine ⟨_, rfl, _, rfl, m, _, rfl, dg, q H7 (putTA fs' L c) Ls' c (fun b o n1 n2 h => ?_) ⟨putTA_keys c3.ks sub, g7, fun e he => ?_⟩ (fun e he => ?_) (by rw [n7 k mk.symm]; exact c5) c6 mc.symm kc.symm (by rw [n7 c mc.symm]; exact c2) (.inl ⟨_, has, rfl⟩)⟩
    · rw [n7 b n1]
      exact c1 b o n1 n2 (ne_of_none h hc) (e02 _ _ h)
    · rcases putTA_mem he with z | z
      · rw [z]
        refine ⟨mc.symm, kc.symm, ?_⟩
        show H7 c = _
        rw [n7 c mc.symm]
        exact c2
      · obtain ⟨y1, y2, y3⟩ := c3.ok e z.1
        exact ⟨y1, y2, by rw [n7 _ y1]; exact y3⟩
    · rcases putTA_mem he with z | z
      · rw [z]
        exact .inr hc
      · rcases c4 e z.1 with h | h
        · exact .inl h
        · exact .inr (e02.free h)
end
end K1
end
-- WKw
section
set_option Elab.async false
set_option linter.all false
set_option maxRecDepth 100000
set_option maxHeartbeats 1000000
namespace K1
open PySem PySem.Spec PyProof.Rows L2 W0
section
variable {X : Cx} {CX : CXT} {k n : Nat} {f C : Addr} {fd : FuncData} {ps ks : List Str} {sp : Sp} {E : XK} {x m : Str} {p pos apos : Pos} {e o : Expr} {es : List Expr} {kws : List Keyword} {ta : TE} {t tk : TA} {g : List Value → List Value → List Value} {gV : List V → List V → List V}
/-- the callee runs, its parameters given by name -/
theorem run_fnN {pins : List (Addr × Obj)} {σ : L2.St} {H : Hp} {s : Shared} {Q : VK} {us ws : List Value} {vs zs : List V} (F : FnOk X.prog X.w X.K X.mg X.base CX k f fd ps sp) (hr : Room k X.A) (hb : KBn X.K fd ps n ks g gV) (hx : Passes CX X E)
    (I : Inv X pins σ H s) (r : Vals vs us) (rz : Vals zs ws) (l1 : vs.length = n) (l2 : zs.length = ks.length)
    (h : sp (gV vs zs) H Q E) : wpAny (model X.prog X.w) X.A (call (.ref f) us (ks.zip ws)) (EP X pins σ Q) X.xe s := by
  have r2 := hb.rel r rz
  have go := F.run X.A X.stack s H ⟨us, ks.zip ws⟩ (g us ws) (gV vs zs) Q E
  refine wpAny_call (codeAny_mono (go hr I.env0 (hb.to s us ws I.kIn (r.length.symm.trans l1) (rz.length.symm.trans l2)) r2 h) fun r s' hq => ?_)
  cases r with
  | error e => exact hx pins σ H s e s' I hq
  | ok fl =>
    cases fl with
    | ret u => exact I.after hq
    | next => exact False.elim hq
    | brk => exact False.elim hq
    | cont => exact False.elim hq
def tCallN (k : Nat) (sp : Sp) (gV : List V → List V → List V) (E : XK) (tk : TA) : TE := fun σ H Q => tk σ H fun zs H2 => zs.length = k ∧ sp (gV [] zs) H2 Q E
/-- f(k = v, ..), every parameter by name -/
theorem pe_callN (F : FnOk X.prog X.w X.K X.mg X.base CX k f fd ps sp) (hr : Room k X.A) (hg : Gl X x) (hm : X.mg x = some (.ref f)) (hk : PySem.W.keepIn X.K (.ref f) = true) (hb : KBn X.K fd ps 0 ks g gV) (hx : Passes CX X E) (hkw : PK X kws tk)
    (hall : (backToKw pos (keywordEach kws X.env)).all (·.1.isSome) = true := by rfl) (hks : (backToKw pos (keywordEach kws X.env)).filterMap (·.1) = ks := by rfl)
    (hdb : (x == ("__debug__" : Str)) = false := by decide)
    (hpl : ((backTo pos (starEach [] X.env)).any (·.1) || (backToKw pos (keywordEach kws X.env)).any (·.1.isNone)) = false := by rfl) :
    PE X (.Call (.Name x p) [] kws pos) (tCallN ks.length sp gV E tk) := by
  refine ⟨fun pins s σ H Q I h => ?_⟩
  refine wpAny_Call_Name_kw (ld_glob I hg hm ?_ hdb)
  refine PySem.W.callWith_KW0 (first := []) (h₀ := X.base) I.ok.mod.kin hk hall ?_ hpl
  refine thn (hkw.run pos pins s σ H _ I h) fun ws s2 ⟨zs, H2, I2, rz, l2, q2⟩ => ⟨I2.kIn, ?_⟩
  rw [hks]
  exact run_fnN (us := []) (vs := []) F hr hb hx I2 .nil rz rfl l2 q2
end
end K1
end
-- WZip
section
set_option Elab.async false
set_option linter.all false
set_option maxRecDepth 100000
set_option maxHeartbeats 2000000
/-! a word: list(zip(xs, ys)) -/
namespace Wz
open PySem PySem.Calls PySem.Spec PyProof.Rows L2
/-- a zip walked so far: no tuple is out yet, or the one told last is -/
def ZSt (h : Heap) (z TI TO i1 i2 l1 l2 S : Addr) (us vs : Array Value) (n : Nat) : Prop :=
  IsPair h TI (.ref i1) (.ref i2) ∧ h.IsListIter i1 l1 n ∧ h.IsListIter i2 l2 n ∧ h.IsList l1 us ∧ h.IsList l2 vs ∧
  ((IsZip h z TI TO .none ∧ ∃ p q, IsPair h TO p q) ∨ ∃ T b o, IsZipHeld h z TI TO T b ∧ h.get? T = some o ∧ T ≠ z ∧ T ≠ i1 ∧ T ≠ i2 ∧ T ≠ S)
structure ZOff (z TI TO i1 i2 l1 l2 S : Addr) : Prop where
  z : S ≠ z
  TI : S ≠ TI
  TO : S ≠ TO
  i1 : S ≠ i1
  i2 : S ≠ i2
  l1 : S ≠ l1
  l2 : S ≠ l2
theorem ZSt.keep {h h' : Heap} {z TI TO i1 i2 l1 l2 S : Addr} {us vs : Array Value} {n : Nat} (x : ZSt h z TI TO i1 i2 l1 l2 S us vs n) (O : ZOff z TI TO i1 i2 l1 l2 S)
    (k : ∀ b o, b ≠ S → h.get? b = some o → h'.get? b = some o) : ZSt h' z TI TO i1 i2 l1 l2 S us vs n := by
  obtain ⟨a1, a2, a3, a4, a5, a6⟩ := x
  refine ⟨k _ _ (Ne.symm O.TI) a1, a2.at fun o e => k _ o (Ne.symm O.i1) e, a3.at fun o e => k _ o (Ne.symm O.i2) e, a4.at fun o e => k _ o (Ne.symm O.l1) e, a5.at fun o e => k _ o (Ne.symm O.l2) e, ?_⟩
  rcases a6 with ⟨b1, p, q, b2⟩ | ⟨T, b, o, b1, b2, r1, r2, r3, r4⟩
  · exact .inl ⟨k _ _ (Ne.symm O.z) b1, p, q, k _ _ (Ne.symm O.TO) b2⟩
  · exact .inr ⟨T, b, o, k _ _ (Ne.symm O.z) b1, k _ _ r4 b2, r1, r2, r3, r4⟩
section
variable {prog : Program} {w : World} {A : Around} {E : Value → Shared → Prop} {s : Shared} {z TI TO i1 i2 l1 l2 S : Addr} {us vs : Array Value} {n : Nat}
theorem zs_next {x y : Value} {Q : Option Value → Shared → Prop} (D : ZipApart z TI TO i1 i2 l1 l2) (st : ZSt s.heap z TI TO i1 i2 l1 l2 S us vs n) (hS : S < s.heap.objs.size) (hx : us[n]? = some x) (hy : vs[n]? = some y)
    (hQ : ∀ h', ZSt h' z TI TO i1 i2 l1 l2 S us vs (n + 1) → IsPair h' s.heap.objs.size x y → h'.objs.size = s.heap.objs.size + 1 →
      (∀ b o, b ≠ z → b ≠ TO → b ≠ i1 → b ≠ i2 → s.heap.get? b = some o → h'.get? b = some o) → Q (some (.ref s.heap.objs.size)) { s with heap := h' }) :
    wpAny (model prog w) A (pyNext (.ref z)) Q E s := by
  obtain ⟨a1, a2, a3, a4, a5, a6⟩ := st
  have gone : ∀ {c o}, s.heap.get? c = some o → s.heap.objs.size ≠ c := fun e => Nat.ne_of_gt (Heap.lt_size e)
  have m1 : s.heap.objs.size ≠ i1 := let ⟨_, e, _⟩ := a2; gone e
  have m2 : s.heap.objs.size ≠ i2 := let ⟨_, e, _⟩ := a3; gone e
  rcases a6 with ⟨b1, p, q, b2⟩ | ⟨T, b, o, b1, b2, r1, r2, r3, r4⟩
  · refine wpAny_pyNext_zip_item D b1 a1 b2 a2 a3 a4 a5 hx hy fun h' c1 c2 c3 c4 c5 c6 kp => hQ h' ⟨?_, c3, c4, ?_, ?_, ?_⟩ c5 c6 kp
    · exact kp _ _ D.TIz D.TITO D.TIi1 D.TIi2 a1
    · exact a4.at fun o e => kp _ o D.l1z D.l1TO D.l1i1 D.l1i2 e
    · exact a5.at fun o e => kp _ o D.l2z D.l2TO D.l2i1 D.l2i2 e
    · exact .inr ⟨_, false, _, c1, c5, gone b1, m1, m2, Nat.ne_of_gt hS⟩
  · refine wpAny_pyNext_zip_item_held D b1 b2 a1 a2 a3 a4 a5 hx hy fun h' c1 c3 c4 c5 c6 kp => hQ h' ⟨?_, c3, c4, ?_, ?_, ?_⟩ c5 c6 fun b o g1 _ g3 g4 e => kp b o g1 g3 g4 e
    · exact kp _ _ D.TIz D.TIi1 D.TIi2 a1
    · exact a4.at fun o e => kp _ o D.l1z D.l1i1 D.l1i2 e
    · exact a5.at fun o e => kp _ o D.l2z D.l2i1 D.l2i2 e
    · exact .inr ⟨T, true, o, c1, kp _ _ r1 r2 r3 b2, r1, r2, r3, r4⟩
theorem zs_end {Q : Option Value → Shared → Prop} (hh : A.handled = none) (D : ZipApart z TI TO i1 i2 l1 l2) (st : ZSt s.heap z TI TO i1 i2 l1 l2 S us vs n) (fin : us[n]? = none ∨ vs[n]? = none)
    (hQ : ∀ h', (∀ b o, b ≠ z → b ≠ TO → b ≠ i1 → b ≠ i2 → s.heap.get? b = some o → h'.get? b = some o) → Q none { s with heap := h' }) : wpAny (model prog w) A (pyNext (.ref z)) Q E s := by
  obtain ⟨a1, a2, a3, a4, a5, a6⟩ := st
  rcases a6 with ⟨b1, p, q, b2⟩ | ⟨T, b, o, b1, b2, _, _, _, _⟩
  · exact wpAny_pyNext_zip_end hh D b1 a1 b2 a2 a3 a4 a5 fin hQ
  · exact wpAny_pyNext_zip_end_held hh D b1 b2 a1 a2 a3 a4 a5 fin fun h' kp => hQ h' fun b o g1 _ g3 g4 e => kp b o g1 g3 g4 e
end
/-- the pairs told so far -/
structure ZG (us vs : Array Value) (lo : Addr) (h : Heap) (ps : List Addr) : Prop where
  up : ps.Pairwise (· < ·)
  over : ∀ p ∈ ps, lo < p
  told : ∀ (j : Nat) (p : Addr), ps[j]? = some p → ∃ x y, us[j]? = some x ∧ vs[j]? = some y ∧ IsPair h p x y
theorem ZG.lt {us vs : Array Value} {lo : Addr} {h : Heap} {ps : List Addr} (g : ZG us vs lo h ps) {p : Addr} (hp : p ∈ ps) : p < h.objs.size := by
  obtain ⟨j, hj⟩ := List.mem_iff_getElem?.mp hp
  obtain ⟨_, _, _, _, e⟩ := g.told j p hj
  exact Heap.lt_size e
section
variable {prog : Program} {w : World} {A : Around} {s : Shared} {R : Result → Shared → Prop} {z TI TO i1 i2 l1 l2 S : Addr} {us vs : Array Value}
abbrev lstO (acc : Array Value) (c : Nat) : Obj := { cls := .type "list", dict := none, data := .seq acc c, slots := #[] }
theorem zs_loop (hh : A.handled = none) (D : ZipApart z TI TO i1 i2 l1 l2) (O : ZOff z TI TO i1 i2 l1 l2 S) (lz : z < S) (lT : TO < S) (lj : i1 < S) (lk : i2 < S) (hn : min us.size vs.size ≤ sizeLine) (res : Value) {h₁ : Heap}
    (hR : ∀ h' tk acc c ps, (∀ b o, b ≠ S → b ≠ z → b ≠ TO → b ≠ i1 → b ≠ i2 → h₁.get? b = some o → h'.get? b = some o) → h'.get? S = some (lstO acc c) → ps.length = min us.size vs.size → ZG us vs S h' ps →
      acc.toList = ps.map Value.ref → R (.ok (.ret res)) { s with heap := h', toks := tk }) :
    ∀ (k n : Nat) (h : Heap) (tk c : Nat) (acc : Array Value) (ps : List Addr), min us.size vs.size - n = k → n ≤ min us.size vs.size → ZSt h z TI TO i1 i2 l1 l2 S us vs n →
      (∀ b o, b ≠ S → b ≠ z → b ≠ TO → b ≠ i1 → b ≠ i2 → h₁.get? b = some o → h.get? b = some o) → h.get? S = some (lstO acc c) → acc.toList = ps.map Value.ref → ps.length = n → ZG us vs S h ps → S < h.objs.size →
      codeAny (model prog w) A (.builtin "list.extend.loop" ⟨[.ref S, .ref z, res], []⟩) R { s with heap := h, toks := tk } := by
  intro k
  induction k with
  | zero =>
    intro n h tk c acc ps hk hi st kp hS hacc hl g lS
    have en : n = min us.size vs.size := by omega
    have fin : us[n]? = none ∨ vs[n]? = none := by
      rcases Nat.le_total us.size vs.size with y | y
      · exact .inl (Array.getElem?_eq_none (by rw [en, Nat.min_eq_left y]; exact Nat.le_refl _))
      · exact .inr (Array.getElem?_eq_none (by rw [en, Nat.min_eq_right y]; exact Nat.le_refl _))
    refine codeAny_builtin PySem.F.entry_extend_loop ?_
    rw [Around.under_plainId PySem.F.plain_extend_loop _]
    show wpAny _ A.in1 (pyNext (.ref z) >>= _) _ _ _
    refine wpAny_bind (zs_end (s := { s with heap := h, toks := tk }) (A := A.in1) hh D st fin fun h' kq => wpAny_pure (hR h' tk acc c ps (fun b o g1 g2 g3 g4 g5 e => kq b o g2 g3 g4 g5 (kp b o g1 g2 g3 g4 g5 e)) (kq S _ O.z O.TO O.i1 O.i2 hS) (by omega) ⟨g.up, g.over, fun j p hj => ?_⟩ hacc))
    obtain ⟨x, y, e1, e2, e3⟩ := g.told j p hj
    have hp := g.over p (List.mem_of_getElem? hj)
    exact ⟨x, y, e1, e2, kq p _ (Nat.ne_of_gt (Nat.lt_trans lz hp)) (Nat.ne_of_gt (Nat.lt_trans lT hp)) (Nat.ne_of_gt (Nat.lt_trans lj hp)) (Nat.ne_of_gt (Nat.lt_trans lk hp)) e3⟩
  | succ k ih =>
    intro n h tk c acc ps hk hi st kp hS hacc hl g lS
    have hlt : n < min us.size vs.size := by omega
    have h1 : n < us.size := by omega
    have h2 : n < vs.size := by omega
    have asz : acc.size = n := by rw [← Array.length_toList, hacc, List.length_map, hl]
    refine codeAny_builtin PySem.F.entry_extend_loop ?_
    rw [Around.under_plainId PySem.F.plain_extend_loop _]
    show wpAny _ A.in1 (pyNext (.ref z) >>= _) _ _ _
    refine wpAny_bind (zs_next (s := { s with heap := h, toks := tk }) D st lS (Array.getElem?_eq_getElem h1) (Array.getElem?_eq_getElem h2) fun h' st' ht hz kq => ?_)
    dsimp only at ht hz kq ⊢
    have hS' := kq S _ O.z O.TO O.i1 O.i2 hS
    have put : ∀ b o, b ≠ S → h'.get? b = some o → (h'.update S (Obj.mapSeq (·.push (Value.ref h.objs.size)))).get? b = some o := fun b o hb e => (Heap.get?_update_other _ _ (Ne.symm hb)).trans e
    show wpAny _ A.in1 (updateSeq S (·.push (Value.ref h.objs.size)) >>= _) _ _ _
    refine wpAny_bind ?_
    refine wpAny_updateSeq hS' rfl (wpAny_pure ⟨plainId_quiet PySem.F.plain_extend_loop _, ih (n + 1) _ tk _ (acc.push (Value.ref h.objs.size)) (ps ++ [h.objs.size]) (by omega) hlt (st'.keep O put)
      (fun b o g1 g2 g3 g4 g5 e => put b o g1 (kq b o g2 g3 g4 g5 (kp b o g1 g2 g3 g4 g5 e))) (Heap.get?_update_self _ hS' rfl) (by rw [Array.toList_push, hacc, List.map_append]; rfl) (by rw [List.length_append, hl]; rfl) ⟨?_, ?_, ?_⟩ ?_⟩) (by rw [asz]; omega) (by show (acc.push (Value.ref h.objs.size)).size ≤ sizeLine + 1; rw [Array.size_push, asz]; omega)
    · refine List.pairwise_append.mpr ⟨g.up, List.pairwise_singleton _ _, fun a ha b hb => ?_⟩
      rw [List.mem_singleton.mp hb]
      exact g.lt ha
    · intro a ha
      rcases List.mem_append.mp ha with ha | ha
      · exact g.over a ha
      · rw [List.mem_singleton.mp ha]
        exact lS
    · intro j b hj
      rcases Nat.lt_trichotomy j ps.length with y | y | y
      · rw [List.getElem?_append_left y] at hj
        obtain ⟨x1, x2, e1, e2, e3⟩ := g.told j b hj
        have hb := g.over b (List.mem_of_getElem? hj)
        exact ⟨x1, x2, e1, e2, put b _ (Nat.ne_of_gt hb) (kq b _ (Nat.ne_of_gt (Nat.lt_trans lz hb)) (Nat.ne_of_gt (Nat.lt_trans lT hb)) (Nat.ne_of_gt (Nat.lt_trans lj hb)) (Nat.ne_of_gt (Nat.lt_trans lk hb)) e3)⟩
      · subst y
        have hb : h.objs.size = b := by simpa using hj
        subst hb
        exact ⟨_, _, by rw [hl]; exact Array.getElem?_eq_getElem h1, by rw [hl]; exact Array.getElem?_eq_getElem h2, put _ _ (Nat.ne_of_gt lS) ht⟩
      · have none' : (ps ++ [h.objs.size])[j]? = none := List.getElem?_eq_none (by rw [List.length_append, List.length_singleton]; omega)
        rw [none'] at hj
        cases hj
    · have e : (h'.update S (Obj.mapSeq (·.push (Value.ref h.objs.size)))).get? h.objs.size = _ := put _ _ (Nat.ne_of_gt lS) ht
      exact Nat.lt_trans lS (Heap.lt_size e)
end
theorem zip_len_none : typeLookup (.type "zip") "__len__" = pure none := am_miss_of_fast (by decide +kernel)
theorem zip_hint_none : typeLookup (.type "zip") "__length_hint__" = pure none := am_miss_of_fast (by decide +kernel)
section
variable {prog : Program} {w : World} {A : Around} {E : Value → Shared → Prop} {s : Shared} {z TI TO i1 i2 l1 l2 S : Addr} {us vs : Array Value}
theorem zs_hint (hT : s.TypeIs (.ref z) "zip") {Q : Bool → Shared → Prop} (h : Q true s) : wpAny (model prog w) A (Builtin.List.listLengthHint (.ref z)) Q E s := by
  unfold Builtin.List.listLengthHint
  refine wpAny_bind (wpAny_specialOf hT zip_len_none ?_)
  show wpAny _ _ (specialOf (Value.ref z) (Str.ofString "__length_hint__") >>= _) _ _ _
  refine wpAny_bind (wpAny_specialOf hT zip_hint_none ?_)
  exact wpAny_pure h
theorem zs_extend {R : Result → Shared → Prop} (hh : A.handled = none) (D : ZipApart z TI TO i1 i2 l1 l2) (O : ZOff z TI TO i1 i2 l1 l2 S) (lz : z < S) (lT : TO < S) (lj : i1 < S) (lk : i2 < S) (st : ZSt s.heap z TI TO i1 i2 l1 l2 S us vs 0) (hz : IsZip s.heap z TI TO .none)
    (res : Value) (c₀ : Nat) (hS : s.heap.get? S = some { cls := .type "list", data := .seq #[] c₀ })
    (hR : ∀ h' tk acc c ps, (∀ b o, b ≠ S → b ≠ z → b ≠ TO → b ≠ i1 → b ≠ i2 → s.heap.get? b = some o → h'.get? b = some o) → h'.get? S = some (lstO acc c) → ps.length = min us.size vs.size → ZG us vs S h' ps →
      acc.toList = ps.map Value.ref → R (.ok (.ret res)) { s with heap := h', toks := tk }) (hn : min us.size vs.size ≤ sizeLine) :
    wpAny (model prog w) A.in1 (Builtin.List.listExtendWith (.ref S) (.ref z) res)
      (fun end' t => match end' with | .done y => R (.ok y) t | .again more => more.quiet = true ∧ codeAny (model prog w) A more R t) (fun x t => R (.error x) t) s := by
  have hT : s.TypeIs (.ref z) "zip" := ⟨_, hz, rfl⟩
  have key : ∀ (h : Heap) (c₁ tk : Nat), (∀ b o, b ≠ S → s.heap.get? b = some o → h.get? b = some o) → h.get? S = some { cls := .type "list", data := .seq #[] c₁ } →
      codeAny (model prog w) A (.builtin "list.extend.loop" ⟨[.ref S, .ref z, res], []⟩) R { s with heap := h, toks := tk } := by
    intro h c₁ tk k g
    exact zs_loop (s := s) (h₁ := s.heap) hh D O lz lT lj lk hn res hR _ 0 h tk c₁ #[] [] rfl (Nat.zero_le _) (st.keep O k) (fun b o g1 _ _ _ _ e => k b o g1 e) g rfl rfl ⟨List.Pairwise.nil, fun _ q => (nomatch q), fun j p q => by simp at q⟩ (Heap.lt_size g)
  unfold Builtin.List.listExtendWith
  refine wpAny_bind (wpAny_typeOf (T := "zip") hT ?_)
  have q1 : Builtin.List.listSameRef (.ref S) (.ref z) = false := by simp [Builtin.List.listSameRef, O.z]
  have q2 : (Value.type "zip" == Value.type "list") = false := by decide
  have q3 : (Value.type "zip" == Value.type "tuple") = false := by decide
  simp only [q1, q2, q3, Bool.or_false, Bool.false_eq_true, if_false]
  refine wpAny_bind (wpAny_pyIter_zip hz ?_)
  refine wpAny_bind (wpAny_holding (zs_hint hT ?_))
  refine wpAny_ite_split (fun _ => ?_) (fun q => absurd (by simp) q)
  refine wpAny_bind (wpAny_rule ?_)
  refine wpAny_bind ?_
  show wpAny _ _ (updateSeq S (·.push .none) >>= fun _ => updateSeq S (·.pop)) _ _ _
  refine wpAny_bind (wpAny_updateSeq hS rfl ?_)
  have g2 := Heap.get?_update_self (Obj.mapSeq (·.push Value.none)) hS rfl
  refine wpAny_updateSeq (hz := by seq_fits) g2 rfl ?_
  have g3 := Heap.get?_update_self (Obj.mapSeq (·.pop)) g2 rfl
  refine wpAny_pure ⟨plainId_quiet PySem.F.plain_extend_loop _, key _ _ _ (fun b o hb e => ?_) g3⟩
  exact (Heap.get?_update_other _ _ (Ne.symm hb)).trans ((Heap.get?_update_other _ _ (Ne.symm hb)).trans e)
theorem zs_init {R : Result → Shared → Prop} (hh : A.handled = none) (D : ZipApart z TI TO i1 i2 l1 l2) (O : ZOff z TI TO i1 i2 l1 l2 S) (lz : z < S) (lT : TO < S) (lj : i1 < S) (lk : i2 < S) (st : ZSt s.heap z TI TO i1 i2 l1 l2 S us vs 0) (hz : IsZip s.heap z TI TO .none)
    (hS : s.heap.get? S = some { cls := .type "list", data := .seq #[] })
    (hR : ∀ h' tk acc c ps, (∀ b o, b ≠ S → b ≠ z → b ≠ TO → b ≠ i1 → b ≠ i2 → s.heap.get? b = some o → h'.get? b = some o) → h'.get? S = some (lstO acc c) → ps.length = min us.size vs.size → ZG us vs S h' ps →
      acc.toList = ps.map Value.ref → R (.ok (.ret .none)) { s with heap := h', toks := tk }) (hn : min us.size vs.size ≤ sizeLine) :
    wpAny (model prog w) A.in1 (Builtin.«list.__init__» ⟨[.ref S, .ref z], []⟩)
      (fun end' t => match end' with | .done y => R (.ok y) t | .again more => more.quiet = true ∧ codeAny (model prog w) A more R t) (fun x t => R (.error x) t) s := by
  show wpAny _ _ (do let was ← Builtin.List.listItems (.ref S); Builtin.List.listUpdate (.ref S) (fun _ => #[]); letGo was.toList.reverse; Builtin.List.listExtendWith (.ref S) (.ref z) .none) _ _ s
  refine wpAny_bind ?_
  unfold Builtin.List.listItems
  refine wpAny_bind (wpAny_seqItems hS rfl (wpAny_pure ?_))
  show wpAny _ _ (updateSeq S (fun _ => #[]) >>= fun _ => letGo (#[] : Array Value).toList.reverse >>= fun _ => Builtin.List.listExtendWith (.ref S) (.ref z) .none) _ _ s
  refine wpAny_bind (wpAny_updateSeq hS rfl ?_)
  have g2 := Heap.get?_update_self (Obj.mapSeq (fun _ => (#[] : Array Value))) hS rfl
  have oth : ∀ b o, b ≠ S → s.heap.get? b = some o → (s.heap.update S (Obj.mapSeq (fun _ => (#[] : Array Value)))).get? b = some o := fun b o hb e => (Heap.get?_update_other _ _ (Ne.symm hb)).trans e
  refine wpAny_bind (wpAny_letGo ?_)
  exact zs_extend (us := us) (vs := vs) hh D O lz lT lj lk (st.keep O oth) (oth _ _ (Ne.symm O.z) hz) .none _ g2 (fun h' tk acc c ps k q1 q2 q3 q4 => hR h' tk acc c ps (fun b o y1 y2 y3 y4 y5 e => k b o y1 y2 y3 y4 y5 (oth b o y1 e)) q1 q2 q3 q4) hn
theorem zs_call {Q : Value → Shared → Prop} (hh : A.handled = none) (D : ZipApart z TI TO i1 i2 l1 l2) (lz : z < s.heap.objs.size) (lI : TI < s.heap.objs.size) (lT : TO < s.heap.objs.size) (lj : i1 < s.heap.objs.size) (lk : i2 < s.heap.objs.size) (la : l1 < s.heap.objs.size) (lb : l2 < s.heap.objs.size)
    (st : IsPair s.heap TI (.ref i1) (.ref i2) ∧ s.heap.IsListIter i1 l1 0 ∧ s.heap.IsListIter i2 l2 0 ∧ s.heap.IsList l1 us ∧ s.heap.IsList l2 vs) (hz : IsZip s.heap z TI TO .none) (hTO : ∃ p q, IsPair s.heap TO p q) (hn : min us.size vs.size ≤ sizeLine)
    (hQ : ∀ h' tk acc c ps, (∀ b o, b ≠ z → b ≠ TO → b ≠ i1 → b ≠ i2 → s.heap.get? b = some o → h'.get? b = some o) → h'.get? s.heap.objs.size = some (lstO acc c) → ps.length = min us.size vs.size → ZG us vs s.heap.objs.size h' ps →
      acc.toList = ps.map Value.ref → Q (.ref s.heap.objs.size) { s with heap := h', toks := tk }) :
    wpAny (model prog w) A (call (.type "list") [.ref z]) Q E s := by
  refine callType_codes (Q₁ := fun ob t => ob = .ref s.heap.objs.size ∧ t = { s with heap := s.heap.push { cls := .type "list", data := .seq #[] } }) PySem.F.called_list (PySem.F.typeCall_list_1 _) PySem.F.entry_list_init
    (code_list_new _ ⟨rfl, rfl⟩) fun ob t both => ?_
  obtain ⟨rfl, rfl⟩ := both
  have gS : (s.heap.push { cls := .type "list", data := .seq #[] }).get? s.heap.objs.size = some { cls := .type "list", data := .seq #[] } := Heap.get?_push_size _ rfl
  have up : ∀ b o, s.heap.get? b = some o → (s.heap.push { cls := .type "list", data := .seq #[] }).get? b = some o := fun b o e => Heap.get?_push_of_some _ e
  obtain ⟨a1, a2, a3, a4, a5⟩ := st
  obtain ⟨p, q, a6⟩ := hTO
  refine ⟨⟨_, gS, rfl⟩, PySem.F.args_list_init_2 _ _, zs_init (us := us) (vs := vs) (A := A.in1) hh D ⟨Nat.ne_of_gt lz, Nat.ne_of_gt lI, Nat.ne_of_gt lT, Nat.ne_of_gt lj, Nat.ne_of_gt lk, Nat.ne_of_gt la, Nat.ne_of_gt lb⟩ lz lT lj lk
    ⟨up _ _ a1, a2.at fun o e => up _ o e, a3.at fun o e => up _ o e, a4.at fun o e => up _ o e, a5.at fun o e => up _ o e, .inl ⟨up _ _ hz, p, q, up _ _ a6⟩⟩ (up _ _ hz) gS (fun h' tk acc c ps k q1 q2 q3 q4 => ?_) hn⟩
  exact ⟨rfl, hQ h' tk acc c ps (fun b o y2 y3 y4 y5 e => k b o (Nat.ne_of_lt (Heap.lt_size e)) y2 y3 y4 y5 (up _ _ e)) q1 q2 q3 q4⟩
end
/-- the pairs tracked -/
def putZ : Hp → List Addr → List (V × V) → Hp
  | H, p :: ps, e :: es => putZ (upd H p (.tup [e.1, e.2])) ps es
  | H, _, _ => H
theorem putZ_off {b : Addr} : ∀ (ps : List Addr) (es : List (V × V)) (H : Hp), b ∉ ps → putZ H ps es b = H b
  | [], _, _, _ => rfl
  | _ :: _, [], _, _ => rfl
  | p :: ps, e :: es, H, h => by
    show putZ (upd H p (.tup [e.1, e.2])) ps es b = H b
    rw [putZ_off ps es _ fun q => h (List.mem_cons_of_mem _ q), upd_ne fun q => h (by rw [q]; exact List.mem_cons_self)]
theorem putZ_at : ∀ (ps : List Addr) (es : List (V × V)) (H : Hp), ps.length = es.length → ps.Nodup → Paired (fun (t : Addr) (e : V × V) => putZ H ps es t = some (.tup [e.1, e.2])) ps es
  | [], [], _, _, _ => .nil
  | [], _ :: _, _, h, _ => by cases h
  | _ :: _, [], _, h, _ => by cases h
  | p :: ps, e :: es, H, h, hn => by
    have hc := List.nodup_cons.mp hn
    refine .cons ?_ (putZ_at ps es (upd H p (.tup [e.1, e.2])) (Nat.succ.inj h) hc.2)
    show putZ (upd H p (.tup [e.1, e.2])) ps es p = some (.tup [e.1, e.2])
    rw [putZ_off ps es _ hc.1, upd_same]
theorem vals_at {xs : List V} : ∀ {us : List Value}, Vals xs us → ∀ {i : Nat} {u : Value}, us[i]? = some u → ∃ x, xs[i]? = some x ∧ RelV x u := by
  induction xs with
  | nil =>
    intro us r i u h
    cases r
    simp at h
  | cons x xs ih =>
    intro us r i u h
    cases r with
    | cons r1 r2 =>
      cases i with
      | zero =>
        simp only [List.getElem?_cons_zero, Option.some.injEq] at h
        subst h
        exact ⟨x, rfl, r1⟩
      | succ i =>
        simp only [List.getElem?_cons_succ] at h
        exact ih r2 h
def rZipL (K : PySem.W.Frag) : List V → Hp → VK → Prop := fun vs H Q => ∃ a b xs ys, vs = [.ref a, .ref b] ∧ SqL K H a xs ∧ SqL K H b ys ∧
  ∀ (H' : Hp) (p : Addr) (ts : List Addr), (∀ b o, H b = some o → H' b = some o) → H p = none → (∀ t ∈ ts, H t = none) → p ∉ ts → H' p = some (.lst (ts.map V.ref)) → Paired (fun (t : Addr) (e : V × V) => H' t = some (.tup [e.1, e.2])) ts (xs.zip ys) → Q (.ref p) H'
def tListZip (K : PySem.W.Frag) (t : TA) : TE := fun σ H Q => t σ H fun vs H1 => rZipL K vs H1 Q
section
variable {X : Cx} {e e2 : Expr} {t : TA} {p q pos pos2 : Pos}
theorem pairs_laid {pins : List (Addr × Obj)} {σ : L2.St} {H : Hp} {s : Shared} {h' : Heap} {tk : Nat} {xs ys : List V} {us vs : List Value} {acc : Array Value} {c : Nat} {ps : List Addr} {S : Addr} (I : Inv X pins σ H s) (rx : Vals xs us) (ry : Vals ys vs) (zx : xs.length ≤ sizeLine)
    (hk : ∀ b o, s.heap.get? b = some o → h'.get? b = some o) (lo : s.heap.objs.size ≤ S) (hS : h'.get? S = some (lstO acc c)) (hl : ps.length = min us.toArray.size vs.toArray.size) (g : ZG us.toArray vs.toArray S h' ps) (hacc : acc.toList = ps.map Value.ref) :
    ∃ H' : Hp, (∀ b o, H b = some o → H' b = some o) ∧ H S = none ∧ (∀ t ∈ ps, H t = none) ∧ S ∉ ps ∧ H' S = some (.lst (ps.map V.ref)) ∧ Paired (fun (t : Addr) (e : V × V) => H' t = some (.tup [e.1, e.2])) ps (xs.zip ys) ∧ Inv X pins σ H' { s with heap := h', toks := tk } := by
  have lx := rx.length
  have ly := ry.length
  have lz : ps.length = (xs.zip ys).length := by
    rw [hl, List.length_zip, lx, ly, List.size_toArray, List.size_toArray]
  have nS : S ∉ ps := fun y => Nat.lt_irrefl _ (g.over _ y)
  have nd : ps.Nodup := List.Pairwise.imp (fun {a b} (h : a < b) => Nat.ne_of_lt h) g.up
  have new : ∀ t ∈ ps, H t = none := fun t ht => I.hok.fresh (Nat.le_of_lt (Nat.lt_of_le_of_lt lo (g.over t ht)))
  have newS : H S = none := I.hok.fresh lo
  have atP := putZ_at ps (xs.zip ys) (upd H S (.lst (ps.map V.ref))) lz nd
  have off : ∀ b, b ∉ ps → b ≠ S → putZ (upd H S (.lst (ps.map V.ref))) ps (xs.zip ys) b = H b := fun b h1 h2 => by rw [putZ_off ps _ _ h1, upd_ne h2]
  have low : ∀ b o, s.heap.get? b = some o → b ∉ ps ∧ b ≠ S := fun b o e => ⟨fun y => absurd (Heap.lt_size e) (Nat.not_lt.mpr (Nat.le_of_lt (Nat.lt_of_le_of_lt lo (g.over b y)))), fun y => absurd (Heap.lt_size e) (Nat.not_lt.mpr (by rw [y]; exact lo))⟩
  have kp : ∀ b u, H b = some u → (putZ (upd H S (.lst (ps.map V.ref))) ps (xs.zip ys)) b = some u := fun b u e => by
    rw [off b (fun y => by rw [new b y] at e; cases e) (fun y => by rw [y, newS] at e; cases e)]
    exact e
  have eS : putZ (upd H S (.lst (ps.map V.ref))) ps (xs.zip ys) S = some (.lst (ps.map V.ref)) := by rw [putZ_off ps _ _ nS, upd_same]
  refine ⟨putZ (upd H S (.lst (ps.map V.ref))) ps (xs.zip ys), kp, newS, new, nS, eS, atP, ?_⟩
  refine I.call' (ch := []) rfl ⟨fun b o y _ _ _ => hk b o y, fun b o y _ _ _ => ⟨o.slots, hk b o y⟩, fun b o y n _ => ?_, fun b o y _ => ⟨o, hk b o y⟩, fun b xs y => kp b _ y, fun b o u y => kp b _ y, fun b ps y => ⟨#[], by rw [kp b _ y]; simp⟩⟩ (fun b u y => ?_) I.bare fun b y => by simp at y
  · obtain ⟨z1, z2⟩ := low b o y
    rw [off b z1 z2]
    exact n
  · by_cases hb : b ∈ ps
    · obtain ⟨j, pk, e1, e2, e3⟩ := LiI.paired_ix atP hb
      rw [e3] at y
      cases y
      obtain ⟨x1, y1, f1, f2, f3⟩ := g.told j b e1
      rw [List.getElem?_toArray] at f1 f2
      obtain ⟨v1, k1, r1⟩ := vals_at rx f1
      obtain ⟨v2, k2, r2⟩ := vals_at ry f2
      have ez : pk = (v1, v2) := by
        rw [List.getElem?_zip_eq_some] at e2
        obtain ⟨w1, w2⟩ := e2
        rw [k1] at w1
        rw [k2] at w2
        exact Prod.ext (Option.some.inj w1).symm (Option.some.inj w2).symm
      subst ez
      exact ⟨by show 2 ≤ sizeLine; decide, [x1, y1], .cons r1 (.cons r2 .nil), ⟨_, f3, rfl, _, rfl⟩⟩
    · by_cases hb2 : b = S
      · rw [hb2] at y ⊢
        rw [eS] at y
        cases y
        refine ⟨by rw [List.length_map, lz, List.length_zip]; omega, acc.toList, c, by rw [hacc]; exact LiI.vals_refs ps, ?_⟩
        rw [Array.toArray_toList]
        exact hS
      · rw [off b hb hb2] at y
        exact (I.hok b u y).stay (fun d v _ q => hk d v q) (fun d q => kp d _ q) fun d xs q => kp d _ q
/-- list(zip(e, e2)) -/
theorem pe_listZip (hc : X.calm = true) (hg : Gl X "list") (hm : X.mg "list" = none) (hv : bootBuiltins "list" = some (.type "list")) (hg2 : Gl X "zip") (hm2 : X.mg "zip" = none) (ha : PA X [e, e2] t)
    (hs2 : starEach [e, e2] X.env = (false, eval e X.env) :: starEach [e2] X.env := by rfl) (hpl : (backTo pos2 (starEach [e2] X.env)).any (·.1) = false := by rfl)
    (hs : starEach [.Call (.Name "zip" q) [e, e2] [] pos2] X.env = (false, eval (.Call (.Name "zip" q) [e, e2] [] pos2) X.env) :: starEach [] X.env := by rfl) :
    PE X (.Call (.Name "list" p) [.Call (.Name "zip" q) [e, e2] [] pos2] [] pos) (tListZip X.K t) := by
  refine ⟨fun pins s σ H Q I hq => ?_⟩
  refine wpAny_Call_Name_kw (ld_blt I hg hm hv ?_)
  refine PyProof.Rows.callWith_type1 ?_ hs rfl
  rw [hs]
  show wpAny _ _ (spliced ((false, eval (.Call (.Name "zip" q) [e, e2] [] pos2) X.env) :: backTo pos (starEach [] X.env))) _ _ s
  refine Calls.spliced_cons ?_
  refine wpAny_Call_Name_kw (ld_blt I hg2 hm2 PyProof.Rows.boot_zip ?_)
  refine PyProof.Rows.callWith_type1 (thn (ha.run pos2 pins s σ H _ I hq) fun us s1 ⟨vs, H1, I1, r1, q1⟩ => ?_) hs2 hpl
  obtain ⟨a, b, xs, ys, ex, hqx, hqy, w⟩ := q1
  subst ex
  cases r1 with
  | cons r rr =>
    cases rr with
    | cons r' rr =>
      cases rr
      cases r
      cases r'
      obtain ⟨its, rv, p1, zx⟩ := I1.list hqx
      obtain ⟨its2, rv2, p2, _⟩ := I1.list hqy
      have la : a < s1.heap.objs.size := p1.lt
      have lb : b < s1.heap.objs.size := p2.lt
      refine call_zip_2 p1.isList p2.isList fun h' hz hTI hTO h1 h2 hsz hk => ?_
      refine Calls.spliced_nil ?_
      have len : min its.toArray.size its2.toArray.size ≤ sizeLine := by
        have := rv.length
        rw [List.size_toArray, List.size_toArray]
        omega
      have lt : ∀ {k : Nat}, k < 5 → s1.heap.objs.size + k < h'.objs.size := fun hk5 => by rw [hsz]; omega
      refine zs_call (s := { s1 with heap := h' }) (us := its.toArray) (vs := its2.toArray) (I1.ok.hd hc) (PySem.W.ktu_apart s1.heap.objs.size a b la lb) (lt (k := 4) (by decide)) (lt (k := 2) (by decide)) (lt (k := 3) (by decide)) (lt (k := 0) (by decide)) (lt (k := 1) (by decide)) (by show a < h'.objs.size; rw [hsz]; exact Nat.lt_of_lt_of_le la (Nat.le_add_right _ 5)) (by show b < h'.objs.size; rw [hsz]; exact Nat.lt_of_lt_of_le lb (Nat.le_add_right _ 5))
        ⟨hTI, h1, h2, p1.isList.at fun o e => hk _ o e, p2.isList.at fun o e => hk _ o e⟩ hz ⟨_, _, hTO⟩ len fun h2' tk acc c ps k2 g1 g2 g3 g4 => ?_
      have hk2 : ∀ b o, s1.heap.get? b = some o → h2'.get? b = some o := fun b o e => by
        have lt := Heap.lt_size e
        exact k2 b o (Nat.ne_of_lt (Nat.lt_of_lt_of_le lt (Nat.le_add_right _ 4))) (Nat.ne_of_lt (Nat.lt_of_lt_of_le lt (Nat.le_add_right _ 3))) (Nat.ne_of_lt lt) (Nat.ne_of_lt (Nat.lt_of_lt_of_le lt (Nat.le_add_right _ 1))) (hk b o e)
      obtain ⟨H', j1, j2, j3, j4, j5, j6, J⟩ := pairs_laid (tk := tk) I1 rv rv2 zx hk2 (by show s1.heap.objs.size ≤ h'.objs.size; rw [hsz]; exact Nat.le_add_right _ 5) g1 g2 g3 g4
      exact ⟨.ref _, H', J, rfl, w H' _ ps j1 j2 j3 j4 j5 j6⟩
end
end Wz
end
-- URel
section
set_option Elab.async false
set_option linter.all false
set_option maxRecDepth 100000
set_option maxHeartbeats 1000000
namespace K1
open PySem PySem.Spec PyProof.Rows L2 W0
abbrev R6 : RelE := NextF (NextF (NextF (NextF (NextF (NextF fun _ _ _ => False)))))
def kw1 : List V → List V → List V := fun _ zs => [zs.getD 0 .non]
def kw1v : List Value → List Value → List Value := fun _ zs => [zs.getD 0 .none]
/-- the second by the first name, the first by the second -/
def kwBA : List V → List V → List V := fun _ zs => [zs.getD 1 .non, zs.getD 0 .non]
def kwBAv : List Value → List Value → List Value := fun _ zs => [zs.getD 1 .none, zs.getD 0 .none]
theorem r_str {R : RelE} {H : Hp} (s : Str) : NextF R H (.str s) (.str s) := .inl ⟨rfl, .inr (.inr (.inl ⟨s, rfl⟩))⟩
theorem r_int {R : RelE} {H : Hp} (i : Int) : NextF R H (.int i) (.int i) := .inl ⟨rfl, .inl ⟨i, rfl⟩⟩
theorem r_bl {R : RelE} {H : Hp} (b : Bool) : NextF R H (.bl b) (.bl b) := .inl ⟨rfl, .inr (.inl ⟨b, rfl⟩)⟩
theorem r_strs {R : RelE} {H : Hp} : ∀ ss : List Str, Paired (NextF R H) (ss.map V.str) (ss.map V.str)
  | [] => .nil
  | s :: ss => .cons (r_str s) (r_strs ss)
theorem r_ints {R : RelE} {H : Hp} : ∀ ss : List Int, Paired (NextF R H) (ss.map V.int) (ss.map V.int)
  | [] => .nil
  | s :: ss => .cons (r_int s) (r_ints ss)
theorem r_lists {R : RelE} {H : Hp} {p q : Addr} {xs ys : List V} (h1 : H p = some (.lst xs)) (h2 : H q = some (.lst ys)) (l : xs.length ≤ 100) (r : Paired (R H) xs ys) : NextF R H (.ref p) (.ref q) := .inr (.inl ⟨p, q, xs, ys, rfl, rfl, .inl ⟨h1, h2⟩, l, r⟩)
theorem r_tups {R : RelE} {H : Hp} {p q : Addr} {xs ys : List V} (h1 : H p = some (.tup xs)) (h2 : H q = some (.tup ys)) (l : xs.length ≤ 100) (r : Paired (R H) xs ys) : NextF R H (.ref p) (.ref q) := .inr (.inl ⟨p, q, xs, ys, rfl, rfl, .inr ⟨h1, h2⟩, l, r⟩)
theorem r_pairs {R : RelE} {H : Hp} : ∀ {as bs : List Addr} {rs : List (Str × Str)}, Paired (TupP H) as rs → Paired (TupP H) bs rs → Paired (NextF (NextF R) H) (as.map V.ref) (bs.map V.ref)
  | _, _, _, .nil, .nil => .nil
  | _, _, _, .cons f1 g1, .cons f2 g2 => .cons (r_tups f1 f2 (by show 2 ≤ 100; decide) (.cons (r_str _) (.cons (r_str _) .nil))) (r_pairs g1 g2)
theorem r_non {R : RelE} {H : Hp} : NextF R H .non .non := .inl ⟨rfl, .inr (.inr (.inr rfl))⟩
/-! dicts that hold the same -/
def FlatKV (R : RelE) (e : Key × V) : Prop := ∀ H, R H (kV e.1) (kV e.1) ∧ R H e.2 e.2
theorem r_items {R : RelE} {H : Hp} : ∀ {as bs : List Addr} {kvs : List (Key × V)}, (∀ e ∈ kvs, FlatKV R e) → Paired (fun (t : Addr) (e : Key × V) => H t = some (.tup [kV e.1, e.2])) as kvs → Paired (fun (t : Addr) (e : Key × V) => H t = some (.tup [kV e.1, e.2])) bs kvs → Paired (NextF R H) (as.map V.ref) (bs.map V.ref)
  | _, _, _, _, .nil, .nil => .nil
  | _, _, _, h, .cons f1 g1, .cons f2 g2 => .cons (r_tups f1 f2 (by show 2 ≤ 100; decide) (.cons (h _ (List.mem_cons_self ..) H).1 (.cons (h _ (List.mem_cons_self ..) H).2 .nil))) (r_items (fun e he => h e (List.mem_cons_of_mem _ he)) g1 g2)
theorem r_dct {R : RelE} {H : Hp} {p q : Addr} {kvs : List (Key × V)} (h1 : H p = some (.dK kvs)) (h2 : H q = some (.dK kvs)) (l : kvs.length ≤ 100) (fl : ∀ e ∈ kvs, FlatKV R e) : NextF (NextF (NextF R)) H (.ref p) (.ref q) :=
  .inr (.inr ⟨p, q, kvs, rfl, rfl, h1, h2, fun H' a b as bs e ha hb pa pb => r_lists ha hb (by rw [List.length_map, pa.length]; exact l) (r_items fl pa pb)⟩)
theorem r_dct0 {R : RelE} {H : Hp} {p q : Addr} (h1 : H p = some (.dK [])) (h2 : H q = some (.dK [])) : NextF (NextF R) H (.ref p) (.ref q) :=
  .inr (.inr ⟨p, q, [], rfl, rfl, h1, h2, fun H' a b as bs e ha hb pa pb => by
    cases pa
    cases pb
    exact r_lists ha hb (by show 0 ≤ 100; decide) .nil⟩)
/-! what is handed to the askers: no Valley, no number; the same as itself -/
abbrev R4v : RelE := NextF (NextF (NextF (NextF fun _ _ _ => False)))

theorem asg_run {te : TE} {g : TG} {D : Ends} {σ : L2.St} {H : Hp} (h : te σ H fun x H1 => g x σ H1 D.nx) : tAsg te g D σ H := h
theorem cb_run {r : List V → Hp → VK → Prop} {t : TA} {σ : L2.St} {H : Hp} {Q : VK} (h : t σ H fun vs H1 => r vs H1 Q) : tCB r t σ H Q := h
theorem call_run {sp : Sp} {dvs : List V} {E : XK} {t : TA} {σ : L2.St} {H : Hp} {Q : VK} (h : t σ H fun vs H1 => sp (vs ++ dvs) H1 Q E) : tCall sp dvs E t σ H Q := h
theorem flat_ii {R : RelE} (i j : Int) : FlatKV (NextF R) ((.inl i, .int j) : Key × V) := fun H => ⟨r_int i, r_int j⟩
theorem flat_si {R : RelE} (s : Str) (i : Int) : FlatKV (NextF R) ((.inr s, .int i) : Key × V) := fun H => ⟨r_str s, r_int i⟩
theorem flat_dQ {R : RelE} (c : List (Nat × Nat)) : ∀ e ∈ dQ c, FlatKV (NextF R) e := fun e he => by
  obtain ⟨x, _, rfl⟩ := List.mem_map.mp he
  exact flat_ii _ _
theorem r_dQ {R : RelE} {H : Hp} {p q : Addr} {c : List (Nat × Nat)} (h1 : H p = some (.dK (dQ c))) (h2 : H q = some (.dK (dQ c))) (l : c.length ≤ 100) : NextF (NextF (NextF (NextF R))) H (.ref p) (.ref q) :=
  r_dct h1 h2 (by rw [dQ_len]; exact l) (flat_dQ c)
/-! dicts put in order -/
theorem sort_uniq {xs ys : List Nat} (p : xs.Perm ys) (h1 : xs.Pairwise (· ≤ ·)) (h2 : ys.Pairwise (· ≤ ·)) : xs = ys :=
  p.eq_of_pairwise (fun a b _ _ l1 l2 => Nat.le_antisymm l1 l2) h1 h2
theorem pair_nat {ys : List Nat} (h : (ys.map fun k : Nat => ((k : Nat) : Int)).Pairwise (· ≤ ·)) : ys.Pairwise (· ≤ ·) := by
  rw [List.pairwise_map] at h
  exact h.imp fun l => Int.ofNat_le.mp l
theorem merge_dQ {c : List (Nat × Nat)} (n : NoTw c) : mergeK [] (dQ c) = dQ c := by
  rw [merge_new (fun p _ => by simp), List.nil_append]
  unfold dQ
  rw [List.map_map]
  have : (c.map (Prod.fst ∘ fun e : Nat × Nat => ((.inl ((e.1 : Nat) : Int) : Key), V.int ((e.2 : Nat) : Int)))) = (c.map (·.1)).map fun k : Nat => (.inl ((k : Nat) : Int) : Key) := by
    rw [List.map_map]
    rfl
  rw [this]
  exact List.Pairwise.map _ (fun a b (h : a ≠ b) z => h (inlN.mp z)) n
theorem dBy_len (c : List (Nat × Nat)) (ys : List Nat) : (dBy c ys).length = ys.length := List.length_map ..
theorem due_lc {K : PySem.W.Frag} {ts : TE} {σ : L2.St} {H : Hp} {Q : VK} {d i : Nat} {C : Addr} {c : List (Nat × Nat)} (nt : NoTw c) (lc : c.length < 64) (hC : H C = some (.dK (dQ c)))
    (hts : ∀ Q' : VK, (∀ (ns : List Int) p, ns.Perm ((c.map (·.1)).map fun k : Nat => ((k : Nat) : Int)) → ns.Pairwise (· ≤ ·) → H p = none → Q' (.ref p) (L2.upd H p (.lst (ns.map V.int)))) → ts σ H Q')
    (hw : ∀ v : V, (((wipe σ [i]).set i (some v))[i]? = some (some v) ∧ ((wipe σ [i]).set i (some v))[d]? = some (some (.ref C))) ∧ wipe ((wipe σ [i]).set i (some v)) [i] = wipe σ [i])
    (q : ∀ D H' ds ys, Same H H' → H D = none → H' D = some (.lst (ds.map V.ref)) → Paired (fun (t : Addr) (e : Key × V) => H' t = some (.tup [kV e.1, e.2])) ds (dQ (dBy c ys)) → ys.Perm (c.map (·.1)) → ys.Pairwise (· ≤ ·) → Q (.ref D) H') :
    tLc (iList K ts) (gName i) tYes (tTup (tCons (tVar i) (tCons (tDGet (tVar d) (tVar i)) tNil))) [i] σ H Q := by
  refine hts _ fun ns p pm pw hp => ?_
  obtain ⟨ys, rfl, pys⟩ := keys_nat pm
  have e1 := K1.Same.upd (H := H) (p := p) (o := .lst ((ys.map fun k : Nat => ((k : Nat) : Int)).map V.int)) hp
  have gp := upd_same' H p (.lst ((ys.map fun k : Nat => ((k : Nat) : Int)).map V.int))
  generalize L2.upd H p (.lst ((ys.map fun k : Nat => ((k : Nat) : Int)).map V.int)) = H1 at e1 gp ⊢
  refine ⟨p, rfl, ⟨_, SqL.of gp⟩, fun D hD => ?_⟩
  have ly : ys.length < 64 := by have := pys.length_eq; rw [List.length_map] at this; omega
  refine lc_it (Qd := _) walk_list (fun j Hc => Same H1 Hc ∧ ∃ ds : List Addr, Hc D = some (.lst (ds.map V.ref)) ∧ Paired (fun (t : Addr) (e : Key × V) => Hc t = some (.tup [kV e.1, e.2])) ds (dQ (dBy c (ys.take j))))
    ⟨K1.Same.upd hD, [], upd_same, .nil⟩ (fun j Hc _ h => SqL.of (h.1 _ _ gp)) ?_ ?_
  · rintro j v Hc H' hj ⟨c1, ds, c2, c3⟩ ⟨rfl, hv⟩
    rw [List.length_map, List.length_map] at hj
    have hv : ((ys.map fun k : Nat => ((k : Nat) : Int)).map V.int)[j]? = some v := hv
    have ev : v = .int ((ys[j] : Nat) : Int) := by
      rw [List.getElem?_map, List.getElem?_map, List.getElem?_eq_getElem hj] at hv
      exact (Option.some.inj hv).symm
    subst ev
    obtain ⟨⟨wi, wd⟩, ww⟩ := hw (.int ((ys[j] : Nat) : Int))
    refine ⟨ww, ?_⟩
    unfold tYes
    obtain ⟨y, hy⟩ := getN_key (pys.mem_iff.mp (List.getElem_mem hj))
    have dg := DGet.k (k := .inl ((ys[j] : Nat) : Int)) (c1 _ _ (e1 _ _ hC))
    rw [dQ_val, hy] at dg
    refine iteT ⟨_, wi, _, wd, _, wi, C, .int ((y : Nat) : Int), rfl, dg, (by show 2 ≤ sizeLine; decide), fun u hu => ?_⟩
    have uD : u ≠ D := fun z => by rw [z, c2] at hu; cases hu
    have ld : ds.length ≤ 1000 := by
      have := c3.length
      rw [dQ_len, dBy_len, List.length_take] at this
      omega
    have kd : Kept D H' (L2.upd (L2.upd H' u (.tup [.int ((ys[j] : Nat) : Int), .int ((y : Nat) : Int)])) D (.lst (ds.map V.ref ++ [.ref u]))) := (Kept.new hu).trans Kept.upd
    refine ⟨ds.map V.ref, by rw [upd_ne uD.symm]; exact c2, by rw [List.length_map]; exact small1000 ld, fun b o n => kd b o (ne_of_none n hD) (c1 b o n), ds ++ [u], by rw [upd_same, List.map_append]; rfl, ?_⟩
    have st : dQ (dBy c (ys.take (j + 1))) = dQ (dBy c (ys.take j)) ++ [((.inl ((ys[j] : Nat) : Int) : Key), V.int ((y : Nat) : Int))] := by
      rw [take_snoc hj]
      unfold dBy dQ
      rw [List.map_append, List.map_append, List.map_cons, List.map_nil, List.map_cons, List.map_nil, hy]
      rfl
    rw [st]
    exact snoc_paired (by show L2.upd _ _ _ u = _; rw [upd_ne uD, upd_same]; rfl) c3 (fun y kv _ ey => kd _ _ (fun z => by rw [z, c2] at ey; cases ey) ey)
  · rintro Hc ⟨c1, ds, c2, c3⟩
    rw [List.length_map, List.length_map, List.take_length] at c3
    exact q D Hc ds ys (e1.trans c1) (e1.free hD) c2 c3 pys (pair_nat pw)
end K1
end
-- UFnd
section
set_option Elab.async false
set_option linter.all false
set_option maxRecDepth 100000
set_option maxHeartbeats 1000000
namespace K1
open PySem PySem.Spec PyProof.Rows L2 W0
/-! an asker that is refused: a new pair -/
theorem met_valley {TT : List (Addr × Str)} {CV CN : Addr} {t : XK → TE} {σ : L2.St} {H : Hp} {Q : VK} {v : V} (tb : LamX.Tabs TT H) (hg : ∀ H1, LamX.ExtN H H1 → ∀ (E : XK) (Q' : VK), GoesF CV [("thing", v)] H1 E → t E σ H1 Q')
    (hq : ∀ p H', LamX.ExtN H H' → LamX.Tabs TT H' → (∀ o, H p = some o → ∃ ps, o = .tbl ps) → H' p = some (.tup [.str "valley", v]) → Q (.ref p) H') : LamX.tLam TT (TMt CV CN) t σ H Q := by
  refine ⟨tb, fun H1 eN T1 => hg H1 eN _ _ fun d H2 e nd hx => .inl ⟨rfl, d, v, rfl, hx, fun p hp => hq p _ ?_ ?_ (fun o ho => ?_) upd_same⟩⟩
  · exact eN.trans (LamX.ExtN.of (e.trans (K1.Same.upd hp)))
  · exact T1.ext (e.trans (K1.Same.upd hp))
  · cases o with
    | tbl ps => exact ⟨ps, rfl⟩
    | _ =>
      have h2 := e _ _ (eN p _ ho fun ps z => by cases z)
      rw [hp] at h2
      cases h2
theorem met_house {TT : List (Addr × Str)} {CV CN : Addr} {t : XK → TE} {σ : L2.St} {H : Hp} {Q : VK} {v : V} (tb : LamX.Tabs TT H) (hg : ∀ H1, LamX.ExtN H H1 → ∀ (E : XK) (Q' : VK), GoesF CN [("house", v)] H1 E → t E σ H1 Q')
    (hq : ∀ p H', LamX.ExtN H H' → LamX.Tabs TT H' → (∀ o, H p = some o → ∃ ps, o = .tbl ps) → H' p = some (.tup [.str "house", v]) → Q (.ref p) H') : LamX.tLam TT (TMt CV CN) t σ H Q := by
  refine ⟨tb, fun H1 eN T1 => hg H1 eN _ _ fun d H2 e nd hx => .inr ⟨rfl, d, v, rfl, hx, fun p hp => hq p _ ?_ ?_ (fun o ho => ?_) upd_same⟩⟩
  · exact eN.trans (LamX.ExtN.of (e.trans (K1.Same.upd hp)))
  · exact T1.ext (e.trans (K1.Same.upd hp))
  · cases o with
    | tbl ps => exact ⟨ps, rfl⟩
    | _ =>
      have h2 := e _ _ (eN p _ ho fun ps z => by cases z)
      rw [hp] at h2
      cases h2
theorem tabs_same {T : List (Addr × Str)} {H H' : Hp} (t : LamX.Tabs T H) (e : Same H H') : LamX.Tabs T H' := t.ext e
theorem tabs_kept {T : List (Addr × Str)} {H H' : Hp} {D : Addr} {xs : List V} (t : LamX.Tabs T H) (hD : H D = some (.lst xs)) (k : Kept D H H') : LamX.Tabs T H' := fun p hp => by
  obtain ⟨ps, h1, h2, h3⟩ := t p hp
  refine ⟨ps, k _ _ (fun z => by rw [z, hD] at h1; cases h1) h1, h2, fun pos cv hc => ?_⟩
  obtain ⟨c, e1, e2⟩ := h3 pos cv hc
  refine ⟨c, e1, k _ _ (fun z => ?_) e2⟩
  rw [z, hD] at e2
  have : HO.lst xs = LamX.CodeO D p.2 := Option.some.inj e2
  unfold LamX.CodeO at this
  cases this
/-- a refusal's word, its field, its class -/
def MetBy (CV CN : Addr) (tg fld : Str) (C : Addr) : Prop := (tg = "valley" ∧ fld = "thing" ∧ C = CV) ∨ (tg = "house" ∧ fld = "house" ∧ C = CN)
theorem met_by {TT : List (Addr × Str)} {CV CN CR : Addr} {tg fld : Str} {t : XK → TE} {σ : L2.St} {H : Hp} {Q : VK} {v : V} (mb : MetBy CV CN tg fld CR) (tb : LamX.Tabs TT H) (hg : ∀ H1, LamX.ExtN H H1 → ∀ (E : XK) (Q' : VK), GoesF CR [(fld, v)] H1 E → t E σ H1 Q')
    (hq : ∀ p H', LamX.ExtN H H' → LamX.Tabs TT H' → (∀ o, H p = some o → ∃ ps, o = .tbl ps) → H' p = some (.tup [.str tg, v]) → Q (.ref p) H') : LamX.tLam TT (TMt CV CN) t σ H Q := by
  rcases mb with ⟨rfl, rfl, rfl⟩ | ⟨rfl, rfl, rfl⟩
  · exact met_valley tb hg hq
  · exact met_house tb hg hq
/-- how one was refused: a pair, with what was refused -/
def TagP (tg : Str) (H : Hp) (z v : V) : Prop := ∃ p, z = .ref p ∧ H p = some (.tup [.str tg, v])
/-- a list of what was refused, in a heap that has grown since H0 -/
structure Fnd (tg : Str) (TT : List (Addr × Str)) (H0 H : Hp) (Fd : Addr) (zs vs : List V) : Prop where
  ext : LamX.ExtN H0 H
  tb : LamX.Tabs TT H
  lst : H Fd = some (.lst zs)
  new : ∀ o, H0 Fd = some o → ∃ ps, o = .tbl ps
  prs : Paired (TagP tg H) zs vs
theorem extN_upd2 {H0 H : Hp} {Fd : Addr} {o : HO} (e : LamX.ExtN H0 H) (n : ∀ o, H0 Fd = some o → ∃ ps, o = .tbl ps) : LamX.ExtN H0 (L2.upd H Fd o) := fun b u h nt => by
  have bF : b ≠ Fd := fun z => by
    obtain ⟨ps, e2⟩ := n u (by rw [← z]; exact h)
    exact nt ps e2
  rw [upd_ne bF]
  exact e b u h nt
theorem TagP.upd {H : Hp} {Fd : Addr} {xs zs : List V} {tg : Str} {z v : V} (g : H Fd = some (.lst xs)) (h : TagP tg H z v) : TagP tg (L2.upd H Fd (.lst zs)) z v := by
  obtain ⟨p, rfl, hp⟩ := h
  exact ⟨p, rfl, by rw [upd_ne (fun e => by rw [e, g] at hp; cases hp)]; exact hp⟩
theorem TagP.updD {H : Hp} {Fd : Addr} {xs zs : List (Key × V)} {tg : Str} {z v : V} (g : H Fd = some (.dK xs)) (h : TagP tg H z v) : TagP tg (L2.upd H Fd (.dK zs)) z v := by
  obtain ⟨p, rfl, hp⟩ := h
  exact ⟨p, rfl, by rw [upd_ne (fun e => by rw [e, g] at hp; cases hp)]; exact hp⟩
theorem tabs_keptD {T : List (Addr × Str)} {H H' : Hp} {D : Addr} {xs : List (Key × V)} (t : LamX.Tabs T H) (hD : H D = some (.dK xs)) (k : Kept D H H') : LamX.Tabs T H' := fun p hp => by
  obtain ⟨ps, h1, h2, h3⟩ := t p hp
  refine ⟨ps, k _ _ (fun z => by rw [z, hD] at h1; cases h1) h1, h2, fun pos cv hc => ?_⟩
  obtain ⟨c, e1, e2⟩ := h3 pos cv hc
  refine ⟨c, e1, k _ _ (fun z => ?_) e2⟩
  rw [z, hD] at e2
  have : HO.dK xs = LamX.CodeO D p.2 := Option.some.inj e2
  unfold LamX.CodeO at this
  cases this
theorem TagP.ext {H H' : Hp} {tg : Str} {z v : V} (h : TagP tg H z v) (e : LamX.ExtN H H') : TagP tg H' z v := by
  obtain ⟨p, rfl, hp⟩ := h
  exact ⟨p, rfl, e _ _ hp (fun _ z => by cases z)⟩
section
variable {TT : List (Addr × Str)} {CV CN CR : Addr} {tg fld : Str} {t : XK → TE} {σ : L2.St} {H0 H : Hp} {Q : VK} {v : V} {K : PySem.W.Frag}
theorem fnd_first (mb : MetBy CV CN tg fld CR) (tb : LamX.Tabs TT H) (hg : ∀ H1, LamX.ExtN H H1 → ∀ (E : XK) (Q' : VK), GoesF CR [(fld, v)] H1 E → t E σ H1 Q')
    (q : ∀ Fd z H', Fnd tg TT H H' Fd [z] [v] → Q (.ref Fd) H') : tLst (tCons (LamX.tLam TT (TMt CV CN) t) tNil) σ H Q := by
  refine met_by mb tb hg fun p H' e T fr gp => ⟨(by show 1 ≤ sizeLine; decide), fun Fd hFd => ?_⟩
  have s := K1.Same.upd (H := H') (p := Fd) (o := .lst [.ref p]) hFd
  refine q Fd (.ref p) _ ⟨e.trans (LamX.ExtN.of s), tabs_same T s, upd_same, fun o ho => ?_, .cons ⟨p, rfl, s _ _ gp⟩ .nil⟩
  cases o with
  | tbl ps => exact ⟨ps, rfl⟩
  | _ =>
    have h2 := e _ _ ho fun ps z => by cases z
    rw [hFd] at h2
    cases h2
theorem fnd_app {Fd : Addr} {zs vs : List V} {i : Nat} (mb : MetBy CV CN tg fld CR) (f : Fnd tg TT H0 H Fd zs vs) (l : vs.length ≤ 100) (hσ : σ[i]? = some (some (.ref Fd)))
    (hg : ∀ H1, LamX.ExtN H0 H1 → ∀ (E : XK) (Q' : VK), GoesF CR [(fld, v)] H1 E → t E σ H1 Q')
    (q : ∀ z H', Fnd tg TT H0 H' Fd (zs ++ [z]) (vs ++ [v]) → Q .non H') : tBM K "list" rAppend (tVar i) (tCons (LamX.tLam TT (TMt CV CN) t) tNil) σ H Q := by
  refine ⟨_, hσ, .inl ⟨rfl, _, SqL.of f.lst⟩, met_by mb f.tb (fun H1 e1 => hg H1 (f.ext.trans e1)) fun p H' e T fr gp => ?_⟩
  have gF := e _ _ f.lst (fun _ z => by cases z)
  have Fp : p ≠ Fd := fun z => by rw [z, gF] at gp; cases gp
  have ll := f.prs.length
  refine ⟨Fd, _, _, rfl, rfl, gF, small1000 (by omega), q (.ref p) _ ⟨extN_upd2 (f.ext.trans e) f.new, tabs_kept T gF Kept.upd, upd_same, f.new, ?_⟩⟩
  exact paired_snoc (paired_imp (fun _ _ h => (h.ext e).upd gF) f.prs) ⟨p, rfl, by rw [upd_ne Fp]; exact gp⟩
end
/-! the heap without tables -/
noncomputable def nt (H : Hp) : Hp := fun b => match H b with | some (.tbl _) => none | o => o
theorem nt_some {H : Hp} {b : Addr} {o : HO} : nt H b = some o ↔ H b = some o ∧ ∀ ps, o ≠ .tbl ps := by
  unfold nt
  constructor
  · intro h
    split at h
    · cases h
    · rename_i x y
      refine ⟨h, fun ps z => y ps ?_⟩
      rw [h, z]
  · intro ⟨h, n⟩
    rw [h]
    split
    · rename_i x ps e
      exact absurd (Option.some.inj e) (n ps)
    · rfl
theorem nt_same {H H' : Hp} (e : LamX.ExtN H H') : Same (nt H) (nt H') := fun b o h => by
  obtain ⟨h1, h2⟩ := nt_some.mp h
  exact nt_some.mpr ⟨e b o h1 h2, h2⟩
theorem nt_out {H : Hp} : Same (nt H) H := fun b o h => (nt_some.mp h).1
theorem nt_to {H H' : Hp} (e : LamX.ExtN H H') : Same (nt H) H' := (nt_same e).trans nt_out
theorem nt_l {H : Hp} {p : Addr} {xs : List V} (h : H p = some (.lst xs)) : nt H p = some (.lst xs) := nt_some.mpr ⟨h, fun _ z => by cases z⟩
theorem nt_t {H : Hp} {p : Addr} {xs : List V} (h : H p = some (.tup xs)) : nt H p = some (.tup xs) := nt_some.mpr ⟨h, fun _ z => by cases z⟩
theorem nt_d {H : Hp} {p : Addr} {xs : List (Key × V)} (h : H p = some (.dK xs)) : nt H p = some (.dK xs) := nt_some.mpr ⟨h, fun _ z => by cases z⟩
theorem same_reps {H : Hp} {tg : Str} {y : V} {W : Addr} (hW : H W = some (.tup [.str tg, y])) (r : R4v H y y) : ∀ (n : Nat) {zs : List V}, Paired (TagP tg H) zs (List.replicate n y) → Paired (NextF R4v H) zs (List.replicate n (.ref W))
  | 0, _, .nil => .nil
  | n + 1, _, .cons ⟨p, e, hp⟩ t => .cons (by subst e; exact r_tups hp hW (by show 2 ≤ 100; decide) (.cons (r_str _) (.cons r .nil))) (same_reps hW r n t)
theorem flat_rep {α : Type} {x : α} : ∀ n : Nat, (List.replicate n [x]).flatten = List.replicate n x
  | 0 => rfl
  | n + 1 => by
    rw [List.replicate_succ, List.flatten_cons, List.replicate_succ, flat_rep n]
    rfl
/-- what was refused is what is due, so many times the same pair -/
theorem chk_rep {K : PySem.W.Frag} {D : Ends} {σ : L2.St} {H : Hp} {Fd : Addr} {tg : Str} {y : V} {zs : List V} (n : Nat) (hn : n ≤ 10) {i j : Nat} (h1 : σ[i]? = some (some (.ref Fd))) (h0 : σ[j]? = some (some y)) (gF : H Fd = some (.lst zs)) (p : Paired (TagP tg H) zs (List.replicate n y)) (r : ∀ Hx, Same H Hx → R4v Hx y y)
    (q : ∀ H', Same H H' → D.nx σ H') :
    tIfS (tNot (tB (tCall (spSm R6) [] E0 (tCons (tVar i) (tCons (tOp rRep (tLst (tCons (tTup (tCons (tC (.str tg)) (tCons (tVar j) tNil))) tNil)) (tC (.int (n : Int)))) tNil))))) (tRet (tC (V.bl false))) tNext D σ H := by
  refine ⟨_, h1, _, h0, (by show 2 ≤ sizeLine; decide), fun W hW => ⟨(by show 1 ≤ sizeLine; decide), fun L hL => ⟨L, (n : Int), _, rfl, rfl, upd_same, by omega, by omega, ?_, fun M hM => ?_⟩⟩⟩
  · show 1 * (n : Int).toNat ≤ 2 ^ 24
    omega
  have s1 := K1.Same.upd (H := H) (p := W) (o := .tup [.str tg, y]) hW
  have gW := upd_same' H W (.tup [.str tg, y])
  generalize L2.upd H W (.tup [.str tg, y]) = H7 at s1 gW hL hM ⊢
  have s2 := K1.Same.upd (H := H7) (p := L) (o := .lst [.ref W]) hL
  generalize L2.upd H7 L (.lst [.ref W]) = H8 at s2 hM ⊢
  have s3 := K1.Same.upd (H := H8) (p := M) (o := .lst (List.replicate (n : Int).toNat [V.ref W]).flatten) hM
  have gM : L2.upd H8 M (.lst (List.replicate (n : Int).toNat [V.ref W]).flatten) M = some (.lst (List.replicate n (V.ref W))) := by
    rw [upd_same, Int.toNat_natCast]
    rw [flat_rep]
  generalize L2.upd H8 M (.lst (List.replicate (n : Int).toNat [V.ref W]).flatten) = H9 at s3 gM ⊢
  have s69 : Same H H9 := s1.trans (s2.trans s3)
  have lz : zs.length = n := by rw [p.length, List.length_replicate]
  have pp : Paired (NextF R4v H9) zs (List.replicate n (.ref W)) := same_reps (s3 _ _ (s2 _ _ gW)) (r _ s69) n (paired_imp (fun a b ⟨x, e, hx⟩ => ⟨x, e, s69 _ _ hx⟩) p)
  refine ⟨_, _, rfl, show NextF (NextF R4v) H9 (.ref Fd) (.ref M) from r_lists (s69 _ _ gF) gM (by omega) pp, fun H10 e10 => ⟨_, rfl, ?_⟩⟩
  exact iteF (q H10 (s69.trans e10))
theorem NextF.up {R R' : RelE} (h : ∀ H x y, R H x y → R' H x y) {H : Hp} {x y : V} (n : NextF R H x y) : NextF R' H x y := by
  rcases n with n | ⟨p, q, xs, ys, a, b, c, d, e⟩ | ⟨p, q, kvs, a, b, c, d, f⟩
  · exact .inl n
  · exact .inr (.inl ⟨p, q, xs, ys, a, b, c, d, paired_imp (fun _ _ z => h _ _ _ z) e⟩)
  · exact .inr (.inr ⟨p, q, kvs, a, b, c, d, fun H' a b as bs e ha hb pa pb => h _ _ _ (f H' a b as bs e ha hb pa pb)⟩)
theorem up45 {H : Hp} {x y : V} (n : R4v H x y) : NextF R4v H x y := NextF.up (fun _ _ _ z => NextF.up (fun _ _ _ z => NextF.up (fun _ _ _ z => NextF.up (fun _ _ _ z => False.elim z) z) z) z) n
end K1
end
-- UHr
section
set_option Elab.async false
set_option linter.all false
set_option maxRecDepth 100000
set_option maxHeartbeats 1000000
namespace K1
open PySem PySem.Spec PyProof.Rows L2 W0
abbrev sHr : Stmt := top 64
theorem scHr : FnScope ["spring", "form", "made", "house", "found", "often", "due", "told", "mean"] ["spring", "form", "made", "house"] (defScope sHr) := ⟨rfl, rfl, rfl, by decide +kernel, rfl, by decide +kernel, by decide +kernel⟩
/-! what the program tells of a small valley -/
section
variable {ss : List Str} {rs : List (Str × Str)}
theorem small_pow (T : Tree ss rs) (l9 : ss.length ≤ 9) : rs.length ^ ss.length < 2 ^ 64 := by
  have lr : rs.length ≤ 8 := by have := T.len; omega
  refine Nat.lt_of_le_of_lt (Nat.pow_le_pow_left lr _) (Nat.lt_of_le_of_lt (Nat.pow_le_pow_right (by decide) l9) (by decide))
theorem unl_many (T : Tree ss rs) : unl 9 ss rs = manyL rs (sdT rs) 9 ss := by
  unfold unl cntP
  exact cnt_many T 9 ss (SubL.self ss) (tree_con T)
theorem byH_byL (T : Tree ss rs) {h : Str} (hh : h ∈ ss) : byH 9 ss rs h = byL rs (sdT rs) h 9 9 ss := by
  unfold byH
  exact byF_byL T 9 ss (SubL.self ss) (tree_con T) hh
theorem lot_B (T : Tree ss rs) (l9 : ss.length ≤ 9) : lotN ss ss < 512 := by
  have := (SubL.self ss).lt T.nd
  have : 2 ^ ss.length ≤ 2 ^ 9 := Nat.pow_le_pow_right (by decide) l9
  omega
theorem bit_B (l9 : ss.length ≤ 9) {h : Str} (hh : h ∈ ss) : bitN ss h < 512 := by
  unfold bitN
  have := List.idxOf_lt_length_of_mem hh
  have : 2 ^ ss.idxOf h < 2 ^ 9 := Nat.pow_lt_pow_right (by decide) (by omega)
  exact this
end
def spHr (C : Addr) : Sp := fun vs H Q _ => ∃ (v : V) (t x p1 p2 : Addr) (x3 : V) (qs : List Addr) (ss : List Str) (rs : List (Str × Str)) (ns : List Int) (h : Str), vs = [v, .ref t, .ref x, .str h] ∧ Frm H t p1 p2 x3 qs ss rs ∧ IsV C H x ss rs ns ∧ h ∈ ss ∧ ss.length ≤ 9 ∧
  ∀ H', Same H H' → Q (.bl true) H'
section
variable {P : Program} {w : World} {K : PySem.W.Frag} {mg : Str → Option Value} {base : Heap} {C CV CN : Addr}
theorem ok_Hr {f fB fU fM fS fC fY : Addr} {fd bd ud md sd cd yd : FuncData} (F : Fun K "_law_house_right" "_law_house_right" sHr f fd) (B : Bl mg) (msd : mg "sorted" = none) (msu : mg "sum" = none)
    (GY : FnOk P w K mg base CX0 11 fY yd ["form", "lot", "house", "known", "told"] (spBl 9 9)) (bY : Binds K yd ["form", "lot", "house", "known", "told"] []) (kY : PySem.W.keepIn K (.ref fY) = true) (mY : mg "_law_by" = some (.ref fY))
    (GB : FnOk P w K mg base (L2.CX P w) 19 fB bd ["valley", "house"] (spCb K C CV CN 9 512)) (bB : Binds K bd ["valley", "house"] []) (nB : KBn K bd ["valley", "house"] 0 ["house", "valley"] kwBAv kwBA) (kB : PySem.W.keepIn K (.ref fB) = true) (mB : mg "count_by_feasts" = some (.ref fB))
    (GU : FnOk P w K mg base (L2.CX P w) 19 fU ud ["valley"] (spCu K C CV 9 512)) (bU : Binds K ud ["valley"] []) (kU : PySem.W.keepIn K (.ref fU) = true) (mU : mg "count_unlike" = some (.ref fU))
    (GM : FnOk P w K mg base (L2.CX P w) 20 fM md ["valley", "house"] (spMu K C CV CN 9 512)) (bM : Binds K md ["valley", "house"] []) (nM : KBn K md ["valley", "house"] 0 ["house", "valley"] kwBAv kwBA) (kM : PySem.W.keepIn K (.ref fM) = true) (mM : mg "mean_of_unlike" = some (.ref fM))
    (GS : FnOk P w K mg base CX0 6 fS sd ["found", "due"] (spSm R6)) (bS : Binds K sd ["found", "due"] []) (kS : PySem.W.keepIn K (.ref fS) = true) (mS : mg "_law_same" = some (.ref fS))
    (GC : FnOk P w K mg base CX0 1 fC cd ["top", "bottom"] spFr) (bC : Binds K cd ["top", "bottom"] []) (kC : PySem.W.keepIn K (.ref fC) = true) (mC : mg "_law_c_lowest" = some (.ref fC)) :
    FnOk P w K mg base CX0 21 f fd ["spring", "form", "made", "house"] (spHr C) := by
  refine F.ok scHr (fun vs H Q E h => ?_) (fun cdv A outer s H vs Q E hr h => ?_)
  · obtain ⟨v, t, x, p1, p2, x3, qs, ss, rs, ns, h, rfl, _⟩ := h
    rfl
  obtain ⟨v, t, x, p1, p2, x3, qs, ss, rs, ns, hs, rfl, fm, iv, hh, l9, q⟩ := h
  have nd := scHr.nd
  have hu := hu_of hr
  have hr1 : Room 1 _ := hr.mono (by decide)
  have hr6 : Room 6 _ := hr.mono (by decide)
  have hr11 : Room 11 _ := hr.mono (by decide)
  have hr19 : Room 19 _ := hr.mono (by decide)
  refine ⟨_, (pss_cons (by exact (ps_set (i := 4) nd rfl (.inr rfl) (pe_call GY hr11 rfl mY kY bY .nil pass0 (pa_cons (pv 1) (pa_cons (pe_callTy call_tuple_of rfl B.tuple PyProof.Rows.boot_tuple (pa_cons (pe_ix ix_list (pv 1) pe_int (fun _ _ => rfl)) pa_nil)) (pa_cons (pv 3) (pa_cons pe_dnewT (pa_cons pe_dnewT pa_nil))))))))
  (pss_cons (by exact (ps_set (i := 6) nd rfl (.inr rfl) (pe_callTy (call_dictP rfl) rfl B.dict PyProof.Rows.boot_dict (pa_cons (pe_lc (own := [("often", 5)]) (g := gName 5) (tt := tYes) (te := tTup (tCons (tVar 5) (tCons (tDGet (tVar 4) (tVar 5)) tNil))) rfl nd (by exact pi_list (pe_callB (call_sortedDI rfl) rfl msd PyProof.Rows.boot_sorted (pa_cons (pv 4) pa_nil))) (by exact blkOk_by (N := ["spring", "form", "made", "house", "found", "often", "due", "told", "mean"]) (sc := defScope sHr) (by decide +kernel)) (fun _ _ _ _ _ => by exact (pg_name (i := 5) nd rfl (.inl rfl))) (fun _ _ _ _ _ => by exact pts_nil) (fun _ _ _ _ _ => by exact (pe_tup (pa_cons (pv 5) (pa_cons (pe_dget hu (pv 4) (pv 5) (fun _ _ => rfl)) pa_nil))))) pa_nil))))
  (pss_cons (by exact (ps_set (i := 7) nd rfl (.inl rfl) (pe_call GB hr19 rfl mB kB bB .nil passL (pa_cons (pv 2) (pa_cons (pv 3) pa_nil)))))
  (pss_cons (by exact (ps_if (PW.pt (pw_or (pt_not (pt_val (pe_call GS hr6 rfl mS kS bS .nil pass0 (pa_cons (pv 7) (pa_cons (pv 6) pa_nil))))) (pw_or1 (pt_cmpR op_ne (pe_sumV rfl rfl msu (pv 6)) (pe_call GU hr19 rfl mU kU bU .nil passL (pa_cons (pv 2) pa_nil)) (nomark _))))) (pss_one (by exact (ps_ret pe_bl))) pss_nil))
  (pss_cons (by exact (ps_dput hu (pv 7) pe_str pe_int rfl))
  (pss_cons (by exact (ps_set (i := 8) nd rfl (.inl rfl) (pe_call GC hr1 rfl mC kC bC .nil pass0 (pa_cons (pe_lock (pe_callB (cr_sum rfl) rfl msu PyProof.Rows.boot_sum (pa_cons (pe_lc (own := [("often", 5)]) (g := gName 5) (tt := tYes) (te := tOp (rI CMul fun a b => .int (a * b)) (tVar 5) (tDGet (tVar 6) (tVar 5))) rfl nd (by exact pi_keys (pv 6)) (by exact blkOk_by (N := ["spring", "form", "made", "house", "found", "often", "due", "told", "mean"]) (sc := defScope sHr) (by decide +kernel)) (fun _ _ _ _ _ => by exact (pg_name (i := 5) nd rfl (.inl rfl))) (fun _ _ _ _ _ => by exact pts_nil) (fun _ _ _ _ _ => by exact (pe_op op_mul (pv 5) (pe_dget hu (pv 6) (pv 5) (fun _ _ => rfl))))) pa_nil))) (pa_cons (pe_sumV rfl rfl msu (pv 6)) pa_nil)))))
  (pss_cons (by exact (ps_set (i := 4) nd rfl (.inr rfl) (pe_lst (pa_cons (pe_callN GB hr19 rfl mB kB nB passL (pk_cons (pv 3) (pk_cons (pv 2) pk_nil))) (pa_cons (pe_call GM hr rfl mM kM bM .nil passL (pa_cons (pv 2) (pa_cons (pv 3) pa_nil))) pa_nil)))))
  (pss_one (by exact (ps_ret (pe_call GS hr6 rfl mS kS bS .nil pass0 (pa_cons (pe_op op_cat (pv 4) (pe_lst (pa_cons (pe_callN GM hr rfl mM kM nM passL (pk_cons (pv 3) (pk_cons (pv 2) pk_nil))) pa_nil))) (pa_cons (pe_lst (pa_cons (pv 6) (pa_cons (pv 8) (pa_cons (pv 8) pa_nil)))) pa_nil))))))))))))), ?_⟩
  have T := fm.tr
  have S := sd_ok T
  have nds := T.nd
  have con := tree_con T
  have hb := small_pow T l9
  have l1000 : ss.length ≤ 1000 := by omega
  have lr1000 : rs.length ≤ 1000 := by have := T.len; omega
  have p1e : atI [V.ref p1, .ref p2, x3] 0 = some (.ref p1) := rfl
  refine ⟨_, rfl, _, rfl, t, _, (0 : Int), .ref p1, rfl, rfl, SqL.of fm.t0, p1e, p1, _, rfl, .inl ⟨SqL.of fm.h1, fun p hp => ?_⟩⟩
  have e1 := K1.Same.upd (H := H) (p := p) (o := .tup (ss.map V.str)) hp
  have gp := upd_same' H p (.tup (ss.map V.str))
  generalize L2.upd H p (.tup (ss.map V.str)) = H1 at e1 gp ⊢
  refine ⟨_, rfl, ?_⟩
  dsimp only
  refine cons_run fun k hk => ?_
  have e2 := K1.Same.upd (H := H1) (p := k) (o := .dT []) hk
  have gk := upd_same' H1 k (.dT [])
  generalize L2.upd H1 k (.dT []) = H2 at e2 gk ⊢
  refine cons_run fun m hm => ?_
  have e3 := K1.Same.upd (H := H2) (p := m) (o := .dT []) hm
  have gm := upd_same' H2 m (.dT [])
  have mk : m ≠ k := fun z => by rw [z, gk] at hm; cases hm
  generalize L2.upd H2 m (.dT []) = H3 at e3 gm ⊢
  have e03 : Same H H3 := e1.trans (e2.trans e3)
  have mH : H m = none := (e1.trans e2).free hm
  have kH : H k = none := e1.free hk
  refine ⟨t, p, k, m, p1, p2, x3, qs, ss, rs, ss, hs, [], [], rfl, mk, fm.same e03, SubL.self ss, con, hh, l9, by decide, by decide, by omega, hb, e3 _ _ (e2 _ _ gp), e3 _ _ gk, MemoT.nil, ⟨MemoT.nil, gm, fun e he => absurd he (by simp)⟩, fun H4 fs' Ls' a0 k4 fm4 fr4 g4 m4 am ak ga new => ?_⟩
  have a0n : H3 a0 = none := by
    rcases new with ⟨e, he, rfl⟩ | h
    · exact (fr4 e he).resolve_left (by simp)
    · exact h
  have e04 : Same H H4 := fun b o h => k4 b o (ne_of_none h mH) (ne_of_none h kH) (e03 _ _ h)
  obtain ⟨c1, c2, c3, c4⟩ := byL_good (h := hs) (N := 9) S 9 ss con l9 (Nat.le_refl _) hh
  have kin := byL_keys (rs := rs) (sd := sdT rs) (h := hs) (N := 9) 9 ss
  have hby := byH_byL T hh
  have vm : vsumN (byL rs (sdT rs) hs 9 9 ss) = manyL rs (sdT rs) 9 ss := c3
  have vpos : 0 < vsumN (byL rs (sdT rs) hs 9 9 ss) := by rw [vm]; exact manyL_pos S 9 ss con l9
  have vlt : vsumN (byL rs (sdT rs) hs 9 9 ss) < 2 ^ 100 := by
    rw [vm]
    by_cases hr0 : rs = []
    · have := manyL_le S 9 ss con
      rw [hr0] at this
      have l1 : ss.length = 1 := by have := T.len; rw [hr0] at this; simpa using this.symm
      rw [l1] at this
      rw [hr0]
      exact Nat.lt_of_le_of_lt this (by decide)
    · exact Nat.lt_trans (many_lt T hb (SubL.self ss) con hr0 9) (by decide)
  generalize hcs : byL rs (sdT rs) hs 9 9 ss = cs at ga c1 c2 kin hby vm vpos vlt
  refine K1.gN ?_
  have lcs : cs.length ≤ 9 := kin.len
  -- due
  with_reducible refine sQ (asg_run (cb_run (cons_run ?_)))
  refine due_lc (σ := [some v, some (.ref t), some (.ref x), some (.str hs), some (.ref a0), none, none, none, none]) (d := 4) (i := 5) (c := cs) (C := a0) c1 (by omega) ga (fun Q' hq => ?_) (fun v => ⟨⟨rfl, rfl⟩, rfl⟩) fun D0 H5 ds ys e5 n5 g5 pr5 pm pw => ?_
  · refine ⟨_, rfl, a0, dQ cs, _, rfl, .inl ga, ?_, ?_, hq⟩
    · unfold dQ
      rw [List.map_map, List.map_map, List.map_map]
      rfl
    · rw [List.length_map, List.length_map]
      omega
  have pc : (dBy cs ys).Perm cs := dBy_perm c1 pm
  have nty : NoTw (dBy cs ys) := noTw_perm pc c1
  have ldy : (dBy cs ys).length ≤ 9 := by rw [pc.length_eq]; exact lcs
  refine ⟨D0, ds, _, rfl, SqL.of g5, paired_imp (fun _ _ h => SqT.of h) pr5, fun D hD => ?_⟩
  rw [merge_dQ nty]
  have e6 := K1.Same.upd (H := H5) (p := D) (o := .dK (dQ (dBy cs ys))) hD
  have gD := upd_same' H5 D (.dK (dQ (dBy cs ys)))
  generalize L2.upd H5 D (.dK (dQ (dBy cs ys))) = H6 at e6 gD ⊢
  have e06 : Same H H6 := e04.trans (e5.trans e6)
  refine K1.gN ?_
  have dpB := depB_con T hb 9 ss (SubL.self ss) con l9 hh
  have dp0 := dep_con T hb 9 ss (SubL.self ss) con l9
  refine ⟨_, rfl, _, rfl, _, _, rfl, .inr ⟨x, ss, rs, ns, rfl, iv.same e06, .inr ⟨hs, rfl, hh, T, nds, l1000, lr1000, lot_B T l9, bit_B l9 hh, by decide, dpB, fun r H7 ks e7 n7 pm7 pw7 g7 => ?_⟩⟩⟩
  rw [hby] at pm7 g7
  obtain rfl : ks = ys := sort_uniq (pm7.trans pm.symm) pw7 pw
  have e07 := e06.trans e7
  have gD7 := e7 _ _ gD
  generalize hds : dBy cs ks = ds' at pc nty ldy gD7 g7
  refine K1.gN ?_
  refine ⟨_, rfl, _, rfl, .ref r, .ref D, rfl, r_dQ g7 gD7 (by omega), fun H8 e8 => ⟨_, rfl, ?_⟩⟩
  refine iteF ?_
  refine ⟨_, rfl, D, _, _, rfl, e8 _ _ gD7, dQ_vals ds', ?_⟩
  rw [vsum_int]
  refine ⟨_, rfl, _, rfl, .inl ⟨x, ss, rs, ns, rfl, iv.same (e07.trans e8), T, nds, l1000, lr1000, lot_B T l9, dp0, fun H9 e9 => ?_⟩⟩
  rw [unl_many T, ← vm, vsum_perm pc]
  refine ⟨rfl, _, rfl, ?_⟩
  rw [decide_eq_true rfl]
  refine iteF ?_
  refine nQ ?_
  have e09 := e07.trans (e8.trans e9)
  have g79 := (e8.trans e9) _ _ g7
  have gD9 := (e8.trans e9) _ _ gD7
  have rH : H r = none := e06.free n7
  have Dr : D ≠ r := fun z => by rw [← z, gD] at n7; cases n7
  refine ⟨_, rfl, r, _, rfl, DPut.k (k := .inr (Str.ofString "late")) g79 (by rw [dQ_len]; exact small1000 (by omega)), ?_⟩
  have e0A : Same H (L2.upd H9 r (.dK (putK (dQ ds') (.inr (Str.ofString "late")) (.int 1)))) := ps_same_upd e09 rH
  have gDA : L2.upd H9 r (.dK (putK (dQ ds') (.inr (Str.ofString "late")) (.int 1))) D = some (.dK (dQ ds')) := by rw [upd_ne Dr]; exact gD9
  generalize L2.upd H9 r (.dK (putK (dQ ds') (.inr (Str.ofString "late")) (.int 1))) = HA at e0A gDA ⊢
  have keyd : ∀ e ∈ ds', e.1 < 2 ^ 60 := fun e he => by
    have := kin.2 e.1 (List.mem_map.mpr ⟨e, pc.mem_iff.mp he, rfl⟩)
    omega
  rw [vsum_perm pc.symm] at vpos vlt
  with_reducible refine sQ (asg_run (call_run (cons_run ?_)))
  refine mul_sum (σ := [some v, some (.ref t), some (.ref x), some (.str hs), some (.ref a0), none, some (.ref D), some (.ref r), none]) (d := 6) (i := 5) nty (by omega) keyd gDA rfl (fun v => ⟨⟨rfl, rfl⟩, rfl⟩) fun HB eB => ?_
  refine cons_run ⟨_, rfl, D, _, _, rfl, eB _ _ gDA, dQ_vals ds', ?_⟩
  rw [vsum_int]
  refine ⟨msum ds', vsumN ds', rfl, vpos, vlt, fun W HC eC nC gC => ?_⟩
  have e0C : Same H HC := e0A.trans (eB.trans eC)
  have gDC := eC _ _ (eB _ _ gDA)
  refine K1.gN ?_
  refine ⟨_, rfl, _, rfl, rfl, _, _, rfl, .inr ⟨x, ss, rs, ns, rfl, iv.same e0C, .inr ⟨hs, rfl, hh, T, nds, l1000, lr1000, lot_B T l9, bit_B l9 hh, by decide, dpB, fun r2 HD ks2 eD nD pmD pwD gD2 => ?_⟩⟩⟩
  rw [hby] at pmD gD2
  obtain rfl : ks2 = ks := sort_uniq (pmD.trans pm.symm) pwD pw
  rw [hds] at gD2
  have mv : msum cs = msum ds' := (msum_perm pc).symm
  have vv : vsumN cs = vsumN ds' := (vsum_perm pc).symm
  have p0 : 0 < vsumN (byH 9 ss rs hs) := by rw [hby, vv]; exact vpos
  have p1' : vsumN (byH 9 ss rs hs) < 2 ^ 100 := by rw [hby, vv]; exact vlt
  dsimp only
  refine cons_run ⟨_, rfl, _, rfl, _, _, rfl, .inr ⟨x, ss, rs, ns, rfl, iv.same (e0C.trans eD), .inr ⟨hs, rfl, hh, T, nds, l1000, lr1000, lot_B T l9, bit_B l9 hh, by decide, dpB, p0, p1', fun U HE eE nE gE => ?_⟩⟩⟩
  rw [hby, mv, vv] at gE
  refine ⟨(by show 2 ≤ sizeLine; decide), fun L hL => ?_⟩
  have eL := K1.Same.upd (H := HE) (p := L) (o := .lst [.ref r2, .ref U]) hL
  have gL := upd_same' HE L (.lst [.ref r2, .ref U])
  generalize L2.upd HE L (.lst [.ref r2, .ref U]) = HF at eL gL ⊢
  have eCF : Same HC HF := eD.trans (eE.trans eL)
  refine K1.gN ?_
  refine ret_run (call_run (cons_run ⟨_, rfl, _, rfl, _, rfl, rfl, _, _, rfl, .inr ⟨x, ss, rs, ns, rfl, iv.same (e0C.trans eCF), .inr ⟨hs, rfl, hh, T, nds, l1000, lr1000, lot_B T l9, bit_B l9 hh, by decide, dpB, p0, p1', fun U2 HG eG nG gG => ?_⟩⟩⟩))
  rw [hby, mv, vv] at gG
  refine ⟨(by show 1 ≤ sizeLine; decide), fun A hA => ?_⟩
  have eA := K1.Same.upd (H := HG) (p := A) (o := .lst [.ref U2]) hA
  have gA := upd_same' HG A (.lst [.ref U2])
  generalize L2.upd HG A (.lst [.ref U2]) = HI at eA gA ⊢
  have gLI := eA _ _ (eG _ _ gL)
  refine ⟨L, A, _, _, rfl, rfl, gLI, gA, (by show 2 + 1 ≤ sizeLine; decide), fun Y hY => ?_⟩
  have eY := K1.Same.upd (H := HI) (p := Y) (o := .lst [.ref r2, .ref U, .ref U2]) hY
  have gY := upd_same' HI Y (.lst [.ref r2, .ref U, .ref U2])
  show tCons _ tNil _ (L2.upd HI Y (.lst [.ref r2, .ref U, .ref U2])) _
  generalize L2.upd HI Y (.lst [.ref r2, .ref U, .ref U2]) = HJ at eY gY ⊢
  refine cons_run ⟨_, rfl, _, rfl, _, rfl, (by show 3 ≤ sizeLine; decide), fun Z hZ => ?_⟩
  have eZ := K1.Same.upd (H := HJ) (p := Z) (o := .lst [.ref D, .ref W, .ref W]) hZ
  have gZ := upd_same' HJ Z (.lst [.ref D, .ref W, .ref W])
  generalize L2.upd HJ Z (.lst [.ref D, .ref W, .ref W]) = HK at eZ gZ ⊢
  have eDK : Same HD HK := (eE.trans (eL.trans (eG.trans (eA.trans (eY.trans eZ)))))
  have eEK : Same HE HK := eL.trans (eG.trans (eA.trans (eY.trans eZ)))
  have eGK : Same HG HK := eA.trans (eY.trans eZ)
  have eCK : Same HC HK := eD.trans eDK
  have gWK := eCK _ _ gC
  refine ⟨_, _, rfl, show R6 HK (.ref Y) (.ref Z) from r_lists (eZ _ _ gY) gZ (by show 3 ≤ 100; decide) (.cons (r_dQ (eDK _ _ gD2) (eCK _ _ gDC) (by omega)) (.cons (r_tups (eEK _ _ gE) gWK (by show 2 ≤ 100; decide) (.cons (r_int _) (.cons (r_int _) .nil))) (.cons (r_tups (eGK _ _ gG) gWK (by show 2 ≤ 100; decide) (.cons (r_int _) (.cons (r_int _) .nil))) .nil))), fun HZ eZZ => ?_⟩
  exact q HZ (e0C.trans (eCK.trans eZZ))
end
end K1
end
-- USm
section
set_option Elab.async false
set_option linter.all false
set_option maxRecDepth 100000
set_option maxHeartbeats 1000000
namespace K1
open PySem PySem.Spec PyProof.Rows L2 W0
abbrev sSq : Stmt := top 65
theorem scSq : FnScope ["spring", "form", "made", "every", "house", "counts", "rows", "road", "part", "often"] ["spring"] (defScope sSq) := ⟨rfl, rfl, rfl, by decide +kernel, rfl, by decide +kernel, by decide +kernel⟩
/-! rows counted by how often a house feasts -/
def cntD {α : Type} [DecidableEq α] (h : α) (rows : List (List (List α))) : List (Nat × Nat) := rows.foldl (fun c row => addN c (oftenL h row) 1) []
theorem cntD_snoc {α : Type} [DecidableEq α] {h : α} {rows : List (List (List α))} {row : List (List α)} : cntD h (rows ++ [row]) = addN (cntD h rows) (oftenL h row) 1 := by
  unfold cntD
  rw [List.foldl_append]
  rfl
theorem cntD_good {α : Type} [DecidableEq α] {h : α} {m : Nat} (rows : List (List (List α))) (lr : ∀ row ∈ rows, row.length < m) : KeysB m (cntD h rows) ∧ PosD (cntD h rows) ∧ ∀ k, valN (cntD h rows) k = rows.countP fun row => decide (oftenL h row = k) := by
  have key : ∀ (rows : List (List (List α))) (c : List (Nat × Nat)), (∀ row ∈ rows, row.length < m) → KeysB m c → PosD c →
      KeysB m (rows.foldl (fun c row => addN c (oftenL h row) 1) c) ∧ PosD (rows.foldl (fun c row => addN c (oftenL h row) 1) c) ∧ ∀ k, valN (rows.foldl (fun c row => addN c (oftenL h row) 1) c) k = valN c k + rows.countP fun row => decide (oftenL h row = k) := by
    intro rows
    induction rows with
    | nil => intro c _ a b; exact ⟨a, b, fun k => rfl⟩
    | cons row rows ih =>
      intro c hl a b
      have ho : oftenL h row < m := Nat.lt_of_le_of_lt List.countP_le_length (hl row (List.mem_cons_self ..))
      obtain ⟨i1, i2, i3⟩ := ih (addN c (oftenL h row) 1) (fun r hr => hl r (List.mem_cons_of_mem _ hr)) (a.put ho) (b.put (by omega))
      rw [List.foldl_cons]
      refine ⟨i1, i2, fun k => ?_⟩
      rw [i3 k, valN_add, List.countP_cons]
      by_cases z : oftenL h row = k
      · rw [if_pos z, decide_eq_true z, if_pos rfl]
        omega
      · rw [if_neg z, decide_eq_false z, if_neg (by decide)]
        omega
  obtain ⟨a, b, c⟩ := key rows [] lr ⟨List.nodup_nil, fun k h => absurd h (by simp)⟩ (fun e he => absurd he (by simp))
  refine ⟨a, b, fun k => ?_⟩
  have := c k
  unfold cntD
  rw [this]
  exact Nat.zero_add _
theorem dBy_same {c d : List (Nat × Nat)} (nc : NoTw c) (nd : NoTw d) (pc : PosD c) (pd : PosD d) (e : ∀ k, valN c k = valN d k) {xs ys : List Nat} (px : xs.Perm (c.map (·.1))) (py : ys.Perm (d.map (·.1))) (sx : xs.Pairwise (· ≤ ·)) (sy : ys.Pairwise (· ≤ ·)) : dBy c xs = dBy d ys := by
  have pp : (c.map (·.1)).Perm (d.map (·.1)) := (List.perm_ext_iff_of_nodup nc nd).mpr fun k => by rw [key_pos nc pc, key_pos nd pd, e k]
  have hx : xs = ys := sort_uniq (px.trans (pp.trans py.symm)) sx sy
  subst hx
  unfold dBy
  exact List.map_congr_left fun k _ => by
    have := e k
    unfold valN at this
    rw [this]
theorem allL_mono {α : Type} [DecidableEq α] {rs : List (α × α)} {sd : α × α → α → Bool} (S : Sd rs sd) : ∀ (n m : Nat) (L : List α), Con rs L → L.length ≤ n → n ≤ m → allL rs sd m L = allL rs sd n L
  | 0, _, L, C, l, _ => absurd C.2.1 (by omega)
  | n + 1, 0, _, _, _, l => absurd l (by omega)
  | n + 1, m + 1, L, C, l, lm => by
    rw [allL, allL]
    by_cases h : L.length = 1
    · rw [if_pos h, if_pos h]
    · rw [if_neg h, if_neg h, List.flatMap_def, List.flatMap_def]
      congr 1
      refine List.map_congr_left fun e he => ?_
      obtain ⟨he1, he2⟩ := List.mem_filter.mp he
      obtain ⟨c1, c2, ll, l3, l4⟩ := C.cut S he1 he2
      rw [allL_mono S n m _ c1 (by omega) (by omega), allL_mono S n m _ c2 (by omega) (by omega)]
theorem PrtP.keptD {H H' : Hp} {c t : Addr} {kvs : List (Key × V)} {p : List Str} (h : PrtP H t p) (hc : H c = some (.dK kvs)) (k : Kept c H H') : PrtP H' t p := by
  obtain ⟨v, a, h1, h2⟩ := h
  exact ⟨v, a, k _ _ (fun z => by rw [z, hc] at h1; cases h1) h1, k _ _ (fun z => by rw [z, hc] at h2; cases h2) h2⟩
theorem RowP.keptD {H H' : Hp} {c p : Addr} {kvs : List (Key × V)} {row : List (List Str)} (h : RowP H p row) (hc : H c = some (.dK kvs)) (k : Kept c H H') : RowP H' p row := by
  obtain ⟨ts, h1, h2⟩ := h
  exact ⟨ts, k _ _ (fun z => by rw [z, hc] at h1; cases h1) h1, paired_imp (fun _ _ q => q.keptD hc k) h2⟩
theorem count_snoc {α : Type} {p : α → Bool} {xs : List α} {i : Nat} (hi : i < xs.length) : (xs.take (i + 1)).countP p = (xs.take i).countP p + if p xs[i] = true then 1 else 0 := by
  rw [take_snoc hi, List.countP_append, List.countP_cons, List.countP_nil]
  omega
def spSq (K : PySem.W.Frag) : Sp := fun vs H Q _ => ∃ (a : Addr) (n : Nat), vs = [.ref a] ∧ Spr H a n ∧ n + 6000 ≤ 1000000 ∧ ∀ H', Kept a H H' → Spr H' a (n + 2000) → Q (.bl true) H'
theorem small_pow6 {ss : List Str} {rs : List (Str × Str)} (T : Tree ss rs) (l6 : ss.length ≤ 6) : rs.length ^ ss.length < 2 ^ 20 := by
  have lr : rs.length ≤ 5 := by have := T.len; omega
  refine Nat.lt_of_le_of_lt (Nat.pow_le_pow_left lr _) (Nat.lt_of_le_of_lt (Nat.pow_le_pow_right (by decide) l6) (by decide))
section
variable {P : Program} {w : World} {K : PySem.W.Frag} {mg : Str → Option Value} {base : Heap} {C CV CN : Addr}
theorem ok_Sq {f fD fV fM fA fP fB fS : Addr} {fd dd vd md ad pd bd sd : FuncData} (F : Fun K "_law_small_right" "_law_small_right" sSq f fd) (B : Bl mg) (msd : mg "sorted" = none)
    (GD : FnOk P w K mg base CX0 1 fD dd ["spring", "many"] spDraw) (bD : Binds K dd ["spring", "many"] []) (kD : PySem.W.keepIn K (.ref fD) = true) (mD : mg "_law_draw" = some (.ref fD))
    (GV : FnOk P w K mg base CX0 4 fV vd ["spring", "many", "wide"] spVF) (bV : Binds K vd ["spring", "many", "wide"] []) (kV : PySem.W.keepIn K (.ref fV) = true) (mV : mg "_law_v_form" = some (.ref fV))
    (GM : FnOk P w K mg base CX0 7 fM md ["spring", "form"] (spMd C)) (bM : Binds K md ["spring", "form"] []) (kM : PySem.W.keepIn K (.ref fM) = true) (mM : mg "_law_v_made" = some (.ref fM))
    (GA : FnOk P w K mg base CX0 8 fA ad ["form", "lot"] (spUa 6)) (bA : Binds K ad ["form", "lot"] []) (kA : PySem.W.keepIn K (.ref fA) = true) (mA : mg "_law_u_all" = some (.ref fA))
    (GP : FnOk P w K mg base CX0 2 fP pd ["spring", "some"] spPick) (bP : Binds K pd ["spring", "some"] []) (kP : PySem.W.keepIn K (.ref fP) = true) (mP : mg "_law_pick" = some (.ref fP))
    (GB : FnOk P w K mg base (L2.CX P w) 19 fB bd ["valley", "house"] (spCb K C CV CN 9 512)) (bB : Binds K bd ["valley", "house"] []) (kB : PySem.W.keepIn K (.ref fB) = true) (mB : mg "count_by_feasts" = some (.ref fB))
    (GS : FnOk P w K mg base CX0 6 fS sd ["found", "due"] (spSm R6)) (bS : Binds K sd ["found", "due"] []) (kS : PySem.W.keepIn K (.ref fS) = true) (mS : mg "_law_same" = some (.ref fS)) :
    FnOk P w K mg base CX0 20 f fd ["spring"] (spSq K) := by
  refine F.ok scSq (fun vs H Q E h => ?_) (fun cdv A outer s H vs Q E hr h => ?_)
  · obtain ⟨a, n, rfl, _⟩ := h
    rfl
  obtain ⟨a, n, rfl, hs, hn, q⟩ := h
  have nd := scSq.nd
  have hu := hu_of hr
  have hr1 : Room 1 _ := hr.mono (by decide)
  have hr2 : Room 2 _ := hr.mono (by decide)
  have hr4 : Room 4 _ := hr.mono (by decide)
  have hr6 : Room 6 _ := hr.mono (by decide)
  have hr7 : Room 7 _ := hr.mono (by decide)
  have hr8 : Room 8 _ := hr.mono (by decide)
  refine ⟨_, (pss_cons (by exact (ps_set (i := 1) nd rfl (.inl rfl) (pe_call GV hr4 rfl mV kV bV .nil pass0 (pa_cons (pv 0) (pa_cons (pe_op op_add pe_int (pe_call GD hr1 rfl mD kD bD .nil pass0 (pa_cons (pv 0) (pa_cons pe_int pa_nil)))) (pa_cons pe_int pa_nil))))))
  (pss_cons (by exact (ps_asg (pe_tup (pa_cons (pe_call GM hr7 rfl mM kM bM .nil pass0 (pa_cons (pv 0) (pa_cons (pv 1) pa_nil))) (pa_cons (pe_call GA hr8 rfl mA kA bA .nil pass0 (pa_cons (pv 1) (pa_cons (pe_callTy call_tuple_of rfl B.tuple PyProof.Rows.boot_tuple (pa_cons (pe_ix ix_list (pv 1) pe_int (fun _ _ => rfl)) pa_nil)) pa_nil))) (pa_cons (pe_call GP hr2 rfl mP kP bP .nil pass0 (pa_cons (pv 0) (pa_cons (pe_ix ix_list (pv 1) pe_int (fun _ _ => rfl)) pa_nil))) pa_nil)))) (pg_tup rfl (pgs_cons (pg_name (i := 2) nd rfl (.inl rfl)) (pgs_cons (pg_name (i := 3) nd rfl (.inl rfl)) (pgs_cons (pg_name (i := 4) nd rfl (.inr rfl)) pgs_nil))))))
  (pss_cons (by exact (ps_set (i := 5) nd rfl (.inr rfl) pe_dnewK))
  (pss_cons (by exact (ps_for PassesOwn.never rfl (by exact pi_list (pv 3)) (pg_name (i := 6) nd rfl (.inl rfl)) (pss_cons (by exact (ps_set (i := 9) nd rfl (.inl rfl) (pe_callB call_len_seq rfl B.len PySem.boot_len (pa_cons (pe_lc (own := [("road", 7), ("part", 8)]) (g := gTup K 2 (gCons (gName 7) (gCons (gName 8) gNil))) (tt := tTest (tOp (rIn K false) (tVar 4) (tVar 8))) (te := tVar 7) rfl nd (by exact pi_list (pv 6)) (by exact blkOk_by (N := ["spring", "form", "made", "every", "house", "counts", "rows", "road", "part", "often"]) (sc := defScope sSq) (by decide +kernel)) (fun _ _ _ _ _ => by exact (pg_tup rfl (pgs_cons (pg_name (i := 7) nd rfl (.inl rfl)) (pgs_cons (pg_name (i := 8) nd rfl (.inl rfl)) pgs_nil)))) (fun _ _ _ _ _ => by exact (pts_one (pt_cmpR op_in_seq (pv 4) (pv 8) (by with_unfolding_all rfl)))) (fun _ _ _ _ _ => by exact (pv 7))) pa_nil))))
  (pss_one (by exact (ps_dput hu (pv 5) (pv 9) (pe_op op_add (pe_dget2 hu (pv 5) (pv 9) pe_int ⟨rfl, rfl, rfl, rfl⟩) pe_int) rfl))))))
  (pss_one (by exact (ps_ret (pe_call GS hr6 rfl mS kS bS .nil pass0 (pa_cons (pe_call GB hr rfl mB kB bB .nil passL (pa_cons (pv 2) (pa_cons (pv 4) pa_nil))) (pa_cons (pe_callTy (call_dictP rfl) rfl B.dict PyProof.Rows.boot_dict (pa_cons (pe_lc (own := [("often", 9)]) (g := gName 9) (tt := tYes) (te := tTup (tCons (tVar 9) (tCons (tDGet (tVar 5) (tVar 9)) tNil))) rfl nd (by exact pi_list (pe_callB (call_sortedDI rfl) rfl msd PyProof.Rows.boot_sorted (pa_cons (pv 5) pa_nil))) (by exact blkOk_by (N := ["spring", "form", "made", "every", "house", "counts", "rows", "road", "part", "often"]) (sc := defScope sSq) (by decide +kernel)) (fun _ _ _ _ _ => by exact (pg_name (i := 9) nd rfl (.inl rfl))) (fun _ _ _ _ _ => by exact pts_nil) (fun _ _ _ _ _ => by exact (pe_tup (pa_cons (pv 9) (pa_cons (pe_dget hu (pv 5) (pv 9) (fun _ _ => rfl)) pa_nil))))) pa_nil)) pa_nil)))))))))), ?_⟩
  refine ⟨_, rfl, _, rfl, a, 6, n, rfl, hs, by omega, by decide, by decide, fun d H1 d0 d1 k1 s1 => ?_⟩
  obtain ⟨mm, rfl⟩ : ∃ mm : Nat, d = (mm : Int) := ⟨d.toNat, by omega⟩
  refine ⟨_, _, rfl, rfl, a, mm + 1, 3, n + 1, ?_, s1, by omega, by omega, by omega, by decide, by decide, fun t p1 p2 p3 qs ss rs nss H2 k2 s2 va ok hl2 => ?_⟩
  · show [V.ref a, V.int ((1 : Int) + (mm : Int)), V.int 3] ++ [] = _
    rw [show (1 : Int) + (mm : Int) = ((mm + 1 : Nat) : Int) by omega]
    rfl
  refine K1.gN ?_
  have T : Tree ss rs := ⟨ok.good.1, ok.ends, ok.cut, ok.rl⟩
  have l6 : ss.length ≤ 6 := by omega
  have con := tree_con T
  refine ⟨_, rfl, _, rfl, a, t, p1, p2, p3, qs, ss, rs, nss, _, rfl, s2, by omega, va, ok, fun x l1 l2 l3 d1 d2 d3 qs' bs H3 k3 s3 vs off => ?_⟩
  have va3 := va.kept s2 k3
  have fm3 : Frm H3 t p1 p2 (.ref p3) qs ss rs := ⟨va3.t0, va3.h1, va3.h2, va3.pr, T, by omega, fun s hs => (ok.good.2 s hs).1⟩
  have i0 : atI [V.ref p1, .ref p2, .ref p3] 0 = some (.ref p1) := rfl
  refine cons_run ⟨_, rfl, _, rfl, t, _, (0 : Int), .ref p1, rfl, rfl, SqL.of fm3.t0, i0, p1, _, rfl, .inl ⟨SqL.of fm3.h1, fun pt hpt => ?_⟩⟩
  have e4 := K1.Same.upd (H := H3) (p := pt) (o := .tup (ss.map V.str)) hpt
  have gpt := upd_same' H3 pt (.tup (ss.map V.str))
  generalize L2.upd H3 pt (.tup (ss.map V.str)) = H4 at e4 gpt ⊢
  refine ⟨t, pt, p1, p2, .ref p3, qs, ss, rs, ss, rfl, fm3.same e4, SubL.self ss, con, by omega, small_pow6 T l6, gpt, fun r H5 e5 nr ar => ?_⟩
  have e35 := e4.trans e5
  have s5 := s3.same e35
  have fm5 := fm3.same e35
  refine cons_run ⟨_, rfl, _, rfl, t, _, (0 : Int), .ref p1, rfl, rfl, SqL.of fm5.t0, i0, a, p1, _, _, rfl, s5, by omega, fm5.h1, va.n1, ?_, by rw [List.length_map]; omega, fun v H6 hv k6 s6 => ?_⟩
  · intro z
    have := List.map_eq_nil_iff.mp z
    have := ok.pos
    rw [‹ss = []›] at this
    exact absurd this (by decide)
  obtain ⟨hs', hh, rfl⟩ := List.mem_map.mp hv
  refine ⟨(by show 3 ≤ sizeLine; decide), fun Tp hTp => ?_⟩
  have e7 := K1.Same.upd (H := H6) (p := Tp) (o := .tup [.ref x, .ref r, .str hs']) hTp
  have gT := upd_same' H6 Tp (.tup [.ref x, .ref r, .str hs'])
  generalize L2.upd H6 Tp (.tup [.ref x, .ref r, .str hs']) = H7 at e7 gT ⊢
  refine ⟨Tp, _, rfl, SqT.of gT, rfl, _, _, rfl, _, _, rfl, _, _, rfl, rfl, ?_⟩
  with_reducible refine sQ ?_
  refine fun c hc => ?_
  have e8 := K1.Same.upd (H := H7) (p := c) (o := .dK []) hc
  have gc := upd_same' H7 c (.dK [])
  generalize L2.upd H7 c (.dK []) = H8 at e8 gc ⊢
  refine K1.gN ?_
  have e68 := e7.trans e8
  have iv8 : IsV C H8 x ss rs nss := IsV.same ⟨ok.nl.symm, l1, l2, l3, d1, d2, d3, qs', bs, (vs.same e35).kept off s5 k6⟩ e68
  have a4 : H4 a ≠ none := (s3.same e4).kept
  obtain ⟨ps, gr, pr⟩ := ar
  have keep8 : Same (wo (oldZ H4) H5) H8 := fun b o h => by
    obtain ⟨z1, z2⟩ := wo_some.mp h
    exact e68 _ _ (k6 _ _ (fun y => z1 (by rw [y]; exact a4)) z2)
  have gr8 := keep8 _ _ gr
  have pr8 := paired_imp (fun _ _ q => RowP.ext q keep8) pr
  have S := sd_ok T
  have lrow : ∀ row ∈ allL rs (sdT rs) (5 + 1) ss, row.length < 61 := fun row hr => by
    have := allL_rows S 6 ss con row hr
    omega
  have good := cntD_good (h := hs') (m := 61) (allL rs (sdT rs) (5 + 1) ss) lrow
  have mono : allL rs (sdT rs) 9 ss = allL rs (sdT rs) 6 ss := allL_mono S 6 9 ss con l6 (by decide)
  obtain ⟨b1, b2, b3, b4⟩ := byL_good (h := hs') (N := 9) S 9 ss con (by omega) (Nat.le_refl _) hh
  have kinB := byL_keys (rs := rs) (sd := sdT rs) (h := hs') (N := 9) 9 ss
  have hby := byH_byL T hh
  rw [mono] at b4
  have lps : ps.length = (allL rs (sdT rs) (5 + 1) ss).length := pr8.length
  have b4 : ∀ k, valN (byL rs (sdT rs) hs' 9 9 ss) k = (allL rs (sdT rs) (5 + 1) ss).countP fun row => decide (oftenL hs' row = k) := b4
  generalize allL rs (sdT rs) (5 + 1) ss = rows at pr8 lrow good lps b4
  have part : ∀ i, KeysB 61 (cntD hs' (rows.take i)) := fun i => (cntD_good (h := hs') (m := 61) (rows.take i) fun row hr => lrow row (List.mem_of_mem_take hr)).1
  refine ⟨_, rfl, r, rfl, ⟨_, SqL.of gr8⟩, ?_⟩
  have rc : r ≠ c := fun z => by rw [z, gc] at gr8; cases gr8
  refine for_it walk_list (fun i σ Hc => (∃ y6 y9, σ = [some (.ref a), some (.ref t), some (.ref x), some (.ref r), some (.str hs'), some (.ref c), y6, none, none, y9]) ∧ Kept c H8 Hc ∧ Hc c = some (.dK (dQ (cntD hs' (rows.take i)))))
    ⟨⟨_, _, rfl⟩, Kept.refl, gc⟩ (fun i σ Hc _ h => SqL.of (h.2.1 _ _ rc gr8)) ?_ ?_
  · rintro i v σ Hc H' hi ⟨⟨y6, y9, rfl⟩, c1, c2⟩ ⟨rfl, hv⟩
    rw [List.length_map, lps] at hi
    have hv : (ps.map V.ref)[i]? = some v := hv
    obtain ⟨p, ep, rp⟩ := paired_get pr8 hi
    rw [List.getElem?_map, ep] at hv
    obtain rfl := (Option.some.inj hv).symm
    obtain ⟨ts, gp, pp⟩ := rp.keptD gc c1
    have stp : cntD hs' (rows.take (i + 1)) = addN (cntD hs' (rows.take i)) (oftenL hs' rows[i]) 1 := by
      rw [take_snoc hi, cntD_snoc]
    have lr := lrow _ (List.getElem_mem hi)
    generalize rows[i] = row at pp stp lr
    have lts : ts.length = row.length := pp.length
    refine K1.gN ?_
    with_reducible refine sQ (asg_run (cb_run (cons_run ?_)))
    refine ⟨_, rfl, p, rfl, ⟨_, SqL.of gp⟩, fun D hD => ?_⟩
    have cD : c ≠ D := ne_of_none c2 hD
    refine lc_it (Qd := _) walk_list (fun j Hx => Same H' Hx ∧ ∃ acc : List V, Hx D = some (.lst acc) ∧ acc.length = (row.take j).countP fun q => decide (hs' ∈ q)) ⟨K1.Same.upd hD, [], upd_same, rfl⟩ (fun j Hx _ h => SqL.of (h.1 _ _ gp)) ?_ ?_
    · rintro j v Hx H'' hj ⟨x1, acc, x2, x3⟩ ⟨rfl, hv2⟩
      rw [List.length_map, lts] at hj
      have hv2 : (ts.map V.ref)[j]? = some v := hv2
      obtain ⟨tj, etj, ⟨rv, pa, h1, h2⟩⟩ := paired_get pp hj
      rw [List.getElem?_map, etj] at hv2
      obtain rfl := (Option.some.inj hv2).symm
      refine ⟨tj, _, rfl, SqT.of (x1 _ _ h1), rfl, _, _, rfl, _, _, rfl, rfl, rfl, ?_⟩
      refine ⟨_, rfl, _, rfl, pa, _, rfl, .inl (SqL.of (x1 _ _ h2)), rfl, flat_strs, _, rfl, ?_⟩
      show if inV (V.str hs') (row[j].map V.str) = true then _ else _
      rw [inV_str]
      have cs := count_snoc (p := fun q => decide (hs' ∈ q)) hj
      have la : acc.length ≤ 1000 := by
        rw [x3]
        refine Nat.le_trans List.countP_le_length ?_
        rw [List.length_take]
        omega
      refine ite2 (fun y => ?_) (fun y => ?_)
      · refine ⟨_, rfl, acc, x2, small1000 la, ps_same_upd x1 hD, acc ++ [rv], upd_same, ?_⟩
        rw [cs, if_pos y, List.length_append, x3]
        rfl
      · refine ⟨x1, acc, x2, ?_⟩
        rw [cs, if_neg y, x3]
        rfl
    · rintro Hx ⟨x1, acc, x2, x3⟩
      rw [show (ts.map V.ref).length = row.length by rw [List.length_map, lts], List.take_length] at x3
      have x3 : acc.length = oftenL hs' row := x3
      refine ⟨D, acc, rfl, .inl (SqL.of x2), ?_⟩
      refine K1.gN ?_
      have gcx := x1 _ _ c2
      rw [x3]
      have pk := part i
      generalize cntD hs' (rows.take i) = cd at gcx stp pk
      have dg2 := DGet.k (k := .inl ((oftenL hs' row : Nat) : Int)) gcx
      rw [dQ_val] at dg2
      have eo : ((getN cd (oftenL hs' row)).map fun v => V.int ((v : Nat) : Int)).getD (.int 0) = .int ((((getN cd (oftenL hs' row)).getD 0 : Nat)) : Int) := by
        cases getN cd (oftenL hs' row) <;> rfl
      refine ⟨_, rfl, c, rfl, .inl ⟨_, .inl gcx⟩, _, rfl, _, dg2, _, _, eo, rfl, ?_⟩
      have dput := DPut.k (k := .inl ((oftenL hs' row : Nat) : Int)) (v := .int (((getN cd (oftenL hs' row)).getD 0 + 1 : Nat) : Int)) gcx (by rw [dQ_len]; have := pk.len; show _ < 2 ^ 24; omega)
      rw [dQ_put] at dput
      refine ⟨_, rfl, _, rfl, c, _, rfl, dput, ?_⟩
      refine ⟨⟨_, _, rfl⟩, c1.trans ((Kept.same x1).trans Kept.upd), ?_⟩
      rw [upd_same, stp]
      rfl
  · rintro σ Hc ⟨⟨y6, y9, rfl⟩, c1, c2⟩
    rw [show (ps.map V.ref).length = rows.length by rw [List.length_map, lps], List.take_length] at c2
    obtain ⟨g1, g2, g3⟩ := good
    have xc : ∀ {b : Addr} {o : HO}, H8 b = some o → (∀ kv, o ≠ .dK kv) → b ≠ c := fun h n z => by rw [z, gc] at h; exact n _ (Option.some.inj h).symm
    have c0 : H7 c = none := hc
    have ivc : IsV C Hc x ss rs nss := by
      refine IsV.same (H := H7) ?_ fun b o h => c1 _ _ (ne_of_none h c0) (e8 _ _ h)
      exact IsV.same ⟨ok.nl.symm, l1, l2, l3, d1, d2, d3, qs', bs, (vs.same e35).kept off s5 k6⟩ e7
    have nds := T.nd
    have l1000 : ss.length ≤ 1000 := by omega
    have lr1000 : rs.length ≤ 1000 := by have := ok.rl; omega
    have l9 : ss.length ≤ 9 := by omega
    have dpB := depB_con T (small_pow T l9) 9 ss (SubL.self ss) con l9 hh
    dsimp only
    refine ret_run (call_run (cons_run ⟨_, rfl, _, rfl, _, _, rfl, .inr ⟨x, ss, rs, nss, rfl, ivc, .inr ⟨hs', rfl, hh, T, nds, l1000, lr1000, lot_B T l9, bit_B l9 hh, by decide, dpB, fun u H9 ks e9 n9 pm pw g9 => ?_⟩⟩⟩))
    rw [hby] at pm g9
    have gc9 := e9 _ _ c2
    have lcd : (cntD hs' rows).length ≤ 61 := g1.len
    refine cons_run (cb_run (cons_run ?_))
    refine due_lc (σ := [some (.ref a), some (.ref t), some (.ref x), some (.ref r), some (.str hs'), some (.ref c), y6, none, none, y9]) (d := 5) (i := 9) (c := cntD hs' rows) (C := c) g1.1 (by omega) gc9 (fun Q' hq => ?_) (fun v => ⟨⟨rfl, rfl⟩, rfl⟩) fun D0 HA ds ys eA nA gA prA pmy pwy => ?_
    · refine ⟨_, rfl, c, dQ (cntD hs' rows), _, rfl, .inl gc9, ?_, ?_, hq⟩
      · unfold dQ
        rw [List.map_map, List.map_map, List.map_map]
        rfl
      · rw [List.length_map, List.length_map]
        omega
    have same : dBy (byL rs (sdT rs) hs' 9 9 ss) ks = dBy (cntD hs' rows) ys := dBy_same b1 g1.1 b2 g2 (fun k => by rw [b4 k, g3 k]) pm pmy pw pwy
    have pc : (dBy (cntD hs' rows) ys).Perm (cntD hs' rows) := dBy_perm g1.1 pmy
    have nty : NoTw (dBy (cntD hs' rows) ys) := noTw_perm pc g1.1
    refine ⟨D0, ds, _, rfl, SqL.of gA, paired_imp (fun _ _ h => SqT.of h) prA, fun Z hZ => ?_⟩
    rw [merge_dQ nty]
    have eZ := K1.Same.upd (H := HA) (p := Z) (o := .dK (dQ (dBy (cntD hs' rows) ys))) hZ
    have gZ := upd_same' HA Z (.dK (dQ (dBy (cntD hs' rows) ys)))
    generalize L2.upd HA Z (.dK (dQ (dBy (cntD hs' rows) ys))) = HB at eZ gZ ⊢
    rw [same] at g9
    have g9B := eZ _ _ (eA _ _ g9)
    refine ⟨.ref u, .ref Z, rfl, r_dQ g9B gZ (by rw [pc.length_eq]; omega), fun HC eC => ?_⟩
    have tot : Same H7 HC := fun b o h => eC _ _ (eZ _ _ (eA _ _ (e9 _ _ (c1 _ _ (ne_of_none h c0) (e8 _ _ h)))))
    have kf : Kept a H HC := k1.trans (k2.trans (k3.trans ((Kept.same e35).trans (k6.trans (Kept.same (e7.trans tot))))))
    exact q HC kf ((s6.same (e7.trans tot)).mono (by omega))
end
end K1
end
-- URef
section
set_option Elab.async false
set_option linter.all false
set_option maxRecDepth 100000
set_option maxHeartbeats 4000000
namespace K1
open PySem PySem.Spec PyProof.Rows L2 W0
abbrev sRef : Stmt := top 66
theorem scRef : FnScope ["form", "made", "odd", "found", "held"] ["form", "made"] (defScope sRef) := ⟨rfl, rfl, rfl, by decide +kernel, rfl, by decide +kernel, by decide +kernel⟩
def qRef : Str := "_law_refused_right.<locals>." ++ "<lambda>"
theorem ValS.extN {C : Addr} {H H' : Hp} {x l1 l2 l3 d1 d2 d3 : Addr} {qs : List Addr} {bs : Str → Addr} {ss : List Str} {rs : List (Str × Str)} {ns : List Int} (v : ValS C H x l1 l2 l3 d1 d2 d3 qs bs ss rs ns) (e : LamX.ExtN H H') : ValS C H' x l1 l2 l3 d1 d2 d3 qs bs ss rs ns := by
  obtain ⟨dx, fs, a, r⟩ := v.ins
  obtain ⟨k2, a2, b2⟩ := v.p2
  obtain ⟨k3, a3, b3⟩ := v.p3
  exact ⟨⟨dx, fs, e _ _ a (fun _ z => by cases z), r⟩, e _ _ v.h1 (fun _ z => by cases z), e _ _ v.h2 (fun _ z => by cases z), paired_imp (fun _ _ q => e _ _ q (fun _ z => by cases z)) v.pr, e _ _ v.h3 (fun _ z => by cases z), e _ _ v.p1 (fun _ z => by cases z), ⟨k2, e _ _ a2 (fun _ z => by cases z), b2⟩, ⟨k3, e _ _ a3 (fun _ z => by cases z), b3⟩, fun s hs => e _ _ (v.nb s hs) (fun _ z => by cases z)⟩
theorem IsV.extN {C : Addr} {H H' : Hp} {x : Addr} {ss : List Str} {rs : List (Str × Str)} {ns : List Int} (v : IsV C H x ss rs ns) (e : LamX.ExtN H H') : IsV C H' x ss rs ns := by
  obtain ⟨l, l1, l2, l3, d1, d2, d3, qs, bs, h⟩ := v
  exact ⟨l, l1, l2, l3, d1, d2, d3, qs, bs, h.extN e⟩
section
variable {K : PySem.W.Frag} {H : Hp}
theorem odd_one {l d lf p1 p2 p3 : Addr} {qs : List Addr} {ss : List Str} {rs : List (Str × Str)} {ns : List Int} (hl : H l = some (.lst [])) (hd : H d = some (.dK [])) (hf : H lf = some (.lst [.ref p1, .ref p2, .ref p3])) (h1 : H p1 = some (.lst (ss.map V.str))) (h2 : H p2 = some (.lst (qs.map V.ref))) (pr : Paired (TupP H) qs rs) (h3 : H p3 = some (.lst (ns.map V.int)))
    (ls : ss.length ≤ 60) (lr : rs.length ≤ 60) (ln : ns.length ≤ 60) : ∀ y ∈ [V.non, .int 5, .str "ab", .ref l, .ref d, .bl true, .ref lf], NoV K H y ∧ R4v H y y := by
  intro y hy
  simp only [List.mem_cons, List.not_mem_nil, or_false] at hy
  rcases hy with rfl | rfl | rfl | rfl | rfl | rfl | rfl
  · exact ⟨⟨_, .inl (.base .non), by decide⟩, r_non⟩
  · exact ⟨⟨_, .inl (.base (.int 5)), by decide⟩, r_int 5⟩
  · exact ⟨⟨_, .inl (.base (.str "ab")), by decide⟩, r_str _⟩
  · exact ⟨⟨_, .inl (.base (.lst hl)), by decide⟩, r_lists hl hl (by show 0 ≤ 100; decide) .nil⟩
  · exact ⟨⟨_, .inl (.base (.dK hd)), by decide⟩, r_dct0 hd hd⟩
  · exact ⟨⟨_, .inl (.base (.bl true)), by decide⟩, r_bl _⟩
  · have lq := pr.length
    refine ⟨⟨_, .inl (.base (.lst hf)), by decide⟩, r_lists hf hf (by show 3 ≤ 100; decide) (.cons (r_lists h1 h1 (by rw [List.length_map]; omega) (r_strs _)) (.cons (r_lists h2 h2 (by rw [List.length_map]; omega) (r_pairs pr pr)) (.cons (r_lists h3 h3 (by rw [List.length_map]; omega) (r_ints _)) .nil)))⟩
theorem odd_two {l t d h : Addr} {ss : List Str} {s : Str} (hs : ∀ s ∈ ss, nameOk s = true) (nb : NoBody ss) (hl : H l = some (.lst [.str s])) (ht : H t = some (.tup [.str s])) (hd : H d = some (.dK [])) (hh : H h = some (.dK [(.inr "nobody", .int 1)])) :
    ∀ y ∈ [V.non, .int 5, .str "nobody", .str "", .bl true, .ref l, .ref t, .ref d, .ref h], NoHo K H ss y ∧ R4v H y y := by
  intro y hy
  simp only [List.mem_cons, List.not_mem_nil, or_false] at hy
  rcases hy with rfl | rfl | rfl | rfl | rfl | rfl | rfl | rfl | rfl
  · exact ⟨.inr ⟨_, .base .non, by decide, by decide⟩, r_non⟩
  · exact ⟨.inr ⟨_, .base (.int 5), by decide, by decide⟩, r_int 5⟩
  · exact ⟨.inl ⟨_, rfl, nb⟩, r_str _⟩
  · refine ⟨.inl ⟨_, rfl, fun z => ?_⟩, r_str _⟩
    have := hs _ z
    have e : nameOk (Str.ofString "") = false := by decide +kernel
    rw [e] at this
    cases this
  · exact ⟨.inr ⟨_, .base (.bl true), by decide, by decide⟩, r_bl _⟩
  · exact ⟨.inr ⟨_, .base (.lst hl), by decide, by decide⟩, r_lists hl hl (by show 1 ≤ 100; decide) (.cons (r_str s) .nil)⟩
  · exact ⟨.inr ⟨_, .base (.tup ht), by decide, by decide⟩, r_tups ht ht (by show 1 ≤ 100; decide) (.cons (r_str s) .nil)⟩
  · exact ⟨.inr ⟨_, .base (.dK hd), by decide, by decide⟩, r_dct0 hd hd⟩
  · refine ⟨.inr ⟨_, .base (.dK hh), by decide, by decide⟩, r_dct hh hh (by show 1 ≤ 100; decide) fun e he => ?_⟩
    rw [List.mem_singleton.mp he]
    exact flat_si _ _
variable {C CV CN : Addr} {σ : L2.St} {E : XK} {Q : VK} {v u : V} {N Bd : Nat}
theorem cb_no {t t2 : TE} (ht : ∀ Q' : VK, Q' v H → t σ H Q') (h2 : ∀ Q' : VK, (∀ u, Q' u H) → t2 σ H Q') (n : NoV K H v) (g : GoesF CV [("thing", v)] H E) : tCall (spCb K C CV CN N Bd) [] E (tCons t (tCons t2 tNil)) σ H Q := ht _ (h2 _ fun u => ⟨v, u, rfl, .inl ⟨n, g⟩⟩)
theorem mu_no {t t2 : TE} (ht : ∀ Q' : VK, Q' v H → t σ H Q') (h2 : ∀ Q' : VK, (∀ u, Q' u H) → t2 σ H Q') (n : NoV K H v) (g : GoesF CV [("thing", v)] H E) : tCall (spMu K C CV CN N Bd) [] E (tCons t (tCons t2 tNil)) σ H Q := ht _ (h2 _ fun u => ⟨v, u, rfl, .inl ⟨n, g⟩⟩)
theorem cb_noh {t t2 : TE} {x : Addr} {ss : List Str} {rs : List (Str × Str)} {ns : List Int} (ht : ∀ Q' : VK, Q' (.ref x) H → t σ H Q') (h2 : ∀ Q' : VK, Q' u H → t2 σ H Q') (iv : IsV C H x ss rs ns) (n : NoHo K H ss u) (g : GoesF CN [("house", u)] H E) : tCall (spCb K C CV CN N Bd) [] E (tCons t (tCons t2 tNil)) σ H Q := ht _ (h2 _ ⟨_, u, rfl, .inr ⟨x, ss, rs, ns, rfl, iv, .inl ⟨n, g⟩⟩⟩)
theorem mu_noh {t t2 : TE} {x : Addr} {ss : List Str} {rs : List (Str × Str)} {ns : List Int} (ht : ∀ Q' : VK, Q' (.ref x) H → t σ H Q') (h2 : ∀ Q' : VK, Q' u H → t2 σ H Q') (iv : IsV C H x ss rs ns) (n : NoHo K H ss u) (g : GoesF CN [("house", u)] H E) : tCall (spMu K C CV CN N Bd) [] E (tCons t (tCons t2 tNil)) σ H Q := ht _ (h2 _ ⟨_, u, rfl, .inr ⟨x, ss, rs, ns, rfl, iv, .inl ⟨n, g⟩⟩⟩)
end
theorem cst_run {v : V} {σ : L2.St} {H : Hp} {Q : VK} (h : Q v H) : tC v σ H Q := h
def spRef (C : Addr) (TT : List (Addr × Str)) : Sp := fun vs H Q _ => ∃ (t x p1 p2 p3 : Addr) (qs : List Addr) (ss : List Str) (rs : List (Str × Str)) (ns : List Int), vs = [.ref t, .ref x] ∧ LamX.Tabs TT H ∧ Frm H t p1 p2 (.ref p3) qs ss rs ∧ H p3 = some (.lst (ns.map V.int)) ∧ ns.length ≤ 60 ∧ IsV C H x ss rs ns ∧ 1 ≤ ss.length ∧ NoBody ss ∧
  ∀ H', LamX.ExtN H H' → LamX.Tabs TT H' → Q (.bl true) H'
section
variable {P : Program} {w : World} {K : PySem.W.Frag} {mg : Str → Option Value} {base : Heap} {C CV CN : Addr}
theorem ok_ref {f c TP fm fS fB fM : Addr} {fdm sd bd md : FuncData} {oc kVx doc pm ct : Value} {od an : Option Addr} {osl : Array (Option Value)} (lk : K.lookup f = some ⟨oc, od, .func (PySem.W.fnOf "_law_refused_right" "_law_refused_right" (defArgs sRef) (defBody sRef) (defScope sRef) .none kVx doc pm an (.ref c) ct), osl⟩) (hcd : PySem.W.codeIn K (.ref c) "_law_refused_right" = true)
    (BB : Bl mg) (MG : MetU K mg CV CN) (Fm : Fun K "_law_met" "_law_met" sMt fm fdm) (bm : Binds K fdm ["ask"] []) (mm : mg "_law_met" = some (.ref fm)) (TB : LamX.TabB base mg c TP) {TT : List (Addr × Str)} (hT : (TP, qRef) ∈ TT) (hU : ∀ p ∈ TT, p.1 = TP → p.2 = qRef)
    (GS : FnOk P w K mg base CX0 6 fS sd ["found", "due"] (spSm R6)) (bS : Binds K sd ["found", "due"] []) (kS : PySem.W.keepIn K (.ref fS) = true) (mS : mg "_law_same" = some (.ref fS))
    (GB : FnOk P w K mg base (L2.CX P w) 19 fB bd ["valley", "house"] (spCb K C CV CN 9 512)) (bB : Binds K bd ["valley", "house"] []) (kB : PySem.W.keepIn K (.ref fB) = true) (mB : mg "count_by_feasts" = some (.ref fB))
    (GM : FnOk P w K mg base (L2.CX P w) 20 fM md ["valley", "house"] (spMu K C CV CN 9 512)) (bM : Binds K md ["valley", "house"] []) (kM : PySem.W.keepIn K (.ref fM) = true) (mM : mg "mean_of_unlike" = some (.ref fM)) :
    FnOk P w K mg base CX0 23 f (PySem.W.fnOf "_law_refused_right" "_law_refused_right" (defArgs sRef) (defBody sRef) (defScope sRef) .none kVx doc pm an (.ref c) ct) ["form", "made"] (spRef C TT) := by
  obtain ⟨ocm, odm, kVm, docm, pmm, anm, cdvm, ctm, oslm, rfl, lkm, hcm⟩ := Fm.ex
  have km := Fm.kp
  refine fn_of lk hcd scRef (fun vs H Q E h => ?_) (fun A outer s0 H vs Q E hr8 h => ?_)
  · obtain ⟨t, x, p1, p2, p3, qs, ss, rs, ns, rfl, _⟩ := h
    rfl
  obtain ⟨t, x, p1, p2, p3, qs, ss, rs, ns, rfl, tb, fm, hp3, ln, iv, ls1, nob, q⟩ := h
  suffices hh : ∃ t0, PSs (cxOf CX0 P w K mg base ["form", "made", "odd", "found", "held"] "_law_refused_right" (defScope sRef) f (.ref c) A outer s0 H E).nox (defBody sRef) t0 ∧ t0 { nx := fun _ H' => Q .non H', rt := Q } (L2.start ["form", "made", "odd", "found", "held"] [.ref t, .ref x]) H by
    obtain ⟨t0, h1, h2⟩ := hh
    exact ⟨t0, h1.nox, h2⟩
  have nd := scRef.nd
  have hu := hu_of hr8
  have hr6 : Room 6 _ := hr8.mono (by decide)
  refine ⟨_, (pss_cons (by exact (ps_for PassesOwn.never rfl (by exact pi_tup (pe_tup (pa_cons pe_non (pa_cons pe_int (pa_cons pe_str (pa_cons (pe_lst pa_nil) (pa_cons pe_dnewK (pa_cons pe_bl (pa_cons (pe_callTy call_list_of rfl BB.list PyProof.Rows.boot_list (pa_cons (pv 0) pa_nil)) pa_nil))))))))) (pg_name (i := 2) nd rfl (.inr rfl)) (pss_cons (by exact (ps_set (i := 3) nd rfl (.inl rfl) (pe_lst (pa_cons (LamX.pe_lamcall (k := 20) (t := fun E => tCall (spCb K C CV CN 9 512) [] E (tCons (tVar 2) (tCons (tC .non) tNil))) rfl mm km lkm hcm bm scMt rfl (.inl rfl) (mt_gives MG) TB rfl hT hU (by exact hr8) (LamX.lamS_by (by with_unfolding_all rfl)) rfl (fun _ _ _ _ _ => rfl) (fun A outer s H E f c' hz => by exact (pe_call GB (hz.mono (by decide)) rfl mB kB bB .nil (passes_call (takes_of rfl rfl rfl rfl) (fun _ _ _ _ h => h)) (pa_cons (pv 2) (pa_cons pe_non pa_nil))))) pa_nil))))
  (pss_cons (by exact (ps_expr (pe_bm PySem.F.plainAttrs_list PySem.F.slot_list_append PySem.F.type_list_append mt_append (pv 3) (pa_cons (LamX.pe_lamcall (k := 20) (t := fun E => tCall (spMu K C CV CN 9 512) [] E (tCons (tVar 2) (tCons (tC .non) tNil))) rfl mm km lkm hcm bm scMt rfl (.inl rfl) (mt_gives MG) TB rfl hT hU (by exact hr8) (LamX.lamS_by (by with_unfolding_all rfl)) rfl (fun _ _ _ _ _ => rfl) (fun A outer s H E f c' hz => by exact (pe_call GM (hz.mono (by decide)) rfl mM kM bM .nil (passes_call (takes_of rfl rfl rfl rfl) (fun _ _ _ _ h => h)) (pa_cons (pv 2) (pa_cons pe_non pa_nil))))) pa_nil))))
  (pss_one (by exact (ps_if (pt_not (pt_val (pe_call GS hr6 rfl mS kS bS .nil pass0 (pa_cons (pv 3) (pa_cons (pe_op op_rep (pe_lst (pa_cons (pe_tup (pa_cons pe_str (pa_cons (pv 2) pa_nil))) pa_nil)) pe_int) pa_nil))))) (pss_one (by exact (ps_ret pe_bl))) pss_nil)))))))
  (pss_cons (by exact (ps_set (i := 4) nd rfl (.inr rfl) (pe_disp (pps_cons pe_str pe_int pps_nil) (by rfl) (by rfl) (fun z => by cases z) (by decide))))
  (pss_cons (by exact (ps_for PassesOwn.never rfl (by exact pi_tup (pe_tup (pa_cons pe_non (pa_cons pe_int (pa_cons pe_str (pa_cons pe_str (pa_cons pe_bl (pa_cons (pe_lst (pa_cons (pe_ix ix_list (pe_ix ix_list (pv 0) pe_int (fun _ _ => rfl)) pe_int (fun _ _ => rfl)) pa_nil)) (pa_cons (pe_tup (pa_cons (pe_ix ix_list (pe_ix ix_list (pv 0) pe_int (fun _ _ => rfl)) pe_int (fun _ _ => rfl)) pa_nil)) (pa_cons pe_dnewK (pa_cons (pv 4) pa_nil))))))))))) (pg_name (i := 2) nd rfl (.inr rfl)) (pss_cons (by exact (ps_set (i := 3) nd rfl (.inl rfl) (pe_lst (pa_cons (LamX.pe_lamcall (k := 20) (t := fun E => tCall (spCb K C CV CN 9 512) [] E (tCons (tVar 1) (tCons (tVar 2) tNil))) rfl mm km lkm hcm bm scMt rfl (.inl rfl) (mt_gives MG) TB rfl hT hU (by exact hr8) (LamX.lamS_by (by with_unfolding_all rfl)) rfl (fun _ _ _ _ _ => rfl) (fun A outer s H E f c' hz => by exact (pe_call GB (hz.mono (by decide)) rfl mB kB bB .nil (passes_call (takes_of rfl rfl rfl rfl) (fun _ _ _ _ h => h)) (pa_cons (pv 1) (pa_cons (pv 2) pa_nil))))) pa_nil))))
  (pss_cons (by exact (ps_expr (pe_bm PySem.F.plainAttrs_list PySem.F.slot_list_append PySem.F.type_list_append mt_append (pv 3) (pa_cons (LamX.pe_lamcall (k := 20) (t := fun E => tCall (spMu K C CV CN 9 512) [] E (tCons (tVar 1) (tCons (tVar 2) tNil))) rfl mm km lkm hcm bm scMt rfl (.inl rfl) (mt_gives MG) TB rfl hT hU (by exact hr8) (LamX.lamS_by (by with_unfolding_all rfl)) rfl (fun _ _ _ _ _ => rfl) (fun A outer s H E f c' hz => by exact (pe_call GM (hz.mono (by decide)) rfl mM kM bM .nil (passes_call (takes_of rfl rfl rfl rfl) (fun _ _ _ _ h => h)) (pa_cons (pv 1) (pa_cons (pv 2) pa_nil))))) pa_nil))))
  (pss_one (by exact (ps_if (pt_not (pt_val (pe_call GS hr6 rfl mS kS bS .nil pass0 (pa_cons (pv 3) (pa_cons (pe_op op_rep (pe_lst (pa_cons (pe_tup (pa_cons pe_str (pa_cons (pv 2) pa_nil))) pa_nil)) pe_int) pa_nil))))) (pss_one (by exact (ps_ret pe_bl))) pss_nil)))))))
  (pss_cons (by exact (ps_set (i := 3) nd rfl (.inl rfl) (LamX.pe_lamcall (k := 20) (t := fun E => tCall (spMu K C CV CN 9 512) [] E (tCons (tVar 1) (tCons (tVar 4) tNil))) rfl mm km lkm hcm bm scMt rfl (.inl rfl) (mt_gives MG) TB rfl hT hU (by exact hr8) (LamX.lamS_by (by with_unfolding_all rfl)) rfl (fun _ _ _ _ _ => rfl) (fun A outer s H E f c' hz => by exact (pe_call GM (hz.mono (by decide)) rfl mM kM bM .nil (passes_call (takes_of rfl rfl rfl rfl) (fun _ _ _ _ h => h)) (pa_cons (pv 1) (pa_cons (pv 4) pa_nil)))))))
  (pss_cons (by exact (ps_dput hu (pv 4) pe_str pe_int rfl))
  (pss_one (by exact (ps_ret (pe_call GS hr6 rfl mS kS bS .nil pass0 (pa_cons (pv 3) (pa_cons (pe_tup (pa_cons pe_str (pa_cons (pe_disp (pps_cons pe_str pe_int (pps_cons pe_str pe_int pps_nil)) (by rfl) (by rfl) (fun z => by cases z) (by decide)) pa_nil))) pa_nil))))))))))), ?_⟩
  have mbV : MetBy CV CN "valley" "thing" CV := .inl ⟨rfl, rfl, rfl⟩
  have mbH : MetBy CV CN "house" "house" CN := .inr ⟨rfl, rfl, rfl⟩
  refine ⟨Nat.zero_le _, fun l hl => ?_⟩
  have s1 := K1.Same.upd (H := H) (p := l) (o := .lst []) hl
  have gl := upd_same' H l (.lst [])
  generalize L2.upd H l (.lst []) = H1 at s1 gl ⊢
  refine fun d hd => ?_
  have s2 := K1.Same.upd (H := H1) (p := d) (o := .dK []) hd
  have gd := upd_same' H1 d (.dK [])
  generalize L2.upd H1 d (.dK []) = H2 at s2 gd ⊢
  refine ⟨_, rfl, t, _, rfl, .inl (SqL.of (s2 _ _ (s1 _ _ fm.t0))), fun lf hlf => ?_⟩
  have s25 := K1.Same.upd (H := H2) (p := lf) (o := .lst [.ref p1, .ref p2, .ref p3]) hlf
  have glf := upd_same' H2 lf (.lst [.ref p1, .ref p2, .ref p3])
  generalize L2.upd H2 lf (.lst [.ref p1, .ref p2, .ref p3]) = H25 at s25 glf ⊢
  refine ⟨(by show 7 ≤ sizeLine; decide), fun T hT2 => ?_⟩
  have s3 := K1.Same.upd (H := H25) (p := T) (o := .tup [.non, .int 5, .str "ab", .ref l, .ref d, .bl true, .ref lf]) hT2
  have gT := upd_same' H25 T (.tup [.non, .int 5, .str "ab", .ref l, .ref d, .bl true, .ref lf])
  generalize L2.upd H25 T (.tup [.non, .int 5, .str "ab", .ref l, .ref d, .bl true, .ref lf]) = H3 at s3 gT ⊢
  have s03 : Same H H3 := s1.trans (s2.trans (s25.trans s3))
  have fm3 := fm.same s03
  have prn : Paired (TupP (nt H3)) qs rs := paired_imp (fun _ _ q => nt_t q) fm3.pr
  have odd1 := odd_one (K := K) (nt_l (s3 _ _ (s25 _ _ (s2 _ _ gl)))) (nt_d (s3 _ _ (s25 _ _ gd))) (nt_l (s3 _ _ glf)) (nt_l fm3.h1) (nt_l fm3.h2) prn (nt_l (s03 _ _ hp3)) fm.ls fm.lr ln
  have tb3 := tabs_same tb s03
  refine ⟨T, rfl, ⟨_, SqT.of gT⟩, ?_⟩
  refine for_it walk_tup (fun k σ Hc => (∃ y0 y1, σ = [some (.ref t), some (.ref x), y0, y1, none]) ∧ LamX.ExtN H3 Hc ∧ LamX.Tabs TT Hc) ⟨⟨_, _, rfl⟩, LamX.ExtN.refl H3, tb3⟩ (fun k σ Hc _ h => SqT.of (h.2.1 _ _ gT (fun _ z => by cases z))) ?_ ?_
  · rintro k y σ Hc H' hk ⟨⟨y0, y1, rfl⟩, g1, g2⟩ ⟨rfl, hy⟩
    have oy := odd1 y (List.mem_of_getElem? hy)
    refine K1.gN ?_
    with_reducible refine sQ ?_
    refine fnd_first mbV g2 (fun Ha ea E' Q' g => cb_no (fun Q2 q2 => ⟨_, rfl, q2⟩) (fun Q2 q2 => q2 _) (oy.1.ext (nt_to (g1.trans ea))) g) fun Fd z1 H4 f1 => ?_
    refine K1.gN ?_
    with_reducible refine sQ ?_
    refine fnd_app mbV f1 (by simp) rfl (fun Ha ea E' Q' g => mu_no (fun Q2 q2 => ⟨_, rfl, q2⟩) (fun Q2 q2 => q2 _) (oy.1.ext (nt_to (g1.trans ea))) g) fun z2 H5 f2 => ?_
    refine chk_rep (K := K) (tg := "valley") (y := y) (i := 3) (j := 2) 2 (by decide) rfl rfl f2.lst f2.prs (fun Hx ex => ?_) fun H' e' => ?_
    · exact (NextF.mon (NextF.mon (NextF.mon (NextF.mon fun _ _ _ _ _ h => h)))) _ _ _ _ (nt_to (g1.trans (f2.ext.trans (LamX.ExtN.of ex)))) oy.2
    · exact ⟨⟨_, _, rfl⟩, g1.trans (f2.ext.trans (LamX.ExtN.of e')), tabs_same f2.tb e'⟩
  rintro σ Hc ⟨⟨y0, y1, rfl⟩, g1, g2⟩
  have x3c : LamX.ExtN H Hc := (LamX.ExtN.of s03).trans g1
  -- what is held
  with_reducible refine sQ ?_
  refine fun B1 hB1 => ?_
  refine ⟨upd_same, [(.inr "nobody", .int 1)], rfl, (by show 1 ≤ 15; decide), ?_⟩
  have u2 : Same Hc (L2.upd (L2.upd Hc B1 (.dK [])) B1 (.dK (mergeK [] [((.inr "nobody" : Key), V.int 1)]))) := ps_same_upd (K1.Same.upd hB1) hB1
  have gB : L2.upd (L2.upd Hc B1 (.dK [])) B1 (.dK (mergeK [] [((.inr "nobody" : Key), V.int 1)])) B1 = some (.dK [(.inr "nobody", .int 1)]) := upd_same
  generalize L2.upd (L2.upd Hc B1 (.dK [])) B1 (.dK (mergeK [] [((.inr "nobody" : Key), V.int 1)])) = H5 at u2 gB ⊢
  refine K1.gN ?_
  have t5 := tabs_same g2 u2
  have x5 : LamX.ExtN H H5 := x3c.trans (LamX.ExtN.of u2)
  -- the second loop
  obtain ⟨s0, hs0⟩ : ∃ s0, ss[0]? = some s0 := ⟨_, List.getElem?_eq_getElem (by omega)⟩
  have a0 : atI (ss.map V.str) 0 = some (.str s0) := atI_nat (j := 0) (by rw [List.getElem?_map, hs0]; rfl)
  have i0 : atI [V.ref p1, .ref p2, .ref p3] 0 = some (.ref p1) := rfl
  have ft5 := x5 _ _ fm.t0 (fun _ z => by cases z)
  have fh5 := x5 _ _ fm.h1 (fun _ z => by cases z)
  refine ⟨_, rfl, t, _, (0 : Int), .ref p1, rfl, rfl, SqL.of ft5, i0, p1, _, (0 : Int), .str s0, rfl, rfl, SqL.of fh5, a0, (by show 1 ≤ sizeLine; decide), fun l2 hl2 => ?_⟩
  have v1 := K1.Same.upd (H := H5) (p := l2) (o := .lst [.str s0]) hl2
  have gl2 := upd_same' H5 l2 (.lst [.str s0])
  generalize L2.upd H5 l2 (.lst [.str s0]) = H6 at v1 gl2 ⊢
  refine ⟨_, rfl, t, _, (0 : Int), .ref p1, rfl, rfl, SqL.of (v1 _ _ ft5), i0, p1, _, (0 : Int), .str s0, rfl, rfl, SqL.of (v1 _ _ fh5), a0, (by show 1 ≤ sizeLine; decide), fun t2 ht2 => ?_⟩
  have v2 := K1.Same.upd (H := H6) (p := t2) (o := .tup [.str s0]) ht2
  have gt2 := upd_same' H6 t2 (.tup [.str s0])
  generalize L2.upd H6 t2 (.tup [.str s0]) = H7 at v2 gt2 ⊢
  refine fun d2 hd2 => ?_
  have v3 := K1.Same.upd (H := H7) (p := d2) (o := .dK []) hd2
  have gd2 := upd_same' H7 d2 (.dK [])
  generalize L2.upd H7 d2 (.dK []) = H8 at v3 gd2 ⊢
  refine ⟨_, rfl, (by show 9 ≤ sizeLine; decide), fun T2 hT2 => ?_⟩
  have v4 := K1.Same.upd (H := H8) (p := T2) (o := .tup [.non, .int 5, .str "nobody", .str "", .bl true, .ref l2, .ref t2, .ref d2, .ref B1]) hT2
  have gT2 := upd_same' H8 T2 (.tup [.non, .int 5, .str "nobody", .str "", .bl true, .ref l2, .ref t2, .ref d2, .ref B1])
  generalize L2.upd H8 T2 (.tup [.non, .int 5, .str "nobody", .str "", .bl true, .ref l2, .ref t2, .ref d2, .ref B1]) = H9 at v4 gT2 ⊢
  have s59 : Same H5 H9 := v1.trans (v2.trans (v3.trans v4))
  have gB9 := s59 _ _ gB
  have odd2 := odd_two (K := K) (s := s0) fm.ok nob (nt_l (v4 _ _ (v3 _ _ (v2 _ _ gl2)))) (nt_t (v4 _ _ (v3 _ _ gt2))) (nt_d (v4 _ _ gd2)) (nt_d gB9)
  have t9 := tabs_same t5 s59
  have x9 : LamX.ExtN H H9 := x5.trans (LamX.ExtN.of s59)
  refine ⟨T2, rfl, ⟨_, SqT.of gT2⟩, ?_⟩
  refine for_it walk_tup (fun k σ Hc => (∃ y0 y1, σ = [some (.ref t), some (.ref x), y0, y1, some (.ref B1)]) ∧ LamX.ExtN H9 Hc ∧ LamX.Tabs TT Hc) ⟨⟨_, _, rfl⟩, LamX.ExtN.refl H9, t9⟩ (fun k σ Hc _ h => SqT.of (h.2.1 _ _ gT2 (fun _ z => by cases z))) ?_ ?_
  · rintro k y σ Hc H' hk ⟨⟨y0, y1, rfl⟩, g1, g2⟩ ⟨rfl, hy⟩
    have oy := odd2 y (List.mem_of_getElem? hy)
    refine K1.gN ?_
    with_reducible refine sQ ?_
    refine fnd_first mbH g2 (fun Ha ea E' Q' g => cb_noh (fun Q2 q2 => ⟨_, rfl, q2⟩) (fun Q2 q2 => ⟨_, rfl, q2⟩) (iv.extN (x9.trans (g1.trans ea))) (oy.1.ext (nt_to (g1.trans ea))) g) fun Fd z1 H4 f1 => ?_
    refine K1.gN ?_
    with_reducible refine sQ ?_
    refine fnd_app mbH f1 (by simp) rfl (fun Ha ea E' Q' g => mu_noh (fun Q2 q2 => ⟨_, rfl, q2⟩) (fun Q2 q2 => ⟨_, rfl, q2⟩) (iv.extN (x9.trans (g1.trans ea))) (oy.1.ext (nt_to (g1.trans ea))) g) fun z2 H5' f2 => ?_
    refine chk_rep (K := K) (tg := "house") (y := y) (i := 3) (j := 2) 2 (by decide) rfl rfl f2.lst f2.prs (fun Hx ex => ?_) fun H' e' => ?_
    · exact (NextF.mon (NextF.mon (NextF.mon (NextF.mon fun _ _ _ _ _ h => h)))) _ _ _ _ (nt_to (g1.trans (f2.ext.trans (LamX.ExtN.of ex)))) oy.2
    · exact ⟨⟨_, _, rfl⟩, g1.trans (f2.ext.trans (LamX.ExtN.of e')), tabs_same f2.tb e'⟩
  rintro σ Hd ⟨⟨w0, w1, rfl⟩, h1, h2⟩
  have x0d : LamX.ExtN H Hd := x9.trans h1
  have gBd := h1 _ _ gB9 (fun _ z => by cases z)
  with_reducible refine sQ (asg_run ?_)
  refine met_by mbH h2 (fun Ha ea E' Q' g => mu_noh (u := .ref B1) (fun Q2 q2 => ⟨_, rfl, q2⟩) (fun Q2 q2 => ⟨_, rfl, q2⟩) (iv.extN (x0d.trans ea)) (.inr ⟨_, .base (.dK (ea _ _ gBd (fun _ z => by cases z))), by decide, by decide⟩) g) fun p He ee Te fr gp => ?_
  refine K1.gN ?_
  have gBe := ee _ _ gBd (fun _ z => by cases z)
  have pB : p ≠ B1 := fun z => by rw [z, gBe] at gp; cases gp
  refine ⟨_, rfl, B1, _, rfl, DPut.k (k := .inr (Str.ofString "late")) gBe (by show 1 < 2 ^ 24; decide), ?_⟩
  have nB : ∀ o, H B1 = some o → ∃ ps, o = .tbl ps := fun o h => by
    cases o with
    | tbl ps => exact ⟨ps, rfl⟩
    | _ =>
      have h2 := x3c _ _ h fun ps z => by cases z
      rw [hB1] at h2
      cases h2
  have xf : LamX.ExtN H (L2.upd He B1 (.dK (putK [((.inr "nobody" : Key), V.int 1)] (.inr (Str.ofString "late")) (.int 2)))) := extN_upd2 (x0d.trans ee) nB
  have Tf : LamX.Tabs TT (L2.upd He B1 (.dK (putK [((.inr "nobody" : Key), V.int 1)] (.inr (Str.ofString "late")) (.int 2)))) := tabs_keptD Te gBe Kept.upd
  have gBf : L2.upd He B1 (.dK (putK [((.inr "nobody" : Key), V.int 1)] (.inr (Str.ofString "late")) (.int 2))) B1 = some (.dK [(.inr "nobody", .int 1), (.inr "late", .int 2)]) := by
    rw [upd_same]
    exact congrArg (fun z => some (HO.dK z)) (by decide +kernel : putK [((.inr "nobody" : Key), V.int 1)] (.inr (Str.ofString "late")) (.int 2) = [((.inr "nobody" : Key), V.int 1), (.inr "late", .int 2)])
  have gpf : L2.upd He B1 (.dK (putK [((.inr "nobody" : Key), V.int 1)] (.inr (Str.ofString "late")) (.int 2))) p = some (.tup [.str "house", .ref B1]) := by rw [upd_ne pB]; exact gp
  generalize L2.upd He B1 (.dK (putK [((.inr "nobody" : Key), V.int 1)] (.inr (Str.ofString "late")) (.int 2))) = Hf at xf Tf gBf gpf ⊢
  dsimp only
  refine ret_run (call_run (cons_run ⟨_, rfl, cons_run (tup_runE (cons_run ?_))⟩))
  refine cst_run ?_
  dsimp only
  refine cons_run fun D hD => ?_
  have k1 := K1.Same.upd (H := Hf) (p := D) (o := .dK []) hD
  have gD1 := upd_same' Hf D (.dK [])
  refine ⟨gD1, [(.inr "nobody", .int 1), (.inr "late", .int 2)], rfl, (by show 2 ≤ 15; decide), ?_⟩
  have k2 : Same Hf (L2.upd (L2.upd Hf D (.dK [])) D (.dK (mergeK [] [((.inr "nobody" : Key), V.int 1), (.inr "late", .int 2)]))) := ps_same_upd k1 hD
  have gD : L2.upd (L2.upd Hf D (.dK [])) D (.dK (mergeK [] [((.inr "nobody" : Key), V.int 1), (.inr "late", .int 2)])) D = some (.dK [(.inr "nobody", .int 1), (.inr "late", .int 2)]) := by
    rw [upd_same]
    exact congrArg (fun z => some (HO.dK z)) (by decide +kernel : mergeK [] [((.inr "nobody" : Key), V.int 1), (.inr "late", .int 2)] = [((.inr "nobody" : Key), V.int 1), (.inr "late", .int 2)])
  generalize L2.upd (L2.upd Hf D (.dK [])) D (.dK (mergeK [] [((.inr "nobody" : Key), V.int 1), (.inr "late", .int 2)])) = Hg at k2 gD ⊢
  refine ⟨(by show 2 ≤ sizeLine; decide), fun W hW => ?_⟩
  have k3 := K1.Same.upd (H := Hg) (p := W) (o := .tup [.str "house", .ref D]) hW
  have gW := upd_same' Hg W (.tup [.str "house", .ref D])
  show spSm R6 _ (L2.upd Hg W (.tup [.str "house", .ref D])) Q E0
  generalize L2.upd Hg W (.tup [.str "house", .ref D]) = Hh at k3 gW ⊢
  have sfh : Same Hf Hh := k2.trans k3
  refine ⟨_, _, rfl, show R6 Hh (.ref p) (.ref W) from r_tups (sfh _ _ gpf) gW (by show 2 ≤ 100; decide) (.cons (r_str _) (.cons (r_dct (sfh _ _ gBf) (k3 _ _ gD) (by show 2 ≤ 100; decide) fun e he => ?_) .nil)), fun Hz ez => ?_⟩
  · simp only [List.mem_cons, List.not_mem_nil, or_false] at he
    rcases he with rfl | rfl
    · exact flat_si _ _
    · exact flat_si _ _
  · exact q Hz (xf.trans (LamX.ExtN.of (sfh.trans ez))) (tabs_same Tf (sfh.trans ez))
end
end K1
end
-- ULaw
section
set_option Elab.async false
set_option linter.all false
set_option maxRecDepth 100000
set_option maxHeartbeats 4000000
namespace K1
open PySem PySem.Spec PyProof.Rows L2 W0
abbrev sLaw : Stmt := top 67
/-- a def of the law, found at its name -/
def Fx (P : Program) (w : World) (K : PySem.W.Frag) (mg : Str → Option Value) (base : Heap) (CX : CXT) (k : Nat) (x : Str) (ps : List Str) (sp : Sp) : Prop :=
  ∃ f fd, FnOk P w K mg base CX k f fd ps sp ∧ Binds K fd ps [] ∧ PySem.W.keepIn K (.ref f) = true ∧ mg x = some (.ref f)
def spLaw (K : PySem.W.Frag) (T : List (Addr × Str)) : Sp := fun vs H Q _ => ∃ (p : Addr) (ns : List Int), vs = [.ref p] ∧ SqL K H p (ns.map V.int) ∧ ns.length ≤ 1000 ∧ LamX.Tabs T H ∧ ∀ H', Q (.bl true) H'
theorem scLaw : FnScope ["script", "turn", "spring", "form", "made", "one", "other", "house", "row"] ["script"] (defScope sLaw) := ⟨rfl, rfl, rfl, by decide +kernel, rfl, by decide +kernel, by decide +kernel⟩
theorem seq_extN {K : PySem.W.Frag} {H H' : Hp} {a : Addr} {xs : List V} (e : LamX.ExtN H H') (h : SqL K H a xs) : SqL K H' a xs := by
  rcases h with (h | ⟨o, h⟩) | h
  · exact .inl (.inl (e _ _ h (fun _ z => by cases z)))
  · exact .inl (.inr ⟨o, e _ _ h (fun _ z => by cases z)⟩)
  · exact .inr h
theorem Spr.tabs {T : List (Addr × Str)} {H H' : Hp} {a : Addr} {n : Nat} (s : Spr H a n) (t : LamX.Tabs T H) (k : Kept a H H') : LamX.Tabs T H' := by
  obtain ⟨x, y, z, e, _⟩ := s
  exact tabs_kept t e k
theorem row_make {K : PySem.W.Frag} {C : Addr} {H3 : Hp} {E : XK} {Q : VK} {y1 y2 y3 : V} {ss : List Str} {rs : List (Str × Str)} {ns : List Int} (good : Good ss) (l1 : 1 ≤ ss.length) (l60 : ss.length ≤ 60) (T : Tree ss rs) (v1 : SeqV H3 y1 (ss.map V.str))
    (v2 : ∃ vs, SeqV H3 y2 vs ∧ Paired (PairV H3) vs rs) (v3 : SeqV H3 y3 (ns.map V.int)) (nl : ns.length = ss.length) (ge : ∀ n ∈ ns, 1 ≤ n) (q : ∀ x H', Same H3 H' → IsV C H' x ss rs ns → Q (.ref x) H') :
    ∀ x dx, H3 x = none → H3 dx = none → dx ≠ x → spVS K C [.ref x, y1, y2, y3] (L2.upd (L2.upd H3 dx (.own x)) x (.ins C dx [])) (fun v H2 => v = .non ∧ Q (.ref x) H2) E := fun x dx nx ndx _ => by
  have e := same_make (C := C) nx ndx
  obtain ⟨vs, a1, a2⟩ := v2
  have hne : ss ≠ [] := fun z => by rw [z] at l1; simp at l1
  refine ⟨x, y1, y2, y3, dx, ss, rs, ns, rfl, upd_same, ⟨v1.ext e, hne, by omega, good⟩, ⟨vs, a1.ext e, paired_imp (fun _ _ q => SeqV.ext q e) a2, T.ends, T.cut.forest, T.len⟩, ⟨v3.ext e, ge, nl⟩, fun H' l1 l2 l3 d1 d2 d3 qs bs k v nv => ?_⟩
  have sm : Same H3 H' := fun b o eb => k b o (ne_of_none eb nx) (e b o eb)
  exact ⟨rfl, q x H' sm ⟨nl.symm, l1, l2, l3, d1, d2, d3, qs, bs, v⟩⟩
theorem paired_pvT {H : Hp} : ∀ {ts : List Addr} {es : List (Str × Str)}, Paired (TupP H) ts es → Paired (PairV H) (ts.map V.ref) es
  | _, _, .nil => .nil
  | t :: _, _, .cons h1 h2 => .cons ⟨t, rfl, .inr h1⟩ (paired_pvT h2)
def ss5 : List Str := ["a", "b", "c", "d", "e"]
def ns5 : List Int := [1, 1, 1, 1, 1]
theorem good5 : Good ss5 := good_of (by decide +kernel) (by decide +kernel)
theorem tree5 : Tree ss5 (rowR ss5) := ⟨good5.1, row_ends, row_cut good5.1, by decide⟩
theorem rs5 : rowR ss5 = [(("a" : Str), ("b" : Str)), ("b", "c"), ("c", "d"), ("d", "e")] := by decide +kernel
def c5 : List (Nat × Nat) := [(1, 5), (2, 5), (3, 3), (4, 1)]
theorem by5 : byH 9 ss5 (rowR ss5) "a" = c5 := by
  unfold byH
  rw [row_splU tree5, lotN_self good5.1]
  decide +kernel
theorem size3 {i : Nat} (h : i < 3) : ∃ size : Nat, atI [V.int 5, V.int 7, V.int 9] ((0 : Int) + (i : Int)) = some (.int (size : Int)) ∧ 1 ≤ size ∧ size ≤ 9 := by
  rcases i with _ | _ | _ | i
  · exact ⟨5, rfl, by decide, by decide⟩
  · exact ⟨7, rfl, by decide, by decide⟩
  · exact ⟨9, rfl, by decide, by decide⟩
  · exact absurd h (by omega)
section
variable {P : Program} {w : World} {K : PySem.W.Frag} {mg : Str → Option Value} {base : Heap} {T : List (Addr × Str)} {C CV CN fI : Addr} {fdI : FuncData}
theorem ok_law {f : Addr} {fd : FuncData} (F : Fun K "law" "law" sLaw f fd) (B : Bl mg) (mr : mg "range" = none) (mz : mg "zip" = none)
    (hS : Fx P w K mg base CX0 1 "_law_spring" ["script", "turn"] (spSpring K)) (hD : Fx P w K mg base CX0 1 "_law_draw" ["spring", "many"] spDraw) (hV : Fx P w K mg base CX0 4 "_law_v_form" ["spring", "many", "wide"] spVF)
    (hM : Fx P w K mg base CX0 7 "_law_v_made" ["spring", "form"] (spMd C)) (hP : Fx P w K mg base CX0 2 "_law_pick" ["spring", "some"] spPick) (hH : Fx P w K mg base CX0 21 "_law_house_right" ["spring", "form", "made", "house"] (spHr C))
    (hA : Fx P w K mg base CX0 20 "_law_small_right" ["spring"] (spSq K)) (hR : Fx P w K mg base CX0 23 "_law_refused_right" ["form", "made"] (spRef C T))
    (hE : Fx P w K mg base CX0 6 "_law_same" ["found", "due"] (spSm R6)) (hB : Fx P w K mg base (L2.CX P w) 19 "count_by_feasts" ["valley", "house"] (spCb K C CV CN 9 512)) (hU : Fx P w K mg base (L2.CX P w) 20 "mean_of_unlike" ["valley", "house"] (spMu K C CV CN 9 512))
    (mV : mg "Valley" = some (.ref C)) (M : Mk K C fI) (GI : FnOk P w K mg base (L2.CX P w) 5 fI fdI ["self", "houses", "roads", "heads"] (spVS K C)) (bI : Binds K fdI ["self", "houses", "roads", "heads"] []) :
    FnOk P w K mg base CX0 24 f fd ["script"] (spLaw K T) := by
  obtain ⟨fS, fdS, GS, bS, kS, mS⟩ := hS
  obtain ⟨fD, fdD, GD, bD, kD, mD⟩ := hD
  obtain ⟨fV, fdV, GV, bV, kV, mVF⟩ := hV
  obtain ⟨fM, fdM, GM, bM, kM, mM⟩ := hM
  obtain ⟨fP, fdP, GP, bP, kP, mP⟩ := hP
  obtain ⟨fH, fdH, GH, bH, kH, mH⟩ := hH
  obtain ⟨fA, fdA, GA, bA, kA, mA⟩ := hA
  obtain ⟨fR, fdR, GR, bR, kR, mR⟩ := hR
  obtain ⟨fE, fdE, GE, bE, kE, mE⟩ := hE
  obtain ⟨fB, fdB, GB, bB, kB, mB⟩ := hB
  obtain ⟨fU, fdU, GU, bU, kU, mU⟩ := hU
  refine F.ok scLaw (fun vs H Q E h => ?_) (fun cdv A outer s H vs Q E hr h => ?_)
  · obtain ⟨p, ns, rfl, _⟩ := h
    rfl
  obtain ⟨p, ns, rfl, hp, hl, tb, q⟩ := h
  have nd := scLaw.nd
  have hr1 : Room 1 _ := hr.mono (by decide)
  have hr2 : Room 2 _ := hr.mono (by decide)
  have hr4 : Room 4 _ := hr.mono (by decide)
  have hr6 : Room 6 _ := hr.mono (by decide)
  have hr7 : Room 7 _ := hr.mono (by decide)
  have hr19 : Room 19 _ := hr.mono (by decide)
  have hr20 : Room 20 _ := hr.mono (by decide)
  have hr21 : Room 21 _ := hr.mono (by decide)
  refine ⟨_, (pss_cons (by exact (ps_for PassesOwn.never rfl (by exact pi_range1 rfl mr (pa_cons pe_int pa_nil)) (pg_name (i := 1) nd rfl (.inl rfl)) (pss_cons (by exact (ps_set (i := 2) nd rfl (.inr rfl) (pe_call GS hr1 rfl mS kS bS .nil pass0 (pa_cons (pv 0) (pa_cons (pv 1) pa_nil)))))
  (pss_cons (by exact (ps_set (i := 3) nd rfl (.inr rfl) (pe_call GV hr4 rfl mVF kV bV .nil pass0 (pa_cons (pv 2) (pa_cons (pe_op op_add pe_int (pe_call GD hr1 rfl mD kD bD .nil pass0 (pa_cons (pv 2) (pa_cons (pe_ix ix_list (pe_lst (pa_cons pe_int (pa_cons pe_int (pa_cons pe_int pa_nil)))) (pv 1) (fun _ _ => rfl)) pa_nil)))) (pa_cons pe_int pa_nil))))))
  (pss_cons (by exact (ps_asg (pe_tup (pa_cons (pe_call GM hr7 rfl mM kM bM .nil pass0 (pa_cons (pv 2) (pa_cons (pv 3) pa_nil))) (pa_cons (pe_call GP hr2 rfl mP kP bP .nil pass0 (pa_cons (pv 2) (pa_cons (pe_ix ix_list (pv 3) pe_int (fun _ _ => rfl)) pa_nil))) (pa_cons (pe_call GP hr2 rfl mP kP bP .nil pass0 (pa_cons (pv 2) (pa_cons (pe_ix ix_list (pv 3) pe_int (fun _ _ => rfl)) pa_nil))) pa_nil)))) (pg_tup rfl (pgs_cons (pg_name (i := 4) nd rfl (.inr rfl)) (pgs_cons (pg_name (i := 5) nd rfl (.inl rfl)) (pgs_cons (pg_name (i := 6) nd rfl (.inl rfl)) pgs_nil))))))
  (pss_cons (by exact (ps_if (pt_not (pt_val (pe_callB (cr_all rfl) rfl B.all PyProof.Rows.boot_all (pa_cons (pe_lc (own := [("house", 7)]) (g := gName 7) (tt := tYes) (te := tCall (spHr C) [] E0 (tCons (tVar 2) (tCons (tVar 3) (tCons (tVar 4) (tCons (tVar 7) tNil))))) rfl nd (by exact pi_tup (pe_tup (pa_cons (pv 5) (pa_cons (pv 6) (pa_cons (pv 5) pa_nil))))) (by exact blkOk_by (N := ["script", "turn", "spring", "form", "made", "one", "other", "house", "row"]) (sc := defScope sLaw) (by decide +kernel)) (fun _ _ _ _ _ => by exact (pg_name (i := 7) nd rfl (.inl rfl))) (fun _ _ _ _ _ => by exact pts_nil) (fun _ _ _ _ _ => by exact (pe_call GH hr21 rfl mH kH bH .nil pass0 (pa_cons (pv 2) (pa_cons (pv 3) (pa_cons (pv 4) (pa_cons (pv 7) pa_nil))))))) pa_nil)))) (pss_one (by exact (ps_ret pe_bl))) pss_nil))
  (pss_one (by exact (ps_if (PW.pt (pw_or (pt_not (pt_val (pe_call GA hr20 rfl mA kA bA .nil pass0 (pa_cons (pv 2) pa_nil)))) (pw_or1 (pt_not (pt_val (pe_call GR hr rfl mR kR bR .nil pass0 (pa_cons (pv 3) (pa_cons (pv 4) pa_nil)))))))) (pss_one (by exact (ps_ret pe_bl))) pss_nil)))))))))
  (pss_cons (by exact (ps_setLc (i := 8) (own := [("one", 5), ("other", 6)]) (g := gTup K 2 (gCons (gName 5) (gCons (gName 6) gNil))) (tt := tYes) (te := tTup (tCons (tVar 5) (tCons (tVar 6) tNil))) rfl nd rfl rfl (sw_true rfl rfl rfl (by decide +kernel)) (by exact RZ.pi_zipA rfl mz (pa_cons (pe_lst (pa_cons pe_str (pa_cons pe_str (pa_cons pe_str (pa_cons pe_str pa_nil))))) (pa_cons (pe_lst (pa_cons pe_str (pa_cons pe_str (pa_cons pe_str (pa_cons pe_str pa_nil))))) pa_nil))) (by exact blkOk_by (N := ["script", "turn", "spring", "form", "made", "one", "other", "house", "row"]) (sc := defScope sLaw) (by decide +kernel)) (fun _ _ _ _ _ => by exact (pg_tup rfl (pgs_cons (pg_name (i := 5) nd rfl (.inl rfl)) (pgs_cons (pg_name (i := 6) nd rfl (.inl rfl)) pgs_nil)))) (fun _ _ _ _ _ => by exact pts_nil) (fun _ _ _ _ _ => by exact (pe_tup (pa_cons (pv 5) (pa_cons (pv 6) pa_nil))))))
  (pss_cons (by exact (ps_set (i := 4) nd rfl (.inr rfl) (pe_make M GI hr6 rfl mV bI .nil passL (pa_cons (pe_lst (pa_cons pe_str (pa_cons pe_str (pa_cons pe_str (pa_cons pe_str (pa_cons pe_str pa_nil)))))) (pa_cons (pv 8) (pa_cons (pe_lst (pa_cons pe_int (pa_cons pe_int (pa_cons pe_int (pa_cons pe_int (pa_cons pe_int pa_nil)))))) pa_nil))))))
  (pss_one (by exact (ps_ret (pe_call GE hr6 rfl mE kE bE .nil pass0 (pa_cons (pe_lst (pa_cons (pe_call GB hr19 rfl mB kB bB .nil passL (pa_cons (pv 4) (pa_cons pe_str pa_nil))) (pa_cons (pe_call GU hr20 rfl mU kU bU .nil passL (pa_cons (pv 4) (pa_cons pe_str pa_nil))) pa_nil))) (pa_cons (pe_lst (pa_cons (pe_disp (pps_cons pe_int pe_int (pps_cons pe_int pe_int (pps_cons pe_int pe_int (pps_cons pe_int pe_int pps_nil)))) (by rfl) (by rfl) (fun z => by cases z) (by decide)) (pa_cons (pe_tup (pa_cons pe_int (pa_cons pe_int pa_nil))) pa_nil))) pa_nil))))))))), ?_⟩
  refine ⟨3, rfl, by decide, by decide, ?_⟩
  refine for_range (lo := 0) (fun i σ Hc => (∃ x1 x2 x3 x4 x5 x6, σ = [some (.ref p), x1, x2, x3, x4, x5, x6, none, none]) ∧ LamX.ExtN H Hc ∧ LamX.Tabs T Hc) ⟨⟨_, _, _, _, _, _, rfl⟩, LamX.ExtN.refl H, tb⟩ ?_ ?_
  · rintro i σ Hc hi ⟨⟨x1, x2, x3, x4, x5, x6, rfl⟩, g1, g2⟩
    have hi3 : i < 3 := hi
    refine K1.gN ?_
    refine ⟨_, rfl, _, rfl, p, _, ns, rfl, seq_extN g1 hp, by omega, by omega, hl, fun a H1 e1 na s1 => ?_⟩
    have tb1 := tabs_same g2 e1
    refine K1.gN ?_
    refine ⟨_, rfl, _, rfl, (by show 3 ≤ sizeLine; decide), fun X hX => ?_⟩
    have e2 := K1.Same.upd (H := H1) (p := X) (o := .lst [.int 5, .int 7, .int 9]) hX
    have gX := upd_same' H1 X (.lst [.int 5, .int 7, .int 9])
    generalize L2.upd H1 X (.lst [.int 5, .int 7, .int 9]) = H2 at e2 gX ⊢
    have s2 := s1.same e2
    have tb2 := tabs_same tb1 e2
    obtain ⟨size, es, z1, z2⟩ := size3 hi3
    refine ⟨_, rfl, X, _, (0 : Int) + (i : Int), _, rfl, rfl, SqL.of gX, es, ?_⟩
    refine ⟨a, (size : Int), 0, rfl, s2, by omega, by omega, Nat.lt_of_le_of_lt (show (size : Int).natAbs ≤ 60 by omega) (by decide), fun d H3 d0 d1 k3 s3 => ?_⟩
    obtain ⟨mm, rfl⟩ : ∃ mm : Nat, d = (mm : Int) := ⟨d.toNat, by omega⟩
    have tb3 := s2.tabs tb2 k3
    refine ⟨_, _, rfl, rfl, a, mm + 1, 9, 1, ?_, s3, by omega, by omega, by omega, by decide, by decide, fun t p1 p2 p3 qs ss rs nss H4 k4 s4 va ok hl4 => ?_⟩
    · show [V.ref a, V.int ((1 : Int) + (mm : Int)), V.int 9] ++ [] = _
      rw [show (1 : Int) + (mm : Int) = ((mm + 1 : Nat) : Int) by omega]
      rfl
    have tb4 := s3.tabs tb3 k4
    refine K1.gN ?_
    have TR : Tree ss rs := ⟨ok.good.1, ok.ends, ok.cut, ok.rl⟩
    have l9 : ss.length ≤ 9 := by omega
    refine ⟨_, rfl, _, rfl, a, t, p1, p2, p3, qs, ss, rs, nss, _, rfl, s4, by omega, va, ok, fun x l1 l2 l3 d1 d2 d3 qs' bs H5 k5 s5 vs off => ?_⟩
    have tb5 := s4.tabs tb4 k5
    have va5 := va.kept s4 k5
    have i0 : atI [V.ref p1, .ref p2, .ref p3] 0 = some (.ref p1) := rfl
    have hne : ss.map V.str ≠ [] := fun z => by
      have := List.map_eq_nil_iff.mp z
      have h1 := ok.pos
      rw [this] at h1
      exact absurd h1 (by decide)
    refine cons_run ⟨_, rfl, _, rfl, t, _, (0 : Int), .ref p1, rfl, rfl, SqL.of va5.t0, i0, a, p1, _, _, rfl, s5, by omega, va5.h1, va.n1, hne, by rw [List.length_map]; omega, fun v1 H6 hv1 k6 s6 => ?_⟩
    have tb6 := s5.tabs tb5 k6
    have va6 := va5.kept s5 k6
    have vs6 := vs.kept off s5 k6
    obtain ⟨h1, hh1, rfl⟩ := List.mem_map.mp hv1
    refine cons_run ⟨_, rfl, _, rfl, t, _, (0 : Int), .ref p1, rfl, rfl, SqL.of va6.t0, i0, a, p1, _, _, rfl, s6, by omega, va6.h1, va.n1, hne, by rw [List.length_map]; omega, fun v2 H7 hv2 k7 s7 => ?_⟩
    have tb7 := s6.tabs tb6 k7
    have va7 := va6.kept s6 k7
    have vs7 := vs6.kept off s6 k7
    obtain ⟨h2, hh2, rfl⟩ := List.mem_map.mp hv2
    refine ⟨(by show 3 ≤ sizeLine; decide), fun Tp hTp => ?_⟩
    have e8 := K1.Same.upd (H := H7) (p := Tp) (o := .tup [.ref x, .str h1, .str h2]) hTp
    have gT := upd_same' H7 Tp (.tup [.ref x, .str h1, .str h2])
    generalize L2.upd H7 Tp (.tup [.ref x, .str h1, .str h2]) = H8 at e8 gT ⊢
    refine ⟨Tp, _, rfl, SqT.of gT, rfl, _, _, rfl, _, _, rfl, _, _, rfl, rfl, ?_⟩
    have va8 := va7.kept s7 (Kept.same e8)
    have vs8 := vs7.kept off s7 (Kept.same e8)
    have s8 := s7.same e8
    have tb8 := tabs_same tb7 e8
    have frm : ∀ {Hx : Hp}, VAt a Hx t p1 p2 p3 qs ss rs nss → Frm Hx t p1 p2 (.ref p3) qs ss rs := fun v => ⟨v.t0, v.h1, v.h2, v.pr, TR, by omega, fun s hs => (ok.good.2 s hs).1⟩
    have isv : ∀ {Hx : Hp}, ValS C Hx x l1 l2 l3 d1 d2 d3 qs' bs ss rs nss → IsV C Hx x ss rs nss := fun v => ⟨ok.nl.symm, l1, l2, l3, d1, d2, d3, qs', bs, v⟩
    have fm8 := frm va8
    have iv8 := isv vs8
    with_reducible refine sQ ?_
    -- all three houses
    refine ⟨_, rfl, _, rfl, _, rfl, (by show 3 ≤ sizeLine; decide), fun U hU => ?_⟩
    have e9 := K1.Same.upd (H := H8) (p := U) (o := .tup [.str h1, .str h2, .str h1]) hU
    have gU := upd_same' H8 U (.tup [.str h1, .str h2, .str h1])
    generalize L2.upd H8 U (.tup [.str h1, .str h2, .str h1]) = H9 at e9 gU ⊢
    refine ⟨U, rfl, ⟨_, SqT.of gU⟩, fun D hD => ?_⟩
    refine lc_it (Qd := _) walk_tup (fun j Hc => Same H9 Hc ∧ Hc D = some (.lst ((List.replicate j true).map V.bl))) ⟨K1.Same.upd hD, upd_same⟩ (fun j Hc _ h => SqT.of (h.1 _ _ gU)) ?_ ?_
    · rintro j v Hd H' hj ⟨f1, f2⟩ ⟨rfl, hv⟩
      have hj3 : j < 3 := hj
      obtain ⟨hh, rfl, mh⟩ : ∃ hh, v = .str hh ∧ hh ∈ ss := by
        have hv : ([V.str h1, .str h2, .str h1] : List V)[j]? = some v := hv
        rcases j with _ | _ | _ | j
        · exact ⟨h1, (Option.some.inj hv).symm, hh1⟩
        · exact ⟨h2, (Option.some.inj hv).symm, hh2⟩
        · exact ⟨h1, (Option.some.inj hv).symm, hh1⟩
        · cases hv
      refine ⟨rfl, ?_⟩
      unfold tYes
      refine iteT ?_
      have e8d := e9.trans f1
      refine ⟨_, rfl, _, rfl, _, rfl, _, rfl, _, t, x, p1, p2, _, qs, ss, rs, nss, hh, rfl, fm8.same e8d, iv8.same e8d, mh, l9, fun He ee => ?_⟩
      refine ⟨_, ee _ _ f2, by rw [List.length_map, List.length_replicate]; exact small1000 (by omega), ps_same_upd (f1.trans ee) hD, ?_⟩
      rw [upd_same, List.replicate_succ', List.map_append]
      rfl
    rintro H10 ⟨f1, f2⟩
    refine ⟨D, List.replicate 3 true, rfl, SqL.of f2, _, rfl, ?_⟩
    refine iteF ?_
    refine nQ ?_
    have e8t : Same H8 H10 := e9.trans f1
    have tb10 := tabs_same tb8 e8t
    have s10 := s8.same e8t
    have va10 := va8.kept s8 (Kept.same e8t)
    have vs10 := vs8.kept off s8 (Kept.same e8t)
    refine ⟨_, rfl, a, _, rfl, s10, by omega, fun H11 k11 s11 => ⟨_, rfl, ?_⟩⟩
    have tb11 := s10.tabs tb10 k11
    have va11 := va10.kept s10 k11
    have vs11 := vs10.kept off s10 k11
    refine iteF ?_
    refine ⟨_, rfl, _, rfl, t, x, p1, p2, p3, qs, ss, rs, nss, rfl, tb11, frm va11, va11.h3, by have := ok.nl; have := ok.le; omega, isv vs11, ok.pos, ok.nob, fun H12 e12 tb12 => ⟨_, rfl, ?_⟩⟩
    refine iteF ⟨⟨_, _, _, _, _, _, rfl⟩, ?_, tb12⟩
    refine g1.trans (LamX.ExtN.trans (fun b o h nb => ?_) e12)
    have nba : b ≠ a := ne_of_none h na
    exact k11 b o nba (e8t b o (e8 b o (k7 b o nba (k6 b o nba (k5 b o nba (k4 b o nba (k3 b o nba ((e1.trans e2) b o h))))))))
  · rintro σ Hc ⟨⟨x1, x2, x3, x4, x5, x6, rfl⟩, g1, g2⟩
    clear g1 g2
    refine nQ ?_
    with_reducible refine sQ ?_
    refine asg_run ?_
    refine ⟨(by show 4 ≤ sizeLine; decide), fun La hLa => ?_⟩
    have e1 := K1.Same.upd (H := Hc) (p := La) (o := .lst [.str "a", .str "b", .str "c", .str "d"]) hLa
    have gLa := upd_same' Hc La (.lst [.str "a", .str "b", .str "c", .str "d"])
    generalize L2.upd Hc La (.lst [.str "a", .str "b", .str "c", .str "d"]) = H1 at e1 gLa ⊢
    refine cons_run ⟨(by show 4 ≤ sizeLine; decide), fun Lb hLb => ?_⟩
    have e2 := K1.Same.upd (H := H1) (p := Lb) (o := .lst [.str "b", .str "c", .str "d", .str "e"]) hLb
    have gLb := upd_same' H1 Lb (.lst [.str "b", .str "c", .str "d", .str "e"])
    generalize L2.upd H1 Lb (.lst [.str "b", .str "c", .str "d", .str "e"]) = H2 at e2 gLb ⊢
    have gLa2 := e2 _ _ gLa
    refine ⟨La, Lb, [.str "a", .str "b", .str "c", .str "d"], [.str "b", .str "c", .str "d", .str "e"], rfl, .inl ⟨SqL.of gLa2, SqL.of gLb, fun D hD => ?_⟩⟩
    refine lc_it (Qd := _) (walk_zip (n := 4) (by decide)) (fun i Hd => Same H2 Hd ∧ ∃ qs : List Addr, Hd D = some (.lst (qs.map V.ref)) ∧ Paired (TupP Hd) qs ((rowR ss5).take i)) ⟨K1.Same.upd hD, [], upd_same, .nil⟩ (fun i Hd _ h => ⟨SqL.of (h.1 _ _ gLa2), SqL.of (h.1 _ _ gLb)⟩) ?_ ?_
    · rintro i v Hd H' hi ⟨c1, us, c2, c3⟩ ⟨Tz, v1, v2, rfl, hT, rfl, ex1, ex2⟩
      have hi2 : i < (rowR ss5).length := by rw [rs5]; exact hi
      obtain ⟨z1, z2⟩ : v1 = .str ((rowR ss5)[i]).1 ∧ v2 = .str ((rowR ss5)[i]).2 := by
        have ex1 : ([V.str "a", .str "b", .str "c", .str "d"] : List V)[i]? = some v1 := ex1
        have ex2 : ([V.str "b", .str "c", .str "d", .str "e"] : List V)[i]? = some v2 := ex2
        have er : (rowR ss5)[i]? = ([(("a" : Str), ("b" : Str)), ("b", "c"), ("c", "d"), ("d", "e")] : List (Str × Str))[i]? := by rw [rs5]
        rw [List.getElem?_eq_getElem hi2] at er
        rcases i with _ | _ | _ | _ | i
        · rw [Option.some.inj er]; exact ⟨(Option.some.inj ex1).symm, (Option.some.inj ex2).symm⟩
        · rw [Option.some.inj er]; exact ⟨(Option.some.inj ex1).symm, (Option.some.inj ex2).symm⟩
        · rw [Option.some.inj er]; exact ⟨(Option.some.inj ex1).symm, (Option.some.inj ex2).symm⟩
        · rw [Option.some.inj er]; exact ⟨(Option.some.inj ex1).symm, (Option.some.inj ex2).symm⟩
        · exact absurd hi (by omega)
      subst z1
      subst z2
      have eT := K1.Same.upd (H := Hd) (p := Tz) (o := .tup [.str ((rowR ss5)[i]).1, .str ((rowR ss5)[i]).2]) hT
      refine ⟨Tz, _, rfl, SqT.of upd_same, rfl, _, _, rfl, _, _, rfl, rfl, rfl, ?_⟩
      unfold tYes
      refine iteT ?_
      refine ⟨_, rfl, _, rfl, (by show 2 ≤ sizeLine; decide), fun W hW => ?_⟩
      generalize L2.upd Hd Tz (.tup [.str ((rowR ss5)[i]).1, .str ((rowR ss5)[i]).2]) = He at eT hW ⊢
      have e9 := K1.Same.upd (H := He) (p := W) (o := .tup [.str ((rowR ss5)[i]).1, .str ((rowR ss5)[i]).2]) hW
      have gW := upd_same' He W (.tup [.str ((rowR ss5)[i]).1, .str ((rowR ss5)[i]).2])
      generalize L2.upd He W (.tup [.str ((rowR ss5)[i]).1, .str ((rowR ss5)[i]).2]) = Hf at e9 gW ⊢
      have eTf := eT.trans e9
      have c29 := eTf _ _ c2
      have lu : us.length ≤ 1000 := by
        have a1 := c3.length
        rw [List.length_take] at a1
        have a2 : i < 4 := hi
        omega
      refine ⟨_, c29, by rw [List.length_map]; exact small1000 lu, ps_same_upd (c1.trans eTf) hD, us ++ [W], by rw [upd_same, List.map_append]; rfl, ?_⟩
      rw [take_snoc hi2]
      have pp := paired_snoc (TupP.ext c3 eTf) (show TupP Hf W (rowR ss5)[i] from gW)
      exact paired_imp (fun x y h => by
        have n : x ≠ D := fun z => by
          have h : Hf x = _ := h
          rw [z, c29] at h
          cases h
        show L2.upd Hf D _ x = _
        rw [upd_ne n]
        exact h) pp
    rintro H3 ⟨c1, us, c2, c3⟩
    rw [show 4 = (rowR ss5).length by rw [rs5]; rfl, List.take_length] at c3
    clear c1 e1 e2 gLa gLb gLa2 hLa hLb hD
    refine K1.gN ?_
    -- the Valley
    with_reducible refine sQ (asg_run ?_)
    refine ⟨(by show 5 ≤ sizeLine; decide), fun La hLa => ?_⟩
    have e1 := K1.Same.upd (H := H3) (p := La) (o := .lst [.str "a", .str "b", .str "c", .str "d", .str "e"]) hLa
    have gLa := upd_same' H3 La (.lst [.str "a", .str "b", .str "c", .str "d", .str "e"])
    generalize L2.upd H3 La (.lst [.str "a", .str "b", .str "c", .str "d", .str "e"]) = H4 at e1 gLa ⊢
    dsimp only
    refine cons_run ⟨_, rfl, ?_⟩
    refine cons_run ⟨(by show 5 ≤ sizeLine; decide), fun Lb hLb => ?_⟩
    have e2 := K1.Same.upd (H := H4) (p := Lb) (o := .lst [.int 1, .int 1, .int 1, .int 1, .int 1]) hLb
    have gLb := upd_same' H4 Lb (.lst [.int 1, .int 1, .int 1, .int 1, .int 1])
    generalize L2.upd H4 Lb (.lst [.int 1, .int 1, .int 1, .int 1, .int 1]) = H5 at e2 gLb ⊢
    intro x0 dx nx ndx nex
    have e35 := e1.trans e2
    refine row_make (Q := fun v H2 => gName 4 v _ H2 _) (ns := ns5) good5 (by decide) (by decide) tree5 ⟨La, rfl, .inl (e2 _ _ gLa)⟩ ⟨_, ⟨D, rfl, .inl (e35 _ _ c2)⟩, paired_pvT (TupP.ext c3 e35)⟩ ⟨Lb, rfl, .inl gLb⟩ rfl (by decide) (fun x H6 e6 iv => ?_) x0 dx nx ndx nex
    clear nx ndx nex e1 e2 gLa gLb hLa hLb e35 c2 c3 e6
    refine K1.gN ?_
    have nds : ss5.Nodup := tree5.nd
    have l9 : ss5.length ≤ 9 := by decide
    have con := tree_con tree5
    have hb := small_pow tree5 l9
    have ha : ("a" : Str) ∈ ss5 := by decide +kernel
    have dpB := depB_con tree5 hb 9 ss5 (SubL.self ss5) con l9 ha
    have lr1000 : (rowR ss5).length ≤ 1000 := by rw [rs5]; decide
    refine ret_run (call_run ?_)
    refine ⟨_, rfl, _, _, rfl, .inr ⟨x, ss5, rowR ss5, ns5, rfl, iv, .inr ⟨"a", rfl, ha, tree5, nds, (by decide), lr1000, lot_B tree5 l9, bit_B l9 ha, by decide, dpB, fun r H7 ks e7 n7 pm pw g7 => ?_⟩⟩⟩
    rw [by5] at pm g7
    obtain rfl : ks = [1, 2, 3, 4] := sort_uniq pm pw (by decide)
    rw [show dBy c5 [1, 2, 3, 4] = c5 by decide] at g7
    have p0 : 0 < vsumN (byH 9 ss5 (rowR ss5) "a") := by rw [by5]; decide
    have p1 : vsumN (byH 9 ss5 (rowR ss5) "a") < 2 ^ 100 := by rw [by5]; decide
    refine cons_run ⟨_, rfl, _, _, rfl, .inr ⟨x, ss5, rowR ss5, ns5, rfl, iv.same e7, .inr ⟨"a", rfl, ha, tree5, nds, (by decide), lr1000, lot_B tree5 l9, bit_B l9 ha, by decide, dpB, p0, p1, fun U H8 e8 n8 g8 => ?_⟩⟩⟩
    rw [by5, show msum c5 / Nat.gcd (msum c5) (vsumN c5) = 2 by decide, show vsumN c5 / Nat.gcd (msum c5) (vsumN c5) = 1 by decide] at g8
    have g78 := e8 _ _ g7
    refine ⟨(by show 2 ≤ sizeLine; decide), fun L hL => ?_⟩
    have eL := K1.Same.upd (H := H8) (p := L) (o := .lst [.ref r, .ref U]) hL
    have gL := upd_same' H8 L (.lst [.ref r, .ref U])
    generalize L2.upd H8 L (.lst [.ref r, .ref U]) = H9 at eL gL ⊢
    have g79 := eL _ _ g78
    have g89 := eL _ _ g8
    refine cons_run fun p hp => ?_
    have e10 := K1.Same.upd (H := H9) (p := p) (o := .dK []) hp
    have gp := upd_same' H9 p (.dK [])
    refine ⟨gp, dQ c5, rfl, (by decide), ?_⟩
    have eM : Same H9 (L2.upd (L2.upd H9 p (.dK [])) p (.dK (mergeK [] (dQ c5)))) := ps_same_upd e10 hp
    have gM : L2.upd (L2.upd H9 p (.dK [])) p (.dK (mergeK [] (dQ c5))) p = some (.dK (dQ c5)) := upd_same
    generalize L2.upd (L2.upd H9 p (.dK [])) p (.dK (mergeK [] (dQ c5))) = H10 at eM gM ⊢
    refine cons_run ⟨(by show 2 ≤ sizeLine; decide), fun W hW => ?_⟩
    have e11 := K1.Same.upd (H := H10) (p := W) (o := .tup [.int 2, .int 1]) hW
    have gW := upd_same' H10 W (.tup [.int 2, .int 1])
    generalize L2.upd H10 W (.tup [.int 2, .int 1]) = H11 at e11 gW ⊢
    refine ⟨(by show 2 ≤ sizeLine; decide), fun X hX => ?_⟩
    have e12 := K1.Same.upd (H := H11) (p := X) (o := .lst [.ref p, .ref W]) hX
    have gX := upd_same' H11 X (.lst [.ref p, .ref W])
    generalize L2.upd H11 X (.lst [.ref p, .ref W]) = H12 at e12 gX ⊢
    have f912 := eM.trans (e11.trans e12)
    refine ⟨.ref L, .ref X, rfl, r_lists (f912 _ _ gL) gX (by show 2 ≤ 100; decide) (.cons (r_dQ (f912 _ _ g79) ((e11.trans e12) _ _ gM) (by decide)) (.cons (r_tups (f912 _ _ g89) (e12 _ _ gW) (by decide) (.cons (r_int 2) (.cons (r_int 1) .nil))) .nil)), fun _ _ => q _⟩
end
end K1
end
-- UEnd
section
set_option Elab.async false
set_option linter.all false
set_option maxRecDepth 100000
set_option maxHeartbeats 4000000
namespace K1
open PySem PySem.Spec PyProof.Rows L2 W0
theorem all_of_kit {K : PySem.W.Frag} {C : Addr} (h : ((kinds ++ ["function"]).all fun t => PySem.W.kitOne K (.type t) (.ref C) == some false) = true) : ∀ t ∈ kinds ++ ["function"], PySem.W.kitOne K (.type t) (.ref C) = some false := fun t ht => beq_iff_eq.mp (List.all_eq_true.mp h t ht)
theorem val_no {vs : List V} {us : List Value} (r : Vals vs us) (i : Nat) : RelV (vs.getD i .non) (us.getD i .none) := by
  rw [List.getD_eq_getElem?_getD, List.getD_eq_getElem?_getD]
  induction r generalizing i with
  | nil => exact rfl
  | cons a r ih =>
    cases i with
    | zero => exact a
    | succ i => exact ih i
theorem kb_two {K : PySem.W.Frag} {fd : FuncData} (h : ∀ (s : Shared) (a b : Value), BindsTo s fd ⟨[], [("house", a), ("valley", b)]⟩ [("valley", b), ("house", a)]) : KBn K fd ["valley", "house"] 0 ["house", "valley"] kwBAv kwBA := by
  refine ⟨fun s us ws X l1 l2 => ?_, fun r1 r2 => ?_⟩
  · match us, ws, l1, l2 with
    | [], [a, b], _, _ => exact h s a b
  · exact .cons (val_no r2 1) (.cons (val_no r2 0) .nil)
theorem kb_Cb {K : PySem.W.Frag} {f : Addr} {fd : FuncData} (F : Fun K "count_by_feasts" "count_by_feasts" sCb f fd) : KBn K fd ["valley", "house"] 0 ["house", "valley"] kwBAv kwBA := by
  obtain ⟨oc, od, kV, doc, pm, an, cdv, ct, osl, rfl, lk, hcd⟩ := F.ex
  exact kb_two (K := K) fun s a b => BindsTo.of_looks fun M => .of_pure rfl
theorem kb_Mu {K : PySem.W.Frag} {f : Addr} {fd : FuncData} (F : Fun K "mean_of_unlike" "mean_of_unlike" sMu f fd) : KBn K fd ["valley", "house"] 0 ["house", "valley"] kwBAv kwBA := by
  obtain ⟨oc, od, kV, doc, pm, an, cdv, ct, osl, rfl, lk, hcd⟩ := F.ex
  exact kb_two (K := K) fun s a b => BindsTo.of_looks fun M => .of_pure rfl

theorem all_mk {l : PySem.W.OpenLaw} {w : World} {K : PySem.W.Frag} {h : Heap} {mg : Str → Option Value} {fa : Addr}
    {cd_isInt : Value}
    {f_isInt : Addr} {od_isInt an_isInt : Option Addr} {sl_isInt : Array (Option Value)} {oc_isInt kV_isInt dc_isInt pm_isInt ct_isInt : Value}
    {cd_fromOne : Value}
    {f_fromOne : Addr} {od_fromOne an_fromOne : Option Addr} {sl_fromOne : Array (Option Value)} {oc_fromOne kV_fromOne dc_fromOne pm_fromOne ct_fromOne : Value}
    {cd_isList : Value}
    {f_isList : Addr} {od_isList an_isList : Option Addr} {sl_isList : Array (Option Value)} {oc_isList kV_isList dc_isList pm_isList ct_isList : Value}
    {cd_isPair : Value}
    {f_isPair : Addr} {od_isPair an_isPair : Option Addr} {sl_isPair : Array (Option Value)} {oc_isPair kV_isPair dc_isPair pm_isPair ct_isPair : Value}
    {cd_isName : Value}
    {f_isName : Addr} {od_isName an_isName : Option Addr} {sl_isName : Array (Option Value)} {oc_isName kV_isName dc_isName pm_isName ct_isName : Value}
    {cd_Fr : Value}
    {f_Fr : Addr} {od_Fr an_Fr : Option Addr} {sl_Fr : Array (Option Value)} {oc_Fr kV_Fr dc_Fr pm_Fr ct_Fr : Value}
    {cd_draw : Value}
    {f_draw : Addr} {od_draw an_draw : Option Addr} {sl_draw : Array (Option Value)} {oc_draw kV_draw dc_draw pm_draw ct_draw : Value}
    {cd_pick : Value}
    {f_pick : Addr} {od_pick an_pick : Option Addr} {sl_pick : Array (Option Value)} {oc_pick kV_pick dc_pick pm_pick ct_pick : Value}
    {cd_mixed : Value}
    {f_mixed : Addr} {od_mixed an_mixed : Option Addr} {sl_mixed : Array (Option Value)} {oc_mixed kV_mixed dc_mixed pm_mixed ct_mixed : Value}
    {cd_ND : Value}
    {f_ND : Addr} {od_ND an_ND : Option Addr} {sl_ND : Array (Option Value)} {oc_ND kV_ND dc_ND pm_ND ct_ND : Value}
    {cd_NH : Value}
    {f_NH : Addr} {od_NH an_NH : Option Addr} {sl_NH : Array (Option Value)} {oc_NH kV_NH dc_NH pm_NH ct_NH : Value}
    {cd_NR : Value}
    {f_NR : Addr} {od_NR an_NR : Option Addr} {sl_NR : Array (Option Value)} {oc_NR kV_NR dc_NR pm_NR ct_NR : Value}
    {cd_keys : Value}
    {f_keys : Addr} {od_keys an_keys : Option Addr} {sl_keys : Array (Option Value)} {oc_keys kV_keys dc_keys pm_keys ct_keys : Value}
    {cd_lead : Value}
    {f_lead : Addr} {od_lead an_lead : Option Addr} {sl_lead : Array (Option Value)} {oc_lead kV_lead dc_lead pm_lead ct_lead : Value}
    {cd_BW : Value}
    {f_BW : Addr} {od_BW an_BW : Option Addr} {sl_BW : Array (Option Value)} {oc_BW kV_BW dc_BW pm_BW ct_BW : Value}
    {cd_NB : Value}
    {f_NB : Addr} {od_NB an_NB : Option Addr} {sl_NB : Array (Option Value)} {oc_NB kV_NB dc_NB pm_NB ct_NB : Value}
    {cd_Nv : Value}
    {f_Nv : Addr} {od_Nv an_Nv : Option Addr} {sl_Nv : Array (Option Value)} {oc_Nv kV_Nv dc_Nv pm_Nv ct_Nv : Value}
    {cd_Ri : Value}
    {f_Ri : Addr} {od_Ri an_Ri : Option Addr} {sl_Ri : Array (Option Value)} {oc_Ri kV_Ri dc_Ri pm_Ri ct_Ri : Value}
    {cd_Tl : Value}
    {f_Tl : Addr} {od_Tl an_Tl : Option Addr} {sl_Tl : Array (Option Value)} {oc_Tl kV_Tl dc_Tl pm_Tl ct_Tl : Value}
    {cd_Bo : Value}
    {f_Bo : Addr} {od_Bo an_Bo : Option Addr} {sl_Bo : Array (Option Value)} {oc_Bo kV_Bo dc_Bo pm_Bo ct_Bo : Value}
    {cd_Lt : Value}
    {f_Lt : Addr} {od_Lt an_Lt : Option Addr} {sl_Lt : Array (Option Value)} {oc_Lt kV_Lt dc_Lt pm_Lt ct_Lt : Value}
    {cd_Sp : Value}
    {f_Sp : Addr} {od_Sp an_Sp : Option Addr} {sl_Sp : Array (Option Value)} {oc_Sp kV_Sp dc_Sp pm_Sp ct_Sp : Value}
    {cd_La : Value}
    {f_La : Addr} {od_La an_La : Option Addr} {sl_La : Array (Option Value)} {oc_La kV_La dc_La pm_La ct_La : Value}
    {cd_Cl : Value}
    {f_Cl : Addr} {od_Cl an_Cl : Option Addr} {sl_Cl : Array (Option Value)} {oc_Cl kV_Cl dc_Cl pm_Cl ct_Cl : Value}
    {cd_Cp : Value}
    {f_Cp : Addr} {od_Cp an_Cp : Option Addr} {sl_Cp : Array (Option Value)} {oc_Cp kV_Cp dc_Cp pm_Cp ct_Cp : Value}
    {cd_Cu : Value}
    {f_Cu : Addr} {od_Cu an_Cu : Option Addr} {sl_Cu : Array (Option Value)} {oc_Cu kV_Cu dc_Cu pm_Cu ct_Cu : Value}
    {cd_Cb : Value}
    {f_Cb : Addr} {od_Cb an_Cb : Option Addr} {sl_Cb : Array (Option Value)} {oc_Cb kV_Cb dc_Cb pm_Cb ct_Cb : Value}
    {cd_Mu : Value}
    {f_Mu : Addr} {od_Mu an_Mu : Option Addr} {sl_Mu : Array (Option Value)} {oc_Mu kV_Mu dc_Mu pm_Mu ct_Mu : Value}
    {cd_Bf : Value}
    {f_Bf : Addr} {od_Bf an_Bf : Option Addr} {sl_Bf : Array (Option Value)} {oc_Bf kV_Bf dc_Bf pm_Bf ct_Bf : Value}
    {cd_spring : Value}
    {f_spring : Addr} {od_spring an_spring : Option Addr} {sl_spring : Array (Option Value)} {oc_spring kV_spring dc_spring pm_spring ct_spring : Value}
    {cd_VN : Value}
    {f_VN : Addr} {od_VN an_VN : Option Addr} {sl_VN : Array (Option Value)} {oc_VN kV_VN dc_VN pm_VN ct_VN : Value}
    {cd_VF : Value}
    {f_VF : Addr} {od_VF an_VF : Option Addr} {sl_VF : Array (Option Value)} {oc_VF kV_VF dc_VF pm_VF ct_VF : Value}
    {cd_lo : Value}
    {f_lo : Addr} {od_lo an_lo : Option Addr} {sl_lo : Array (Option Value)} {oc_lo kV_lo dc_lo pm_lo ct_lo : Value}
    {cd_VM : Value}
    {f_VM : Addr} {od_VM an_VM : Option Addr} {sl_VM : Array (Option Value)} {oc_VM kV_VM dc_VM pm_VM ct_VM : Value}
    {cd_sm : Value}
    {f_sm : Addr} {od_sm an_sm : Option Addr} {sl_sm : Array (Option Value)} {oc_sm kV_sm dc_sm pm_sm ct_sm : Value}
    {cd_met : Value}
    {f_met : Addr} {od_met an_met : Option Addr} {sl_met : Array (Option Value)} {oc_met kV_met dc_met pm_met ct_met : Value}
    {cd_CL : Value}
    {f_CL : Addr} {od_CL an_CL : Option Addr} {sl_CL : Array (Option Value)} {oc_CL kV_CL dc_CL pm_CL ct_CL : Value}
    {cd_Vs : Value}
    {f_Vs : Addr} {od_Vs an_Vs : Option Addr} {sl_Vs : Array (Option Value)} {oc_Vs kV_Vs dc_Vs pm_Vs ct_Vs : Value}
    {cd_Ul : Value}
    {f_Ul : Addr} {od_Ul an_Ul : Option Addr} {sl_Ul : Array (Option Value)} {oc_Ul kV_Ul dc_Ul pm_Ul ct_Ul : Value}
    {cd_Ur : Value}
    {f_Ur : Addr} {od_Ur an_Ur : Option Addr} {sl_Ur : Array (Option Value)} {oc_Ur kV_Ur dc_Ur pm_Ur ct_Ur : Value}
    {cd_Um : Value}
    {f_Um : Addr} {od_Um an_Um : Option Addr} {sl_Um : Array (Option Value)} {oc_Um kV_Um dc_Um pm_Um ct_Um : Value}
    {cd_Ua : Value}
    {f_Ua : Addr} {od_Ua an_Ua : Option Addr} {sl_Ua : Array (Option Value)} {oc_Ua kV_Ua dc_Ua pm_Ua ct_Ua : Value}
    {cd_Bl : Value}
    {f_Bl : Addr} {od_Bl an_Bl : Option Addr} {sl_Bl : Array (Option Value)} {oc_Bl kV_Bl dc_Bl pm_Bl ct_Bl : Value}
    {cd_Hr : Value}
    {f_Hr : Addr} {od_Hr an_Hr : Option Addr} {sl_Hr : Array (Option Value)} {oc_Hr kV_Hr dc_Hr pm_Hr ct_Hr : Value}
    {cd_Sq : Value}
    {f_Sq : Addr} {od_Sq an_Sq : Option Addr} {sl_Sq : Array (Option Value)} {oc_Sq kV_Sq dc_Sq pm_Sq ct_Sq : Value}
    {f_Ref : Addr} {od_Ref an_Ref : Option Addr} {sl_Ref : Array (Option Value)} {oc_Ref kV_Ref dc_Ref pm_Ref ct_Ref : Value}
    {cd_law : Value}
    {f_law : Addr} {od_law an_law : Option Addr} {sl_law : Array (Option Value)} {oc_law kV_law dc_law pm_law ct_law : Value}
    {C CF cRf TPR CH CR CD CN CO CV : Addr}
    {cd_VI : Value} {f_VI : Addr} {od_VI an_VI : Option Addr} {sl_VI : Array (Option Value)} {oc_VI kV_VI dc_VI pm_VI ct_VI : Value}
    {cd_Ho : Value} {f_Ho : Addr} {od_Ho an_Ho : Option Addr} {sl_Ho : Array (Option Value)} {oc_Ho kV_Ho dc_Ho pm_Ho ct_Ho : Value}
    {cd_Ro : Value} {f_Ro : Addr} {od_Ro an_Ro : Option Addr} {sl_Ro : Array (Option Value)} {oc_Ro kV_Ro dc_Ro pm_Ro ct_Ro : Value}
    {cd_Si : Value} {f_Si : Addr} {od_Si an_Si : Option Addr} {sl_Si : Array (Option Value)} {oc_Si kV_Si dc_Si pm_Si ct_Si : Value}
    {cd_Is : Value} {f_Is : Addr} {od_Is an_Is : Option Addr} {sl_Is : Array (Option Value)} {oc_Is kV_Is dc_Is pm_Is ct_Is : Value}
    {cd_Ne : Value} {f_Ne : Addr} {od_Ne an_Ne : Option Addr} {sl_Ne : Array (Option Value)} {oc_Ne kV_Ne dc_Ne pm_Ne ct_Ne : Value}
    {cd_Pl : Value} {f_Pl : Addr} {od_Pl an_Pl : Option Addr} {sl_Pl : Array (Option Value)} {oc_Pl kV_Pl dc_Pl pm_Pl ct_Pl : Value}
    {cd_iH : Value} {f_iH : Addr} {od_iH an_iH : Option Addr} {sl_iH : Array (Option Value)} {oc_iH kV_iH dc_iH pm_iH ct_iH : Value}
    {cd_iR : Value} {f_iR : Addr} {od_iR an_iR : Option Addr} {sl_iR : Array (Option Value)} {oc_iR kV_iR dc_iR pm_iR ct_iR : Value}
    {cd_iD : Value} {f_iD : Addr} {od_iD an_iD : Option Addr} {sl_iD : Array (Option Value)} {oc_iD kV_iD dc_iD pm_iD ct_iD : Value}
    {cd_iN : Value} {f_iN : Addr} {od_iN an_iN : Option Addr} {sl_iN : Array (Option Value)} {oc_iN kV_iN dc_iN pm_iN ct_iN : Value}
    {cd_iO : Value} {f_iO : Addr} {od_iO an_iO : Option Addr} {sl_iO : Array (Option Value)} {oc_iO kV_iO dc_iO pm_iO ct_iO : Value}
    {cd_iV : Value} {f_iV : Addr} {od_iV an_iV : Option Addr} {sl_iV : Array (Option Value)} {oc_iV kV_iV dc_iV pm_iV ct_iV : Value}
    {nmCH qCH : Str} {NCH : Addr} {bsCH bmCH : List Value} {snCH : List Str} {subCH : List Value} {abCH : Bool} {colCH : Option Bool} {ddCH : Option Addr} {m0CH m1CH m2CH m3CH m5CH : Option Value}
    {nmCR qCR : Str} {NCR : Addr} {bsCR bmCR : List Value} {snCR : List Str} {subCR : List Value} {abCR : Bool} {colCR : Option Bool} {ddCR : Option Addr} {m0CR m1CR m2CR m3CR m5CR : Option Value}
    {nmCD qCD : Str} {NCD : Addr} {bsCD bmCD : List Value} {snCD : List Str} {subCD : List Value} {abCD : Bool} {colCD : Option Bool} {ddCD : Option Addr} {m0CD m1CD m2CD m3CD m5CD : Option Value}
    {nmCN qCN : Str} {NCN : Addr} {bsCN bmCN : List Value} {snCN : List Str} {subCN : List Value} {abCN : Bool} {colCN : Option Bool} {ddCN : Option Addr} {m0CN m1CN m2CN m3CN m5CN : Option Value}
    {nmCO qCO : Str} {NCO : Addr} {bsCO bmCO : List Value} {snCO : List Str} {subCO : List Value} {abCO : Bool} {colCO : Option Bool} {ddCO : Option Addr} {m0CO m1CO m2CO m3CO m5CO : Option Value}
    {nmCV qCV : Str} {NCV : Addr} {bsCV bmCV : List Value} {snCV : List Str} {subCV : List Value} {abCV : Bool} {colCV : Option Bool} {ddCV : Option Addr} {m0CV m1CV m2CV m3CV m5CV : Option Value}
    {tL tF tN : Tok}
    (X : K.In h) (G : h.Ns mainGlobals mg) (hfa : mg "law" = some (.ref fa)) (hTR : h.get? TPR = some { cls := .none, data := .fields #[] })
    (a_isInt : PySem.W.nsIn K mainGlobals "is_integer" = some (some (.ref f_isInt)))
    (l_isInt : K.lookup f_isInt = some ⟨oc_isInt, od_isInt, .func (PySem.W.fnOf "is_integer" "is_integer" (defArgs sIsInt) (defBody sIsInt) (defScope sIsInt) .none kV_isInt dc_isInt pm_isInt an_isInt cd_isInt ct_isInt), sl_isInt⟩)
    (c_isInt : PySem.W.codeIn K cd_isInt "is_integer" = true)
    (k_isInt : PySem.W.keepIn K (.ref f_isInt) = true)
    (a_fromOne : PySem.W.nsIn K mainGlobals "is_from_one" = some (some (.ref f_fromOne)))
    (l_fromOne : K.lookup f_fromOne = some ⟨oc_fromOne, od_fromOne, .func (PySem.W.fnOf "is_from_one" "is_from_one" (defArgs sFromOne) (defBody sFromOne) (defScope sFromOne) .none kV_fromOne dc_fromOne pm_fromOne an_fromOne cd_fromOne ct_fromOne), sl_fromOne⟩)
    (c_fromOne : PySem.W.codeIn K cd_fromOne "is_from_one" = true)
    (k_fromOne : PySem.W.keepIn K (.ref f_fromOne) = true)
    (a_isList : PySem.W.nsIn K mainGlobals "is_list" = some (some (.ref f_isList)))
    (l_isList : K.lookup f_isList = some ⟨oc_isList, od_isList, .func (PySem.W.fnOf "is_list" "is_list" (defArgs sIsList) (defBody sIsList) (defScope sIsList) .none kV_isList dc_isList pm_isList an_isList cd_isList ct_isList), sl_isList⟩)
    (c_isList : PySem.W.codeIn K cd_isList "is_list" = true)
    (k_isList : PySem.W.keepIn K (.ref f_isList) = true)
    (a_isPair : PySem.W.nsIn K mainGlobals "is_pair" = some (some (.ref f_isPair)))
    (l_isPair : K.lookup f_isPair = some ⟨oc_isPair, od_isPair, .func (PySem.W.fnOf "is_pair" "is_pair" (defArgs sIsPair) (defBody sIsPair) (defScope sIsPair) .none kV_isPair dc_isPair pm_isPair an_isPair cd_isPair ct_isPair), sl_isPair⟩)
    (c_isPair : PySem.W.codeIn K cd_isPair "is_pair" = true)
    (k_isPair : PySem.W.keepIn K (.ref f_isPair) = true)
    (a_isName : PySem.W.nsIn K mainGlobals "is_name" = some (some (.ref f_isName)))
    (l_isName : K.lookup f_isName = some ⟨oc_isName, od_isName, .func (PySem.W.fnOf "is_name" "is_name" (defArgs sIsName) (defBody sIsName) (defScope sIsName) .none kV_isName dc_isName pm_isName an_isName cd_isName ct_isName), sl_isName⟩)
    (c_isName : PySem.W.codeIn K cd_isName "is_name" = true)
    (k_isName : PySem.W.keepIn K (.ref f_isName) = true)
    (a_Fr : PySem.W.nsIn K mainGlobals "fraction" = some (some (.ref f_Fr)))
    (l_Fr : K.lookup f_Fr = some ⟨oc_Fr, od_Fr, .func (PySem.W.fnOf "fraction" "fraction" (defArgs sFr) (defBody sFr) (defScope sFr) .none kV_Fr dc_Fr pm_Fr an_Fr cd_Fr ct_Fr), sl_Fr⟩)
    (c_Fr : PySem.W.codeIn K cd_Fr "fraction" = true)
    (k_Fr : PySem.W.keepIn K (.ref f_Fr) = true)
    (a_draw : PySem.W.nsIn K mainGlobals "_law_draw" = some (some (.ref f_draw)))
    (l_draw : K.lookup f_draw = some ⟨oc_draw, od_draw, .func (PySem.W.fnOf "_law_draw" "_law_draw" (defArgs sDraw) (defBody sDraw) (defScope sDraw) .none kV_draw dc_draw pm_draw an_draw cd_draw ct_draw), sl_draw⟩)
    (c_draw : PySem.W.codeIn K cd_draw "_law_draw" = true)
    (k_draw : PySem.W.keepIn K (.ref f_draw) = true)
    (a_pick : PySem.W.nsIn K mainGlobals "_law_pick" = some (some (.ref f_pick)))
    (l_pick : K.lookup f_pick = some ⟨oc_pick, od_pick, .func (PySem.W.fnOf "_law_pick" "_law_pick" (defArgs sPick) (defBody sPick) (defScope sPick) .none kV_pick dc_pick pm_pick an_pick cd_pick ct_pick), sl_pick⟩)
    (c_pick : PySem.W.codeIn K cd_pick "_law_pick" = true)
    (k_pick : PySem.W.keepIn K (.ref f_pick) = true)
    (a_mixed : PySem.W.nsIn K mainGlobals "_law_mixed" = some (some (.ref f_mixed)))
    (l_mixed : K.lookup f_mixed = some ⟨oc_mixed, od_mixed, .func (PySem.W.fnOf "_law_mixed" "_law_mixed" (defArgs sMixed) (defBody sMixed) (defScope sMixed) .none kV_mixed dc_mixed pm_mixed an_mixed cd_mixed ct_mixed), sl_mixed⟩)
    (c_mixed : PySem.W.codeIn K cd_mixed "_law_mixed" = true)
    (k_mixed : PySem.W.keepIn K (.ref f_mixed) = true)
    (a_ND : PySem.W.nsIn K mainGlobals "_need_heads" = some (some (.ref f_ND)))
    (l_ND : K.lookup f_ND = some ⟨oc_ND, od_ND, .func (PySem.W.fnOf "_need_heads" "_need_heads" (defArgs sND) (defBody sND) (defScope sND) .none kV_ND dc_ND pm_ND an_ND cd_ND ct_ND), sl_ND⟩)
    (c_ND : PySem.W.codeIn K cd_ND "_need_heads" = true)
    (k_ND : PySem.W.keepIn K (.ref f_ND) = true)
    (a_NH : PySem.W.nsIn K mainGlobals "_need_houses" = some (some (.ref f_NH)))
    (l_NH : K.lookup f_NH = some ⟨oc_NH, od_NH, .func (PySem.W.fnOf "_need_houses" "_need_houses" (defArgs sNH) (defBody sNH) (defScope sNH) .none kV_NH dc_NH pm_NH an_NH cd_NH ct_NH), sl_NH⟩)
    (c_NH : PySem.W.codeIn K cd_NH "_need_houses" = true)
    (k_NH : PySem.W.keepIn K (.ref f_NH) = true)
    (a_NR : PySem.W.nsIn K mainGlobals "_need_roads" = some (some (.ref f_NR)))
    (l_NR : K.lookup f_NR = some ⟨oc_NR, od_NR, .func (PySem.W.fnOf "_need_roads" "_need_roads" (defArgs sNR) (defBody sNR) (defScope sNR) .none kV_NR dc_NR pm_NR an_NR cd_NR ct_NR), sl_NR⟩)
    (c_NR : PySem.W.codeIn K cd_NR "_need_roads" = true)
    (k_NR : PySem.W.keepIn K (.ref f_NR) = true)
    (a_keys : PySem.W.nsIn K mainGlobals "_are_keys" = some (some (.ref f_keys)))
    (l_keys : K.lookup f_keys = some ⟨oc_keys, od_keys, .func (PySem.W.fnOf "_are_keys" "_are_keys" (defArgs sKeys) (defBody sKeys) (defScope sKeys) .none kV_keys dc_keys pm_keys an_keys cd_keys ct_keys), sl_keys⟩)
    (c_keys : PySem.W.codeIn K cd_keys "_are_keys" = true)
    (k_keys : PySem.W.keepIn K (.ref f_keys) = true)
    (a_lead : PySem.W.nsIn K mainGlobals "_leader" = some (some (.ref f_lead)))
    (l_lead : K.lookup f_lead = some ⟨oc_lead, od_lead, .func (PySem.W.fnOf "_leader" "_leader" (defArgs sLead) (defBody sLead) (defScope sLead) .none kV_lead dc_lead pm_lead an_lead cd_lead ct_lead), sl_lead⟩)
    (c_lead : PySem.W.codeIn K cd_lead "_leader" = true)
    (k_lead : PySem.W.keepIn K (.ref f_lead) = true)
    (a_BW : PySem.W.nsIn K mainGlobals "_both_ways" = some (some (.ref f_BW)))
    (l_BW : K.lookup f_BW = some ⟨oc_BW, od_BW, .func (PySem.W.fnOf "_both_ways" "_both_ways" (defArgs sBW) (defBody sBW) (defScope sBW) .none kV_BW dc_BW pm_BW an_BW cd_BW ct_BW), sl_BW⟩)
    (c_BW : PySem.W.codeIn K cd_BW "_both_ways" = true)
    (k_BW : PySem.W.keepIn K (.ref f_BW) = true)
    (a_NB : PySem.W.nsIn K mainGlobals "_neighbours" = some (some (.ref f_NB)))
    (l_NB : K.lookup f_NB = some ⟨oc_NB, od_NB, .func (PySem.W.fnOf "_neighbours" "_neighbours" (defArgs sNB) (defBody sNB) (defScope sNB) .none kV_NB dc_NB pm_NB an_NB cd_NB ct_NB), sl_NB⟩)
    (c_NB : PySem.W.codeIn K cd_NB "_neighbours" = true)
    (k_NB : PySem.W.keepIn K (.ref f_NB) = true)
    (a_Nv : PySem.W.nsIn K mainGlobals "need_valley" = some (some (.ref f_Nv)))
    (l_Nv : K.lookup f_Nv = some ⟨oc_Nv, od_Nv, .func (PySem.W.fnOf "need_valley" "need_valley" (defArgs sNv) (defBody sNv) (defScope sNv) .none kV_Nv dc_Nv pm_Nv an_Nv cd_Nv ct_Nv), sl_Nv⟩)
    (c_Nv : PySem.W.codeIn K cd_Nv "need_valley" = true)
    (k_Nv : PySem.W.keepIn K (.ref f_Nv) = true)
    (a_Ri : PySem.W.nsIn K mainGlobals "roads_inside" = some (some (.ref f_Ri)))
    (l_Ri : K.lookup f_Ri = some ⟨oc_Ri, od_Ri, .func (PySem.W.fnOf "roads_inside" "roads_inside" (defArgs sRi) (defBody sRi) (defScope sRi) .none kV_Ri dc_Ri pm_Ri an_Ri cd_Ri ct_Ri), sl_Ri⟩)
    (c_Ri : PySem.W.codeIn K cd_Ri "roads_inside" = true)
    (k_Ri : PySem.W.keepIn K (.ref f_Ri) = true)
    (a_Tl : PySem.W.nsIn K mainGlobals "two_lots" = some (some (.ref f_Tl)))
    (l_Tl : K.lookup f_Tl = some ⟨oc_Tl, od_Tl, .func (PySem.W.fnOf "two_lots" "two_lots" (defArgs sTl) (defBody sTl) (defScope sTl) .none kV_Tl dc_Tl pm_Tl an_Tl cd_Tl ct_Tl), sl_Tl⟩)
    (c_Tl : PySem.W.codeIn K cd_Tl "two_lots" = true)
    (k_Tl : PySem.W.keepIn K (.ref f_Tl) = true)
    (a_Bo : PySem.W.nsIn K mainGlobals "bits_of" = some (some (.ref f_Bo)))
    (l_Bo : K.lookup f_Bo = some ⟨oc_Bo, od_Bo, .func (PySem.W.fnOf "bits_of" "bits_of" (defArgs sBo) (defBody sBo) (defScope sBo) .none kV_Bo dc_Bo pm_Bo an_Bo cd_Bo ct_Bo), sl_Bo⟩)
    (c_Bo : PySem.W.codeIn K cd_Bo "bits_of" = true)
    (k_Bo : PySem.W.keepIn K (.ref f_Bo) = true)
    (a_Lt : PySem.W.nsIn K mainGlobals "lot_of" = some (some (.ref f_Lt)))
    (l_Lt : K.lookup f_Lt = some ⟨oc_Lt, od_Lt, .func (PySem.W.fnOf "lot_of" "lot_of" (defArgs sLo_) (defBody sLo_) (defScope sLo_) .none kV_Lt dc_Lt pm_Lt an_Lt cd_Lt ct_Lt), sl_Lt⟩)
    (c_Lt : PySem.W.codeIn K cd_Lt "lot_of" = true)
    (k_Lt : PySem.W.keepIn K (.ref f_Lt) = true)
    (a_Sp : PySem.W.nsIn K mainGlobals "splits_of" = some (some (.ref f_Sp)))
    (l_Sp : K.lookup f_Sp = some ⟨oc_Sp, od_Sp, .func (PySem.W.fnOf "splits_of" "splits_of" (defArgs sSp) (defBody sSp) (defScope sSp) .none kV_Sp dc_Sp pm_Sp an_Sp cd_Sp ct_Sp), sl_Sp⟩)
    (c_Sp : PySem.W.codeIn K cd_Sp "splits_of" = true)
    (k_Sp : PySem.W.keepIn K (.ref f_Sp) = true)
    (a_La : PySem.W.nsIn K mainGlobals "lots_apart" = some (some (.ref f_La)))
    (l_La : K.lookup f_La = some ⟨oc_La, od_La, .func (PySem.W.fnOf "lots_apart" "lots_apart" (defArgs sLa) (defBody sLa) (defScope sLa) .none kV_La dc_La pm_La an_La cd_La ct_La), sl_La⟩)
    (c_La : PySem.W.codeIn K cd_La "lots_apart" = true)
    (k_La : PySem.W.keepIn K (.ref f_La) = true)
    (a_Cl : PySem.W.nsIn K mainGlobals "count_lot" = some (some (.ref f_Cl)))
    (l_Cl : K.lookup f_Cl = some ⟨oc_Cl, od_Cl, .func (PySem.W.fnOf "count_lot" "count_lot" (defArgs sCl) (defBody sCl) (defScope sCl) .none kV_Cl dc_Cl pm_Cl an_Cl cd_Cl ct_Cl), sl_Cl⟩)
    (c_Cl : PySem.W.codeIn K cd_Cl "count_lot" = true)
    (k_Cl : PySem.W.keepIn K (.ref f_Cl) = true)
    (a_Cp : PySem.W.nsIn K mainGlobals "count_part" = some (some (.ref f_Cp)))
    (l_Cp : K.lookup f_Cp = some ⟨oc_Cp, od_Cp, .func (PySem.W.fnOf "count_part" "count_part" (defArgs sCp) (defBody sCp) (defScope sCp) .none kV_Cp dc_Cp pm_Cp an_Cp cd_Cp ct_Cp), sl_Cp⟩)
    (c_Cp : PySem.W.codeIn K cd_Cp "count_part" = true)
    (k_Cp : PySem.W.keepIn K (.ref f_Cp) = true)
    (a_Cu : PySem.W.nsIn K mainGlobals "count_unlike" = some (some (.ref f_Cu)))
    (l_Cu : K.lookup f_Cu = some ⟨oc_Cu, od_Cu, .func (PySem.W.fnOf "count_unlike" "count_unlike" (defArgs sCu) (defBody sCu) (defScope sCu) .none kV_Cu dc_Cu pm_Cu an_Cu cd_Cu ct_Cu), sl_Cu⟩)
    (c_Cu : PySem.W.codeIn K cd_Cu "count_unlike" = true)
    (k_Cu : PySem.W.keepIn K (.ref f_Cu) = true)
    (a_Cb : PySem.W.nsIn K mainGlobals "count_by_feasts" = some (some (.ref f_Cb)))
    (l_Cb : K.lookup f_Cb = some ⟨oc_Cb, od_Cb, .func (PySem.W.fnOf "count_by_feasts" "count_by_feasts" (defArgs sCb) (defBody sCb) (defScope sCb) .none kV_Cb dc_Cb pm_Cb an_Cb cd_Cb ct_Cb), sl_Cb⟩)
    (c_Cb : PySem.W.codeIn K cd_Cb "count_by_feasts" = true)
    (k_Cb : PySem.W.keepIn K (.ref f_Cb) = true)
    (a_Mu : PySem.W.nsIn K mainGlobals "mean_of_unlike" = some (some (.ref f_Mu)))
    (l_Mu : K.lookup f_Mu = some ⟨oc_Mu, od_Mu, .func (PySem.W.fnOf "mean_of_unlike" "mean_of_unlike" (defArgs sMu) (defBody sMu) (defScope sMu) .none kV_Mu dc_Mu pm_Mu an_Mu cd_Mu ct_Mu), sl_Mu⟩)
    (c_Mu : PySem.W.codeIn K cd_Mu "mean_of_unlike" = true)
    (k_Mu : PySem.W.keepIn K (.ref f_Mu) = true)
    (a_Bf : PySem.W.nsIn K mainGlobals "_by_feasts" = some (some (.ref f_Bf)))
    (l_Bf : K.lookup f_Bf = some ⟨oc_Bf, od_Bf, .func (PySem.W.fnOf "_by_feasts" "_by_feasts" (defArgs sBf) (defBody sBf) (defScope sBf) .none kV_Bf dc_Bf pm_Bf an_Bf cd_Bf ct_Bf), sl_Bf⟩)
    (c_Bf : PySem.W.codeIn K cd_Bf "_by_feasts" = true)
    (k_Bf : PySem.W.keepIn K (.ref f_Bf) = true)
    (a_spring : PySem.W.nsIn K mainGlobals "_law_spring" = some (some (.ref f_spring)))
    (l_spring : K.lookup f_spring = some ⟨oc_spring, od_spring, .func (PySem.W.fnOf "_law_spring" "_law_spring" (defArgs sSpring) (defBody sSpring) (defScope sSpring) .none kV_spring dc_spring pm_spring an_spring cd_spring ct_spring), sl_spring⟩)
    (c_spring : PySem.W.codeIn K cd_spring "_law_spring" = true)
    (k_spring : PySem.W.keepIn K (.ref f_spring) = true)
    (a_VN : PySem.W.nsIn K mainGlobals "_law_v_names" = some (some (.ref f_VN)))
    (l_VN : K.lookup f_VN = some ⟨oc_VN, od_VN, .func (PySem.W.fnOf "_law_v_names" "_law_v_names" (defArgs sVN) (defBody sVN) (defScope sVN) .none kV_VN dc_VN pm_VN an_VN cd_VN ct_VN), sl_VN⟩)
    (c_VN : PySem.W.codeIn K cd_VN "_law_v_names" = true)
    (k_VN : PySem.W.keepIn K (.ref f_VN) = true)
    (a_VF : PySem.W.nsIn K mainGlobals "_law_v_form" = some (some (.ref f_VF)))
    (l_VF : K.lookup f_VF = some ⟨oc_VF, od_VF, .func (PySem.W.fnOf "_law_v_form" "_law_v_form" (defArgs sVF) (defBody sVF) (defScope sVF) .none kV_VF dc_VF pm_VF an_VF cd_VF ct_VF), sl_VF⟩)
    (c_VF : PySem.W.codeIn K cd_VF "_law_v_form" = true)
    (k_VF : PySem.W.keepIn K (.ref f_VF) = true)
    (a_lo : PySem.W.nsIn K mainGlobals "_law_loose" = some (some (.ref f_lo)))
    (l_lo : K.lookup f_lo = some ⟨oc_lo, od_lo, .func (PySem.W.fnOf "_law_loose" "_law_loose" (defArgs sLo) (defBody sLo) (defScope sLo) .none kV_lo dc_lo pm_lo an_lo cd_lo ct_lo), sl_lo⟩)
    (c_lo : PySem.W.codeIn K cd_lo "_law_loose" = true)
    (k_lo : PySem.W.keepIn K (.ref f_lo) = true)
    (a_VM : PySem.W.nsIn K mainGlobals "_law_v_made" = some (some (.ref f_VM)))
    (l_VM : K.lookup f_VM = some ⟨oc_VM, od_VM, .func (PySem.W.fnOf "_law_v_made" "_law_v_made" (defArgs sVM) (defBody sVM) (defScope sVM) .none kV_VM dc_VM pm_VM an_VM cd_VM ct_VM), sl_VM⟩)
    (c_VM : PySem.W.codeIn K cd_VM "_law_v_made" = true)
    (k_VM : PySem.W.keepIn K (.ref f_VM) = true)
    (a_sm : PySem.W.nsIn K mainGlobals "_law_same" = some (some (.ref f_sm)))
    (l_sm : K.lookup f_sm = some ⟨oc_sm, od_sm, .func (PySem.W.fnOf "_law_same" "_law_same" (defArgs sSm) (defBody sSm) (defScope sSm) .none kV_sm dc_sm pm_sm an_sm cd_sm ct_sm), sl_sm⟩)
    (c_sm : PySem.W.codeIn K cd_sm "_law_same" = true)
    (k_sm : PySem.W.keepIn K (.ref f_sm) = true)
    (a_met : PySem.W.nsIn K mainGlobals "_law_met" = some (some (.ref f_met)))
    (l_met : K.lookup f_met = some ⟨oc_met, od_met, .func (PySem.W.fnOf "_law_met" "_law_met" (defArgs sMt) (defBody sMt) (defScope sMt) .none kV_met dc_met pm_met an_met cd_met ct_met), sl_met⟩)
    (c_met : PySem.W.codeIn K cd_met "_law_met" = true)
    (k_met : PySem.W.keepIn K (.ref f_met) = true)
    (a_CL : PySem.W.nsIn K mainGlobals "_law_c_lowest" = some (some (.ref f_CL)))
    (l_CL : K.lookup f_CL = some ⟨oc_CL, od_CL, .func (PySem.W.fnOf "_law_c_lowest" "_law_c_lowest" (defArgs sCL) (defBody sCL) (defScope sCL) .none kV_CL dc_CL pm_CL an_CL cd_CL ct_CL), sl_CL⟩)
    (c_CL : PySem.W.codeIn K cd_CL "_law_c_lowest" = true)
    (k_CL : PySem.W.keepIn K (.ref f_CL) = true)
    (a_Vs : PySem.W.nsIn K mainGlobals "_law_v_side" = some (some (.ref f_Vs)))
    (l_Vs : K.lookup f_Vs = some ⟨oc_Vs, od_Vs, .func (PySem.W.fnOf "_law_v_side" "_law_v_side" (defArgs sVs) (defBody sVs) (defScope sVs) .none kV_Vs dc_Vs pm_Vs an_Vs cd_Vs ct_Vs), sl_Vs⟩)
    (c_Vs : PySem.W.codeIn K cd_Vs "_law_v_side" = true)
    (k_Vs : PySem.W.keepIn K (.ref f_Vs) = true)
    (a_Ul : PySem.W.nsIn K mainGlobals "_law_u_lots" = some (some (.ref f_Ul)))
    (l_Ul : K.lookup f_Ul = some ⟨oc_Ul, od_Ul, .func (PySem.W.fnOf "_law_u_lots" "_law_u_lots" (defArgs sUl) (defBody sUl) (defScope sUl) .none kV_Ul dc_Ul pm_Ul an_Ul cd_Ul ct_Ul), sl_Ul⟩)
    (c_Ul : PySem.W.codeIn K cd_Ul "_law_u_lots" = true)
    (k_Ul : PySem.W.keepIn K (.ref f_Ul) = true)
    (a_Ur : PySem.W.nsIn K mainGlobals "_law_u_roads" = some (some (.ref f_Ur)))
    (l_Ur : K.lookup f_Ur = some ⟨oc_Ur, od_Ur, .func (PySem.W.fnOf "_law_u_roads" "_law_u_roads" (defArgs sUr) (defBody sUr) (defScope sUr) .none kV_Ur dc_Ur pm_Ur an_Ur cd_Ur ct_Ur), sl_Ur⟩)
    (c_Ur : PySem.W.codeIn K cd_Ur "_law_u_roads" = true)
    (k_Ur : PySem.W.keepIn K (.ref f_Ur) = true)
    (a_Um : PySem.W.nsIn K mainGlobals "_law_u_many" = some (some (.ref f_Um)))
    (l_Um : K.lookup f_Um = some ⟨oc_Um, od_Um, .func (PySem.W.fnOf "_law_u_many" "_law_u_many" (defArgs sUm) (defBody sUm) (defScope sUm) .none kV_Um dc_Um pm_Um an_Um cd_Um ct_Um), sl_Um⟩)
    (c_Um : PySem.W.codeIn K cd_Um "_law_u_many" = true)
    (k_Um : PySem.W.keepIn K (.ref f_Um) = true)
    (a_Ua : PySem.W.nsIn K mainGlobals "_law_u_all" = some (some (.ref f_Ua)))
    (l_Ua : K.lookup f_Ua = some ⟨oc_Ua, od_Ua, .func (PySem.W.fnOf "_law_u_all" "_law_u_all" (defArgs sUa) (defBody sUa) (defScope sUa) .none kV_Ua dc_Ua pm_Ua an_Ua cd_Ua ct_Ua), sl_Ua⟩)
    (c_Ua : PySem.W.codeIn K cd_Ua "_law_u_all" = true)
    (k_Ua : PySem.W.keepIn K (.ref f_Ua) = true)
    (a_Bl : PySem.W.nsIn K mainGlobals "_law_by" = some (some (.ref f_Bl)))
    (l_Bl : K.lookup f_Bl = some ⟨oc_Bl, od_Bl, .func (PySem.W.fnOf "_law_by" "_law_by" (defArgs sBl) (defBody sBl) (defScope sBl) .none kV_Bl dc_Bl pm_Bl an_Bl cd_Bl ct_Bl), sl_Bl⟩)
    (c_Bl : PySem.W.codeIn K cd_Bl "_law_by" = true)
    (k_Bl : PySem.W.keepIn K (.ref f_Bl) = true)
    (a_Hr : PySem.W.nsIn K mainGlobals "_law_house_right" = some (some (.ref f_Hr)))
    (l_Hr : K.lookup f_Hr = some ⟨oc_Hr, od_Hr, .func (PySem.W.fnOf "_law_house_right" "_law_house_right" (defArgs sHr) (defBody sHr) (defScope sHr) .none kV_Hr dc_Hr pm_Hr an_Hr cd_Hr ct_Hr), sl_Hr⟩)
    (c_Hr : PySem.W.codeIn K cd_Hr "_law_house_right" = true)
    (k_Hr : PySem.W.keepIn K (.ref f_Hr) = true)
    (a_Sq : PySem.W.nsIn K mainGlobals "_law_small_right" = some (some (.ref f_Sq)))
    (l_Sq : K.lookup f_Sq = some ⟨oc_Sq, od_Sq, .func (PySem.W.fnOf "_law_small_right" "_law_small_right" (defArgs sSq) (defBody sSq) (defScope sSq) .none kV_Sq dc_Sq pm_Sq an_Sq cd_Sq ct_Sq), sl_Sq⟩)
    (c_Sq : PySem.W.codeIn K cd_Sq "_law_small_right" = true)
    (k_Sq : PySem.W.keepIn K (.ref f_Sq) = true)
    (a_Ref : PySem.W.nsIn K mainGlobals "_law_refused_right" = some (some (.ref f_Ref)))
    (l_Ref : K.lookup f_Ref = some ⟨oc_Ref, od_Ref, .func (PySem.W.fnOf "_law_refused_right" "_law_refused_right" (defArgs sRef) (defBody sRef) (defScope sRef) .none kV_Ref dc_Ref pm_Ref an_Ref (.ref cRf) ct_Ref), sl_Ref⟩)
    (c_Ref : PySem.W.codeIn K (.ref cRf) "_law_refused_right" = true)
    (k_Ref : PySem.W.keepIn K (.ref f_Ref) = true)
    (a_law : PySem.W.nsIn K mainGlobals "law" = some (some (.ref f_law)))
    (l_law : K.lookup f_law = some ⟨oc_law, od_law, .func (PySem.W.fnOf "law" "law" (defArgs sLaw) (defBody sLaw) (defScope sLaw) .none kV_law dc_law pm_law an_law cd_law ct_law), sl_law⟩)
    (c_law : PySem.W.codeIn K cd_law "law" = true)
    (k_law : PySem.W.keepIn K (.ref f_law) = true)
    (aC : PySem.W.nsIn K mainGlobals "Valley" = some (some (.ref C)))
    (aCF : PySem.W.nsIn K mainGlobals "FeastError" = some (some (.ref CF)))
    (aCH : PySem.W.nsIn K mainGlobals "BadHouses" = some (some (.ref CH)))
    (aCR : PySem.W.nsIn K mainGlobals "BadRoads" = some (some (.ref CR)))
    (aCD : PySem.W.nsIn K mainGlobals "BadHeads" = some (some (.ref CD)))
    (aCN : PySem.W.nsIn K mainGlobals "NoHouse" = some (some (.ref CN)))
    (aCO : PySem.W.nsIn K mainGlobals "NoRoad" = some (some (.ref CO)))
    (aCV : PySem.W.nsIn K mainGlobals "BadValley" = some (some (.ref CV)))
    (a_VI : PySem.W.findIn K (.ref C) "__init__" = some (some (.ref f_VI)))
    (i_VI : PySem.W.isFn K (.ref f_VI) = true)
    (l_VI : K.lookup f_VI = some ⟨oc_VI, od_VI, .func (PySem.W.fnOf "__init__" "Valley.__init__" (defArgs sVI) (defBody sVI) (defScope sVI) .none kV_VI dc_VI pm_VI an_VI cd_VI ct_VI), sl_VI⟩)
    (c_VI : PySem.W.codeIn K cd_VI "Valley.__init__" = true)
    (k_VI : PySem.W.keepIn K (.ref f_VI) = true)
    (a_Ho : PySem.W.findIn K (.ref C) "houses" = some (some (.ref f_Ho)))
    (i_Ho : PySem.W.isFn K (.ref f_Ho) = true)
    (l_Ho : K.lookup f_Ho = some ⟨oc_Ho, od_Ho, .func (PySem.W.fnOf "houses" "Valley.houses" (defArgs sVH) (defBody sVH) (defScope sVH) .none kV_Ho dc_Ho pm_Ho an_Ho cd_Ho ct_Ho), sl_Ho⟩)
    (c_Ho : PySem.W.codeIn K cd_Ho "Valley.houses" = true)
    (k_Ho : PySem.W.keepIn K (.ref f_Ho) = true)
    (a_Ro : PySem.W.findIn K (.ref C) "roads" = some (some (.ref f_Ro)))
    (i_Ro : PySem.W.isFn K (.ref f_Ro) = true)
    (l_Ro : K.lookup f_Ro = some ⟨oc_Ro, od_Ro, .func (PySem.W.fnOf "roads" "Valley.roads" (defArgs sVR) (defBody sVR) (defScope sVR) .none kV_Ro dc_Ro pm_Ro an_Ro cd_Ro ct_Ro), sl_Ro⟩)
    (c_Ro : PySem.W.codeIn K cd_Ro "Valley.roads" = true)
    (k_Ro : PySem.W.keepIn K (.ref f_Ro) = true)
    (a_Si : PySem.W.findIn K (.ref C) "side" = some (some (.ref f_Si)))
    (i_Si : PySem.W.isFn K (.ref f_Si) = true)
    (l_Si : K.lookup f_Si = some ⟨oc_Si, od_Si, .func (PySem.W.fnOf "side" "Valley.side" (defArgs sSi) (defBody sSi) (defScope sSi) .none kV_Si dc_Si pm_Si an_Si cd_Si ct_Si), sl_Si⟩)
    (c_Si : PySem.W.codeIn K cd_Si "Valley.side" = true)
    (k_Si : PySem.W.keepIn K (.ref f_Si) = true)
    (a_Is : PySem.W.findIn K (.ref C) "is_house" = some (some (.ref f_Is)))
    (i_Is : PySem.W.isFn K (.ref f_Is) = true)
    (l_Is : K.lookup f_Is = some ⟨oc_Is, od_Is, .func (PySem.W.fnOf "is_house" "Valley.is_house" (defArgs sIs) (defBody sIs) (defScope sIs) .none kV_Is dc_Is pm_Is an_Is cd_Is ct_Is), sl_Is⟩)
    (c_Is : PySem.W.codeIn K cd_Is "Valley.is_house" = true)
    (k_Is : PySem.W.keepIn K (.ref f_Is) = true)
    (a_Ne : PySem.W.findIn K (.ref C) "need_house" = some (some (.ref f_Ne)))
    (i_Ne : PySem.W.isFn K (.ref f_Ne) = true)
    (l_Ne : K.lookup f_Ne = some ⟨oc_Ne, od_Ne, .func (PySem.W.fnOf "need_house" "Valley.need_house" (defArgs sNe) (defBody sNe) (defScope sNe) .none kV_Ne dc_Ne pm_Ne an_Ne cd_Ne ct_Ne), sl_Ne⟩)
    (c_Ne : PySem.W.codeIn K cd_Ne "Valley.need_house" = true)
    (k_Ne : PySem.W.keepIn K (.ref f_Ne) = true)
    (a_Pl : PySem.W.findIn K (.ref C) "place" = some (some (.ref f_Pl)))
    (i_Pl : PySem.W.isFn K (.ref f_Pl) = true)
    (l_Pl : K.lookup f_Pl = some ⟨oc_Pl, od_Pl, .func (PySem.W.fnOf "place" "Valley.place" (defArgs sPl) (defBody sPl) (defScope sPl) .none kV_Pl dc_Pl pm_Pl an_Pl cd_Pl ct_Pl), sl_Pl⟩)
    (c_Pl : PySem.W.codeIn K cd_Pl "Valley.place" = true)
    (k_Pl : PySem.W.keepIn K (.ref f_Pl) = true)
    (a_iH : PySem.W.findIn K (.ref CH) "__init__" = some (some (.ref f_iH)))
    (i_iH : PySem.W.isFn K (.ref f_iH) = true)
    (l_iH : K.lookup f_iH = some ⟨oc_iH, od_iH, .func (PySem.W.fnOf "__init__" "BadHouses.__init__" (defArgs sIH) (defBody sIH) (defScope sIH) .none kV_iH dc_iH pm_iH an_iH cd_iH ct_iH), sl_iH⟩)
    (c_iH : PySem.W.codeIn K cd_iH "BadHouses.__init__" = true)
    (k_iH : PySem.W.keepIn K (.ref f_iH) = true)
    (a_iR : PySem.W.findIn K (.ref CR) "__init__" = some (some (.ref f_iR)))
    (i_iR : PySem.W.isFn K (.ref f_iR) = true)
    (l_iR : K.lookup f_iR = some ⟨oc_iR, od_iR, .func (PySem.W.fnOf "__init__" "BadRoads.__init__" (defArgs sIR) (defBody sIR) (defScope sIR) .none kV_iR dc_iR pm_iR an_iR cd_iR ct_iR), sl_iR⟩)
    (c_iR : PySem.W.codeIn K cd_iR "BadRoads.__init__" = true)
    (k_iR : PySem.W.keepIn K (.ref f_iR) = true)
    (a_iD : PySem.W.findIn K (.ref CD) "__init__" = some (some (.ref f_iD)))
    (i_iD : PySem.W.isFn K (.ref f_iD) = true)
    (l_iD : K.lookup f_iD = some ⟨oc_iD, od_iD, .func (PySem.W.fnOf "__init__" "BadHeads.__init__" (defArgs sID) (defBody sID) (defScope sID) .none kV_iD dc_iD pm_iD an_iD cd_iD ct_iD), sl_iD⟩)
    (c_iD : PySem.W.codeIn K cd_iD "BadHeads.__init__" = true)
    (k_iD : PySem.W.keepIn K (.ref f_iD) = true)
    (a_iN : PySem.W.findIn K (.ref CN) "__init__" = some (some (.ref f_iN)))
    (i_iN : PySem.W.isFn K (.ref f_iN) = true)
    (l_iN : K.lookup f_iN = some ⟨oc_iN, od_iN, .func (PySem.W.fnOf "__init__" "NoHouse.__init__" (defArgs sIN) (defBody sIN) (defScope sIN) .none kV_iN dc_iN pm_iN an_iN cd_iN ct_iN), sl_iN⟩)
    (c_iN : PySem.W.codeIn K cd_iN "NoHouse.__init__" = true)
    (k_iN : PySem.W.keepIn K (.ref f_iN) = true)
    (a_iO : PySem.W.findIn K (.ref CO) "__init__" = some (some (.ref f_iO)))
    (i_iO : PySem.W.isFn K (.ref f_iO) = true)
    (l_iO : K.lookup f_iO = some ⟨oc_iO, od_iO, .func (PySem.W.fnOf "__init__" "NoRoad.__init__" (defArgs sIO) (defBody sIO) (defScope sIO) .none kV_iO dc_iO pm_iO an_iO cd_iO ct_iO), sl_iO⟩)
    (c_iO : PySem.W.codeIn K cd_iO "NoRoad.__init__" = true)
    (k_iO : PySem.W.keepIn K (.ref f_iO) = true)
    (a_iV : PySem.W.findIn K (.ref CV) "__init__" = some (some (.ref f_iV)))
    (i_iV : PySem.W.isFn K (.ref f_iV) = true)
    (l_iV : K.lookup f_iV = some ⟨oc_iV, od_iV, .func (PySem.W.fnOf "__init__" "BadValley.__init__" (defArgs sIV) (defBody sIV) (defScope sIV) .none kV_iV dc_iV pm_iV an_iV cd_iV ct_iV), sl_iV⟩)
    (c_iV : PySem.W.codeIn K cd_iV "BadValley.__init__" = true)
    (k_iV : PySem.W.keepIn K (.ref f_iV) = true)
    (pg : PySem.W.plainGet K C Str.empty = true)
    (hd : PySem.W.hasDictIn K C = true)
    (po : PySem.W.plainOver K C = true)
    (sa : PySem.W.findIn K (.ref C) "__setattr__" = some (some (.builtin "object.__setattr__")))
    (mk : PySem.W.makesIn K C = true)
    (kc : PySem.W.keepIn K (.ref C) = true)
    (n1 : PySem.W.findIn K (.ref C) "_houses" = some none)
    (n2 : PySem.W.findIn K (.ref C) "_roads" = some none)
    (n3 : PySem.W.findIn K (.ref C) "_heads" = some none)
    (n4 : PySem.W.findIn K (.ref C) "_people" = some none)
    (n5 : PySem.W.findIn K (.ref C) "_places" = some none)
    (n6 : PySem.W.findIn K (.ref C) "_beside" = some none)
    (ha : PySem.W.findIn K (.ref C) "__class__" = some (some (.builtin "object.__class__")))
    (hn : PySem.W.specialIn K (.builtin "object.__class__") "__get__" = some (some (.builtin "getset_descriptor.__get__")))
    (htk : PySem.W.takesIn K (.builtin "object.__class__") = some true)
    (hm : PySem.W.mroIn K C (.type "object") = some true)
    (own : PySem.W.kitOne K (.ref C) (.ref C) = some true)
    (kno : ((kinds ++ ["function"]).all fun t => PySem.W.kitOne K (.type t) (.ref C) == some false) = true)
    (fsp : PySem.W.specialIn K (.ref CF) "__getattribute__" = some (some (.builtin "type.__getattribute__")))
    (frd : PySem.W.readsIn K CF (.type "type") = true)
    (fin : PySem.W.findCls K (.ref CF) (.type "type") "__init__" = some (.val (.builtin "ValueError.__init__")))
    (xCH : K.lookup CH = some (excClassObj nmCH qCH CH NCH bsCH bmCH true snCH subCH abCH colCH ddCH m0CH m1CH m2CH m3CH m5CH "ValueError.__new__"))
    (rCH : PySem.HandSPX.refsVE bmCH = true)
    (saCH : PySem.W.findIn K (.ref CH) "__setattr__" = some (some (.builtin "object.__setattr__")))
    (exCH : PySem.W.subIn K (.ref CH) (.type "BaseException") = some true)
    (tyCH : PySem.W.typeIn K (.ref CH) = some (.type "type"))
    (kpCH : PySem.W.keepIn K (.ref CH) = true)
    (inCH_index : PySem.W.findIn K (.ref CH) "index" = some none)
    (ty_iH : PySem.W.typeIn K (.ref f_iH) = some (.type "function"))
    (xCR : K.lookup CR = some (excClassObj nmCR qCR CR NCR bsCR bmCR true snCR subCR abCR colCR ddCR m0CR m1CR m2CR m3CR m5CR "ValueError.__new__"))
    (rCR : PySem.HandSPX.refsVE bmCR = true)
    (saCR : PySem.W.findIn K (.ref CR) "__setattr__" = some (some (.builtin "object.__setattr__")))
    (exCR : PySem.W.subIn K (.ref CR) (.type "BaseException") = some true)
    (tyCR : PySem.W.typeIn K (.ref CR) = some (.type "type"))
    (kpCR : PySem.W.keepIn K (.ref CR) = true)
    (inCR_index : PySem.W.findIn K (.ref CR) "index" = some none)
    (ty_iR : PySem.W.typeIn K (.ref f_iR) = some (.type "function"))
    (xCD : K.lookup CD = some (excClassObj nmCD qCD CD NCD bsCD bmCD true snCD subCD abCD colCD ddCD m0CD m1CD m2CD m3CD m5CD "ValueError.__new__"))
    (rCD : PySem.HandSPX.refsVE bmCD = true)
    (saCD : PySem.W.findIn K (.ref CD) "__setattr__" = some (some (.builtin "object.__setattr__")))
    (exCD : PySem.W.subIn K (.ref CD) (.type "BaseException") = some true)
    (tyCD : PySem.W.typeIn K (.ref CD) = some (.type "type"))
    (kpCD : PySem.W.keepIn K (.ref CD) = true)
    (inCD_index : PySem.W.findIn K (.ref CD) "index" = some none)
    (ty_iD : PySem.W.typeIn K (.ref f_iD) = some (.type "function"))
    (xCN : K.lookup CN = some (excClassObj nmCN qCN CN NCN bsCN bmCN true snCN subCN abCN colCN ddCN m0CN m1CN m2CN m3CN m5CN "ValueError.__new__"))
    (rCN : PySem.HandSPX.refsVE bmCN = true)
    (saCN : PySem.W.findIn K (.ref CN) "__setattr__" = some (some (.builtin "object.__setattr__")))
    (exCN : PySem.W.subIn K (.ref CN) (.type "BaseException") = some true)
    (tyCN : PySem.W.typeIn K (.ref CN) = some (.type "type"))
    (kpCN : PySem.W.keepIn K (.ref CN) = true)
    (inCN_house : PySem.W.findIn K (.ref CN) "house" = some none)
    (ty_iN : PySem.W.typeIn K (.ref f_iN) = some (.type "function"))
    (xCO : K.lookup CO = some (excClassObj nmCO qCO CO NCO bsCO bmCO true snCO subCO abCO colCO ddCO m0CO m1CO m2CO m3CO m5CO "ValueError.__new__"))
    (rCO : PySem.HandSPX.refsVE bmCO = true)
    (saCO : PySem.W.findIn K (.ref CO) "__setattr__" = some (some (.builtin "object.__setattr__")))
    (exCO : PySem.W.subIn K (.ref CO) (.type "BaseException") = some true)
    (tyCO : PySem.W.typeIn K (.ref CO) = some (.type "type"))
    (kpCO : PySem.W.keepIn K (.ref CO) = true)
    (inCO_one : PySem.W.findIn K (.ref CO) "one" = some none)
    (inCO_other : PySem.W.findIn K (.ref CO) "other" = some none)
    (ty_iO : PySem.W.typeIn K (.ref f_iO) = some (.type "function"))
    (xCV : K.lookup CV = some (excClassObj nmCV qCV CV NCV bsCV bmCV true snCV subCV abCV colCV ddCV m0CV m1CV m2CV m3CV m5CV "ValueError.__new__"))
    (rCV : PySem.HandSPX.refsVE bmCV = true)
    (saCV : PySem.W.findIn K (.ref CV) "__setattr__" = some (some (.builtin "object.__setattr__")))
    (exCV : PySem.W.subIn K (.ref CV) (.type "BaseException") = some true)
    (tyCV : PySem.W.typeIn K (.ref CV) = some (.type "type"))
    (kpCV : PySem.W.keepIn K (.ref CV) = true)
    (inCV_thing : PySem.W.findIn K (.ref CV) "thing" = some none)
    (ty_iV : PySem.W.typeIn K (.ref f_iV) = some (.type "function"))
    (gaCV : PySem.W.findIn K (.ref CV) "__getattribute__" = some (some (.builtin "BaseException.__getattribute__")))
    (ggCV : PySem.W.findIn K (.ref CV) "__getattr__" = some none)
    (hdCV : PySem.W.hasDictIn K CV = true)
    (gaCN : PySem.W.findIn K (.ref CN) "__getattribute__" = some (some (.builtin "BaseException.__getattribute__")))
    (ggCN : PySem.W.findIn K (.ref CN) "__getattr__" = some none)
    (hdCN : PySem.W.hasDictIn K CN = true)
    (em_vv : PySem.W.exmOne K (.ref CV) (.ref CV) = some true)
    (em_nv : PySem.W.exmOne K (.ref CN) (.ref CV) = some false)
    (em_nn : PySem.W.exmOne K (.ref CN) (.ref CN) = some true)
    (sgL : PySem.W.nsIn K mainGlobals "LETTERS" = some (some (.str letters tL)))
    (sgF : PySem.W.nsIn K mainGlobals "FIGURES" = some (some (.str figures tF)))
    (sgN : PySem.W.nsIn K mainGlobals "LONGEST_NAME" = some (some (.int 8 tN)))
    (zgcd : PySem.W.nsIn K mainGlobals "gcd" = some (some (.builtin "math.gcd")))
    (z_isinstance : PySem.W.nsIn K mainGlobals "isinstance" = some none)
    (z_int : PySem.W.nsIn K mainGlobals "int" = some none)
    (z_bool : PySem.W.nsIn K mainGlobals "bool" = some none)
    (z_str : PySem.W.nsIn K mainGlobals "str" = some none)
    (z_list : PySem.W.nsIn K mainGlobals "list" = some none)
    (z_tuple : PySem.W.nsIn K mainGlobals "tuple" = some none)
    (z_dict : PySem.W.nsIn K mainGlobals "dict" = some none)
    (z_len : PySem.W.nsIn K mainGlobals "len" = some none)
    (z_all : PySem.W.nsIn K mainGlobals "all" = some none)
    (z_range : PySem.W.nsIn K mainGlobals "range" = some none)
    (z_enumerate : PySem.W.nsIn K mainGlobals "enumerate" = some none)
    (z_set : PySem.W.nsIn K mainGlobals "set" = some none)
    (z_min : PySem.W.nsIn K mainGlobals "min" = some none)
    (z_zip : PySem.W.nsIn K mainGlobals "zip" = some none)
    (z_sorted : PySem.W.nsIn K mainGlobals "sorted" = some none)
    (z_sum : PySem.W.nsIn K mainGlobals "sum" = some none)
    (tpNR : K.lookup TPR = none)
    (tpCR : PySem.W.codeHdIn K cRf TPR = true) :
    LamX.LawAtS l w K CX0 24 63 "script" mg fa h := by
  have e := hfa.symm.trans (PySem.W.mg_of X G a_law)
  cases e
  have m_isInt := PySem.W.mg_of X G a_isInt
  have F_isInt := fun_mk (st := sIsInt) l_isInt c_isInt k_isInt
  have b_isInt := F_isInt.binds (ps := ["thing"]) fun _ _ _ _ _ _ us hl => match us, hl with | [_], _ => rfl
  have m_fromOne := PySem.W.mg_of X G a_fromOne
  have F_fromOne := fun_mk (st := sFromOne) l_fromOne c_fromOne k_fromOne
  have b_fromOne := F_fromOne.binds (ps := ["thing"]) fun _ _ _ _ _ _ us hl => match us, hl with | [_], _ => rfl
  have m_isList := PySem.W.mg_of X G a_isList
  have F_isList := fun_mk (st := sIsList) l_isList c_isList k_isList
  have b_isList := F_isList.binds (ps := ["thing"]) fun _ _ _ _ _ _ us hl => match us, hl with | [_], _ => rfl
  have m_isPair := PySem.W.mg_of X G a_isPair
  have F_isPair := fun_mk (st := sIsPair) l_isPair c_isPair k_isPair
  have b_isPair := F_isPair.binds (ps := ["thing"]) fun _ _ _ _ _ _ us hl => match us, hl with | [_], _ => rfl
  have m_isName := PySem.W.mg_of X G a_isName
  have F_isName := fun_mk (st := sIsName) l_isName c_isName k_isName
  have b_isName := F_isName.binds (ps := ["thing"]) fun _ _ _ _ _ _ us hl => match us, hl with | [_], _ => rfl
  have m_Fr := PySem.W.mg_of X G a_Fr
  have F_Fr := fun_mk (st := sFr) l_Fr c_Fr k_Fr
  have b_Fr := F_Fr.binds (ps := ["top", "bottom"]) fun _ _ _ _ _ _ us hl => match us, hl with | [_, _], _ => rfl
  have m_draw := PySem.W.mg_of X G a_draw
  have F_draw := fun_mk (st := sDraw) l_draw c_draw k_draw
  have b_draw := F_draw.binds (ps := ["spring", "many"]) fun _ _ _ _ _ _ us hl => match us, hl with | [_, _], _ => rfl
  have m_pick := PySem.W.mg_of X G a_pick
  have F_pick := fun_mk (st := sPick) l_pick c_pick k_pick
  have b_pick := F_pick.binds (ps := ["spring", "some"]) fun _ _ _ _ _ _ us hl => match us, hl with | [_, _], _ => rfl
  have m_mixed := PySem.W.mg_of X G a_mixed
  have F_mixed := fun_mk (st := sMixed) l_mixed c_mixed k_mixed
  have b_mixed := F_mixed.binds (ps := ["spring", "some"]) fun _ _ _ _ _ _ us hl => match us, hl with | [_, _], _ => rfl
  have m_ND := PySem.W.mg_of X G a_ND
  have F_ND := fun_mk (st := sND) l_ND c_ND k_ND
  have b_ND := F_ND.binds (ps := ["houses", "heads"]) fun _ _ _ _ _ _ us hl => match us, hl with | [_, _], _ => rfl
  have m_NH := PySem.W.mg_of X G a_NH
  have F_NH := fun_mk (st := sNH) l_NH c_NH k_NH
  have b_NH := F_NH.binds (ps := ["houses"]) fun _ _ _ _ _ _ us hl => match us, hl with | [_], _ => rfl
  have m_NR := PySem.W.mg_of X G a_NR
  have F_NR := fun_mk (st := sNR) l_NR c_NR k_NR
  have b_NR := F_NR.binds (ps := ["houses", "roads"]) fun _ _ _ _ _ _ us hl => match us, hl with | [_, _], _ => rfl
  have m_keys := PySem.W.mg_of X G a_keys
  have F_keys := fun_mk (st := sKeys) l_keys c_keys k_keys
  have b_keys := F_keys.binds (ps := ["things", "table"]) fun _ _ _ _ _ _ us hl => match us, hl with | [_, _], _ => rfl
  have m_lead := PySem.W.mg_of X G a_lead
  have F_lead := fun_mk (st := sLead) l_lead c_lead k_lead
  have b_lead := F_lead.binds (ps := ["leads", "house"]) fun _ _ _ _ _ _ us hl => match us, hl with | [_, _], _ => rfl
  have m_BW := PySem.W.mg_of X G a_BW
  have F_BW := fun_mk (st := sBW) l_BW c_BW k_BW
  have b_BW := F_BW.binds (ps := ["roads"]) fun _ _ _ _ _ _ us hl => match us, hl with | [_], _ => rfl
  have m_NB := PySem.W.mg_of X G a_NB
  have F_NB := fun_mk (st := sNB) l_NB c_NB k_NB
  have b_NB := F_NB.binds (ps := ["houses", "roads"]) fun _ _ _ _ _ _ us hl => match us, hl with | [_, _], _ => rfl
  have m_Nv := PySem.W.mg_of X G a_Nv
  have F_Nv := fun_mk (st := sNv) l_Nv c_Nv k_Nv
  have b_Nv := F_Nv.binds (ps := ["valley"]) fun _ _ _ _ _ _ us hl => match us, hl with | [_], _ => rfl
  have m_Ri := PySem.W.mg_of X G a_Ri
  have F_Ri := fun_mk (st := sRi) l_Ri c_Ri k_Ri
  have b_Ri := F_Ri.binds (ps := ["valley", "part"]) fun _ _ _ _ _ _ us hl => match us, hl with | [_, _], _ => rfl
  have m_Tl := PySem.W.mg_of X G a_Tl
  have F_Tl := fun_mk (st := sTl) l_Tl c_Tl k_Tl
  have b_Tl := F_Tl.binds (ps := ["valley", "part", "place"]) fun _ _ _ _ _ _ us hl => match us, hl with | [_, _, _], _ => rfl
  have m_Bo := PySem.W.mg_of X G a_Bo
  have F_Bo := fun_mk (st := sBo) l_Bo c_Bo k_Bo
  have b_Bo := F_Bo.binds (ps := ["part"]) fun _ _ _ _ _ _ us hl => match us, hl with | [_], _ => rfl
  have m_Lt := PySem.W.mg_of X G a_Lt
  have F_Lt := fun_mk (st := sLo_) l_Lt c_Lt k_Lt
  have b_Lt := F_Lt.binds (ps := ["bits", "some"]) fun _ _ _ _ _ _ us hl => match us, hl with | [_, _], _ => rfl
  have m_Sp := PySem.W.mg_of X G a_Sp
  have F_Sp := fun_mk (st := sSp) l_Sp c_Sp k_Sp
  have b_Sp := F_Sp.binds (ps := ["valley", "part"]) fun _ _ _ _ _ _ us hl => match us, hl with | [_, _], _ => rfl
  have m_La := PySem.W.mg_of X G a_La
  have F_La := fun_mk (st := sLa) l_La c_La k_La
  have b_La := F_La.binds (ps := ["splits", "lot"]) fun _ _ _ _ _ _ us hl => match us, hl with | [_, _], _ => rfl
  have m_Cl := PySem.W.mg_of X G a_Cl
  have F_Cl := fun_mk (st := sCl) l_Cl c_Cl k_Cl
  have b_Cl := F_Cl.binds (ps := ["splits", "lot", "known"]) fun _ _ _ _ _ _ us hl => match us, hl with | [_, _, _], _ => rfl
  have m_Cp := PySem.W.mg_of X G a_Cp
  have F_Cp := fun_mk (st := sCp) l_Cp c_Cp k_Cp
  have b_Cp := F_Cp.binds (ps := ["valley", "part"]) fun _ _ _ _ _ _ us hl => match us, hl with | [_, _], _ => rfl
  have m_Cu := PySem.W.mg_of X G a_Cu
  have F_Cu := fun_mk (st := sCu) l_Cu c_Cu k_Cu
  have b_Cu := F_Cu.binds (ps := ["valley"]) fun _ _ _ _ _ _ us hl => match us, hl with | [_], _ => rfl
  have m_Cb := PySem.W.mg_of X G a_Cb
  have F_Cb := fun_mk (st := sCb) l_Cb c_Cb k_Cb
  have b_Cb := F_Cb.binds (ps := ["valley", "house"]) fun _ _ _ _ _ _ us hl => match us, hl with | [_, _], _ => rfl
  have m_Mu := PySem.W.mg_of X G a_Mu
  have F_Mu := fun_mk (st := sMu) l_Mu c_Mu k_Mu
  have b_Mu := F_Mu.binds (ps := ["valley", "house"]) fun _ _ _ _ _ _ us hl => match us, hl with | [_, _], _ => rfl
  have m_Bf := PySem.W.mg_of X G a_Bf
  have F_Bf := fun_mk (st := sBf) l_Bf c_Bf k_Bf
  have b_Bf := F_Bf.binds (ps := ["splits", "lot", "bit", "found", "known"]) fun _ _ _ _ _ _ us hl => match us, hl with | [_, _, _, _, _], _ => rfl
  have m_spring := PySem.W.mg_of X G a_spring
  have F_spring := fun_mk (st := sSpring) l_spring c_spring k_spring
  have b_spring := F_spring.binds (ps := ["script", "turn"]) fun _ _ _ _ _ _ us hl => match us, hl with | [_, _], _ => rfl
  have m_VN := PySem.W.mg_of X G a_VN
  have F_VN := fun_mk (st := sVN) l_VN c_VN k_VN
  have b_VN := F_VN.binds (ps := ["spring", "many"]) fun _ _ _ _ _ _ us hl => match us, hl with | [_, _], _ => rfl
  have m_VF := PySem.W.mg_of X G a_VF
  have F_VF := fun_mk (st := sVF) l_VF c_VF k_VF
  have b_VF := F_VF.binds (ps := ["spring", "many", "wide"]) fun _ _ _ _ _ _ us hl => match us, hl with | [_, _, _], _ => rfl
  have m_lo := PySem.W.mg_of X G a_lo
  have F_lo := fun_mk (st := sLo) l_lo c_lo k_lo
  have b_lo := F_lo.binds (ps := ["spring", "thing"]) fun _ _ _ _ _ _ us hl => match us, hl with | [_, _], _ => rfl
  have m_VM := PySem.W.mg_of X G a_VM
  have F_VM := fun_mk (st := sVM) l_VM c_VM k_VM
  have b_VM := F_VM.binds (ps := ["spring", "form"]) fun _ _ _ _ _ _ us hl => match us, hl with | [_, _], _ => rfl
  have m_sm := PySem.W.mg_of X G a_sm
  have F_sm := fun_mk (st := sSm) l_sm c_sm k_sm
  have b_sm := F_sm.binds (ps := ["found", "due"]) fun _ _ _ _ _ _ us hl => match us, hl with | [_, _], _ => rfl
  have m_met := PySem.W.mg_of X G a_met
  have F_met := fun_mk (st := sMt) l_met c_met k_met
  have b_met := F_met.binds (ps := ["ask"]) fun _ _ _ _ _ _ us hl => match us, hl with | [_], _ => rfl
  have m_CL := PySem.W.mg_of X G a_CL
  have F_CL := fun_mk (st := sCL) l_CL c_CL k_CL
  have b_CL := F_CL.binds (ps := ["top", "bottom"]) fun _ _ _ _ _ _ us hl => match us, hl with | [_, _], _ => rfl
  have m_Vs := PySem.W.mg_of X G a_Vs
  have F_Vs := fun_mk (st := sVs) l_Vs c_Vs k_Vs
  have b_Vs := F_Vs.binds (ps := ["form", "part", "road"]) fun _ _ _ _ _ _ us hl => match us, hl with | [_, _, _], _ => rfl
  have m_Ul := PySem.W.mg_of X G a_Ul
  have F_Ul := fun_mk (st := sUl) l_Ul c_Ul k_Ul
  have b_Ul := F_Ul.binds (ps := ["form", "lot", "road"]) fun _ _ _ _ _ _ us hl => match us, hl with | [_, _, _], _ => rfl
  have m_Ur := PySem.W.mg_of X G a_Ur
  have F_Ur := fun_mk (st := sUr) l_Ur c_Ur k_Ur
  have b_Ur := F_Ur.binds (ps := ["form", "lot"]) fun _ _ _ _ _ _ us hl => match us, hl with | [_, _], _ => rfl
  have m_Um := PySem.W.mg_of X G a_Um
  have F_Um := fun_mk (st := sUm) l_Um c_Um k_Um
  have b_Um := F_Um.binds (ps := ["form", "lot", "known"]) fun _ _ _ _ _ _ us hl => match us, hl with | [_, _, _], _ => rfl
  have m_Ua := PySem.W.mg_of X G a_Ua
  have F_Ua := fun_mk (st := sUa) l_Ua c_Ua k_Ua
  have b_Ua := F_Ua.binds (ps := ["form", "lot"]) fun _ _ _ _ _ _ us hl => match us, hl with | [_, _], _ => rfl
  have m_Bl := PySem.W.mg_of X G a_Bl
  have F_Bl := fun_mk (st := sBl) l_Bl c_Bl k_Bl
  have b_Bl := F_Bl.binds (ps := ["form", "lot", "house", "known", "told"]) fun _ _ _ _ _ _ us hl => match us, hl with | [_, _, _, _, _], _ => rfl
  have m_Hr := PySem.W.mg_of X G a_Hr
  have F_Hr := fun_mk (st := sHr) l_Hr c_Hr k_Hr
  have b_Hr := F_Hr.binds (ps := ["spring", "form", "made", "house"]) fun _ _ _ _ _ _ us hl => match us, hl with | [_, _, _, _], _ => rfl
  have m_Sq := PySem.W.mg_of X G a_Sq
  have F_Sq := fun_mk (st := sSq) l_Sq c_Sq k_Sq
  have b_Sq := F_Sq.binds (ps := ["spring"]) fun _ _ _ _ _ _ us hl => match us, hl with | [_], _ => rfl
  have m_Ref := PySem.W.mg_of X G a_Ref
  have m_law := PySem.W.mg_of X G a_law
  have F_law := fun_mk (st := sLaw) l_law c_law k_law
  have b_law := F_law.binds (ps := ["script"]) fun _ _ _ _ _ _ us hl => match us, hl with | [_], _ => rfl
  have F_VI := fun_mk (st := sVI) l_VI c_VI k_VI
  have b_VI := F_VI.binds (ps := ["self", "houses", "roads", "heads"]) fun _ _ _ _ _ _ us hl => match us, hl with | [_, _, _, _], _ => rfl
  have F_Ho := fun_mk (st := sVH) l_Ho c_Ho k_Ho
  have b_Ho := F_Ho.binds (ps := ["self"]) fun _ _ _ _ _ _ us hl => match us, hl with | [_], _ => rfl
  have F_Ro := fun_mk (st := sVR) l_Ro c_Ro k_Ro
  have b_Ro := F_Ro.binds (ps := ["self"]) fun _ _ _ _ _ _ us hl => match us, hl with | [_], _ => rfl
  have F_Si := fun_mk (st := sSi) l_Si c_Si k_Si
  have b_Si := F_Si.binds (ps := ["self", "one", "other"]) fun _ _ _ _ _ _ us hl => match us, hl with | [_, _, _], _ => rfl
  have F_Is := fun_mk (st := sIs) l_Is c_Is k_Is
  have b_Is := F_Is.binds (ps := ["self", "thing"]) fun _ _ _ _ _ _ us hl => match us, hl with | [_, _], _ => rfl
  have F_Ne := fun_mk (st := sNe) l_Ne c_Ne k_Ne
  have b_Ne := F_Ne.binds (ps := ["self", "house"]) fun _ _ _ _ _ _ us hl => match us, hl with | [_, _], _ => rfl
  have F_Pl := fun_mk (st := sPl) l_Pl c_Pl k_Pl
  have b_Pl := F_Pl.binds (ps := ["self", "one", "other"]) fun _ _ _ _ _ _ us hl => match us, hl with | [_, _, _], _ => rfl
  have F_iH := fun_mk (st := sIH) l_iH c_iH k_iH
  have b_iH := F_iH.binds (ps := ["self", "index"]) fun _ _ _ _ _ _ us hl => match us, hl with | [_, _], _ => rfl
  have F_iR := fun_mk (st := sIR) l_iR c_iR k_iR
  have b_iR := F_iR.binds (ps := ["self", "index"]) fun _ _ _ _ _ _ us hl => match us, hl with | [_, _], _ => rfl
  have F_iD := fun_mk (st := sID) l_iD c_iD k_iD
  have b_iD := F_iD.binds (ps := ["self", "index"]) fun _ _ _ _ _ _ us hl => match us, hl with | [_, _], _ => rfl
  have F_iN := fun_mk (st := sIN) l_iN c_iN k_iN
  have b_iN := F_iN.binds (ps := ["self", "house"]) fun _ _ _ _ _ _ us hl => match us, hl with | [_, _], _ => rfl
  have F_iO := fun_mk (st := sIO) l_iO c_iO k_iO
  have b_iO := F_iO.binds (ps := ["self", "one", "other"]) fun _ _ _ _ _ _ us hl => match us, hl with | [_, _, _], _ => rfl
  have F_iV := fun_mk (st := sIV) l_iV c_iV k_iV
  have b_iV := F_iV.binds (ps := ["self", "thing"]) fun _ _ _ _ _ _ us hl => match us, hl with | [_, _], _ => rfl
  have mC := PySem.W.mg_of X G aC
  have mCF := PySem.W.mg_of X G aCF
  have mCH := PySem.W.mg_of X G aCH
  have mCR := PySem.W.mg_of X G aCR
  have mCD := PySem.W.mg_of X G aCD
  have mCN := PySem.W.mg_of X G aCN
  have mCO := PySem.W.mg_of X G aCO
  have mCV := PySem.W.mg_of X G aCV
  have y_isinstance := PySem.W.mg_none_of X G z_isinstance
  have y_int := PySem.W.mg_none_of X G z_int
  have y_bool := PySem.W.mg_none_of X G z_bool
  have y_str := PySem.W.mg_none_of X G z_str
  have y_list := PySem.W.mg_none_of X G z_list
  have y_tuple := PySem.W.mg_none_of X G z_tuple
  have y_dict := PySem.W.mg_none_of X G z_dict
  have y_len := PySem.W.mg_none_of X G z_len
  have y_all := PySem.W.mg_none_of X G z_all
  have y_range := PySem.W.mg_none_of X G z_range
  have y_enumerate := PySem.W.mg_none_of X G z_enumerate
  have y_set := PySem.W.mg_none_of X G z_set
  have y_min := PySem.W.mg_none_of X G z_min
  have y_zip := PySem.W.mg_none_of X G z_zip
  have y_sorted := PySem.W.mg_none_of X G z_sorted
  have y_sum := PySem.W.mg_none_of X G z_sum
  have mgcd := PySem.W.mg_of X G zgcd
  have B : Bl mg := ⟨y_isinstance, y_int, y_bool, y_str, y_list, y_tuple, y_dict, y_len, y_all⟩
  have S : Signs mg := ⟨⟨_, PySem.W.mg_of X G sgL⟩, ⟨_, PySem.W.mg_of X G sgF⟩, ⟨_, PySem.W.mg_of X G sgN⟩⟩
  have TF : FeC K mg CF := ⟨mCF, fsp, frd, fin⟩
  have OCH : OexC K CH := ⟨⟨_, _, _, _, _, _, _, _, _, _, _, _, _, _, _, xCH, rCH⟩, saCH, exCH, tyCH, kpCH⟩
  have ECH : ErC K mg "BadHouses" CH f_iH := ⟨mCH, OCH, inCH_index, a_iH, ty_iH⟩
  have OCR : OexC K CR := ⟨⟨_, _, _, _, _, _, _, _, _, _, _, _, _, _, _, xCR, rCR⟩, saCR, exCR, tyCR, kpCR⟩
  have ECR : ErC K mg "BadRoads" CR f_iR := ⟨mCR, OCR, inCR_index, a_iR, ty_iR⟩
  have OCD : OexC K CD := ⟨⟨_, _, _, _, _, _, _, _, _, _, _, _, _, _, _, xCD, rCD⟩, saCD, exCD, tyCD, kpCD⟩
  have ECD : ErC K mg "BadHeads" CD f_iD := ⟨mCD, OCD, inCD_index, a_iD, ty_iD⟩
  have OCN : OexC K CN := ⟨⟨_, _, _, _, _, _, _, _, _, _, _, _, _, _, _, xCN, rCN⟩, saCN, exCN, tyCN, kpCN⟩
  have ECN : ErF K mg "NoHouse" CN f_iN ["house"] := ⟨mCN, OCN, fun n hn => by rw [List.mem_singleton.mp hn]; exact inCN_house, a_iN, ty_iN⟩
  have OCO : OexC K CO := ⟨⟨_, _, _, _, _, _, _, _, _, _, _, _, _, _, _, xCO, rCO⟩, saCO, exCO, tyCO, kpCO⟩
  have OCV : OexC K CV := ⟨⟨_, _, _, _, _, _, _, _, _, _, _, _, _, _, _, xCV, rCV⟩, saCV, exCV, tyCV, kpCV⟩
  have ECV : ErF K mg "BadValley" CV f_iV ["thing"] := ⟨mCV, OCV, fun n hn => by rw [List.mem_singleton.mp hn]; exact inCV_thing, a_iV, ty_iV⟩
  have noO : ∀ n ∈ (["one", "other"] : List Str), PySem.W.findIn K (.ref CO) n = some none := fun n hn => by
    rcases List.mem_cons.mp hn with e | hn
    · rw [e]; exact inCO_one
    · rw [List.mem_singleton.mp hn]; exact inCO_other
  have ECO : ErF K mg "NoRoad" CO f_iO ["one", "other"] := ⟨mCO, OCO, noO, a_iO, ty_iO⟩
  have XfCV : XfC K CV := ⟨gaCV, ggCV, exCV, hdCV⟩
  have XfCN : XfC K CN := ⟨gaCN, ggCN, exCN, hdCN⟩
  have VT0 : VcT K C := ⟨⟨pg, hd, po, sa⟩, n1, n2, n3, n4, n5, n6⟩
  have VE0 : VcE K C := ⟨VT0, ha, hn, htk, hm, own, all_of_kit kno⟩
  have MF : MetU K mg CV CN := ⟨mCV, mCN, em_vv, em_nv, em_nn, XfCV, XfCN, inCV_thing, inCN_house⟩
  have MK : Mk K C f_VI := ⟨mk, a_VI, i_VI, kc⟩
  refine ⟨PySem.W.fnOf "law" "law" (defArgs sLaw) (defBody sLaw) (defScope sLaw) .none kV_law dc_law pm_law an_law cd_law ct_law, [(cRf, TPR)], spLaw K [(TPR, qRef)], fun p hp => ?_, fun p hp => ?_, fun p hp => ?_, fun s v => .of_eq rfl, fun H a ns hl hb hH hS => ⟨a, ns, rfl, hS, by omega, fun p hp => ?_, fun _ => rfl⟩, fun base KB NB hTB => ?_⟩
  · rw [List.mem_singleton.mp hp]; exact hTR
  · rw [List.mem_singleton.mp hp]; exact tpNR
  · rw [List.mem_singleton.mp hp]; exact PySem.W.codeHd_of_K X tpCR
  · rw [List.mem_singleton.mp hp]; exact LamX.TabS.nil (hH (cRf, TPR) (List.mem_singleton.mpr rfl))
  have TBR := hTB (cRf, TPR) (List.mem_singleton.mpr rfl)
  have uR : ∀ p ∈ [(TPR, qRef)], p.1 = TPR → p.2 = qRef := fun p hp _ => by rw [List.mem_singleton.mp hp]
  have g_draw : FnOk l.prog w K mg base CX0 1 f_draw _ ["spring", "many"] (spDraw) := ok_draw F_draw y_int
  have g_pick : FnOk l.prog w K mg base CX0 2 f_pick _ ["spring", "some"] (spPick) := ok_pick F_pick g_draw b_draw k_draw m_draw y_len
  have g_mixed : FnOk l.prog w K mg base CX0 2 f_mixed _ ["spring", "some"] (spMixed) := ok_mixed F_mixed g_draw b_draw k_draw m_draw y_len y_list y_range
  have g_VN : FnOk l.prog w K mg base CX0 3 f_VN _ ["spring", "many"] (spVN) := ok_VN F_VN B y_range g_mixed b_mixed k_mixed m_mixed
  have g_VF : FnOk l.prog w K mg base CX0 4 f_VF _ ["spring", "many", "wide"] (spVF) := ok_VF F_VF B y_range y_min g_draw b_draw k_draw m_draw g_mixed b_mixed k_mixed m_mixed g_VN b_VN k_VN m_VN
  have g_lo0 : FnOk l.prog w K mg base CX0 1 f_lo _ ["spring", "thing"] (spLo (Flat0 K) 0) := ok_lo0 F_lo B
  have g_lo1 : FnOk l.prog w K mg base CX0 2 f_lo _ ["spring", "thing"] (spLo (SeqR (Flat0 K)) 1) := ok_lo mon_flat0 F_lo B m_lo b_lo g_draw b_draw k_draw m_draw (Nat.le_refl 1) g_lo0
  have g_lo2 : FnOk l.prog w K mg base CX0 3 f_lo _ ["spring", "thing"] (spLo (SeqR (SeqR (Flat0 K))) 61) := ok_lo (mon_seq mon_flat0) F_lo B m_lo b_lo g_draw b_draw k_draw m_draw (by decide) g_lo1
  have M0 : MonE (fun _ _ _ => False) := fun _ _ _ _ _ h => h
  have M1 := NextF.mon M0
  have M2 := NextF.mon M1
  have M3 := NextF.mon M2
  have M4 := NextF.mon M3
  have M5 := NextF.mon M4
  have g_sm : FnOk l.prog w K mg base CX0 2 f_sm _ ["found", "due"] (spSm (NextF (NextF fun _ _ _ => False))) := (ok_smF M1 F_sm B y_zip m_sm b_sm (ok_smF M0 F_sm B y_zip m_sm b_sm ok_sm_none))
  have g_sm6 : FnOk l.prog w K mg base CX0 6 f_sm _ ["found", "due"] (spSm R6) := (ok_smF M5 F_sm B y_zip m_sm b_sm (ok_smF M4 F_sm B y_zip m_sm b_sm (ok_smF M3 F_sm B y_zip m_sm b_sm (ok_smF M2 F_sm B y_zip m_sm b_sm g_sm))))
  have g_NH : FnOk l.prog w K mg base (L2.CX l.prog w) 4 f_NH _ ["houses"] (spNH K CH) := ok_NH F_NH B S y_enumerate y_set F_isList b_isList m_isList F_isName b_isName m_isName TF ECH F_iH b_iH
  have g_NR : FnOk l.prog w K mg base (L2.CX l.prog w) 4 f_NR _ ["houses", "roads"] (spNR K CR) := ok_NR F_NR B y_enumerate F_isList b_isList m_isList F_isPair b_isPair m_isPair F_keys b_keys m_keys F_lead b_lead m_lead TF ECR F_iR b_iR
  have g_ND : FnOk l.prog w K mg base (L2.CX l.prog w) 4 f_ND _ ["houses", "heads"] (spND K CD) := ok_ND F_ND B y_enumerate F_isList b_isList m_isList F_fromOne b_fromOne m_fromOne F_isInt b_isInt m_isInt TF ECD F_iD b_iD
  have g_VS : FnOk l.prog w K mg base (L2.CX l.prog w) 5 f_VI _ ["self", "houses", "roads", "heads"] (spVS K C) := ok_VS F_VI B y_enumerate VT0 g_NH k_NH b_NH m_NH g_NR k_NR b_NR m_NR g_ND k_ND b_ND m_ND F_BW b_BW m_BW F_NB b_NB m_NB
  have g_VM : FnOk l.prog w K mg base CX0 7 f_VM _ ["spring", "form"] (spMd C) := ok_Md F_VM mC MK g_VS b_VI g_lo1 g_lo2 b_lo k_lo m_lo
  have g_Ne : FnOk l.prog w K mg base (L2.CX l.prog w) 3 f_Ne _ ["self", "house"] (spNe K C CN) := ok_Ne F_Ne B VT0 F_Is ⟨a_Is, i_Is, k_Is⟩ b_Is TF ECN F_iN b_iN
  have g_Pl : FnOk l.prog w K mg base (L2.CX l.prog w) 4 f_Pl _ ["self", "one", "other"] (spPl K C CN CO) := ok_Pl F_Pl B VT0 g_Ne ⟨a_Ne, i_Ne, k_Ne⟩ b_Ne TF ECO F_iO b_iO
  have g_Si : FnOk l.prog w K mg base (L2.CX l.prog w) 5 f_Si _ ["self", "one", "other"] (spSi K C CN CO) := ok_Si F_Si VT0 g_Pl ⟨a_Pl, i_Pl, k_Pl⟩ b_Pl
  have g_Ho : FnOk l.prog w K mg base CX0 1 f_Ho _ ["self"] (spHo C) := ok_Ho F_Ho B VT0
  have g_Ro : FnOk l.prog w K mg base CX0 1 f_Ro _ ["self"] (spRo C) := ok_Ro F_Ro B VT0
  have g_Nv : FnOk l.prog w K mg base (L2.CX l.prog w) 3 f_Nv _ ["valley"] (spNv K C CV) := ok_Nv F_Nv B VE0 mC TF ECV F_iV b_iV
  have g_fromOne : FnOk l.prog w K mg base CX0 2 f_fromOne _ ["thing"] (spFromOne K) := ok_fromOne F_fromOne F_isInt b_isInt m_isInt B
  have g_Ri : FnOk l.prog w K mg base CX0 2 f_Ri _ ["valley", "part"] (spRi C) := ok_Ri F_Ri VT0 y_enumerate y_set g_Ro ⟨a_Ro, i_Ro, k_Ro⟩ b_Ro
  have g_Tl : FnOk l.prog w K mg base CX0 6 f_Tl _ ["valley", "part", "place"] (spTl C) := ok_Tl F_Tl VT0 y_set g_Ro ⟨a_Ro, i_Ro, k_Ro⟩ b_Ro g_Si ⟨a_Si, i_Si, k_Si⟩ b_Si
  have g_Bo : FnOk l.prog w K mg base CX0 1 f_Bo _ ["part"] (spBo) := ok_Bo F_Bo y_enumerate
  have g_Lt : FnOk l.prog w K mg base CX0 1 f_Lt _ ["bits", "some"] (spLt K) := ok_Lt F_Lt y_sum
  have g_Sp : FnOk l.prog w K mg base CX0 7 f_Sp _ ["valley", "part"] (spSp C) := ok_Sp F_Sp VT0 g_Ro ⟨a_Ro, i_Ro, k_Ro⟩ b_Ro g_Bo F_Bo b_Bo m_Bo g_Ri F_Ri b_Ri m_Ri g_Tl F_Tl b_Tl m_Tl g_Lt F_Lt b_Lt m_Lt
  have g_La : FnOk l.prog w K mg base CX0 1 f_La _ ["splits", "lot"] (spLa) := ok_La F_La
  have g_Cl0 : FnOk l.prog w K mg base CX0 1 f_Cl _ ["splits", "lot", "known"] (spCl 9 512 0) := ok_Cl0 F_Cl
  have g_Cl1 : FnOk l.prog w K mg base CX0 2 f_Cl _ ["splits", "lot", "known"] (spCl 9 512 1) := ok_Cl1 (by decide) F_Cl y_sum b_Cl m_Cl g_La F_La b_La m_La g_Cl0
  have g_Cl2 : FnOk l.prog w K mg base CX0 3 f_Cl _ ["splits", "lot", "known"] (spCl 9 512 2) := ok_Cl1 (by decide) F_Cl y_sum b_Cl m_Cl g_La F_La b_La m_La g_Cl1
  have g_Cl3 : FnOk l.prog w K mg base CX0 4 f_Cl _ ["splits", "lot", "known"] (spCl 9 512 3) := ok_Cl1 (by decide) F_Cl y_sum b_Cl m_Cl g_La F_La b_La m_La g_Cl2
  have g_Cl4 : FnOk l.prog w K mg base CX0 5 f_Cl _ ["splits", "lot", "known"] (spCl 9 512 4) := ok_Cl1 (by decide) F_Cl y_sum b_Cl m_Cl g_La F_La b_La m_La g_Cl3
  have g_Cl5 : FnOk l.prog w K mg base CX0 6 f_Cl _ ["splits", "lot", "known"] (spCl 9 512 5) := ok_Cl1 (by decide) F_Cl y_sum b_Cl m_Cl g_La F_La b_La m_La g_Cl4
  have g_Cl6 : FnOk l.prog w K mg base CX0 7 f_Cl _ ["splits", "lot", "known"] (spCl 9 512 6) := ok_Cl1 (by decide) F_Cl y_sum b_Cl m_Cl g_La F_La b_La m_La g_Cl5
  have g_Cl7 : FnOk l.prog w K mg base CX0 8 f_Cl _ ["splits", "lot", "known"] (spCl 9 512 7) := ok_Cl1 (by decide) F_Cl y_sum b_Cl m_Cl g_La F_La b_La m_La g_Cl6
  have g_Cl8 : FnOk l.prog w K mg base CX0 9 f_Cl _ ["splits", "lot", "known"] (spCl 9 512 8) := ok_Cl1 (by decide) F_Cl y_sum b_Cl m_Cl g_La F_La b_La m_La g_Cl7
  have g_Cl9 : FnOk l.prog w K mg base CX0 10 f_Cl _ ["splits", "lot", "known"] (spCl 9 512 9) := ok_Cl1 (by decide) F_Cl y_sum b_Cl m_Cl g_La F_La b_La m_La g_Cl8
  have g_Cp : FnOk l.prog w K mg base CX0 18 f_Cp _ ["valley", "part"] (spCp C 9 512) := ok_Cp F_Cp g_Cl9 F_Cl b_Cl m_Cl g_Sp F_Sp b_Sp m_Sp g_Bo F_Bo b_Bo m_Bo g_Lt F_Lt b_Lt m_Lt
  have g_Cu : FnOk l.prog w K mg base (L2.CX l.prog w) 19 f_Cu _ ["valley"] (spCu K C CV 9 512) := ok_Cu F_Cu VT0 g_Nv b_Nv k_Nv m_Nv g_Ho ⟨a_Ho, i_Ho, k_Ho⟩ b_Ho g_Cp F_Cp b_Cp m_Cp
  have g_Bf0 : FnOk l.prog w K mg base CX0 1 f_Bf _ ["splits", "lot", "bit", "found", "known"] (spBf 9 512 0) := ok_Bf0 F_Bf
  have g_Bf1 : FnOk l.prog w K mg base CX0 2 f_Bf _ ["splits", "lot", "bit", "found", "known"] (spBf 9 512 1) := ok_Bf1 (by decide) (by decide) F_Bf b_Bf m_Bf g_La F_La b_La m_La g_Cl0 F_Cl b_Cl m_Cl g_Bf0
  have g_Bf2 : FnOk l.prog w K mg base CX0 3 f_Bf _ ["splits", "lot", "bit", "found", "known"] (spBf 9 512 2) := ok_Bf1 (by decide) (by decide) F_Bf b_Bf m_Bf g_La F_La b_La m_La g_Cl1 F_Cl b_Cl m_Cl g_Bf1
  have g_Bf3 : FnOk l.prog w K mg base CX0 4 f_Bf _ ["splits", "lot", "bit", "found", "known"] (spBf 9 512 3) := ok_Bf1 (by decide) (by decide) F_Bf b_Bf m_Bf g_La F_La b_La m_La g_Cl2 F_Cl b_Cl m_Cl g_Bf2
  have g_Bf4 : FnOk l.prog w K mg base CX0 5 f_Bf _ ["splits", "lot", "bit", "found", "known"] (spBf 9 512 4) := ok_Bf1 (by decide) (by decide) F_Bf b_Bf m_Bf g_La F_La b_La m_La g_Cl3 F_Cl b_Cl m_Cl g_Bf3
  have g_Bf5 : FnOk l.prog w K mg base CX0 6 f_Bf _ ["splits", "lot", "bit", "found", "known"] (spBf 9 512 5) := ok_Bf1 (by decide) (by decide) F_Bf b_Bf m_Bf g_La F_La b_La m_La g_Cl4 F_Cl b_Cl m_Cl g_Bf4
  have g_Bf6 : FnOk l.prog w K mg base CX0 7 f_Bf _ ["splits", "lot", "bit", "found", "known"] (spBf 9 512 6) := ok_Bf1 (by decide) (by decide) F_Bf b_Bf m_Bf g_La F_La b_La m_La g_Cl5 F_Cl b_Cl m_Cl g_Bf5
  have g_Bf7 : FnOk l.prog w K mg base CX0 8 f_Bf _ ["splits", "lot", "bit", "found", "known"] (spBf 9 512 7) := ok_Bf1 (by decide) (by decide) F_Bf b_Bf m_Bf g_La F_La b_La m_La g_Cl6 F_Cl b_Cl m_Cl g_Bf6
  have g_Bf8 : FnOk l.prog w K mg base CX0 9 f_Bf _ ["splits", "lot", "bit", "found", "known"] (spBf 9 512 8) := ok_Bf1 (by decide) (by decide) F_Bf b_Bf m_Bf g_La F_La b_La m_La g_Cl7 F_Cl b_Cl m_Cl g_Bf7
  have g_Bf9 : FnOk l.prog w K mg base CX0 10 f_Bf _ ["splits", "lot", "bit", "found", "known"] (spBf 9 512 9) := ok_Bf1 (by decide) (by decide) F_Bf b_Bf m_Bf g_La F_La b_La m_La g_Cl8 F_Cl b_Cl m_Cl g_Bf8
  have g_Cb : FnOk l.prog w K mg base (L2.CX l.prog w) 19 f_Cb _ ["valley", "house"] (spCb K C CV CN 9 512) := ok_Cb (by decide) F_Cb VT0 B y_sorted g_Nv b_Nv k_Nv m_Nv g_Ne ⟨a_Ne, i_Ne, k_Ne⟩ b_Ne g_Ho ⟨a_Ho, i_Ho, k_Ho⟩ b_Ho g_Bo F_Bo b_Bo m_Bo g_Sp F_Sp b_Sp m_Sp g_Lt F_Lt b_Lt m_Lt g_Bf9 F_Bf b_Bf m_Bf
  have g_Fr : FnOk l.prog w K mg base CX0 1 f_Fr _ ["top", "bottom"] (spFr) := ok_Fr F_Fr mgcd
  have g_Mu : FnOk l.prog w K mg base (L2.CX l.prog w) 20 f_Mu _ ["valley", "house"] (spMu K C CV CN 9 512) := ok_Mu (by decide) F_Mu B y_sum g_Cb F_Cb b_Cb m_Cb g_Fr F_Fr b_Fr m_Fr
  have g_spring : FnOk l.prog w K mg base CX0 1 f_spring _ ["script", "turn"] (spSpring K) := ok_spring F_spring B y_enumerate
  have g_CL : FnOk l.prog w K mg base CX0 1 f_CL _ ["top", "bottom"] (spFr) := ok_CL F_CL y_int
  have g_Vs : FnOk l.prog w K mg base CX0 1 f_Vs _ ["form", "part", "road"] (spVs) := ok_Vs F_Vs B
  have g_Ul : FnOk l.prog w K mg base CX0 2 f_Ul _ ["form", "lot", "road"] (spUl) := ok_Ul F_Ul B g_Vs b_Vs k_Vs m_Vs
  have g_Ur : FnOk l.prog w K mg base CX0 1 f_Ur _ ["form", "lot"] (spUr) := ok_Ur F_Ur B
  have g_Um0 : FnOk l.prog w K mg base CX0 2 f_Um _ ["form", "lot", "known"] (spUm 9 0) := ok_Um0 F_Um
  have g_Um1 : FnOk l.prog w K mg base CX0 3 f_Um _ ["form", "lot", "known"] (spUm 9 1) := ok_Um1 F_Um B b_Um m_Um g_Ur b_Ur k_Ur m_Ur g_Ul b_Ul k_Ul m_Ul g_Um0
  have g_Um2 : FnOk l.prog w K mg base CX0 4 f_Um _ ["form", "lot", "known"] (spUm 9 2) := ok_Um1 F_Um B b_Um m_Um g_Ur b_Ur k_Ur m_Ur g_Ul b_Ul k_Ul m_Ul g_Um1
  have g_Um3 : FnOk l.prog w K mg base CX0 5 f_Um _ ["form", "lot", "known"] (spUm 9 3) := ok_Um1 F_Um B b_Um m_Um g_Ur b_Ur k_Ur m_Ur g_Ul b_Ul k_Ul m_Ul g_Um2
  have g_Um4 : FnOk l.prog w K mg base CX0 6 f_Um _ ["form", "lot", "known"] (spUm 9 4) := ok_Um1 F_Um B b_Um m_Um g_Ur b_Ur k_Ur m_Ur g_Ul b_Ul k_Ul m_Ul g_Um3
  have g_Um5 : FnOk l.prog w K mg base CX0 7 f_Um _ ["form", "lot", "known"] (spUm 9 5) := ok_Um1 F_Um B b_Um m_Um g_Ur b_Ur k_Ur m_Ur g_Ul b_Ul k_Ul m_Ul g_Um4
  have g_Um6 : FnOk l.prog w K mg base CX0 8 f_Um _ ["form", "lot", "known"] (spUm 9 6) := ok_Um1 F_Um B b_Um m_Um g_Ur b_Ur k_Ur m_Ur g_Ul b_Ul k_Ul m_Ul g_Um5
  have g_Um7 : FnOk l.prog w K mg base CX0 9 f_Um _ ["form", "lot", "known"] (spUm 9 7) := ok_Um1 F_Um B b_Um m_Um g_Ur b_Ur k_Ur m_Ur g_Ul b_Ul k_Ul m_Ul g_Um6
  have g_Um8 : FnOk l.prog w K mg base CX0 10 f_Um _ ["form", "lot", "known"] (spUm 9 8) := ok_Um1 F_Um B b_Um m_Um g_Ur b_Ur k_Ur m_Ur g_Ul b_Ul k_Ul m_Ul g_Um7
  have g_Um9 : FnOk l.prog w K mg base CX0 11 f_Um _ ["form", "lot", "known"] (spUm 9 9) := ok_Um1 F_Um B b_Um m_Um g_Ur b_Ur k_Ur m_Ur g_Ul b_Ul k_Ul m_Ul g_Um8
  have g_Bl0 : FnOk l.prog w K mg base CX0 2 f_Bl _ ["form", "lot", "house", "known", "told"] (spBl 9 0) := ok_Bl0 F_Bl
  have g_Bl1 : FnOk l.prog w K mg base CX0 3 f_Bl _ ["form", "lot", "house", "known", "told"] (spBl 9 1) := ok_Bl1 F_Bl B b_Bl m_Bl g_Ur b_Ur k_Ur m_Ur g_Ul b_Ul k_Ul m_Ul g_Um0 b_Um k_Um m_Um g_Bl0
  have g_Bl2 : FnOk l.prog w K mg base CX0 4 f_Bl _ ["form", "lot", "house", "known", "told"] (spBl 9 2) := ok_Bl1 F_Bl B b_Bl m_Bl g_Ur b_Ur k_Ur m_Ur g_Ul b_Ul k_Ul m_Ul g_Um1 b_Um k_Um m_Um g_Bl1
  have g_Bl3 : FnOk l.prog w K mg base CX0 5 f_Bl _ ["form", "lot", "house", "known", "told"] (spBl 9 3) := ok_Bl1 F_Bl B b_Bl m_Bl g_Ur b_Ur k_Ur m_Ur g_Ul b_Ul k_Ul m_Ul g_Um2 b_Um k_Um m_Um g_Bl2
  have g_Bl4 : FnOk l.prog w K mg base CX0 6 f_Bl _ ["form", "lot", "house", "known", "told"] (spBl 9 4) := ok_Bl1 F_Bl B b_Bl m_Bl g_Ur b_Ur k_Ur m_Ur g_Ul b_Ul k_Ul m_Ul g_Um3 b_Um k_Um m_Um g_Bl3
  have g_Bl5 : FnOk l.prog w K mg base CX0 7 f_Bl _ ["form", "lot", "house", "known", "told"] (spBl 9 5) := ok_Bl1 F_Bl B b_Bl m_Bl g_Ur b_Ur k_Ur m_Ur g_Ul b_Ul k_Ul m_Ul g_Um4 b_Um k_Um m_Um g_Bl4
  have g_Bl6 : FnOk l.prog w K mg base CX0 8 f_Bl _ ["form", "lot", "house", "known", "told"] (spBl 9 6) := ok_Bl1 F_Bl B b_Bl m_Bl g_Ur b_Ur k_Ur m_Ur g_Ul b_Ul k_Ul m_Ul g_Um5 b_Um k_Um m_Um g_Bl5
  have g_Bl7 : FnOk l.prog w K mg base CX0 9 f_Bl _ ["form", "lot", "house", "known", "told"] (spBl 9 7) := ok_Bl1 F_Bl B b_Bl m_Bl g_Ur b_Ur k_Ur m_Ur g_Ul b_Ul k_Ul m_Ul g_Um6 b_Um k_Um m_Um g_Bl6
  have g_Bl8 : FnOk l.prog w K mg base CX0 10 f_Bl _ ["form", "lot", "house", "known", "told"] (spBl 9 8) := ok_Bl1 F_Bl B b_Bl m_Bl g_Ur b_Ur k_Ur m_Ur g_Ul b_Ul k_Ul m_Ul g_Um7 b_Um k_Um m_Um g_Bl7
  have g_Bl9 : FnOk l.prog w K mg base CX0 11 f_Bl _ ["form", "lot", "house", "known", "told"] (spBl 9 9) := ok_Bl1 F_Bl B b_Bl m_Bl g_Ur b_Ur k_Ur m_Ur g_Ul b_Ul k_Ul m_Ul g_Um8 b_Um k_Um m_Um g_Bl8
  have g_Ua0 : FnOk l.prog w K mg base CX0 2 f_Ua _ ["form", "lot"] (spUa 0) := ok_Ua0 F_Ua
  have g_Ua1 : FnOk l.prog w K mg base CX0 3 f_Ua _ ["form", "lot"] (spUa 1) := ok_Ua1 F_Ua B b_Ua m_Ua g_Ur b_Ur k_Ur m_Ur g_Ul b_Ul k_Ul m_Ul g_Ua0
  have g_Ua2 : FnOk l.prog w K mg base CX0 4 f_Ua _ ["form", "lot"] (spUa 2) := ok_Ua1 F_Ua B b_Ua m_Ua g_Ur b_Ur k_Ur m_Ur g_Ul b_Ul k_Ul m_Ul g_Ua1
  have g_Ua3 : FnOk l.prog w K mg base CX0 5 f_Ua _ ["form", "lot"] (spUa 3) := ok_Ua1 F_Ua B b_Ua m_Ua g_Ur b_Ur k_Ur m_Ur g_Ul b_Ul k_Ul m_Ul g_Ua2
  have g_Ua4 : FnOk l.prog w K mg base CX0 6 f_Ua _ ["form", "lot"] (spUa 4) := ok_Ua1 F_Ua B b_Ua m_Ua g_Ur b_Ur k_Ur m_Ur g_Ul b_Ul k_Ul m_Ul g_Ua3
  have g_Ua5 : FnOk l.prog w K mg base CX0 7 f_Ua _ ["form", "lot"] (spUa 5) := ok_Ua1 F_Ua B b_Ua m_Ua g_Ur b_Ur k_Ur m_Ur g_Ul b_Ul k_Ul m_Ul g_Ua4
  have g_Ua6 : FnOk l.prog w K mg base CX0 8 f_Ua _ ["form", "lot"] (spUa 6) := ok_Ua1 F_Ua B b_Ua m_Ua g_Ur b_Ur k_Ur m_Ur g_Ul b_Ul k_Ul m_Ul g_Ua5
  have g_Hr : FnOk l.prog w K mg base CX0 21 f_Hr _ ["spring", "form", "made", "house"] (spHr C) := ok_Hr F_Hr B y_sorted y_sum g_Bl9 b_Bl k_Bl m_Bl g_Cb b_Cb (kb_Cb F_Cb) k_Cb m_Cb g_Cu b_Cu k_Cu m_Cu g_Mu b_Mu (kb_Mu F_Mu) k_Mu m_Mu g_sm6 b_sm k_sm m_sm g_CL b_CL k_CL m_CL
  have g_Sq : FnOk l.prog w K mg base CX0 20 f_Sq _ ["spring"] (spSq K) := ok_Sq F_Sq B y_sorted g_draw b_draw k_draw m_draw g_VF b_VF k_VF m_VF g_VM b_VM k_VM m_VM g_Ua6 b_Ua k_Ua m_Ua g_pick b_pick k_pick m_pick g_Cb b_Cb k_Cb m_Cb g_sm6 b_sm k_sm m_sm
  have g_Ref : FnOk l.prog w K mg base CX0 23 f_Ref _ ["form", "made"] (spRef C [(TPR, qRef)]) := ok_ref l_Ref c_Ref B MF F_met b_met m_met TBR (List.mem_singleton.mpr rfl) uR g_sm6 b_sm k_sm m_sm g_Cb b_Cb k_Cb m_Cb g_Mu b_Mu k_Mu m_Mu
  have b_Ref : Binds K (PySem.W.fnOf "_law_refused_right" "_law_refused_right" (defArgs sRef) (defBody sRef) (defScope sRef) .none kV_Ref dc_Ref pm_Ref an_Ref (.ref cRf) ct_Ref) ["form", "made"] [] := Binds.all fun us hl => match us, hl with | [_, _], _ => rfl
  exact ok_law F_law B y_range y_zip ⟨_, _, g_spring, b_spring, k_spring, m_spring⟩ ⟨_, _, g_draw, b_draw, k_draw, m_draw⟩ ⟨_, _, g_VF, b_VF, k_VF, m_VF⟩ ⟨_, _, g_VM, b_VM, k_VM, m_VM⟩ ⟨_, _, g_pick, b_pick, k_pick, m_pick⟩ ⟨_, _, g_Hr, b_Hr, k_Hr, m_Hr⟩ ⟨_, _, g_Sq, b_Sq, k_Sq, m_Sq⟩ ⟨_, _, g_Ref, b_Ref, k_Ref, m_Ref⟩ ⟨_, _, g_sm6, b_sm, k_sm, m_sm⟩ ⟨_, _, g_Cb, b_Cb, k_Cb, m_Cb⟩ ⟨_, _, g_Mu, b_Mu, k_Mu, m_Mu⟩ mC MK g_VS b_VI
end K1
end
-- UHead
open PySem PySem.W PyProof.Rows
set_option Elab.async false
set_option maxRecDepth 100000 in
set_option maxHeartbeats 0 in
theorem PySem.Challenge.cw_feasted_k51_whole_unlike_by_feasts_of_on_holds : PySem.Challenge.rw_feasted_k51_whole_unlike_by_feasts_of_on.Holds := by
  w_on; o_law; k_head; (case hw => w_witness2)
  k_fill
  refine LamX.walk_ofTs (l := PySem.Challenge.rw_feasted_k51_whole_unlike_by_feasts_of_on) (n := 63) (k := 24) (x := "script") (CX := fun _ => C8.CX0) rfl (by decide) rfl ⟨rfl, by decide, by decide⟩ (fun w h Y => PySem.W.km_in_of Y) ?F (fun _ _ _ _ _ z => z)
  case F =>
    intro w mg fa h Y KX G hmg
    refine' K1.all_mk KX G hmg (PySem.W.km_tabs_of Y _ (List.mem_singleton.mpr rfl)) ?a_isInt ?l_isInt ?c_isInt ?k_isInt ?a_fromOne ?l_fromOne ?c_fromOne ?k_fromOne ?a_isList ?l_isList ?c_isList ?k_isList ?a_isPair ?l_isPair ?c_isPair ?k_isPair ?a_isName ?l_isName ?c_isName ?k_isName ?a_Fr ?l_Fr ?c_Fr ?k_Fr ?a_draw ?l_draw ?c_draw ?k_draw ?a_pick ?l_pick ?c_pick ?k_pick ?a_mixed ?l_mixed ?c_mixed ?k_mixed ?a_ND ?l_ND ?c_ND ?k_ND ?a_NH ?l_NH ?c_NH ?k_NH ?a_NR ?l_NR ?c_NR ?k_NR ?a_keys ?l_keys ?c_keys ?k_keys ?a_lead ?l_lead ?c_lead ?k_lead ?a_BW ?l_BW ?c_BW ?k_BW ?a_NB ?l_NB ?c_NB ?k_NB ?a_Nv ?l_Nv ?c_Nv ?k_Nv ?a_Ri ?l_Ri ?c_Ri ?k_Ri ?a_Tl ?l_Tl ?c_Tl ?k_Tl ?a_Bo ?l_Bo ?c_Bo ?k_Bo ?a_Lt ?l_Lt ?c_Lt ?k_Lt ?a_Sp ?l_Sp ?c_Sp ?k_Sp ?a_La ?l_La ?c_La ?k_La ?a_Cl ?l_Cl ?c_Cl ?k_Cl ?a_Cp ?l_Cp ?c_Cp ?k_Cp ?a_Cu ?l_Cu ?c_Cu ?k_Cu ?a_Cb ?l_Cb ?c_Cb ?k_Cb ?a_Mu ?l_Mu ?c_Mu ?k_Mu ?a_Bf ?l_Bf ?c_Bf ?k_Bf ?a_spring ?l_spring ?c_spring ?k_spring ?a_VN ?l_VN ?c_VN ?k_VN ?a_VF ?l_VF ?c_VF ?k_VF ?a_lo ?l_lo ?c_lo ?k_lo ?a_VM ?l_VM ?c_VM ?k_VM ?a_sm ?l_sm ?c_sm ?k_sm ?a_met ?l_met ?c_met ?k_met ?a_CL ?l_CL ?c_CL ?k_CL ?a_Vs ?l_Vs ?c_Vs ?k_Vs ?a_Ul ?l_Ul ?c_Ul ?k_Ul ?a_Ur ?l_Ur ?c_Ur ?k_Ur ?a_Um ?l_Um ?c_Um ?k_Um ?a_Ua ?l_Ua ?c_Ua ?k_Ua ?a_Bl ?l_Bl ?c_Bl ?k_Bl ?a_Hr ?l_Hr ?c_Hr ?k_Hr ?a_Sq ?l_Sq ?c_Sq ?k_Sq ?a_Ref ?l_Ref ?c_Ref ?k_Ref ?a_law ?l_law ?c_law ?k_law ?aC ?aCF ?aCH ?aCR ?aCD ?aCN ?aCO ?aCV ?a_VI ?i_VI ?l_VI ?c_VI ?k_VI ?a_Ho ?i_Ho ?l_Ho ?c_Ho ?k_Ho ?a_Ro ?i_Ro ?l_Ro ?c_Ro ?k_Ro ?a_Si ?i_Si ?l_Si ?c_Si ?k_Si ?a_Is ?i_Is ?l_Is ?c_Is ?k_Is ?a_Ne ?i_Ne ?l_Ne ?c_Ne ?k_Ne ?a_Pl ?i_Pl ?l_Pl ?c_Pl ?k_Pl ?a_iH ?i_iH ?l_iH ?c_iH ?k_iH ?a_iR ?i_iR ?l_iR ?c_iR ?k_iR ?a_iD ?i_iD ?l_iD ?c_iD ?k_iD ?a_iN ?i_iN ?l_iN ?c_iN ?k_iN ?a_iO ?i_iO ?l_iO ?c_iO ?k_iO ?a_iV ?i_iV ?l_iV ?c_iV ?k_iV ?pg ?hd ?po ?sa ?mk ?kc ?n1 ?n2 ?n3 ?n4 ?n5 ?n6 ?ha ?hn ?htk ?hm ?own ?kno ?fsp ?frd ?fin ?xCH ?rCH ?saCH ?exCH ?tyCH ?kpCH ?inCH_index ?ty_iH ?xCR ?rCR ?saCR ?exCR ?tyCR ?kpCR ?inCR_index ?ty_iR ?xCD ?rCD ?saCD ?exCD ?tyCD ?kpCD ?inCD_index ?ty_iD ?xCN ?rCN ?saCN ?exCN ?tyCN ?kpCN ?inCN_house ?ty_iN ?xCO ?rCO ?saCO ?exCO ?tyCO ?kpCO ?inCO_one ?inCO_other ?ty_iO ?xCV ?rCV ?saCV ?exCV ?tyCV ?kpCV ?inCV_thing ?ty_iV ?gaCV ?ggCV ?hdCV ?gaCN ?ggCN ?hdCN ?em_vv ?em_nv ?em_nn ?sgL ?sgF ?sgN ?zgcd ?z_isinstance ?z_int ?z_bool ?z_str ?z_list ?z_tuple ?z_dict ?z_len ?z_all ?z_range ?z_enumerate ?z_set ?z_min ?z_zip ?z_sorted ?z_sum ?tpNR ?tpCR
    (case a_isInt => (k_is))
    (case l_isInt => (k_is))
    (case c_isInt => (k_is))
    (case k_isInt => (k_is))
    (case a_fromOne => (k_is))
    (case l_fromOne => (k_is))
    (case c_fromOne => (k_is))
    (case k_fromOne => (k_is))
    (case a_isList => (k_is))
    (case l_isList => (k_is))
    (case c_isList => (k_is))
    (case k_isList => (k_is))
    (case a_isPair => (k_is))
    (case l_isPair => (k_is))
    (case c_isPair => (k_is))
    (case k_isPair => (k_is))
    (case a_isName => (k_is))
    (case l_isName => (k_is))
    (case c_isName => (k_is))
    (case k_isName => (k_is))
    (case a_Fr => (k_is))
    (case l_Fr => (k_is))
    (case c_Fr => (k_is))
    (case k_Fr => (k_is))
    (case a_draw => (k_is))
    (case l_draw => (k_is))
    (case c_draw => (k_is))
    (case k_draw => (k_is))
    (case a_pick => (k_is))
    (case l_pick => (k_is))
    (case c_pick => (k_is))
    (case k_pick => (k_is))
    (case a_mixed => (k_is))
    (case l_mixed => (k_is))
    (case c_mixed => (k_is))
    (case k_mixed => (k_is))
    (case a_ND => (k_is))
    (case l_ND => (k_is))
    (case c_ND => (k_is))
    (case k_ND => (k_is))
    (case a_NH => (k_is))
    (case l_NH => (k_is))
    (case c_NH => (k_is))
    (case k_NH => (k_is))
    (case a_NR => (k_is))
    (case l_NR => (k_is))
    (case c_NR => (k_is))
    (case k_NR => (k_is))
    (case a_keys => (k_is))
    (case l_keys => (k_is))
    (case c_keys => (k_is))
    (case k_keys => (k_is))
    (case a_lead => (k_is))
    (case l_lead => (k_is))
    (case c_lead => (k_is))
    (case k_lead => (k_is))
    (case a_BW => (k_is))
    (case l_BW => (k_is))
    (case c_BW => (k_is))
    (case k_BW => (k_is))
    (case a_NB => (k_is))
    (case l_NB => (k_is))
    (case c_NB => (k_is))
    (case k_NB => (k_is))
    (case a_Nv => (k_is))
    (case l_Nv => (k_is))
    (case c_Nv => (k_is))
    (case k_Nv => (k_is))
    (case a_Ri => (k_is))
    (case l_Ri => (k_is))
    (case c_Ri => (k_is))
    (case k_Ri => (k_is))
    (case a_Tl => (k_is))
    (case l_Tl => (k_is))
    (case c_Tl => (k_is))
    (case k_Tl => (k_is))
    (case a_Bo => (k_is))
    (case l_Bo => (k_is))
    (case c_Bo => (k_is))
    (case k_Bo => (k_is))
    (case a_Lt => (k_is))
    (case l_Lt => (k_is))
    (case c_Lt => (k_is))
    (case k_Lt => (k_is))
    (case a_Sp => (k_is))
    (case l_Sp => (k_is))
    (case c_Sp => (k_is))
    (case k_Sp => (k_is))
    (case a_La => (k_is))
    (case l_La => (k_is))
    (case c_La => (k_is))
    (case k_La => (k_is))
    (case a_Cl => (k_is))
    (case l_Cl => (k_is))
    (case c_Cl => (k_is))
    (case k_Cl => (k_is))
    (case a_Cp => (k_is))
    (case l_Cp => (k_is))
    (case c_Cp => (k_is))
    (case k_Cp => (k_is))
    (case a_Cu => (k_is))
    (case l_Cu => (k_is))
    (case c_Cu => (k_is))
    (case k_Cu => (k_is))
    (case a_Cb => (k_is))
    (case l_Cb => (k_is))
    (case c_Cb => (k_is))
    (case k_Cb => (k_is))
    (case a_Mu => (k_is))
    (case l_Mu => (k_is))
    (case c_Mu => (k_is))
    (case k_Mu => (k_is))
    (case a_Bf => (k_is))
    (case l_Bf => (k_is))
    (case c_Bf => (k_is))
    (case k_Bf => (k_is))
    (case a_spring => (k_is))
    (case l_spring => (k_is))
    (case c_spring => (k_is))
    (case k_spring => (k_is))
    (case a_VN => (k_is))
    (case l_VN => (k_is))
    (case c_VN => (k_is))
    (case k_VN => (k_is))
    (case a_VF => (k_is))
    (case l_VF => (k_is))
    (case c_VF => (k_is))
    (case k_VF => (k_is))
    (case a_lo => (k_is))
    (case l_lo => (k_is))
    (case c_lo => (k_is))
    (case k_lo => (k_is))
    (case a_VM => (k_is))
    (case l_VM => (k_is))
    (case c_VM => (k_is))
    (case k_VM => (k_is))
    (case a_sm => (k_is))
    (case l_sm => (k_is))
    (case c_sm => (k_is))
    (case k_sm => (k_is))
    (case a_met => (k_is))
    (case l_met => (k_is))
    (case c_met => (k_is))
    (case k_met => (k_is))
    (case a_CL => (k_is))
    (case l_CL => (k_is))
    (case c_CL => (k_is))
    (case k_CL => (k_is))
    (case a_Vs => (k_is))
    (case l_Vs => (k_is))
    (case c_Vs => (k_is))
    (case k_Vs => (k_is))
    (case a_Ul => (k_is))
    (case l_Ul => (k_is))
    (case c_Ul => (k_is))
    (case k_Ul => (k_is))
    (case a_Ur => (k_is))
    (case l_Ur => (k_is))
    (case c_Ur => (k_is))
    (case k_Ur => (k_is))
    (case a_Um => (k_is))
    (case l_Um => (k_is))
    (case c_Um => (k_is))
    (case k_Um => (k_is))
    (case a_Ua => (k_is))
    (case l_Ua => (k_is))
    (case c_Ua => (k_is))
    (case k_Ua => (k_is))
    (case a_Bl => (k_is))
    (case l_Bl => (k_is))
    (case c_Bl => (k_is))
    (case k_Bl => (k_is))
    (case a_Hr => (k_is))
    (case l_Hr => (k_is))
    (case c_Hr => (k_is))
    (case k_Hr => (k_is))
    (case a_Sq => (k_is))
    (case l_Sq => (k_is))
    (case c_Sq => (k_is))
    (case k_Sq => (k_is))
    (case a_Ref => (k_is))
    (case l_Ref => (k_is))
    (case c_Ref => (k_is))
    (case k_Ref => (k_is))
    (case a_law => (k_is))
    (case l_law => (k_is))
    (case c_law => (k_is))
    (case k_law => (k_is))
    (case aC => (k_is))
    (case aCF => (k_is))
    (case aCH => (k_is))
    (case aCR => (k_is))
    (case aCD => (k_is))
    (case aCN => (k_is))
    (case aCO => (k_is))
    (case aCV => (k_is))
    (case a_VI => (k_is))
    (case i_VI => (k_is))
    (case l_VI => (k_is))
    (case c_VI => (k_is))
    (case k_VI => (k_is))
    (case a_Ho => (k_is))
    (case i_Ho => (k_is))
    (case l_Ho => (k_is))
    (case c_Ho => (k_is))
    (case k_Ho => (k_is))
    (case a_Ro => (k_is))
    (case i_Ro => (k_is))
    (case l_Ro => (k_is))
    (case c_Ro => (k_is))
    (case k_Ro => (k_is))
    (case a_Si => (k_is))
    (case i_Si => (k_is))
    (case l_Si => (k_is))
    (case c_Si => (k_is))
    (case k_Si => (k_is))
    (case a_Is => (k_is))
    (case i_Is => (k_is))
    (case l_Is => (k_is))
    (case c_Is => (k_is))
    (case k_Is => (k_is))
    (case a_Ne => (k_is))
    (case i_Ne => (k_is))
    (case l_Ne => (k_is))
    (case c_Ne => (k_is))
    (case k_Ne => (k_is))
    (case a_Pl => (k_is))
    (case i_Pl => (k_is))
    (case l_Pl => (k_is))
    (case c_Pl => (k_is))
    (case k_Pl => (k_is))
    (case a_iH => (k_is))
    (case i_iH => (k_is))
    (case l_iH => (k_is))
    (case c_iH => (k_is))
    (case k_iH => (k_is))
    (case a_iR => (k_is))
    (case i_iR => (k_is))
    (case l_iR => (k_is))
    (case c_iR => (k_is))
    (case k_iR => (k_is))
    (case a_iD => (k_is))
    (case i_iD => (k_is))
    (case l_iD => (k_is))
    (case c_iD => (k_is))
    (case k_iD => (k_is))
    (case a_iN => (k_is))
    (case i_iN => (k_is))
    (case l_iN => (k_is))
    (case c_iN => (k_is))
    (case k_iN => (k_is))
    (case a_iO => (k_is))
    (case i_iO => (k_is))
    (case l_iO => (k_is))
    (case c_iO => (k_is))
    (case k_iO => (k_is))
    (case a_iV => (k_is))
    (case i_iV => (k_is))
    (case l_iV => (k_is))
    (case c_iV => (k_is))
    (case k_iV => (k_is))
    (case pg => (k_is))
    (case hd => (k_is))
    (case po => (k_is))
    (case sa => (k_is))
    (case mk => (k_is))
    (case kc => (k_is))
    (case n1 => (k_is))
    (case n2 => (k_is))
    (case n3 => (k_is))
    (case n4 => (k_is))
    (case n5 => (k_is))
    (case n6 => (k_is))
    (case ha => (k_is))
    (case hn => (k_is))
    (case htk => (k_is))
    (case hm => (k_is))
    (case own => (kernel_rfl))
    (case kno => (kernel_rfl))
    (case fsp => (k_is))
    (case frd => (k_is))
    (case fin => (k_is))
    (case xCH => (k_is))
    (case rCH => (first | kernel_rfl | decide +kernel))
    (case saCH => (k_is))
    (case exCH => (k_is))
    (case tyCH => (k_is))
    (case kpCH => (k_is))
    (case inCH_index => (k_is))
    (case ty_iH => (k_is))
    (case xCR => (k_is))
    (case rCR => (first | kernel_rfl | decide +kernel))
    (case saCR => (k_is))
    (case exCR => (k_is))
    (case tyCR => (k_is))
    (case kpCR => (k_is))
    (case inCR_index => (k_is))
    (case ty_iR => (k_is))
    (case xCD => (k_is))
    (case rCD => (first | kernel_rfl | decide +kernel))
    (case saCD => (k_is))
    (case exCD => (k_is))
    (case tyCD => (k_is))
    (case kpCD => (k_is))
    (case inCD_index => (k_is))
    (case ty_iD => (k_is))
    (case xCN => (k_is))
    (case rCN => (first | kernel_rfl | decide +kernel))
    (case saCN => (k_is))
    (case exCN => (k_is))
    (case tyCN => (k_is))
    (case kpCN => (k_is))
    (case inCN_house => (k_is))
    (case ty_iN => (k_is))
    (case xCO => (k_is))
    (case rCO => (first | kernel_rfl | decide +kernel))
    (case saCO => (k_is))
    (case exCO => (k_is))
    (case tyCO => (k_is))
    (case kpCO => (k_is))
    (case inCO_one => (k_is))
    (case inCO_other => (k_is))
    (case ty_iO => (k_is))
    (case xCV => (k_is))
    (case rCV => (first | kernel_rfl | decide +kernel))
    (case saCV => (k_is))
    (case exCV => (k_is))
    (case tyCV => (k_is))
    (case kpCV => (k_is))
    (case inCV_thing => (k_is))
    (case ty_iV => (k_is))
    (case gaCV => (k_is))
    (case ggCV => (k_is))
    (case hdCV => (k_is))
    (case gaCN => (k_is))
    (case ggCN => (k_is))
    (case hdCN => (k_is))
    (case em_vv => (kernel_rfl))
    (case em_nv => (kernel_rfl))
    (case em_nn => (kernel_rfl))
    (case sgL => (k_is))
    (case sgF => (k_is))
    (case sgN => (k_is))
    (case zgcd => (k_is))
    (case z_isinstance => (k_is))
    (case z_int => (k_is))
    (case z_bool => (k_is))
    (case z_str => (k_is))
    (case z_list => (k_is))
    (case z_tuple => (k_is))
    (case z_dict => (k_is))
    (case z_len => (k_is))
    (case z_all => (k_is))
    (case z_range => (k_is))
    (case z_enumerate => (k_is))
    (case z_set => (k_is))
    (case z_min => (k_is))
    (case z_zip => (k_is))
    (case z_sorted => (k_is))
    (case z_sum => (k_is))
    (case tpNR => (kernel_rfl))
    (case tpCR => (kernel_rfl))
