import PyProof.Rows.All
import Wide.All
import OpenK.AllK
import Wide.FinOn
import HandS.NamedTupSort
import KE.BitLaws
import HandS.Text
import HandS.ForMost
import HandS.ForExc
import HandS.IsInst
import HandS.ExcIs
import HandS.CallSlots
import HandS.Wide
import HandS.EndBits
import HandS.Flow
import HandS.AnyAll
import HandS.SortKw
import HandS.GenOver
import HandS.GenList
import PyProof.GenRules
import PyProof.GenQ
import HandS.Steps
import HandS.Codes
import HandS.TupAny
import HandS.TupMul
import HandS.Dict
import KE.KeyNested
import KE.KDictKeyed
import KE.KDictDisplayH
import HandS.List
import KE.KIndexOf
import KE.SortData
import KE.DataCmp
import HandS.Style
import HandS.DictTup
import HandS.More
import HandS.TupLen
import KE.KDictWalk
import KE.KDictSum
import HandS.DictComp
import HandS.SortInts
import PySem.Challenge.RW_everyworth_k25_chances
import HandS.Gcd
import HandS.Iter
import HandS.SetKeys
import HandS.WideBits
import KE.KDictPairs
import HandS.Walk
import HandS.DeepEq
import HandS.EndTab
import HandS.EndOwn
set_option Elab.async false
set_option linter.all false
set_option maxRecDepth 100000
set_option maxHeartbeats 4000000
/-! sorted(xs), xs a list of tuples of ints of any lengths (none of them empty, or fewer than two). -/
namespace LTx
open PySem PySem.W PySem.Calls PyProof.Rows Builtin
open L2 (V)
section
variable {prog : Program} {w : World} {A : Around} {E : Value → Shared → Prop} {s : Shared}
theorem lex_at {b fin : Bool} {Q : Bool → Shared → Prop} : ∀ {xs ys : List Value} {ns ms : List Int} (i : Nat), IntsAre xs ns → IntsAre ys ms → fin = decide (xs.length < ys.length) → Q (HT.lexLt ns ms) s → PySem.W.KatLex prog w A b fin Q (xs.zip ys) i s
  | _, _, _, _, i, .nil, .nil, hf, h => by
    rw [HT.lexLt_nil_nil] at h
    rw [hf]
    exact PySem.W.kat_nil h
  | _, _, _, _, i, .nil, .cons n t r, hf, h => by
    rw [HT.lexLt_nil_cons] at h
    have : fin = true := hf.trans (decide_eq_true (by simp))
    rw [this]
    exact PySem.W.kat_nil h
  | _, _, _, _, i, .cons n t r, .nil, hf, h => by
    rw [HT.lexLt_cons_nil] at h
    have : fin = false := hf.trans (decide_eq_false (by simp))
    rw [this]
    exact PySem.W.kat_nil h
  | _, _, _, _, i, .cons n t r, .cons m u q, hf, h => by
    rw [HT.lexLt_cons] at h
    refine PySem.W.kat_cons (SeqAt.EqAt.int_int n t m u prog w _ _ ?_)
    refine PySem.W.kat_go (fun e1 => ?_) (fun e1 => ?_)
    · have ex : n = m := by simpa using e1
      rw [if_pos ex] at h
      refine PySem.W.kat_yes (lex_at (i + 1) r q (hf.trans (decide_eq_decide.mpr ?_)) h)
      simp only [List.length_cons]
      omega
    · have ex : ¬ n = m := by simpa using e1
      rw [if_neg ex] at h
      exact PySem.W.kat_no (TS.oneLt_ints _ h)
/-- v is a tuple of these ints -/
def IsTL (h : Heap) (v : Value) (ns : List Int) : Prop := ∃ (a : Addr) (o : Obj) (items : Array Value) (n : Nat), v = .ref a ∧ h.get? a = some o ∧ o.cls = .type "tuple" ∧ o.data = .seq items n ∧ IntsAre items.toList ns
theorem IsTL.keeps {h h' : Heap} {v : Value} {ns : List Int} (x : IsTL h v ns) (k : ∀ b o, h.get? b = some o → o.cls = .type "tuple" → h'.get? b = some o) : IsTL h' v ns := by
  obtain ⟨a, o, items, n, e, g, c, d, i⟩ := x
  exact ⟨a, o, items, n, e, k _ _ g c, c, d, i⟩
theorem firsts {h : Heap} : ∀ {vs : List Value}, (∀ v ∈ vs, ∃ ns, ns ≠ [] ∧ IsTL h v ns) → ∃ fs : List Value, PySem.W.KatTups h vs fs ∧ fs.length = vs.length ∧ ∀ f ∈ fs, ∃ x t, f = Value.int x t
  | [], _ => ⟨[], PySem.W.KatTups.nil, rfl, fun _ h => nomatch h⟩
  | v :: vs, hp => by
    obtain ⟨ns, hne, a, o, items, n, rfl, ho, hc, hd, hi⟩ := hp v (List.mem_cons_self ..)
    obtain ⟨fs, h1, h2, h3⟩ := firsts (vs := vs) fun v' hm => hp v' (List.mem_cons_of_mem _ hm)
    generalize hit : items.toList = its at hi
    cases hi with
    | nil => exact absurd rfl hne
    | cons x t r =>
      refine ⟨.int x t :: fs, PySem.W.KatTups.cons ho hc hd (by rw [← Array.getElem?_toList, hit]; rfl) h1, by rw [List.length_cons, List.length_cons, h2], fun f hf => ?_⟩
      rcases List.mem_cons.mp hf with rfl | hf
      · exact ⟨x, t, rfl⟩
      · exact h3 f hf
theorem tl_cmp {vs : List Value} {k : Value → List Int} {b : Bool} (hp : ∀ v ∈ vs, IsTL s.heap v (k v)) : SrtO.Cmp prog w A s (tuples' b) (fun p => p.1 ∈ vs) (SrtO.lt2 fun v u => HT.lexLt (k v) (k u)) := by
  intro p q hm hm'
  show wpAny (model prog w) A (keyLt' (tuples' b) p.1 q.1) (fun r s' => s' = s ∧ r = HT.lexLt (k p.1) (k q.1)) (fun _ _ => False) s
  obtain ⟨a, o, xs, n, e, ho, hc, hd, hi⟩ := hp _ hm
  obtain ⟨a', o', ys, n', e', ho', hc', hd', hi'⟩ := hp _ hm'
  generalize hns : k p.1 = ns at hi ⊢
  generalize hms : k q.1 = ms at hi' ⊢
  rw [e, e']
  refine PySem.W.kat_lt ho hd ho' hd' (lex_at 0 hi hi' ?_ ⟨rfl, rfl⟩)
  rw [Array.length_toList, Array.length_toList]
theorem tl_sortable {a : Addr} {vs : List Value} {k : Value → List Int} (h0 : 0 < vs.length) (hp : ∀ v ∈ vs, IsTL s.heap v (k v)) (hne : ∀ v ∈ vs, k v ≠ []) (ha : ∀ o, s.heap.get? a = some o → o.cls ≠ .type "tuple") : SrtO.SortableO prog w A s a vs fun v u => HT.lexLt (k v) (k u) := by
  intro h' keep
  have hp' : ∀ v ∈ vs, IsTL h' v (k v) := fun v hm => (hp v hm).keeps fun b o e c => keep b o (fun z => by subst z; exact ha o e c) e
  obtain ⟨fs, h1, h2, h3⟩ := firsts fun v hm => ⟨_, hne v hm, hp' v hm⟩
  refine ⟨tuples' true, fun Q E hq => ?_, tl_cmp hp'⟩
  refine PySem.W.kat_kind (T := .type "int") h1 (by omega) (fun f hm => ?_) (by rfl) ?_
  · obtain ⟨x, t, rfl⟩ := h3 f hm
    exact PySem.W.Looks.now
  · have e : (Value.type "int" != Value.type "tuple") = true := by first | decide +kernel | rfl | decide
    rw [e]
    exact hq
theorem sorted_tl {l : Addr} {vs : List Value} {k : Value → List Int} {Q : Value → Shared → Prop} (hl : s.heap.IsList l vs.toArray) (hz : vs.length ≤ sizeLine) (hp : ∀ v ∈ vs, IsTL s.heap v (k v)) (hne : 2 ≤ vs.length → ∀ v ∈ vs, k v ≠ [])
    (h : ∀ (h' : Heap) (d : Addr) (out : List Value), SrtO.Srtd (fun v u => HT.lexLt (k v) (k u)) out → SrtO.Stb (fun v u => HT.lexLt (k v) (k u)) out vs → (∀ b o, s.heap.get? b = some o → h'.get? b = some o) → s.heap.objs.size ≤ d → (∃ n, h'.get? d = some (seqObj "list" out.toArray n)) → Q (.ref d) { s with heap := h' }) :
    wpAny (model prog w) A (call (.builtin "sorted") [.ref l]) Q E s := by
  refine SrtO.sorted_ord (NtL.swo_lexL k) hl hz (fun h2 h₁ a ha kk => ?_) fun out hs hb => ?_
  · refine tl_sortable (s := { s with heap := h₁ }) (by omega) (fun v hm => (hp v hm).keeps fun b o e _ => (kk b o e).2) (hne h2) fun o e => ?_
    have e' : some o = some (seqObj "list" vs.toArray 0) := e.symm.trans ha
    cases e'
    intro c
    exact absurd (Value.type.inj c) (by decide)
  · exact h _ _ out hs hb (fun b o e => sortedAll_old e) (Nat.le_succ _) (sortedAll_at s.heap vs out.toArray)
end
end LTx
namespace L2
open PySem PySem.Spec PyProof.Rows
/-- sorted(xs), xs a list of tuples of ints (k says which), none of them empty or fewer than two: a new list of the same tuples, by their order -/
def rSortedTL (K : PySem.W.Frag) : List V → Hp → VK → Prop := fun vs H Q => ∃ (a : Addr) (ts : List Addr) (k : Addr → List Int), vs = [V.ref a] ∧ SqL K H a (ts.map V.ref) ∧ (∀ t ∈ ts, SqT K H t ((k t).map V.int)) ∧ (2 ≤ ts.length → ∀ t ∈ ts, k t ≠ []) ∧
  ∀ (ts' : List Addr) (p : Addr), ts'.Perm ts → ts'.Pairwise (fun p q => HT.lexLt (k q) (k p) = false) → H p = none → Q (.ref p) (upd H p (.lst (ts'.map V.ref)))
theorem ints_are : ∀ {ns : List Int} {us : List Value}, Vals (ns.map V.int) us → IntsAre us ns
  | [], _, r => by rw [List.map_nil] at r; cases r; exact .nil
  | n :: ns, _, r => by
    rw [List.map_cons] at r
    cases r with
    | cons h q =>
      obtain ⟨t, rfl⟩ := h
      exact .cons n t (ints_are q)
section
variable {X : Cx}
theorem cr_sortedTL : CallR X (.builtin "sorted") (rSortedTL X.K) := by
  intro pins s σ H vs us Q I r h
  obtain ⟨a, ts, k, rfl, hs, hx, hne, q⟩ := h
  obtain ⟨its, rv, hl, hz⟩ := I.list hs
  rw [Vals.ref1 r]
  have ei := nts_of rv
  have hv : ∀ u ∈ its, LTx.IsTL s.heap u (k (adO u)) := fun u hm => by
    rw [ei] at hm
    obtain ⟨t, ht, rfl⟩ := List.mem_map.mp hm
    obtain ⟨its2, r2, ⟨o, ho, hc, n, hd⟩, _⟩ := I.tuple (hx t ht)
    exact ⟨t, o, its2.toArray, n, rfl, ho, hc, hd, (show IntsAre its2.toArray.toList (k t) by simpa using ints_are r2)⟩
  have len : its.length = ts.length := by rw [ei, List.length_map]
  refine LTx.sorted_tl (k := fun u => k (adO u)) hl.isList (by rw [← rv.length]; exact hz) hv (fun h2 u hm => ?_) fun h' d out h1 h2 kp hd hn => ?_
  · rw [ei] at hm
    obtain ⟨t, ht, rfl⟩ := List.mem_map.mp hm
    exact hne (by omega) t ht
  · obtain ⟨n, hn⟩ := hn
    have eo : out = (out.map adO).map Value.ref := ref_map fun u hm => by
      have hm' : u ∈ its := h2.perm.mem_iff.mp hm
      rw [ei] at hm'
      obtain ⟨t, _, e⟩ := List.mem_map.mp hm'
      exact ⟨t, e.symm⟩
    have hp : (out.map adO).Perm ts := by
      have p1 := h2.perm.map adO
      rw [ei, ad_map] at p1
      exact p1
    have hsr : (out.map adO).Pairwise (fun p q => HT.lexLt (k q) (k p) = false) := List.pairwise_map.mpr (h1.imp fun {x y} z => z)
    have rvo : Vals ((out.map adO).map V.ref) out := by
      have z := of_nts (out.map adO)
      rw [← eo] at z
      exact z
    refine ⟨.ref d, upd H d (.lst ((out.map adO).map V.ref)), I.laid (t' := s.toks) kp hd ⟨?_, out, n, rvo, hn⟩, rfl, q _ d hp hsr (I.hok.fresh hd)⟩
    rw [List.length_map, hp.length_eq]
    have := hz
    rw [List.length_map] at this
    exact this
end
end L2

set_option linter.all false
/-! Masks as sets of bits: the lowest bit, parts, the least ones. -/
namespace WM
/-- the place of the lowest bit -/
def lowI (n : Nat) : Nat := if n = 0 then 0 else if n % 2 = 1 then 0 else lowI (n / 2) + 1
termination_by n
decreasing_by omega
theorem lowI_odd (m : Nat) : lowI (2 * m + 1) = 0 := by
  rw [lowI, if_neg (by omega), if_pos (by omega)]
theorem lowI_even {m : Nat} (h : 0 < m) : lowI (2 * m) = lowI m + 1 := by
  rw [lowI, if_neg (by omega), if_neg (by omega), show 2 * m / 2 = m by omega]
def low (n : Nat) : Nat := 2 ^ lowI n
theorem even_odd (n : Nat) : (∃ m, n = 2 * m) ∨ ∃ m, n = 2 * m + 1 := by
  rcases Nat.mod_two_eq_zero_or_one n with h | h
  · exact .inl ⟨n / 2, by omega⟩
  · exact .inr ⟨n / 2, by omega⟩
theorem tb_even (m i : Nat) : (2 * m).testBit (i + 1) = m.testBit i := by
  rw [Nat.testBit_succ, show 2 * m / 2 = m by omega]
theorem tb_odd (m i : Nat) : (2 * m + 1).testBit (i + 1) = m.testBit i := by
  rw [Nat.testBit_succ, show (2 * m + 1) / 2 = m by omega]
theorem tb_even0 (m : Nat) : (2 * m).testBit 0 = false := by rw [Nat.testBit_zero, decide_eq_false_iff_not]; omega
theorem tb_odd0 (m : Nat) : (2 * m + 1).testBit 0 = true := by rw [Nat.testBit_zero, decide_eq_true_eq]; omega
theorem tb_low : ∀ n, 0 < n → n.testBit (lowI n) = true := by
  intro n
  induction n using Nat.strongRecOn with
  | ind n ih =>
    intro h
    rcases even_odd n with ⟨m, rfl⟩ | ⟨m, rfl⟩
    · rw [lowI_even (by omega), tb_even]
      exact ih m (by omega) (by omega)
    · rw [lowI_odd, tb_odd0]
theorem tb_below : ∀ n i, i < lowI n → n.testBit i = false := by
  intro n
  induction n using Nat.strongRecOn with
  | ind n ih =>
    intro i h
    rcases even_odd n with ⟨m, rfl⟩ | ⟨m, rfl⟩
    · rcases Nat.eq_zero_or_pos m with rfl | hm
      · rw [Nat.mul_zero, Nat.zero_testBit]
      · rw [lowI_even hm] at h
        rcases i with _ | i
        · exact tb_even0 m
        · rw [tb_even]
          exact ih m (by omega) i (by omega)
    · rw [lowI_odd] at h
      omega
/-- the lowest bit is taken off -/
def clr (n : Nat) : Nat := n - low n
theorem low_le : ∀ n, 0 < n → low n ≤ n := fun n h => Nat.ge_two_pow_of_testBit (tb_low n h)
theorem clr_lt {n : Nat} (h : 0 < n) : clr n < n := by
  have h1 : 0 < low n := Nat.two_pow_pos _
  unfold clr
  omega
theorem clr_even (m : Nat) (h : 0 < m) : clr (2 * m) = 2 * clr m := by
  unfold clr low
  rw [lowI_even h, Nat.pow_succ, Nat.mul_sub, Nat.mul_comm 2 (2 ^ lowI m)]
theorem clr_odd (m : Nat) : clr (2 * m + 1) = 2 * m := by
  unfold clr low
  rw [lowI_odd, Nat.pow_zero]
  omega
theorem tb_clr : ∀ n, 0 < n → ∀ i, (clr n).testBit i = (n.testBit i && decide (i ≠ lowI n)) := by
  intro n
  induction n using Nat.strongRecOn with
  | ind n ih =>
    intro h i
    rcases even_odd n with ⟨m, rfl⟩ | ⟨m, rfl⟩
    · rw [clr_even m (by omega), lowI_even (by omega)]
      rcases i with _ | i
      · rw [tb_even0, tb_even0]; rfl
      · rw [tb_even, tb_even, ih m (by omega) (by omega) i]
        congr 1
        exact decide_eq_decide.mpr (by omega)
    · rw [clr_odd, lowI_odd]
      rcases i with _ | i
      · rw [tb_even0]; simp
      · rw [tb_even, tb_odd]
        simp
theorem and_pred : ∀ n, 0 < n → n &&& (n - 1) = clr n := fun n h => by
  refine Nat.eq_of_testBit_eq fun i => ?_
  rw [Nat.testBit_and, tb_clr n h i]
  by_cases c : n.testBit i = true
  · rw [c, Bool.true_and, Bool.true_and]
    revert h c
    induction n using Nat.strongRecOn generalizing i with
    | ind n ih =>
      intro h c
      rcases even_odd n with ⟨m, rfl⟩ | ⟨m, rfl⟩
      · have hm : 0 < m := by omega
        rw [lowI_even hm, show 2 * m - 1 = 2 * (m - 1) + 1 by omega]
        rcases i with _ | i
        · rw [tb_even0] at c; cases c
        · rw [tb_even] at c
          rw [tb_odd, ih m (by omega) i hm c]
          exact decide_eq_decide.mpr (by omega)
      · rw [lowI_odd, Nat.add_sub_cancel]
        rcases i with _ | i
        · rw [tb_even0]; simp
        · rw [tb_odd] at c
          rw [tb_even, c]
          simp
  · rw [Bool.not_eq_true] at c
    rw [c]; rfl
theorem xor_low (n : Nat) (h : 0 < n) : n ^^^ low n = clr n := by
  refine Nat.eq_of_testBit_eq fun i => ?_
  rw [Nat.testBit_xor, tb_clr n h i]
  unfold low
  rw [Nat.testBit_two_pow]
  by_cases e : lowI n = i
  · subst e
    rw [tb_low n h]; simp
  · have e' : i ≠ lowI n := fun z => e z.symm
    simp [e, e']
open PySem in
/-- n & -n -/
theorem and_neg {n : Nat} (h : 0 < n) : Builtin.bitAnd (n : Int) (-(n : Int)) = (low n : Nat) := by
  rw [PyProof.Rows.bitAnd_pn (Int.natCast_nonneg n) (by omega)]
  have e : (Builtin.bitNot (-(n : Int))).toNat = n - 1 := by
    unfold Builtin.bitNot
    omega
  rw [e, Int.toNat_natCast, and_pred n h]
  have := low_le n h
  unfold clr
  omega
open PySem in
theorem and_neg0 : Builtin.bitAnd ((0 : Nat) : Int) (-((0 : Nat) : Int)) = 0 := by decide
open PySem in
/-- n ^ (n & -n) -/
theorem xor_bit {n : Nat} (h : 0 < n) : Builtin.bitXor (n : Int) (low n : Nat) = (clr n : Nat) := by
  rw [Bits.bitXor_pp (Int.natCast_nonneg _) (Int.natCast_nonneg _), Int.toNat_natCast, Int.toNat_natCast, xor_low n h]
/-- all of a's bits are b's -/
def Sub (a b : Nat) : Prop := a &&& b = a
instance (a b : Nat) : Decidable (Sub a b) := inferInstanceAs (Decidable (a &&& b = a))
theorem sub_iff {a b : Nat} : Sub a b ↔ ∀ i, a.testBit i = true → b.testBit i = true := by
  constructor
  · intro h i hi
    have e : (a &&& b).testBit i = a.testBit i := congrArg (fun n => Nat.testBit n i) h
    rw [Nat.testBit_and, hi] at e
    simpa using e
  · intro h
    refine Nat.eq_of_testBit_eq fun i => ?_
    rw [Nat.testBit_and]
    cases c : a.testBit i with
    | false => rfl
    | true => rw [h i c]; rfl
theorem Sub.le {a b : Nat} (h : Sub a b) : a ≤ b := by
  have := Nat.and_le_right (n := a) (m := b)
  rw [h] at this
  exact this
theorem Sub.refl (a : Nat) : Sub a a := Nat.and_self a
theorem Sub.trans {a b c : Nat} (h : Sub a b) (h' : Sub b c) : Sub a c := sub_iff.mpr fun i hi => sub_iff.mp h' i (sub_iff.mp h i hi)
theorem Sub.antisymm {a b : Nat} (h : Sub a b) (h' : Sub b a) : a = b := Nat.le_antisymm h.le h'.le
theorem sub_zero {a : Nat} : Sub a 0 ↔ a = 0 := ⟨fun h => by have := h.le; omega, fun h => h ▸ Sub.refl _⟩
theorem zero_sub (a : Nat) : Sub 0 a := Nat.zero_and a
open PySem in
/-- part & mask == part -/
theorem and_sub (a b : Nat) : Builtin.bitAnd (a : Int) (b : Int) = (a : Int) ↔ Sub a b := by
  rw [PyProof.Rows.bitAnd_pp (Int.natCast_nonneg _) (Int.natCast_nonneg _), Int.toNat_natCast, Int.toNat_natCast]
  unfold Sub
  omega
/-- the lowest bit of a part is a bit of the whole -/
theorem sub_low {a b : Nat} (h : Sub a b) (ha : 0 < a) : b.testBit (lowI a) = true := sub_iff.mp h _ (tb_low a ha)
theorem low_inj {a b : Nat} (h : low a = low b) : lowI a = lowI b := (Nat.pow_right_inj (by decide : 1 < 2)).mp h
/-- one of the kept is a part -/
def HP (kept : List Nat) (m : Nat) : Prop := ∃ k ∈ kept, Sub k m
instance (kept : List Nat) (m : Nat) : Decidable (HP kept m) := inferInstanceAs (Decidable (∃ k ∈ kept, Sub k m))
/-- the least ones, the masks told ascending -/
def leastA : List Nat → List Nat → List Nat
  | kept, [] => kept
  | kept, m :: ms => leastA (if HP kept m then kept else kept ++ [m]) ms
/-- what the kept are behind the masks ms -/
structure Kept (ms kept : List Nat) : Prop where
  mem : ∀ k ∈ kept, k ∈ ms
  up : ∀ m ∈ ms, HP kept m
  ap : kept.Pairwise fun a b => a < b ∧ ¬ Sub a b
theorem Kept.nil : Kept [] [] := ⟨(fun _ h => nomatch h), (fun _ h => nomatch h), .nil⟩
theorem Kept.step {ms kept : List Nat} {m : Nat} (x : Kept ms kept) (hm : ∀ y ∈ ms, y ≤ m) : Kept (ms ++ [m]) (if HP kept m then kept else kept ++ [m]) := by
  by_cases c : HP kept m
  · rw [if_pos c]
    refine ⟨fun k hk => List.mem_append_left _ (x.mem k hk), fun y hy => ?_, x.ap⟩
    rcases List.mem_append.mp hy with h | h
    · exact x.up y h
    · rw [List.mem_singleton.mp h]; exact c
  · rw [if_neg c]
    refine ⟨fun k hk => ?_, fun y hy => ?_, List.pairwise_append.mpr ⟨x.ap, List.pairwise_singleton .., fun a ha b hb => ?_⟩⟩
    · rcases List.mem_append.mp hk with h | h
      · exact List.mem_append_left _ (x.mem k h)
      · exact List.mem_append_right _ h
    · rcases List.mem_append.mp hy with h | h
      · obtain ⟨k, hk, s⟩ := x.up y h
        exact ⟨k, List.mem_append_left _ hk, s⟩
      · rw [List.mem_singleton.mp h]
        exact ⟨m, List.mem_append_right _ (List.mem_singleton_self _), Sub.refl _⟩
    · rw [List.mem_singleton.mp hb]
      have ns : ¬ Sub a m := fun s => c ⟨a, ha, s⟩
      have := hm a (x.mem a ha)
      refine ⟨Nat.lt_of_le_of_ne this fun e => ns (e ▸ Sub.refl _), ns⟩
theorem least_kept : ∀ (ms pre kept : List Nat), Kept pre kept → (pre ++ ms).Pairwise (· ≤ ·) → Kept (pre ++ ms) (leastA kept ms)
  | [], pre, kept, x, _ => by rw [List.append_nil]; exact x
  | m :: ms, pre, kept, x, hs => by
    have e : pre ++ m :: ms = (pre ++ [m]) ++ ms := by simp
    rw [e] at hs ⊢
    refine least_kept ms (pre ++ [m]) _ (x.step fun y hy => ?_) hs
    exact (List.pairwise_append.mp (List.pairwise_append.mp hs).1).2.2 y hy m (List.mem_singleton_self _)
theorem least_of {ms : List Nat} (hs : ms.Pairwise (· ≤ ·)) : Kept ms (leastA [] ms) := least_kept ms [] [] .nil hs
/-- no two of the kept are parts of one another -/
theorem Kept.anti {ms kept : List Nat} (x : Kept ms kept) {a b : Nat} (ha : a ∈ kept) (hb : b ∈ kept) (s : Sub a b) : a = b := by
  obtain ⟨i, hi, rfl⟩ := List.mem_iff_getElem.mp ha
  obtain ⟨j, hj, rfl⟩ := List.mem_iff_getElem.mp hb
  rcases Nat.lt_trichotomy i j with h | h | h
  · exact absurd s (List.pairwise_iff_getElem.mp x.ap i j hi hj h).2
  · subst h; rfl
  · have := (List.pairwise_iff_getElem.mp x.ap j i hj hi h).1
    have := s.le
    omega
/-- what has a part among the masks has one among the kept -/
theorem Kept.upIff {ms kept : List Nat} (x : Kept ms kept) (m : Nat) : HP kept m ↔ HP ms m := by
  constructor
  · rintro ⟨k, hk, s⟩; exact ⟨k, x.mem k hk, s⟩
  · rintro ⟨y, hy, s⟩
    obtain ⟨k, hk, s'⟩ := x.up y hy
    exact ⟨k, hk, s'.trans s⟩
theorem Kept.nd {ms kept : List Nat} (x : Kept ms kept) : kept.Nodup := x.ap.imp fun h => Nat.ne_of_lt h.1
/-- the walk over the bits: if no kept part begins with a bit that was seen, none of them is a part that begins there -/
theorem walk_step {kept : List Nat} {mask rest : Nat} (h : 0 < rest) (inv : ∀ k ∈ kept, Sub k mask → rest.testBit (lowI k) = true) (no : ∀ k ∈ kept, low k = low rest → ¬ Sub k mask) : ∀ k ∈ kept, Sub k mask → (clr rest).testBit (lowI k) = true := fun k hk s => by
  rw [tb_clr rest h, inv k hk s, Bool.true_and]
  exact decide_eq_true fun e => no k hk (by unfold low; rw [e]) s
theorem walk_end {kept : List Nat} {mask : Nat} (inv : ∀ k ∈ kept, Sub k mask → (0 : Nat).testBit (lowI k) = true) : ¬ HP kept mask := fun ⟨k, hk, s⟩ => by
  have := inv k hk s
  rw [Nat.zero_testBit] at this
  cases this
theorem walk_start {kept : List Nat} {mask : Nat} (h0 : ¬ 0 ∈ kept) : ∀ k ∈ kept, Sub k mask → mask.testBit (lowI k) = true := fun k hk s =>
  sub_low s (Nat.pos_of_ne_zero fun e => h0 (e ▸ hk))
end WM

set_option linter.all false
/-! Least sets: sorted lists of ascending lists, none a part of another, and what lies above them. -/
namespace WS
open WM
theorem pw_ext {α : Type} {R : α → α → Prop} (as : ∀ a b, R a b → ¬ R b a) : ∀ {l m : List α}, l.Pairwise R → m.Pairwise R → (∀ x, x ∈ l ↔ x ∈ m) → l = m
  | [], [], _, _, _ => rfl
  | [], y :: m, _, _, h => absurd ((h y).mpr (List.mem_cons_self ..)) (List.not_mem_nil)
  | x :: l, [], _, _, h => absurd ((h x).mp (List.mem_cons_self ..)) (List.not_mem_nil)
  | x :: l, y :: m, hl, hm, h => by
    obtain ⟨h1, h2⟩ := List.pairwise_cons.mp hl
    obtain ⟨h3, h4⟩ := List.pairwise_cons.mp hm
    have e : x = y := by
      rcases List.mem_cons.mp ((h x).mp (List.mem_cons_self ..)) with e | a
      · exact e
      · rcases List.mem_cons.mp ((h y).mpr (List.mem_cons_self ..)) with e | b
        · exact e.symm
        · exact absurd (h1 y b) (as _ _ (h3 x a))
    subst e
    rw [pw_ext as h2 h4 fun z => ?_]
    constructor
    · intro hz
      rcases List.mem_cons.mp ((h z).mp (List.mem_cons_of_mem _ hz)) with e | a
      · subst e
        exact absurd (h1 z hz) (as _ _ (h1 z hz))
      · exact a
    · intro hz
      rcases List.mem_cons.mp ((h z).mpr (List.mem_cons_of_mem _ hz)) with e | a
      · subst e
        exact absurd (h3 z hz) (as _ _ (h3 z hz))
      · exact a
abbrev Asc (s : List Nat) : Prop := s.Pairwise (· < ·)
theorem asc_ext {a b : List Nat} (ha : Asc a) (hb : Asc b) (h : ∀ x, x ∈ a ↔ x ∈ b) : a = b := pw_ext (fun _ _ h h' => by omega) ha hb h
theorem Asc.nd {s : List Nat} (h : Asc s) : s.Nodup := h.imp fun h => Nat.ne_of_lt h
abbrev SubL (a b : List Nat) : Prop := ∀ x ∈ a, x ∈ b
abbrev iN (s : List Nat) : List Int := s.map fun (n : Nat) => (n : Int)
/-- a element of the least sets -/
structure Can (ss : List (List Nat)) : Prop where
  asc : ∀ s ∈ ss, Asc s
  anti : ∀ a ∈ ss, ∀ b ∈ ss, SubL a b → a = b
  srt : ss.Pairwise fun a b => HT.lexLt (iN a) (iN b) = true
/-- s has a part among the sets -/
def Up (ss : List (List Nat)) (s : List Nat) : Prop := ∃ t ∈ ss, SubL t s
theorem can_sub {a b : List (List Nat)} (ha : Can a) (hb : Can b) (h : ∀ s, Up a s ↔ Up b s) {t : List Nat} (ht : t ∈ a) : t ∈ b := by
  obtain ⟨t', h1, h2⟩ := (h t).mp ⟨t, ht, fun _ z => z⟩
  obtain ⟨t'', h3, h4⟩ := (h t').mpr ⟨t', h1, fun _ z => z⟩
  have e : t'' = t := ha.anti _ h3 _ ht fun x hx => h2 x (h4 x hx)
  subst e
  rw [asc_ext (ha.asc _ ht) (hb.asc _ h1) fun x => ⟨h4 x, h2 x⟩]
  exact h1
/-- two elements with the same above them are the same -/
theorem can_ext {a b : List (List Nat)} (ha : Can a) (hb : Can b) (h : ∀ s, Up a s ↔ Up b s) : a = b :=
  pw_ext (fun x y h1 h2 => by rw [NtL.lex_asym _ _ h1] at h2; cases h2) ha.srt hb.srt fun t => ⟨can_sub ha hb h, can_sub hb ha fun s => (h s).symm⟩
/-! ### masks of sets -/
theorem tb_add : ∀ (k n : Nat), n.testBit k = false → ∀ i, (2 ^ k + n).testBit i = (decide (i = k) || n.testBit i)
  | 0, n, h, i => by
    rcases even_odd n with ⟨m, rfl⟩ | ⟨m, rfl⟩
    · rw [show 2 ^ 0 + 2 * m = 2 * m + 1 by rw [Nat.pow_zero]; omega]
      rcases i with _ | i
      · rw [tb_odd0]; rfl
      · rw [tb_odd, tb_even]; simp
    · rw [tb_odd0] at h; cases h
  | k + 1, n, h, i => by
    rcases even_odd n with ⟨m, rfl⟩ | ⟨m, rfl⟩
    · rw [tb_even] at h
      rw [show 2 ^ (k + 1) + 2 * m = 2 * (2 ^ k + m) by rw [Nat.pow_succ]; omega]
      rcases i with _ | i
      · rw [tb_even0, tb_even0]; simp
      · rw [tb_even, tb_even, tb_add k m h i]
        congr 1
        exact decide_eq_decide.mpr (by omega)
    · rw [tb_odd] at h
      rw [show 2 ^ (k + 1) + (2 * m + 1) = 2 * (2 ^ k + m) + 1 by rw [Nat.pow_succ]; omega]
      rcases i with _ | i
      · rw [tb_odd0, tb_odd0]; simp
      · rw [tb_odd, tb_odd, tb_add k m h i]
        congr 1
        exact decide_eq_decide.mpr (by omega)
def mask (F : List Nat) (s : List Nat) : Nat := (s.map fun f => 2 ^ F.idxOf f).sum
theorem idx_inj {F : List Nat} {x y : Nat} (hx : x ∈ F) (hy : y ∈ F) (h : F.idxOf x = F.idxOf y) : x = y := by
  have h1 := List.getElem_idxOf (List.idxOf_lt_length_of_mem hx)
  have h2 := List.getElem_idxOf (List.idxOf_lt_length_of_mem hy)
  rw [← h1, ← h2]
  congr 1
theorem tb_mask {F : List Nat} : ∀ {s : List Nat}, s.Nodup → (∀ x ∈ s, x ∈ F) → ∀ i, (mask F s).testBit i = true ↔ ∃ x ∈ s, F.idxOf x = i
  | [], _, _, i => by
    rw [show mask F [] = 0 from rfl, Nat.zero_testBit]
    exact ⟨fun h => (nomatch h), fun ⟨_, h, _⟩ => (nomatch h)⟩
  | y :: s, hn, hF, i => by
    obtain ⟨n1, n2⟩ := List.nodup_cons.mp hn
    have ih := tb_mask (s := s) n2 fun x hx => hF x (List.mem_cons_of_mem _ hx)
    have h0 : (mask F s).testBit (F.idxOf y) = false := by
      rw [← Bool.not_eq_true]
      intro z
      obtain ⟨x, hx, e⟩ := (ih _).mp z
      exact n1 (idx_inj (hF x (List.mem_cons_of_mem _ hx)) (hF y (List.mem_cons_self ..)) e ▸ hx)
    rw [show mask F (y :: s) = 2 ^ F.idxOf y + mask F s from rfl, tb_add _ _ h0, Bool.or_eq_true, decide_eq_true_eq, ih]
    constructor
    · rintro (e | ⟨x, hx, e⟩)
      · exact ⟨y, List.mem_cons_self .., e.symm⟩
      · exact ⟨x, List.mem_cons_of_mem _ hx, e⟩
    · rintro ⟨x, hx, e⟩
      rcases List.mem_cons.mp hx with rfl | hx
      · exact .inl e.symm
      · exact .inr ⟨x, hx, e⟩
theorem sub_mask {F s t : List Nat} (hs : s.Nodup) (ht : t.Nodup) (sF : ∀ x ∈ s, x ∈ F) (tF : ∀ x ∈ t, x ∈ F) : Sub (mask F s) (mask F t) ↔ SubL s t := by
  rw [sub_iff]
  constructor
  · intro h x hx
    obtain ⟨y, hy, e⟩ := (tb_mask ht tF _).mp (h _ ((tb_mask hs sF _).mpr ⟨x, hx, rfl⟩))
    rw [← idx_inj (tF y hy) (sF x hx) e]
    exact hy
  · intro h i hi
    obtain ⟨x, hx, e⟩ := (tb_mask hs sF _).mp hi
    exact (tb_mask ht tF _).mpr ⟨x, h x hx, e⟩
theorem low_uniq {n k : Nat} (h : n.testBit k = true) (hl : ∀ i, i < k → n.testBit i = false) : lowI n = k := by
  have hn : 0 < n := by
    rcases Nat.eq_zero_or_pos n with e | e
    · rw [e, Nat.zero_testBit] at h; cases h
    · exact e
  rcases Nat.lt_trichotomy (lowI n) k with c | c | c
  · have := hl _ c
    rw [tb_low n hn] at this; cases this
  · exact c
  · rw [tb_below n k c] at h; cases h
/-- the set that a mask tells -/
def setOf (F : List Nat) (m : Nat) : List Nat := if h : m = 0 then [] else F.getD (lowI m) 0 :: setOf F (clr m)
termination_by m
decreasing_by exact clr_lt (Nat.pos_of_ne_zero h)
theorem idx_lt {F : List Nat} (hF : Asc F) {x y : Nat} (hx : x ∈ F) (hy : y ∈ F) (h : x < y) : F.idxOf x < F.idxOf y := by
  have lx := List.idxOf_lt_length_of_mem hx
  have ly := List.idxOf_lt_length_of_mem hy
  have h1 := List.getElem_idxOf lx
  have h2 := List.getElem_idxOf ly
  rcases Nat.lt_trichotomy (F.idxOf x) (F.idxOf y) with c | c | c
  · exact c
  · have := idx_inj hx hy c; omega
  · have := List.pairwise_iff_getElem.mp hF _ _ ly lx c
    omega
theorem mask_cons {F s : List Nat} {x : Nat} (hF : Asc F) (hs : Asc (x :: s)) (sF : ∀ y ∈ x :: s, y ∈ F) : lowI (mask F (x :: s)) = F.idxOf x ∧ clr (mask F (x :: s)) = mask F s := by
  have e : lowI (mask F (x :: s)) = F.idxOf x := by
    refine low_uniq ((tb_mask hs.nd sF _).mpr ⟨x, List.mem_cons_self .., rfl⟩) fun i hi => ?_
    rw [← Bool.not_eq_true]
    intro z
    obtain ⟨y, hy, e⟩ := (tb_mask hs.nd sF _).mp z
    rcases List.mem_cons.mp hy with rfl | hy'
    · omega
    · have := idx_lt hF (sF x (List.mem_cons_self ..)) (sF y hy) ((List.pairwise_cons.mp hs).1 y hy')
      omega
  refine ⟨e, ?_⟩
  unfold clr low
  rw [e, show mask F (x :: s) = 2 ^ F.idxOf x + mask F s from rfl]
  omega
theorem mask_pos {F s : List Nat} {x : Nat} : mask F (x :: s) ≠ 0 := by
  have : 0 < 2 ^ F.idxOf x := Nat.two_pow_pos _
  rw [show mask F (x :: s) = 2 ^ F.idxOf x + mask F s from rfl]
  omega
theorem setOf_mask {F : List Nat} (hF : Asc F) : ∀ {s : List Nat}, Asc s → (∀ x ∈ s, x ∈ F) → setOf F (mask F s) = s
  | [], _, _ => by rw [setOf]; rfl
  | x :: s, hs, sF => by
    obtain ⟨h1, h2⟩ := mask_cons hF hs sF
    have hx := sF x (List.mem_cons_self ..)
    rw [setOf, dif_neg mask_pos, h1, h2, setOf_mask hF (List.pairwise_cons.mp hs).2 fun y hy => sF y (List.mem_cons_of_mem _ hy)]
    have lx := List.idxOf_lt_length_of_mem hx
    rw [List.getD_eq_getElem?_getD, List.getElem?_eq_getElem lx, List.getElem_idxOf lx]
    rfl
/-- the program's way, over the facts F: masks, the least ones, sets again, sorted -/
theorem can_of {F : List Nat} (hF : Asc F) {ss : List (List Nat)} (hs : ∀ s ∈ ss, Asc s) (sF : ∀ s ∈ ss, ∀ x ∈ s, x ∈ F) {ms : List Nat} (hp : ms.Perm (ss.map (mask F))) (ho : ms.Pairwise (· ≤ ·))
    {out : List (List Nat)} (op : out.Perm ((leastA [] ms).map (setOf F))) (oo : out.Pairwise fun a b => HT.lexLt (iN b) (iN a) = false) : Can out ∧ ∀ s, Up out s ↔ Up ss s := by
  have K := least_of ho
  have src : ∀ k ∈ leastA [] ms, ∃ s ∈ ss, k = mask F s ∧ setOf F k = s := fun k hk => by
    obtain ⟨s, h1, h2⟩ := List.mem_map.mp (hp.mem_iff.mp (K.mem k hk))
    refine ⟨s, h1, h2.symm, ?_⟩
    rw [← h2]
    exact setOf_mask hF (hs s h1) (sF s h1)
  have mem : ∀ s ∈ out, s ∈ ss ∧ mask F s ∈ leastA [] ms := fun s h => by
    obtain ⟨k, hk, e⟩ := List.mem_map.mp (op.mem_iff.mp h)
    obtain ⟨s', h1, h2, h3⟩ := src k hk
    rw [h3] at e
    subst e
    exact ⟨h1, h2 ▸ hk⟩
  have nd : out.Nodup := by
    refine op.nodup_iff.mpr (List.Pairwise.map (R := fun a b => a ≠ b ∧ a ∈ leastA [] ms ∧ b ∈ leastA [] ms) _ (fun a b ⟨h, ha, hb⟩ e => ?_) ?_)
    · obtain ⟨s, _, h2, h3⟩ := src a ha
      obtain ⟨t, _, h4, h5⟩ := src b hb
      rw [h3, h5] at e
      exact h (by rw [h2, h4, e])
    · exact (List.Pairwise.and_mem.mp K.nd).imp fun ⟨h1, h2, h3⟩ => ⟨h3, h1, h2⟩
  refine ⟨⟨fun s h => hs s (mem s h).1, fun a ha b hb h => ?_, ?_⟩, fun s => ⟨fun ⟨t, h1, h2⟩ => ⟨t, (mem t h1).1, h2⟩, fun ⟨t, h1, h2⟩ => ?_⟩⟩
  · obtain ⟨a1, a2⟩ := mem a ha
    obtain ⟨b1, b2⟩ := mem b hb
    have e := K.anti a2 b2 ((sub_mask (hs a a1).nd (hs b b1).nd (sF a a1) (sF b b1)).mpr h)
    rw [← setOf_mask hF (hs a a1) (sF a a1), ← setOf_mask hF (hs b b1) (sF b b1), e]
  · refine (List.Pairwise.and oo nd).imp fun {a b} ⟨h1, h2⟩ => ?_
    rcases h : HT.lexLt (iN a) (iN b) with _ | _
    · exact absurd (lex_eq h h1) h2
    · rfl
  · obtain ⟨k, hk, s'⟩ := K.up (mask F t) (hp.mem_iff.mpr (List.mem_map.mpr ⟨t, h1, rfl⟩))
    obtain ⟨u, u1, u2, u3⟩ := src k hk
    refine ⟨u, op.mem_iff.mpr (List.mem_map.mpr ⟨k, hk, u3⟩), fun x hx => h2 x ?_⟩
    rw [u2] at s'
    exact (sub_mask (hs u u1).nd (hs t h1).nd (sF u u1) (sF t h1)).mp s' x hx
where
  lex_eq : ∀ {a b : List Nat}, HT.lexLt (iN a) (iN b) = false → HT.lexLt (iN b) (iN a) = false → a = b
  | [], [], _, _ => rfl
  | [], y :: b, h, _ => by rw [show iN [] = [] from rfl, show iN (y :: b) = (y : Int) :: iN b from rfl, HT.lexLt_nil_cons] at h; cases h
  | x :: a, [], _, h => by rw [show iN [] = [] from rfl, show iN (x :: a) = (x : Int) :: iN a from rfl, HT.lexLt_nil_cons] at h; cases h
  | x :: a, y :: b, h, h' => by
    rw [show iN (x :: a) = (x : Int) :: iN a from rfl, show iN (y :: b) = (y : Int) :: iN b from rfl, HT.lexLt_cons] at h h'
    by_cases e : x = y
    · subst e
      rw [if_pos rfl] at h h'
      rw [lex_eq h h']
    · rw [if_neg (by omega)] at h h'
      have h1 := of_decide_eq_false h
      have h2 := of_decide_eq_false h'
      omega
/-! ### above sums and products -/
theorem up_app (a b : List (List Nat)) (s : List Nat) : Up (a ++ b) s ↔ Up a s ∨ Up b s := by
  constructor
  · rintro ⟨t, ht, h⟩
    rcases List.mem_append.mp ht with c | c
    · exact .inl ⟨t, c, h⟩
    · exact .inr ⟨t, c, h⟩
  · rintro (⟨t, ht, h⟩ | ⟨t, ht, h⟩)
    · exact ⟨t, List.mem_append_left _ ht, h⟩
    · exact ⟨t, List.mem_append_right _ ht, h⟩
/-- the sets us are the unions of one of a and one of b -/
def Unions (a b us : List (List Nat)) : Prop := (∀ u ∈ us, ∃ x ∈ a, ∃ y ∈ b, ∀ z, z ∈ u ↔ z ∈ x ∨ z ∈ y) ∧ ∀ x ∈ a, ∀ y ∈ b, ∃ u ∈ us, ∀ z, z ∈ u ↔ z ∈ x ∨ z ∈ y
theorem up_unions {a b us : List (List Nat)} (h : Unions a b us) (s : List Nat) : Up us s ↔ Up a s ∧ Up b s := by
  constructor
  · rintro ⟨u, hu, hs⟩
    obtain ⟨x, hx, y, hy, e⟩ := h.1 u hu
    exact ⟨⟨x, hx, fun z hz => hs z ((e z).mpr (.inl hz))⟩, ⟨y, hy, fun z hz => hs z ((e z).mpr (.inr hz))⟩⟩
  · rintro ⟨⟨x, hx, h1⟩, ⟨y, hy, h2⟩⟩
    obtain ⟨u, hu, e⟩ := h.2 x hx y hy
    exact ⟨u, hu, fun z hz => ((e z).mp hz).elim (h1 z) (h2 z)⟩
end WS

set_option Elab.async false
set_option linter.all false
set_option maxRecDepth 100000
set_option maxHeartbeats 4000000
/-! Rules whose callee is told by the reading: calls of defs, methods, classes by what stands in the heap. -/
namespace Ew
open PySem PySem.Spec PyProof.Rows L2

/-- a def under its name keeps sp at level k -/
structure CalX (P : Program) (w : World) (K : PySem.W.Frag) (mg : Str → Option Value) (base : Heap) (k : Nat) (x : Str) (sp : Sp) : Prop where
  ex : ∃ (f : Addr) (fd : FuncData) (ps : List Str) (ds : List Value) (dvs : List V) (sp0 : Sp), FnOk P w K mg base (L2.CX P w) k f fd ps sp0 ∧ mg x = some (.ref f) ∧ PySem.W.keepIn K (.ref f) = true ∧ Binds K fd ps ds ∧ Vals dvs ds ∧
    ∀ vs H Q E, sp vs H Q E → sp0 (vs ++ dvs) H Q E
/-- a method m of the class at C keeps sp at level k -/
structure MetX (P : Program) (w : World) (K : PySem.W.Frag) (mg : Str → Option Value) (base : Heap) (k : Nat) (C : Addr) (m : Str) (sp : Sp) : Prop where
  ex : ∃ (f : Addr) (fd : FuncData) (ps : List Str) (ds : List Value) (dvs : List V) (sp0 : Sp), Cls K C ∧ Meth K C m f ∧ FnOk P w K mg base (L2.CX P w) k f fd ps sp0 ∧ Binds K fd ps ds ∧ Vals dvs ds ∧
    ∀ vs H Q E, sp vs H Q E → sp0 (vs ++ dvs) H Q E
/-- a class under its name, its __init__ keeps sp at level k -/
structure MakX (P : Program) (w : World) (K : PySem.W.Frag) (mg : Str → Option Value) (base : Heap) (k : Nat) (x : Str) (C : Addr) (sp : Sp) : Prop where
  ex : ∃ (f : Addr) (fd : FuncData) (ps : List Str) (ds : List Value) (dvs : List V) (sp0 : Sp), Mk K C f ∧ mg x = some (.ref C) ∧ FnOk P w K mg base (L2.CX P w) k f fd ps sp0 ∧ Binds K fd ps ds ∧ Vals dvs ds ∧
    ∀ vs H Q E, sp vs H Q E → sp0 (vs ++ dvs) H Q E

def tCallD (P : Program) (w : World) (K : PySem.W.Frag) (mg : Str → Option Value) (base : Heap) (j : Nat) (x : Str) (W : WX) (t : TA) : TE := fun σ H Q =>
  ∃ (k : Nat) (sp : Sp), k ≤ j ∧ CalX P w K mg base k x sp ∧ t σ H fun vs H1 => sp vs H1 Q (WE W σ)
def tMethD (P : Program) (w : World) (K : PySem.W.Frag) (mg : Str → Option Value) (base : Heap) (j : Nat) (m : Str) (W : WX) (ta : TE) (t : TA) : TE := fun σ H Q => ta σ H fun x H1 =>
  ∃ (a C dx : Addr) (fs : List (Str × V)) (k : Nat) (sp : Sp), x = .ref a ∧ H1 a = some (.ins C dx fs) ∧ fs.lookup m = none ∧ k ≤ j ∧ MetX P w K mg base k C m sp ∧ t σ H1 fun vs H2 => sp (x :: vs) H2 Q (WE W σ)
def tMakeD (P : Program) (w : World) (K : PySem.W.Frag) (mg : Str → Option Value) (base : Heap) (j : Nat) (x : Str) (W : WX) (t : TA) : TE := fun σ H Q =>
  ∃ (k : Nat) (C : Addr) (sp : Sp), k + 1 ≤ j ∧ MakX P w K mg base k x C sp ∧ t σ H fun vs H1 => ∀ y dy, H1 y = none → H1 dy = none → dy ≠ y →
    sp (.ref y :: vs) (upd (upd H1 dy (.own y)) y (.ins C dy [])) (fun v H2 => v = .non ∧ Q (.ref y) H2) (WE W σ)

section
variable {X : Cx} {j : Nat} {x m : Str} {p pos apos : Pos} {e o : Expr} {es : List Expr} {ta : TE} {t : TA} {W : WX}

theorem pd_call (hr : Room j X.A) (tk : Takes X W) (hg : Gl X x) (ha : PA X (e :: es) t)
    (hdb : (x == ("__debug__" : Str)) = false := by decide) (he : starEach (e :: es) X.env = (false, eval e X.env) :: starEach es X.env := by rfl) (hpl : (backTo pos (starEach es X.env)).any (·.1) = false := by rfl) :
    PE X (.Call (.Name x p) (e :: es) [] pos) (tCallD X.prog X.w X.K X.mg X.base j x W t) := by
  refine ⟨fun pins s σ H Q I h => ?_⟩
  obtain ⟨k, sp, hk, c, h⟩ := h
  obtain ⟨f, fd, ps, ds, dvs, sp0, F, hm, kp, b, d, imp⟩ := c.ex
  refine wpAny_Call_Name_kw (ld_glob I hg hm ?_ hdb)
  refine PySem.W.callWith_K (h₀ := X.base) I.ok.mod.kin kp (thn (ha.run pos pins s σ H _ I h) fun us s1 ⟨vs, H1, I1, r, q⟩ => ⟨I1.kIn, ?_⟩) he hpl
  exact run_fnSD (E := WE W) F (hr.mono hk) b d (passAt tk σ) I1 r (imp _ _ _ _ q)
theorem pd_call0 (hr : Room j X.A) (tk : Takes X W) (hg : Gl X x) (hdb : (x == ("__debug__" : Str)) = false := by decide) :
    PE X (.Call (.Name x p) [] [] pos) (tCallD X.prog X.w X.K X.mg X.base j x W tNil) := by
  refine ⟨fun pins s σ H Q I h => ?_⟩
  obtain ⟨k, sp, hk, c, h⟩ := h
  obtain ⟨f, fd, ps, ds, dvs, sp0, F, hm, kp, b, d, imp⟩ := c.ex
  refine wpAny_Call_Name_kw (ld_glob I hg hm ?_ hdb)
  exact PySem.W.callWith_K0 I.kIn kp (run_fnSD (us := []) (E := WE W) F (hr.mono hk) b d (passAt tk σ) I .nil (imp _ _ _ _ h))

theorem pd_meth {pl : Sem Bool} (hr : Room j X.A) (tk : Takes X W) (he : PE X o ta) (ha : PA X (e :: es) t)
    (hst : starEach (e :: es) X.env = (false, eval e X.env) :: starEach es X.env := by rfl) (hpl : (backTo pos (starEach es X.env)).any (·.1) = false := by rfl)
    (ht : eval (.Call (.Attribute o m apos) (e :: es) [] pos) X.env = (do
      let ov ← eval o X.env
      standAt apos.atName
      let (f, first) ← holding [ov] (getMethod ov m pl)
      callWith pos f first (backTo pos (starEach (e :: es) X.env)) (backToKw pos (keywordEach [] X.env))) := by rfl) :
    PE X (.Call (.Attribute o m apos) (e :: es) [] pos) (tMethD X.prog X.w X.K X.mg X.base j m W ta t) := by
  refine ⟨fun pins s σ H Q I h => ?_⟩
  refine PySem.W.methodCall_KW (pl := pl) (thn (he.run pins s σ H _ I h) fun u s1 hh => ?_) ht
  obtain ⟨x, H1, I1, rx, a, C, dx, fs, k, sp, ex, ea, l, hk, c, q⟩ := hh
  obtain ⟨f, fd, ps, ds, dvs, sp0, hc, hm, F, b, d, imp⟩ := c.ex
  subst ex
  obtain rfl : u = Value.ref a := rx
  refine getmeth_ok I1 ea hc hm l ?_
  refine PySem.W.callWith_K (first := [.ref a]) (h₀ := X.base) I.ok.mod.kin hm.kp (thn (ha.run pos pins s1 σ H1 _ I1 q) fun us s2 ⟨vs, H2, I2, r, q2⟩ => ⟨I2.kIn, ?_⟩) hst hpl
  exact run_fnSD (us := .ref a :: us) (vs := .ref a :: vs) (E := WE W) F (hr.mono hk) b d (passAt tk σ) I2 (.cons rfl r) (imp _ _ _ _ q2)
theorem pd_meth0 {pl : Sem Bool} (hr : Room j X.A) (tk : Takes X W) (he : PE X o ta)
    (ht : eval (.Call (.Attribute o m apos) [] [] pos) X.env = (do
      let ov ← eval o X.env
      standAt apos.atName
      let (f, first) ← holding [ov] (getMethod ov m pl)
      callWith pos f first (backTo pos (starEach [] X.env)) (backToKw pos (keywordEach [] X.env))) := by rfl) :
    PE X (.Call (.Attribute o m apos) [] [] pos) (tMethD X.prog X.w X.K X.mg X.base j m W ta tNil) := by
  refine ⟨fun pins s σ H Q I h => ?_⟩
  refine PySem.W.methodCall_KW (pl := pl) (thn (he.run pins s σ H _ I h) fun u s1 hh => ?_) ht
  obtain ⟨x, H1, I1, rx, a, C, dx, fs, k, sp, ex, ea, l, hk, c, q⟩ := hh
  obtain ⟨f, fd, ps, ds, dvs, sp0, hc, hm, F, b, d, imp⟩ := c.ex
  subst ex
  obtain rfl : u = Value.ref a := rx
  refine getmeth_ok I1 ea hc hm l ?_
  exact PySem.W.callWith_K0 (first := [.ref a]) I1.kIn hm.kp (run_fnSD (us := [.ref a]) (vs := [.ref a]) (E := WE W) F (hr.mono hk) b d (passAt tk σ) I1 (.cons rfl .nil) (imp _ _ _ _ q))

theorem run_makeD {pins : List (Addr × Obj)} {σ : L2.St} {H : Hp} {s : Shared} {Q : VK} {us : List Value} {vs : List V} {k : Nat} {C f : Addr} {fd : FuncData} {ps : List Str} {ds : List Value} {dvs : List V} {sp : Sp} {E : L2.St → XK}
    (M : Mk X.K C f) (F : FnOk X.prog X.w X.K X.mg X.base (L2.CX X.prog X.w) k f fd ps sp) (hr : Room (k + 1) X.A) (hb : Binds X.K fd ps ds) (hd : Vals dvs ds)
    (hx : PassesAt (L2.CX X.prog X.w) X σ (E σ)) (I : Inv X pins σ H s) (r : Vals vs us)
    (h : ∀ x dx, H x = none → H dx = none → dx ≠ x → sp (.ref x :: (vs ++ dvs)) (upd (upd H dx (.own x)) x (.ins C dx [])) (fun v H2 => v = .non ∧ Q (.ref x) H2) (E σ)) :
    wpAny (model X.prog X.w) X.A (call (.ref C) us) (EP X pins σ Q) X.xe s := by
  have hq := h (s.heap.objs.size + 1) s.heap.objs.size (I.hok.fresh (Nat.le_succ _)) (I.hok.fresh (Nat.le_refl _)) (Nat.ne_of_lt (Nat.lt_succ_self _))
  have I2 := Inv.made (C := C) I
  have r2 : Vals (V.ref (s.heap.objs.size + 1) :: (vs ++ dvs)) (Value.ref (s.heap.objs.size + 1) :: (us ++ ds)) := .cons rfl (r.append hd)
  have hl : (Value.ref (s.heap.objs.size + 1) :: us ++ ds).length = ps.length := by
    have e := r2.length
    rw [F.len _ _ _ _ hq] at e
    exact e.symm
  refine wpAny_call (make_map (f := f) I.kIn M.makes M.init (beq_iff_eq.mp M.fn) (codeAny_mono (F.run _ X.stack _ _ ⟨Value.ref (s.heap.objs.size + 1) :: us, []⟩ (Value.ref (s.heap.objs.size + 1) :: (us ++ ds)) _ _ (E σ) (hr.make C us [])
    (I2.env0.make C us []) (hb _ (Value.ref (s.heap.objs.size + 1) :: us) I2.kIn hl) r2 hq) fun r s' hq' => ?_))
  cases r with
  | error e => exact hx pins _ _ e s' I2 hq'
  | ok fl =>
    cases fl with
    | ret u =>
      obtain ⟨v, H', I3, rv, ev, q3⟩ := I2.after hq'
      subst ev
      exact ⟨rv, ⟨V.ref (s.heap.objs.size + 1), H', I3, rfl, q3⟩⟩
    | next => exact False.elim hq'
    | brk => exact False.elim hq'
    | cont => exact False.elim hq'
theorem pd_make (hr : Room j X.A) (tk : Takes X W) (hg : Gl X x) (ha : PA X (e :: es) t)
    (hdb : (x == ("__debug__" : Str)) = false := by decide) (he : starEach (e :: es) X.env = (false, eval e X.env) :: starEach es X.env := by rfl) (hpl : (backTo pos (starEach es X.env)).any (·.1) = false := by rfl) :
    PE X (.Call (.Name x p) (e :: es) [] pos) (tMakeD X.prog X.w X.K X.mg X.base j x W t) := by
  refine ⟨fun pins s σ H Q I h => ?_⟩
  obtain ⟨k, C, sp, hk, c, h⟩ := h
  obtain ⟨f, fd, ps, ds, dvs, sp0, M, hm, F, b, d, imp⟩ := c.ex
  refine wpAny_Call_Name_kw (ld_glob I hg hm ?_ hdb)
  refine PySem.W.callWith_K (h₀ := X.base) I.ok.mod.kin M.kp (thn (ha.run pos pins s σ H _ I h) fun us s1 ⟨vs, H1, I1, r, q⟩ => ⟨I1.kIn, ?_⟩) he hpl
  exact run_makeD (E := WE W) M F (hr.mono hk) b d (passAt tk σ) I1 r fun y dy h1 h2 h3 => imp _ _ _ _ (q y dy h1 h2 h3)
theorem pd_make0 (hr : Room j X.A) (tk : Takes X W) (hg : Gl X x)
    (hdb : (x == ("__debug__" : Str)) = false := by decide) :
    PE X (.Call (.Name x p) [] [] pos) (tMakeD X.prog X.w X.K X.mg X.base j x W tNil) := by
  refine ⟨fun pins s σ H Q I h => ?_⟩
  obtain ⟨k, C, sp, hk, c, h⟩ := h
  obtain ⟨f, fd, ps, ds, dvs, sp0, M, hm, F, b, d, imp⟩ := c.ex
  refine wpAny_Call_Name_kw (ld_glob I hg hm ?_ hdb)
  exact PySem.W.callWith_K0 I.kIn M.kp (run_makeD (us := []) (E := WE W) M F (hr.mono hk) b d (passAt tk σ) I .nil fun y dy h1 h2 h3 => imp _ _ _ _ (h y dy h1 h2 h3))

/-- a class that has no __init__ of its own -/
structure Mk0 (K : PySem.W.Frag) (mg : Str → Option Value) (x : Str) (C : Addr) : Prop where
  mgC : mg x = some (.ref C)
  makes : PySem.W.makesIn K C = true
  init : PySem.W.findIn K (.ref C) "__init__" = some (some (.builtin "object.__init__"))
  kp : PySem.W.keepIn K (.ref C) = true
def tNew0D (K : PySem.W.Frag) (mg : Str → Option Value) (x : Str) : TE := fun _ H Q =>
  ∃ C, Mk0 K mg x C ∧ ∀ y dy, H y = none → H dy = none → dy ≠ y → Q (.ref y) (upd (upd H dy (.own y)) y (.ins C dy []))
theorem pd_new0 (hg : Gl X x) (hdb : (x == ("__debug__" : Str)) = false := by decide) : PE X (.Call (.Name x p) [] [] pos) (tNew0D X.K X.mg x) := by
  refine ⟨fun pins s σ H Q I h => ?_⟩
  obtain ⟨C, M, h⟩ := h
  refine wpAny_Call_Name_kw (ld_glob I hg M.mgC ?_ hdb)
  have hq := h (s.heap.objs.size + 1) s.heap.objs.size (I.hok.fresh (Nat.le_succ _)) (I.hok.fresh (Nat.le_refl _)) (Nat.ne_of_lt (Nat.lt_succ_self _))
  have I2 := Inv.made (C := C) I
  refine PySem.W.callWith_K0 I.kIn M.kp ?_
  show wpAny (model X.prog X.w) X.A (call (.ref C) []) _ _ _
  have I0 := I
  obtain ⟨hh, g, d, tk, os⟩ := s
  have Y := PySem.W.makes_of (M := model X.prog X.w) I0.kIn M.makes
  refine wpAny_call (PySem.W.make_core Y (PySem.W.looks_findIn I0.kIn M.init) (fun self => PySem.W.Looks.of_pure (PySem.W.oi_bind self)) (.inr ⟨rfl, rfl⟩) ?_)
  have hx : ((hh.push PySem.W.emptyDict).push (PySem.W.instObj C hh.objs.size)).get? (hh.objs.size + 1) = some (PySem.W.instObj C hh.objs.size) := by heap_get
  have t1 : PySem.W.Looks (model X.prog X.w) ((hh.push PySem.W.emptyDict).push (PySem.W.instObj C hh.objs.size)) (typeOf (.ref (hh.objs.size + 1))) (.ref C) := (PySem.W.Looks.ld hx).andThen .now
  have t2 : PySem.W.Looks (model X.prog X.w) ((hh.push PySem.W.emptyDict).push (PySem.W.instObj C hh.objs.size)) (isInstance (.ref (hh.objs.size + 1)) (.type "object")) true := t1.andThen (Y.top.keeps fun b o e => Heap.get?_push_of_some _ (Heap.get?_push_of_some _ e))
  refine codeAny_call_builtin PySem.W.oi_plain PySem.W.entry_oi (@PySem.W.check_slot (model X.prog X.w) _ _ _ "object.__init__" "object" "__init__" (.ref (hh.objs.size + 1)) [] [] _ PySem.W.oi_kind PySem.W.oi_split t2 (PySem.W.oi_args (.ref (hh.objs.size + 1))) ?_)
  rw [PySem.W.oi_run]
  exact wpAny_pure (And.intro rfl ⟨V.ref (hh.objs.size + 1), _, I2, rfl, hq⟩)

/-- f(e, ..) by a known promise -/
def tCallF (sp : Sp) (W : WX) (t : TA) : TE := fun σ H Q => t σ H fun vs H1 => sp vs H1 Q (WE W σ)
theorem pc_call {k : Nat} {sp : Sp} (c : CalX X.prog X.w X.K X.mg X.base k x sp) (hr : Room j X.A) (hk : k ≤ j) (tk : Takes X W) (hg : Gl X x) (ha : PA X (e :: es) t)
    (hdb : (x == ("__debug__" : Str)) = false := by decide) (he : starEach (e :: es) X.env = (false, eval e X.env) :: starEach es X.env := by rfl) (hpl : (backTo pos (starEach es X.env)).any (·.1) = false := by rfl) :
    PE X (.Call (.Name x p) (e :: es) [] pos) (tCallF sp W t) :=
  ⟨fun pins s σ H Q I h => (pd_call (p := p) (pos := pos) hr tk hg ha hdb he hpl).run pins s σ H Q I ⟨k, sp, hk, c, h⟩⟩
theorem pc_call0 {k : Nat} {sp : Sp} (c : CalX X.prog X.w X.K X.mg X.base k x sp) (hr : Room j X.A) (hk : k ≤ j) (tk : Takes X W) (hg : Gl X x) (hdb : (x == ("__debug__" : Str)) = false := by decide) :
    PE X (.Call (.Name x p) [] [] pos) (tCallF sp W tNil) :=
  ⟨fun pins s σ H Q I h => (pd_call0 (p := p) (pos := pos) hr tk hg hdb).run pins s σ H Q I ⟨k, sp, hk, c, h⟩⟩
theorem pe_gint {n : Int} (hg : Gl X x) (h : ∃ t, X.mg x = some (.int n t)) (hdb : (x == ("__debug__" : Str)) = false := by decide) : PE X (.Name x pos) (tC (.int n)) := by
  obtain ⟨t, h⟩ := h
  exact pe_glob hg h ⟨t, rfl⟩ hdb
theorem pe_gcls {C : Addr} (hg : Gl X x) (h : X.mg x = some (.ref C)) (hdb : (x == ("__debug__" : Str)) = false := by decide) : PE X (.Name x pos) (tC (.ref C)) := pe_glob hg h rfl hdb

/-! ### the same rules, the written part named K (within a comprehension's block the reading must not speak of the block) -/
section
variable {K : PySem.W.Frag}
theorem kix_list (hK : X.K = K := by rfl) : IxR X (rIxL K) := hK ▸ ix_list
theorem kix_tup (hK : X.K = K := by rfl) : IxR X (rIxT K) := hK ▸ ix_tup
theorem kix_seq (hK : X.K = K := by rfl) : IxR X (rIx K) := hK ▸ ix_seq
theorem kcall_len (hK : X.K = K := by rfl) : CallR X (.builtin "len") (fun xs H Q => ∃ x n, xs = [x] ∧ LenV K x H n ∧ Q (.int n) H) := hK ▸ call_len
theorem kcall_isi (hK : X.K = K := by rfl) : CallR X (.builtin "isinstance") (rIsi K) := hK ▸ call_isi
theorem kin_seq (hK : X.K = K := by rfl) : OpR X (compareOp .In) (rIn K false) := hK ▸ op_in_seq
theorem knotIn_seq (hK : X.K = K := by rfl) : OpR X (compareOp .NotIn) (rIn K true) := hK ▸ op_notIn_seq
theorem kpe_fld {f : Str} (he : PE X e ta) (hb : attributeBase e f X.env (eval e X.env) = eval e X.env) (hK : X.K = K := by rfl) : PE X (.Attribute e f pos) (tFld K ta f) := hK ▸ pe_fld he hb
theorem kpi_list {tg l : Expr} {tl : TE} (hl : PE X l tl) (hK : X.K = K := by rfl) : PI X tg l (iList K tl) := hK ▸ pi_list hl
theorem kpi_tup {tg l : Expr} {tl : TE} (hl : PE X l tl) (hK : X.K = K := by rfl) : PI X tg l (iTup K tl) := hK ▸ pi_tup hl
end
theorem kpd_meth {P : Program} {w : World} {K : PySem.W.Frag} {mg : Str → Option Value} {base : Heap} {pl : Sem Bool} (hr : Room j X.A) (tk : Takes X W) (he : PE X o ta) (ha : PA X (e :: es) t)
    (hP : X.prog = P := by rfl) (hw : X.w = w := by rfl) (hK : X.K = K := by rfl) (hm : X.mg = mg := by rfl) (hB : X.base = base := by rfl)
    (hst : starEach (e :: es) X.env = (false, eval e X.env) :: starEach es X.env := by rfl) (hpl : (backTo pos (starEach es X.env)).any (·.1) = false := by rfl)
    (ht : eval (.Call (.Attribute o m apos) (e :: es) [] pos) X.env = (do
      let ov ← eval o X.env
      standAt apos.atName
      let (f, first) ← holding [ov] (getMethod ov m pl)
      callWith pos f first (backTo pos (starEach (e :: es) X.env)) (backToKw pos (keywordEach [] X.env))) := by rfl) :
    PE X (.Call (.Attribute o m apos) (e :: es) [] pos) (tMethD P w K mg base j m W ta t) := by
  subst hP hw hK hm hB
  exact pd_meth (pl := pl) hr tk he ha hst hpl ht
theorem kpd_meth0 {P : Program} {w : World} {K : PySem.W.Frag} {mg : Str → Option Value} {base : Heap} {pl : Sem Bool} (hr : Room j X.A) (tk : Takes X W) (he : PE X o ta)
    (hP : X.prog = P := by rfl) (hw : X.w = w := by rfl) (hK : X.K = K := by rfl) (hm : X.mg = mg := by rfl) (hB : X.base = base := by rfl)
    (ht : eval (.Call (.Attribute o m apos) [] [] pos) X.env = (do
      let ov ← eval o X.env
      standAt apos.atName
      let (f, first) ← holding [ov] (getMethod ov m pl)
      callWith pos f first (backTo pos (starEach [] X.env)) (backToKw pos (keywordEach [] X.env))) := by rfl) :
    PE X (.Call (.Attribute o m apos) [] [] pos) (tMethD P w K mg base j m W ta tNil) := by
  subst hP hw hK hm hB
  exact pd_meth0 (pl := pl) hr tk he ht

/-! ### both ways of a two-place rule -/
def rOr (r r' : R2) : R2 := fun x y H Q => r x y H Q ∨ r' x y H Q
theorem op_or2 {f : Value → Value → Sem Value} {r r' : R2} (h : OpR X f r) (h' : OpR X f r') : OpR X f (rOr r r') := OpR.or h h'
theorem call_or2 {f : Value} {r r' : List V → Hp → VK → Prop} (h : CallR X f r) (h' : CallR X f r') : CallR X f (fun xs H Q => r xs H Q ∨ r' xs H Q) := by
  intro pins s σ H xs us Q I v q
  rcases q with q | q
  · exact h pins s σ H xs us Q I v q
  · exact h' pins s σ H xs us Q I v q
/-- isinstance(e, c) of what a suite holds, its class told by the reading -/
def rIsED (K : PySem.W.Frag) (a : Addr) (cls : Value) (d : Option Addr) : List V → Hp → VK → Prop := fun xs H Q => ∃ D, cls = .ref D ∧ d = none ∧ ExcC K D ∧ rIsE K D a xs H Q
theorem call_isED {a : Addr} {oe : Obj} {pn : List (Addr × Obj)} {cls : Value} {d : Option Addr} (hz : Zc cls d oe) (hf : ∃ vs, oe.data = .fields vs) : CallR (X.suite a ((a, oe) :: pn)) (.builtin "isinstance") (rIsED X.K a cls d) := by
  intro pins s σ H xs us Q I r h
  obtain ⟨D, rfl, rfl, C, q⟩ := h
  exact call_isE C hz hf pins s σ H xs us Q I r q
/-- text * 0 or 1 -/
def rMulS : R2 := fun x y H Q => ∃ (a : Str) (b : Bool), x = .str a ∧ y = .int (if b then 1 else 0) ∧ Q (.str (if b then a else Str.empty)) H
theorem op_mulS : OpR X (binaryOp .Mult) rMulS := by
  intro pins s σ H x y v u Q I rx ry h
  obtain ⟨a, b, rfl, rfl, q⟩ := h
  obtain ⟨t, rfl⟩ := rx
  obtain ⟨t', rfl⟩ := ry
  cases b with
  | true =>
    refine SB.mul ⟨by decide, fun _ z => absurd z (by simp), fun _ z => absurd z (by simp)⟩ fun t' k => ?_
    refine ⟨.str a, H, I.tok _, ⟨t', ?_⟩, q⟩
    unfold Txt.mul
    rfl
  | false =>
    refine SB.mul ⟨by decide, fun z => absurd (show (0:Int) < 1 by decide) z, fun z => absurd (show (0:Int) < 1 by decide) z⟩ fun t' k => ?_
    refine ⟨.str Str.empty, H, I.tok _, ⟨t', ?_⟩, q⟩
    unfold Txt.mul
    rfl
end
/-! ### try: the body's and the suite's terms are given where the reading stands -/
section
variable {X : Cx} {x n : Str} {c : Value} {i : Nat} {body suite : List Stmt} {b0 : Stmt} {np pos pos' : Pos} {Wout : WX}
def tsD (X : Cx) (b0 : Stmt) (suite : List Stmt) (a : Addr) (cls : Value) (d : Option Addr) : TS := fun D σ H =>
  ∀ (oe : Obj) (pn : List (Addr × Obj)), Zc cls d oe → (∃ vs, oe.data = .fields vs) → ∃ t, PSs (X.suite a ((a, oe) :: pn)) (b0 :: suite) t ∧ t D σ H
def tbD (X : Cx) (body : List Stmt) (W : WX) : TS := fun D σ H =>
  ∀ (pn : List (Addr × Obj)) (xe : Value → Shared → Prop), Takes (X.tr pn xe) W → PassesOwn (model X.prog X.w) X.A X.env xe → ∃ t, PSs (X.tr pn xe) body t ∧ t D σ H
theorem ps_tryD (hs : X.stack = X.env :: X.outer) (hf : X.env.frame = some X.env.locals) (hN : X.N.Nodup) (hi : X.N[i]? = some n) (hln : X.env.kindOf n = some .local) (hc : Names X x c) (tk : Takes X Wout) :
    PS X (.Try body [.ExceptHandler (some (.Name x np)) (some n) (b0 :: suite) pos'] [] [] pos) (fun D σ H => tbD X body (wAs X.K c i (tsD X b0 suite) Wout D) D σ H) :=
  ps_try_as (tb := tbD X body) (ts := tsD X b0 suite) hs hf hN hi hln hc tk
    (fun _ pn xe tk1 po => ⟨fun pins s σ H D I h => let ⟨_, p, q⟩ := h pn xe tk1 po; p.run pins s σ H D I q⟩)
    (fun a oe cls d pn hz hv => ⟨fun pins s σ H D I h => let ⟨_, p, q⟩ := h oe pn hz hv; p.run pins s σ H D I q⟩)
end
/-! ### from a def's own promise -/
section
variable {P : Program} {w : World} {K : PySem.W.Frag} {mg : Str → Option Value} {base : Heap} {k : Nat} {f C : Addr} {fd : FuncData} {ps : List Str} {sp : Sp} {x m : Str}
theorem cal_mk (G : FnOk P w K mg base (L2.CX P w) k f fd ps sp) (hm : mg x = some (.ref f)) (kp : PySem.W.keepIn K (.ref f) = true) (b : Binds K fd ps []) : CalX P w K mg base k x sp :=
  ⟨f, fd, ps, [], [], sp, G, hm, kp, b, .nil, fun _ _ _ _ h => by rw [List.append_nil]; exact h⟩
theorem met_mk (c : Cls K C) (me : Meth K C m f) (G : FnOk P w K mg base (L2.CX P w) k f fd ps sp) (b : Binds K fd ps []) : MetX P w K mg base k C m sp :=
  ⟨f, fd, ps, [], [], sp, c, me, G, b, .nil, fun _ _ _ _ h => by rw [List.append_nil]; exact h⟩
theorem mak_mk (M : Mk K C f) (hm : mg x = some (.ref C)) (G : FnOk P w K mg base (L2.CX P w) k f fd ps sp) (b : Binds K fd ps []) : MakX P w K mg base k x C sp :=
  ⟨f, fd, ps, [], [], sp, M, hm, G, b, .nil, fun _ _ _ _ h => by rw [List.append_nil]; exact h⟩
theorem cal_false (hm : mg x = some (.ref f)) (kp : PySem.W.keepIn K (.ref f) = true) (b : Binds K fd ps []) : CalX P w K mg base 0 x (fun _ _ _ _ => False) :=
  cal_mk ⟨fun _ _ _ _ h => h.elim, fun _ _ _ _ _ _ _ _ _ _ _ _ _ h => h.elim⟩ hm kp b
theorem CalX.imp {sp' : Sp} (c : CalX P w K mg base k x sp) (h : ∀ vs H Q E, sp' vs H Q E → sp vs H Q E) : CalX P w K mg base k x sp' := by
  obtain ⟨f, fd, ps, ds, dvs, sp0, F, hm, kp, b, d, imp⟩ := c.ex
  exact ⟨f, fd, ps, ds, dvs, sp0, F, hm, kp, b, d, fun vs H Q E q => imp vs H Q E (h vs H Q E q)⟩
theorem MetX.imp {sp' : Sp} (c : MetX P w K mg base k C m sp) (h : ∀ vs H Q E, sp' vs H Q E → sp vs H Q E) : MetX P w K mg base k C m sp' := by
  obtain ⟨f, fd, ps, ds, dvs, sp0, F, hm, kp, b, d, imp⟩ := c.ex
  exact ⟨f, fd, ps, ds, dvs, sp0, F, hm, kp, b, d, fun vs H Q E q => imp vs H Q E (h vs H Q E q)⟩
/-- two promises of one def at once -/
theorem FnOk.or {sp' : Sp} (F : FnOk P w K mg base (L2.CX P w) k f fd ps sp) (G : FnOk P w K mg base (L2.CX P w) k f fd ps sp') : FnOk P w K mg base (L2.CX P w) k f fd ps (fun vs H Q E => sp vs H Q E ∨ sp' vs H Q E) :=
  ⟨fun vs H Q E h => h.elim (F.len vs H Q E) (G.len vs H Q E), fun A outer s H args us vs Q E hr he hb hv hs => hs.elim (F.run A outer s H args us vs Q E hr he hb hv) (G.run A outer s H args us vs Q E hr he hb hv)⟩
end
end Ew

set_option Elab.async false
set_option linter.all false
set_option maxRecDepth 100000
set_option maxHeartbeats 4000000
/-! all(.. for ..), any(.. for ..): the element is any expression that the reading serves. -/
namespace EwG
open PySem PySem.Spec PyProof.Rows L2 Ew GxR

/-- the context of a generator expression's frame -/
abbrev gx (X : Cx) (A1 : Around) (s : Shared) (H : Hp) (cenv : Env) (fp : List Addr) (pn : List (Addr × Obj)) : Cx :=
  { X with A := A1, s_0 := s, H_0 := H, env := cenv, outer := X.stack, stack := cenv :: X.stack, ex := fp, fn := fun _ => false, calm := true, pn := pn, xe := fun _ _ => False }

theorem inv_same {X : Cx} {pins : List (Addr × Obj)} {σ : L2.St} {H : Hp} {s s' : Shared} (I : Inv X pins σ H s) (hh : s'.heap = s.heap) (ho : s'.os = s.os) (hb : AllBare s'.gens) : Inv X pins σ H s' := by
  obtain ⟨h', g', d', t', o'⟩ := s'
  have e1 : h' = s.heap := hh
  have e2 : o' = s.os := ho
  subst e1 e2
  exact ⟨I.ok, I.os, hb, I.base, I.loc, I.cell, I.free, I.freeC, I.pin, I.hok, I.len⟩

section
variable {X : Cx} {pins : List (Addr × Obj)} {σ : L2.St} {H : Hp} {s : Shared}
abbrev genv (X : Cx) (scope : Scope) (C : Addr) (code : Value) : Env := genEnv scope (cloFrom X.env.cells scope.names []) C code builtinsNs X.env

theorem gen_start {scope : Scope} {own : List (Str × Nat)} {fp : List Addr} {A1 : Around} {h' : Heap} {obj : Obj} {code : Value} {m : Str → Option Value} {g' : Array GenState} {t' : Nat}
    (I : Inv X pins σ H s) (ok : BlkOk X.N X.env.scope scope own) (hcell : ∀ y ∈ scope.names, y.2 ≠ .cell) (hN : X.N.Nodup) (hfp : ∀ b ∈ fp, FpOk X pins H b ∧ b < s.heap.objs.size)
    (hA : A1.handled = none) (hfr : A1.frames = some (genv X scope s.heap.objs.size code :: X.stack)) (hn' : h'.Ns s.heap.objs.size m) (kp0 : ∀ b o, s.heap.get? b = some o → h'.get? b = some o) (hs : h'.objs.size = s.heap.objs.size + 1)
    (hob : (h'.push obj).get? h'.objs.size = some obj) (hod : ∀ v, obj.data ≠ .cell v) (hg : AllBare g') :
    Inv (gx X A1 s H (genv X scope s.heap.objs.size code) fp [(h'.objs.size, obj)]) [] (wipe σ (own.map (·.2))) H { s with heap := h'.push obj, gens := g', toks := t' } := by
  have hfree : ∀ y ∈ scope.names, y.2 = .free → ∃ c, X.env.cells.lookup y.1 = some c := fun y hy e => by
    rcases ok.free y hy e with k | k
    · exact I.ok.has _ (.inl k)
    · exact I.ok.has _ (.inr k)
  have kp : ∀ b o, s.heap.get? b = some o → (h'.push obj).get? b = some o := fun b o e => Heap.get?_push_of_some _ (kp0 b o e)
  generalize hcenv : genv X scope s.heap.objs.size code = cenv at hfr
  have hL : cenv.locals = s.heap.objs.size := by rw [← hcenv]; rfl
  have hF : cenv.frame = some cenv.locals := by rw [← hcenv]; rfl
  have hcl : cenv.cells = cloFrom X.env.cells scope.names [] := by rw [← hcenv]; rfl
  have hsc : cenv.scope = scope := by rw [← hcenv]; rfl
  have cm : ∀ {y c}, cenv.cells.lookup y = some c → X.env.cells.lookup y = some c ∧ c < s.heap.objs.size := fun {y c} hm => by
    rw [hcl] at hm
    rcases cloFrom_mem (PySem.mem_of_lookup hm) with hm | ⟨h1, rfl⟩
    · cases hm
    · obtain ⟨c, hc⟩ := hfree _ h1 rfl
      rw [hc]
      obtain ⟨w, z⟩ := I.cell _ _ hc
      exact ⟨rfl, z.lt⟩
  have look : ∀ {y}, scope.names.lookup y = some .free → ∃ c, cenv.cells.lookup y = some c ∧ X.env.cells.lookup y = some c := fun {y} hl => by
    have hy : (y, NameKind.free) ∈ scope.names := PySem.mem_of_lookup hl
    obtain ⟨c', e'⟩ := mem_lookup (cloFrom_has (cells := X.env.cells) (acc := []) hy)
    rw [← hcl] at e'
    exact ⟨c', e', (cm e').1⟩
  have okB : (gx X A1 s H cenv fp [(h'.objs.size, obj)]).Ok := by
    refine ⟨I.ok.mod, by show cenv.scope.kind = _; rw [hsc]; exact ok.kind, by show cenv.globals = _; rw [← hcenv]; exact I.ok.glob, by show cenv.builtins = _; rw [← hcenv]; rfl, by show s.heap.objs.size ≤ cenv.locals; rw [hL]; exact Nat.le_refl _,
      fun y z c e1 e2 => I.ok.inj y z c (cm e1).1 (cm e2).1, fun y hy => ?_, fun y c z e => absurd (show false = true from z) Bool.false_ne_true, fun _ => hA, hfr, .inr ⟨rfl, hF⟩, fun b hb => ⟨?_, fun y c e z => ?_⟩, I.bs, Nat.le_trans I.ok.bsz I.sz, fun b o e hb => ?_, fun b hb z => ?_, I.stack, I.stkFree⟩
    · show ∃ c, cenv.cells.lookup y = some c
      rcases hy with hy | hy
      · have hy : cenv.scope.names.lookup y = some .cell := hy
        rw [hsc] at hy
        exact absurd rfl (hcell _ (PySem.mem_of_lookup hy))
      · have hy : cenv.scope.names.lookup y = some .free := hy
        rw [hsc] at hy
        obtain ⟨c, h1, _⟩ := look hy
        exact ⟨c, h1⟩
    · show b ≠ cenv.locals
      rw [hL]; exact Nat.ne_of_lt (hfp b hb).2
    · exact (hfp b hb).1.2.2.2.2.1 y c (cm e).1 z
    · rcases (hfp b hb).1.2.2.2.1 with z | z
      · exact I.ok.noex b o e z
      · exact absurd (Nat.lt_of_lt_of_le (Heap.lt_size e) (Nat.le_trans I.ok.bsz z)) (Nat.lt_irrefl _)
    · rcases List.mem_cons.mp (I.stkSub b z) with z | z
      · exact (hfp b hb).1.2.1 z
      · exact (hfp b hb).1.2.2.1 z
  refine ⟨okB, rfl, hg, Un.kept kp, ⟨m, ?_, fun i y av e1 e2 e3 => ?_⟩, fun y c e => ?_, ?_, fun y c e => ?_, fun p hp => ?_, I.hok.kept kp, by rw [wipe_length]; exact I.len⟩
  · show Heap.Ns _ cenv.locals _
    rw [hL]
    exact hn'.push _
  · obtain ⟨e2, hne⟩ := wipe_some e2
    have hfr : scope.names.lookup y = some .free := by
      have key : ∀ k, scope.names.lookup y = some k → k = .local ∨ k = .cell → False := fun k hk hh => by
        rcases ok.own _ (PySem.mem_of_lookup hk) hh with e' | e'
        · obtain ⟨p, hp, hpy⟩ := List.mem_map.mp e'
          have e3 := ok.ix p hp
          have : p.1 = y := hpy
          rw [this] at e3
          exact hne (List.mem_map.mpr ⟨p, hp, nodup_ix hN e3 e1⟩)
        · exact e' (List.mem_of_getElem? e1)
      have e3 : Vis cenv.scope y := e3
      rw [hsc] at e3
      rcases e3 with e3 | e3 | e3
      · exact (key _ e3 (.inl rfl)).elim
      · exact (key _ e3 (.inr rfl)).elim
      · exact e3
    obtain ⟨m, hn, hl⟩ := I.loc
    have hvis : Vis X.env.scope y := (ok.free _ (PySem.mem_of_lookup hfr) rfl).elim (fun k => .inr (.inl k)) (fun k => .inr (.inr k))
    obtain ⟨w, r, q⟩ := hl i y av e1 e2 hvis
    refine ⟨w, r, .inr ⟨.inr (by show cenv.scope.names.lookup y = _; rw [hsc]; exact hfr), ?_⟩⟩
    obtain ⟨c, h1, h2⟩ := look hfr
    rcases q with ⟨k, _⟩ | ⟨_, c', e', z⟩
    · have k : X.env.scope.names.lookup y = some .local := k
      rcases ok.free _ (PySem.mem_of_lookup hfr) rfl with k' | k' <;> rw [show X.env.scope.names.lookup y = _ from k'] at k <;> cases k
    · rw [h2] at e'; cases e'
      exact ⟨c, h1, z.keeps kp⟩
  · obtain ⟨w, z⟩ := I.cell y c (cm e).1
    exact ⟨w, z.keeps kp⟩
  · show H cenv.locals = none
    rw [hL]; exact I.hok.fresh (Nat.le_refl _)
  · exact I.freeC y c (cm e).1
  · have e : p = (h'.objs.size, obj) := by
      have hp : p ∈ [(h'.objs.size, obj)] ++ [] := hp
      simpa using hp
    subst e
    have le : s.heap.objs.size ≤ h'.objs.size := by omega
    refine ⟨hob, I.hok.fresh le, ?_, fun z => ?_, hod⟩
    · show h'.objs.size ≠ cenv.locals
      rw [hL, hs]; exact Nat.succ_ne_self _
    · rcases List.mem_cons.mp (I.stkSub _ z) with z | z
      · have := I.lt
        rw [← show h'.objs.size = X.env.locals from z] at this
        exact absurd (Nat.lt_of_lt_of_le this le) (Nat.lt_irrefl _)
      · exact I.nofs le z

/-- e: the truth that goes on (all: True, any: False) -/
def GW (J : It) (g : TG) (te : TE) (vs : List Nat) (σ : L2.St) (e : Bool) (Q : VK) (W : Nat → Nat → Hp → Prop) : Prop := ∀ i m H, W i m H →
  (J.stop i H ∧ Q (.bl e) H) ∨ (J.go i H ∧ ∀ x H', J.yld i H x H' → g x (wipe σ vs) H' fun σ2 H2 => wipe σ2 vs = wipe σ vs ∧ te σ2 H2 fun y H3 => ∃ b, y = .bl b ∧ (b = e → ∃ m', m' < m ∧ W (i + 1) m' H3) ∧ (b ≠ e → Q (.bl b) H3))
abbrev GP (Y : Cx) (e : Bool) (Q : VK) : Nat → Shared → Shared → Prop := fun _ _ s => ∃ σ H, Inv Y [] σ H s ∧ Q (.bl e) H
abbrev GRn (Y : Cx) (e : Bool) (Q : VK) : GenEnd := fun n s₀ r s => r = .ok .next ∧ GP Y e Q n s₀ s
def GYp (Y : Cx) (e : Bool) (Q : VK) : Protocol := fun n s₀ v s kap => ∃ b σ H, v = .bool b ∧ Inv Y [] σ H s ∧ (b ≠ e → Q (.bl b) H) ∧ (b = e → ∀ s' : Shared, s'.heap = s.heap → s'.os = s.os → AllBare s'.gens → kap (.send .none) s')

theorem seg_loop {Y : Cx} {A2 : Around} {elt tg iter : Expr} {scope : Scope} {pos : Pos} {it : Addr} {fp : List Addr} {tn : Nat → Heap → Prop} {J : It} {g : TG} {te : TE} {vs : List Nat} {σ : L2.St} {e : Bool} {Q : VK} {W : Nat → Nat → Hp → Prop}
    (hA : Y.A = A2.over (.compLoop (.GeneratorExp elt [⟨tg, iter, [], 0⟩] scope pos) 0 (.ref it) .none Y.env) []) (hex : Y.ex = fp) (hc : Y.calm = true) (hx : Y.xe = fun _ _ => False) (hpn : ∀ b ∈ fp, ∀ p ∈ Y.pn, p.1 ≠ b) (hco : Y.env.scope.isCoroutine = false)
    (T : Turn Y.prog Y.w Y.K tg J fp it tn) (pg : PG Y tg g) (pe : PE Y elt te) (hW : GW J g te vs σ e Q W) :
    ∀ (m i n : Nat) (s₀ s : Shared) (H : Hp), m < n → Inv Y [] (wipe σ vs) H s → tn i s.heap → (∀ b ∈ fp, H b = none) → W i m H →
      Seg (model Y.prog Y.w) A2 (GRn Y e Q) (GYp Y e Q) n s₀ (.compLoop (.GeneratorExp elt [⟨tg, iter, [], 0⟩] scope pos) 0 (.ref it) .none Y.env)
        ((model Y.prog Y.w).den (.compLoop (.GeneratorExp elt [⟨tg, iter, [], 0⟩] scope pos) 0 (.ref it) .none Y.env)) [] s := by
  have stat : ∀ {σ' : L2.St} {H' : Hp} {s' : Shared}, Inv Y [] σ' H' s' → (∀ b ∈ fp, H' b = none) → ∀ b ∈ fp, FpOk Y [] H' b := fun {σ' H' s'} I' hn b hb =>
    have hb' : b ∈ Y.ex := by rw [hex]; exact hb
    ⟨hn b hb, (I'.ok.exf b hb').1, I'.ok.exfs b hb', .inl hb', fun x c e => (I'.ok.exf b hb').2 x c e, fun p hp => hpn b hb p (by simpa using hp)⟩
  intro m
  induction m using Nat.strongRecOn with
  | ind m ih =>
    intro i n s₀ s H hmn I st hn w
    show Seg _ A2 _ _ _ s₀ _ ((compTurn (.GeneratorExp elt [⟨tg, iter, [], 0⟩] scope pos) 0 (.ref it) .none Y.env).onRaise (leaving Y.env)) [] s
    rw [compTurn_gen, Sem.onRaise_eq_wrap]
    refine seg_bind_wrap (wpAny_standAt ?_)
    rcases hW i m H w with ⟨stop, q⟩ | ⟨go, step⟩
    · refine seg_bind_wrap ?_
      rw [← hA]
      refine thnF (T.done Y rfl rfl rfl hc i [] s _ H (fun _ _ => False) I (stat I hn) st stop) fun r s6 ⟨hr, I6⟩ => ?_
      subst hr
      exact seg_end (.ok .next) ⟨rfl, _, H, I6, q⟩
    · refine seg_bind_wrap ?_
      rw [← hA]
      refine thnF (T.item Y rfl rfl rfl hc i [] s _ H (fun _ _ => False) I (stat I hn) st go) fun r s6 ⟨u, hr, h6⟩ => ?_
      subst hr
      refine seg_bind_wrap ?_
      rw [← hA]
      refine thnF h6 fun _ s7 ⟨x, H7, I7, r7, y7, st7, n7⟩ => ?_
      have I7' := I7.pinned (stat I7 n7) (T.obj _ _ st7)
      refine seg_bind_wrap ?_
      rw [← hA]
      have hpg := pg.run _ s7 _ H7 x u _ I7' r7 (step x H7 y7)
      rw [hx] at hpg
      refine thnF hpg fun _ s8 ⟨σ8, H8, I8, hw8, q8⟩ => ?_
      refine seg_bind_wrap ?_
      rw [← hA]
      refine wpAny_tests_nil ?_
      simp only [if_true]
      have hy : ∀ v, yieldOut Y.env v = yieldValue v := fun v => by simp only [yieldOut, hco, Bool.false_eq_true, if_false]
      simp only [hy]
      rw [Sem.bind_eq_wrap', Sem.bind_eq_wrap', Sem.wrap_wrap, Sem.wrap_wrap]
      refine seg_wrap ?_
      rw [← hA]
      have hpe := pe.run _ s8 σ8 H8 _ I8 q8
      rw [hx] at hpe
      refine thnF hpe fun z s9 ⟨y, H9, I9, r9, b, hyb, q9⟩ => ?_
      subst hyb
      have hz : z = .bool b := r9
      subst hz
      have pin' : ∀ c ∈ fp, ∀ o, s7.heap.get? c = some o → s9.heap.get? c = some o ∧ H9 c = none := fun c hb o e =>
        let z := I9.pin (c, o) (List.mem_append_right _ (List.mem_append_right _ (mem_pinsAt hb e)))
        ⟨z.1, z.2.1⟩
      have hl : (wipe σ vs).length = σ8.length := by rw [← hw8, wipe_length]
      have I10 : Inv Y [] (wipe σ vs) H9 s9 := (I9.unpinned (pins := [])).weak hl fun j v e => by
        rw [← hw8] at e
        exact (wipe_some e).1
      obtain ⟨n', rfl⟩ : ∃ n', n = n' + 1 := ⟨n - 1, by omega⟩
      refine seg_at (seg_yield rfl rfl rfl ⟨b, _, H9, rfl, I10, q9.2, fun hb s' hh ho hg => ?_⟩)
      obtain ⟨m', hm, w'⟩ := q9.1 hb
      refine seg_again rfl (ih m' hm (i + 1) n' s' s' H9 (by omega) (inv_same I10 hh ho hg) ?_ (fun c hc => ?_) w')
      · rw [hh]
        exact T.keep _ _ _ st7 fun c hb o e => (pin' c hb o e).1
      · obtain ⟨o, e, _⟩ := T.obj _ _ st7 c hc
        exact (pin' c hc o e).2

theorem seg_start {Y : Cx} {A2 : Around} {elt tg iter : Expr} {scope : Scope} {pos : Pos} {it : Addr} {fp : List Addr} {tn : Nat → Heap → Prop} {J : It} {e : Bool} {Q : VK} {n : Nat} {s₀ s : Shared}
    (T : Turn Y.prog Y.w Y.K tg J fp it tn) (st : tn 0 s.heap)
    (loop : Seg (model Y.prog Y.w) A2 (GRn Y e Q) (GYp Y e Q) n s₀ (.compLoop (.GeneratorExp elt [⟨tg, iter, [], 0⟩] scope pos) 0 (.ref it) .none Y.env)
        ((model Y.prog Y.w).den (.compLoop (.GeneratorExp elt [⟨tg, iter, [], 0⟩] scope pos) 0 (.ref it) .none Y.env)) [] s) :
    Seg (model Y.prog Y.w) A2 (GRn Y e Q) (GYp Y e Q) n s₀ (.compStart (.GeneratorExp elt [⟨tg, iter, [], 0⟩] scope pos) 0 (.ref it) .none Y.env)
        ((model Y.prog Y.w).den (.compStart (.GeneratorExp elt [⟨tg, iter, [], 0⟩] scope pos) 0 (.ref it) .none Y.env)) [] s := by
  show Seg _ A2 _ _ _ s₀ _ ((compStart (.GeneratorExp elt [⟨tg, iter, [], 0⟩] scope pos) 0 (.ref it) .none Y.env).onRaise (leaving Y.env)) [] s
  unfold compStart
  rw [Sem.onRaise_eq_wrap]
  show Seg _ A2 _ _ _ s₀ _ ((ask >>= _).wrap _ _ _ _) [] s
  refine seg_bind_wrap (wpAny_askSetting ?_)
  split
  · exact seg_again rfl loop
  · first
      | exact seg_bind_wrap (wpAny_rule (seg_bind_wrap (wpAny_standAt (seg_bind_wrap (T.self _ 0 s _ _ st (seg_again rfl loop))))))
      | (refine seg_bind_wrap (wpAny_rule ?_); show Seg _ A2 _ _ _ s₀ _ ((standAt iter.pos >>= _).wrap _ _ _ _) [] s; exact seg_bind_wrap (wpAny_standAt (seg_bind_wrap (T.self _ 0 s _ _ st (seg_again rfl loop)))))

theorem fin_heap {Y : Cx} {σ : L2.St} {H : Hp} {s₁ : Shared} {g : Nat} {h' : Heap} (I : Inv Y [] σ H s₁) (k : ∀ b o, s₁.heap.get? b = some o → h'.get? b = some o) : Inv Y [] σ H { s₁.setGen g .finished with heap := h' } :=
  inv_same (s' := { s₁.setGen g .finished with heap := h' }) (Inv.kept (t' := s₁.toks) I k) rfl rfl (allBare_setGen I.bare rfl)

/-- one step of the walk -/
theorem next_gen {Y : Cx} {A : Around} {a : Addr} {g n : Nat} {gs : GenState} {e : Bool} {Q : VK} {s : Shared} {Qo : Option Value → Shared → Prop} {E : Value → Shared → Prop} (hh : A.handled = none) (hroom : A.depth < recursionLimit)
    (hl : s.heap.NoLimit) (hg : s.heap.IsGen a g) (hgs : s.gens[g]? = some gs) (hb : AllBare s.gens)
    (hgo : ∀ s' : Shared, s'.heap = s.heap → s'.os = s.os → AllBare s'.gens → gs.Goes (model Y.prog Y.w) A.in1 (GRn Y e Q) (GYp Y e Q) n (.send .none) s')
    (hE : ∀ σ H s', Inv Y [] σ H s' → Q (.bl e) H → Qo none s')
    (hO : ∀ b σ H s', b ≠ e → Inv Y [] σ H s' → Q (.bl b) H → Qo (some (.bool b)) s')
    (hN : ∀ n' gs' σ H s', n = n' + 1 → Inv Y [] σ H s' → s'.gens[g]? = some gs' → (∀ s'' : Shared, s''.heap = s'.heap → s''.os = s'.os → AllBare s''.gens → gs'.Goes (model Y.prog Y.w) A.in1 (GRn Y e Q) (GYp Y e Q) n' (.send .none) s'') → Qo (some (.bool e)) s') :
    wpAny (model Y.prog Y.w) A (pyNext (.ref a)) Qo E s := by
  have hgl : g < s.gens.size := by
    rcases Nat.lt_or_ge g s.gens.size with h | h
    · exact h
    · rw [Array.getElem?_eq_none h] at hgs; cases hgs
  refine GenW.wpAny_gsz (Nat.le_refl s.gens.size) ?_
  refine wpAny_pyNext_genexpQ (P := GP Y e Q) hh hl hroom hg hgs (hgo _ rfl rfl (allBare_setGen hb rfl)) (fun v s₁ gs' hbr hY => ?_) (fun s₁ hP h' hk => ?_)
  · obtain ⟨b, σ, H, rfl, I, qne, qe⟩ := hY
    intro hsz
    have hsz1 : g < s₁.gens.size := by
      rw [GenW.setGen_size] at hsz
      omega
    have I' : Inv Y [] σ H (s₁.setGen g gs') := inv_same (s' := s₁.setGen g gs') I rfl rfl (allBare_setGen I.bare hbr)
    by_cases hbe : b = e
    · subst hbe
      have k := qe rfl
      cases n with
      | zero => exact False.elim (k s₁ rfl rfl I.bare)
      | succ n' =>
        refine hN n' gs' σ H _ rfl I' (setGen_self (gs := s₁.gens[g]) (Array.getElem?_eq_getElem hsz1)) fun s'' h1 h2 h3 => ?_
        exact k s'' h1 h2 h3
    · exact hO b σ H _ hbe I' (qne hbe)
  · obtain ⟨σ, H, I, q⟩ := hP
    intro _
    exact hE σ H _ (fin_heap I hk) q

theorem drv_all {Y : Cx} {A : Around} {a : Addr} {g : Nat} {Q : VK} {R : Result → Shared → Prop} {og : Obj} (hpn : (a, og) ∈ Y.pn) (hig : ∀ h : Heap, h.get? a = some og → h.IsGen a g)
    (hh : A.in1.handled = none) (hroom : A.in1.depth < recursionLimit) (hR : ∀ b σ H s', Inv Y [] σ H s' → Q (.bl b) H → R (.ok (.ret (.bool b))) s') :
    ∀ (n : Nat) (gs : GenState) (σ : L2.St) (H : Hp) (s : Shared), Inv Y [] σ H s → s.gens[g]? = some gs →
      (∀ s' : Shared, s'.heap = s.heap → s'.os = s.os → AllBare s'.gens → gs.Goes (model Y.prog Y.w) A.in1.in1 (GRn Y true Q) (GYp Y true Q) n (.send .none) s') →
      codeAny (model Y.prog Y.w) A (.builtin "all.loop" ⟨[.ref a], []⟩) R s := by
  intro n
  induction n with
  | zero =>
    intro gs σ H s I hgs hgo
    refine codeAny_builtin F.entry_all_loop ?_
    rw [Around.under_plainId F.plain_all_loop _]
    show wpAny _ A.in1 (pyNext (.ref a) >>= _) _ _ s
    refine wpAny_bind (next_gen hh hroom I.nolimit (hig _ (I.pin _ (List.mem_append_left _ hpn)).1) hgs I.bare hgo (fun σ H s' I' q => ?_) (fun b σ H s' hb I' q => ?_) fun n' gs' σ H s' hn I' h1 h2 => absurd hn (Nat.succ_ne_zero n').symm)
    · exact wpAny_bind (wpAny_rule (wpAny_pure (hR true σ H s' I' q)))
    · have hb : b = false := by cases b <;> simp_all
      subst hb
      refine wpAny_bind (wpAny_holding (wpAny_truthy_bool ?_))
      refine wpAny_bind (wpAny_letGo ?_)
      simp only [Bool.false_eq_true, if_false]
      exact wpAny_bind (wpAny_rule (wpAny_pure (hR false σ H s' I' q)))
  | succ n ih =>
    intro gs σ H s I hgs hgo
    refine codeAny_builtin F.entry_all_loop ?_
    rw [Around.under_plainId F.plain_all_loop _]
    show wpAny _ A.in1 (pyNext (.ref a) >>= _) _ _ s
    refine wpAny_bind (next_gen hh hroom I.nolimit (hig _ (I.pin _ (List.mem_append_left _ hpn)).1) hgs I.bare hgo (fun σ H s' I' q => ?_) (fun b σ H s' hb I' q => ?_) fun n' gs' σ H s' hn I' h1 h2 => ?_)
    · exact wpAny_bind (wpAny_rule (wpAny_pure (hR true σ H s' I' q)))
    · have hb : b = false := by cases b <;> simp_all
      subst hb
      refine wpAny_bind (wpAny_holding (wpAny_truthy_bool ?_))
      refine wpAny_bind (wpAny_letGo ?_)
      simp only [Bool.false_eq_true, if_false]
      exact wpAny_bind (wpAny_rule (wpAny_pure (hR false σ H s' I' q)))
    · cases hn
      refine wpAny_bind (wpAny_holding (wpAny_truthy_bool ?_))
      refine wpAny_bind (wpAny_letGo ?_)
      simp only [if_true]
      exact wpAny_pure ⟨plainId_quiet F.plain_all_loop _, ih gs' σ H s' I' h1 h2⟩
theorem drv_any {Y : Cx} {A : Around} {a : Addr} {g : Nat} {Q : VK} {R : Result → Shared → Prop} {og : Obj} (hpn : (a, og) ∈ Y.pn) (hig : ∀ h : Heap, h.get? a = some og → h.IsGen a g)
    (hh : A.in1.handled = none) (hroom : A.in1.depth < recursionLimit) (hR : ∀ b σ H s', Inv Y [] σ H s' → Q (.bl b) H → R (.ok (.ret (.bool b))) s') :
    ∀ (n : Nat) (gs : GenState) (σ : L2.St) (H : Hp) (s : Shared), Inv Y [] σ H s → s.gens[g]? = some gs →
      (∀ s' : Shared, s'.heap = s.heap → s'.os = s.os → AllBare s'.gens → gs.Goes (model Y.prog Y.w) A.in1.in1 (GRn Y false Q) (GYp Y false Q) n (.send .none) s') →
      codeAny (model Y.prog Y.w) A (.builtin "any.loop" ⟨[.ref a], []⟩) R s := by
  intro n
  induction n with
  | zero =>
    intro gs σ H s I hgs hgo
    refine codeAny_builtin F.entry_any_loop ?_
    rw [Around.under_plainId F.plain_any_loop _]
    show wpAny _ A.in1 (pyNext (.ref a) >>= _) _ _ s
    refine wpAny_bind (next_gen hh hroom I.nolimit (hig _ (I.pin _ (List.mem_append_left _ hpn)).1) hgs I.bare hgo (fun σ H s' I' q => ?_) (fun b σ H s' hb I' q => ?_) fun n' gs' σ H s' hn I' h1 h2 => absurd hn (Nat.succ_ne_zero n').symm)
    · exact wpAny_bind (wpAny_rule (wpAny_pure (hR false σ H s' I' q)))
    · have hb : b = true := by cases b <;> simp_all
      subst hb
      refine wpAny_bind (wpAny_holding (wpAny_truthy_bool ?_))
      refine wpAny_bind (wpAny_letGo ?_)
      simp only [if_true]
      exact wpAny_bind (wpAny_rule (wpAny_pure (hR true σ H s' I' q)))
  | succ n ih =>
    intro gs σ H s I hgs hgo
    refine codeAny_builtin F.entry_any_loop ?_
    rw [Around.under_plainId F.plain_any_loop _]
    show wpAny _ A.in1 (pyNext (.ref a) >>= _) _ _ s
    refine wpAny_bind (next_gen hh hroom I.nolimit (hig _ (I.pin _ (List.mem_append_left _ hpn)).1) hgs I.bare hgo (fun σ H s' I' q => ?_) (fun b σ H s' hb I' q => ?_) fun n' gs' σ H s' hn I' h1 h2 => ?_)
    · exact wpAny_bind (wpAny_rule (wpAny_pure (hR false σ H s' I' q)))
    · have hb : b = true := by cases b <;> simp_all
      subst hb
      refine wpAny_bind (wpAny_holding (wpAny_truthy_bool ?_))
      refine wpAny_bind (wpAny_letGo ?_)
      simp only [if_true]
      exact wpAny_bind (wpAny_rule (wpAny_pure (hR true σ H s' I' q)))
    · cases hn
      refine wpAny_bind (wpAny_holding (wpAny_truthy_bool ?_))
      refine wpAny_bind (wpAny_letGo ?_)
      simp only [Bool.false_eq_true, if_false]
      exact wpAny_pure ⟨plainId_quiet F.plain_any_loop _, ih gs' σ H s' I' h1 h2⟩

/-- the around of the generator's body, of a consumer that is called at A -/
abbrev gA (A : Around) (elt tg iter : Expr) (scope : Scope) (pos : Pos) (it : Addr) (cenv : Env) : Around := A.in1.in1.over (.compLoop (.GeneratorExp elt [⟨tg, iter, [], 0⟩] scope pos) 0 (.ref it) .none cenv) []
theorem gA_room {k : Nat} {A : Around} {elt tg iter : Expr} {scope : Scope} {pos : Pos} {it : Addr} {cenv : Env} (r : Room (k + 1) A) : Room k (gA A elt tg iter scope pos it cenv) :=
  ⟨r.hd, by have := r.dp; show A.depth + 0 + 1 + 3 * k + 5 < _; omega, by have := r.un; show A.units + 1 + 1 + 0 + 3 + 16 * k + 200 < _; omega⟩
theorem gA_frames {A : Around} {elt tg iter : Expr} {scope : Scope} {pos : Pos} {it : Addr} {cenv : Env} {l : List Env} (h : A.frames = some l) : (gA A elt tg iter scope pos it cenv).frames = some (cenv :: l) := by
  show pushEnvs [cenv] (pushEnvs [] A.frames) = _
  rw [h]
  rfl

/-- the generator at a, that has not begun -/
def Ready2 (X : Cx) (pins : List (Addr × Obj)) (σ : L2.St) (e : Bool) (Q : VK) (a : Addr) (s5 : Shared) : Prop :=
  ∃ (A1 : Around) (s4 : Shared) (H4 : Hp) (cenv : Env) (fp : List Addr) (pn : List (Addr × Obj)) (og : Obj) (g : Nat) (gs : GenState) (σ' : L2.St) (H5 : Hp) (n : Nat),
    (a, og) ∈ pn ∧ (∀ h : Heap, h.get? a = some og → h.IsGen a g) ∧ Inv (gx X A1 s4 H4 cenv fp pn) [] σ' H5 s5 ∧ s5.gens[g]? = some gs ∧
    (∀ s' : Shared, s'.heap = s5.heap → s'.os = s5.os → AllBare s'.gens → gs.Goes (model X.prog X.w) X.A.in1.in1 (GRn (gx X A1 s4 H4 cenv fp pn) e Q) (GYp (gx X A1 s4 H4 cenv fp pn) e Q) n (.send .none) s') ∧
    ∀ σ' H' s', Inv (gx X A1 s4 H4 cenv fp pn) [] σ' H' s' → Inv X pins σ H' s'

/-- all(.., any(..: the reading; e: the truth that goes on -/
def tGen (e : Bool) (P : Addr) (wi : TI) (g : TG) (te : TE) (vs : List Nat) : TE := fun σ H Q => wi σ H fun J H1 => TabG H1 P ∧ ∀ H2, Tabbed P H1 H2 → ∃ W : Nat → Nat → Hp → Prop, (∃ m, W 0 m H2) ∧ GW J g te vs σ e Q W

theorem gen_make {c P : Addr} {elt tg iter : Expr} {gpos : Pos} {scope : Scope} {own : List (Str × Nat)} {wi : TI} {g : TG} {te : TE} {k : Nat} {e : Bool} {Q : VK} {Q' : Value → Shared → Prop}
    (hr : Room (k + 1) X.A) (TB : TabB X.base X.mg c P) (hcode : X.env.code = .ref c) (hN : X.N.Nodup) (ok : BlkOk X.N X.env.scope scope own) (hcell : ∀ y ∈ scope.names, y.2 ≠ .cell) (hco : scope.isCoroutine = false) (h0 : scope.names.lookup (".0" : Str) = some NameKind.local)
    (hi : PI X tg iter wi)
    (hpg : ∀ (A1 : Around) (s : Shared) (H : Hp) (C : Addr) (code : Value) (fp : List Addr) (pn : List (Addr × Obj)), PG (gx X A1 s H (genv X scope C code) fp pn) tg g)
    (hpe : ∀ (A1 : Around) (s : Shared) (H : Hp) (C : Addr) (code : Value) (fp : List Addr) (pn : List (Addr × Obj)), Room k A1 → PE (gx X A1 s H (genv X scope C code) fp pn) elt te)
    (hs : ∀ v, genFold iter X.env v = pure v) (I : Inv X pins σ H s) (h : tGen e P wi g te (own.map (·.2)) σ H Q)
    (hQ : ∀ a s5, Ready2 X pins σ e Q a s5 → Q' (.ref a) s5) :
    wpAny (model X.prog X.w) X.A (eval (.GeneratorExp elt [⟨tg, iter, [], 0⟩] scope gpos) X.env) Q' X.xe s := by
  have hfree : ∀ y ∈ scope.names, y.2 = .free → ∃ c, X.env.cells.lookup y.1 = some c := fun y hy e => by
    rcases ok.free y hy e with k | k
    · exact I.ok.has _ (.inl k)
    · exact I.ok.has _ (.inr k)
  refine wpAny_GeneratorExp_make hco (closure_ok hfree) hcell h0 ok.kind (by have := hr.dp; omega) ?_ hs
  refine thn (hi.run pins s σ H _ I h) fun xv s1 hx => thn hx fun itv s2 h2 => ?_
  obtain ⟨it, fp, tn, J, H2, e2, I2, T, st2, f2, ⟨ps, hP, ht⟩, q⟩ := h2
  subst e2
  have hPs : s2.heap.get? P = some { cls := .none, data := .fields ps } := I2.hok P _ hP
  have cd : PySem.W.CodeHd s2.heap c P := TB.code.keeps fun b u e => I2.bk b u e
  have sz : ∀ b ∈ fp, b < s2.heap.objs.size := fun b hb => by
    obtain ⟨o, e, _⟩ := T.obj _ _ st2 b hb
    exact Heap.lt_size e
  have cont : ∀ (code : Value) (h3 : Heap) (tk : Nat) (ps' : Array Value), Heap.ExtBut P s2.heap h3 → s2.heap.objs.size ≤ h3.objs.size → h3.get? P = some { cls := .none, data := .fields ps' } → (∃ more, ps' = ps ++ more) → TriplesOk ps'.toList →
      wpAny (model X.prog X.w) X.A (builtinsFor X.env.globals X.env.builtins) (fun bi s₄ =>
        ∀ h', h'.Ns s₄.heap.objs.size (fun y => if y = ".0" then some (.ref it) else none) → Heap.SameBut s₄.heap.objs.size (s₄.heap.push { cls := .type "frame", data := .dict #[] }) h' →
          Q' (.ref h'.objs.size) { s₄ with
            gens := s₄.gens.push (.fresh (.compStart (.GeneratorExp elt [⟨tg, iter, [], 0⟩] scope gpos) 0 (.ref it) .none (genEnv scope (cloFrom X.env.cells scope.names []) s₄.heap.objs.size code bi X.env))),
            toks := s₄.toks + 1 + 1 + 1,
            heap := h'.push { cls := .type "generator", data := .fields #[.int s₄.gens.size 0, .str "<genexpr>" (s₄.toks + 1), .str (X.env.qual ++ "<genexpr>") (s₄.toks + 1 + 1)] } }) X.xe { s2 with heap := h3, toks := tk } := by
    intro code h3 tk ps' hx hsz hP3 hmore ht3
    obtain ⟨bm, ob, e1, e2, e3, e4, e5, e6, e7, e8⟩ := TB.bm
    have keep3 : ∀ b u, b ≠ P → s2.heap.get? b = some u → h3.get? b = some u := fun b u hb e => hx b u hb e
    refine wpAny_builtinsFor (m := X.mg) (by rw [I2.ok.glob]; exact (I2.mod.glob.keeps I2.bk).extBut hx TB.gP) e1 e2 (keep3 _ _ e4 (I2.bk _ _ e5)) e6 e7 e8 ?_
    obtain ⟨more, em⟩ := hmore
    have I4 : Inv X pins σ (upd H2 P (.tbl (ps ++ more))) { s2 with heap := h3, toks := tk } :=
      inv_tab (more := more) (h' := h3) (g' := s2.gens) (d' := s2.drawn) (t' := tk) I2 hP keep3 (by rw [← em]; exact hP3) I2.bare
    have nP : ∀ b ∈ fp, b ≠ P := fun b hb z => by
      have := (f2 b hb).1
      rw [z, hP] at this
      cases this
    have f4 : ∀ b ∈ fp, FpOk X pins (upd H2 P (.tbl (ps ++ more))) b ∧ b < h3.objs.size := fun b hb =>
      ⟨⟨by rw [upd_ne (nP b hb)]; exact (f2 b hb).1, (f2 b hb).2⟩, Nat.lt_of_lt_of_le (sz b hb) hsz⟩
    have st4 : tn 0 h3 := T.keep _ _ _ st2 fun b hb o e => keep3 b o (nP b hb) e
    obtain ⟨W, ⟨m0, w0⟩, gw⟩ := q _ ⟨⟨ps ++ more, upd_same, by rw [← em]; exact ht3⟩, fun b hb => upd_ne hb⟩
    intro h' hn' hs'
    have hn' : h'.Ns h3.objs.size (fun y => if y = ".0" then some (.ref it) else none) := hn'
    have hs' : Heap.SameBut h3.objs.size (h3.push { cls := .type "frame", data := .dict #[] }) h' := hs'
    have hsz' : h'.objs.size = h3.objs.size + 1 := by rw [hs'.1, Heap.size_push]
    have keep' : ∀ b o, h3.get? b = some o → h'.get? b = some o := fun b o e => hs'.extBut b o (Nat.ne_of_lt (Heap.lt_size e)) (Heap.get?_push_of_some _ e)
    generalize hcenv : genv X scope h3.objs.size code = cenv
    have I5 := gen_start (A1 := gA X.A elt tg iter scope gpos it cenv) (code := code) (t' := tk + 1 + 1 + 1)
      (obj := { cls := .type "generator", data := .fields #[.int s2.gens.size 0, .str "<genexpr>" (tk + 1), .str (X.env.qual ++ "<genexpr>") (tk + 1 + 1)] })
      (g' := s2.gens.push (.fresh (.compStart (.GeneratorExp elt [⟨tg, iter, [], 0⟩] scope gpos) 0 (.ref it) .none cenv)))
      I4 ok hcell hN f4 hr.hd (by rw [hcenv]; exact gA_frames I.ok.frames) hn' keep' hsz' (Heap.get?_push_size _ rfl) (fun v z => by cases z) (I2.bare.push rfl)
    have pg := hpg (gA X.A elt tg iter scope gpos it cenv) { s2 with heap := h3, toks := tk } (upd H2 P (.tbl (ps ++ more))) h3.objs.size code fp [(h'.objs.size, { cls := .type "generator", data := .fields #[.int s2.gens.size 0, .str "<genexpr>" (tk + 1), .str (X.env.qual ++ "<genexpr>") (tk + 1 + 1)] })]
    have pe := hpe (gA X.A elt tg iter scope gpos it cenv) { s2 with heap := h3, toks := tk } (upd H2 P (.tbl (ps ++ more))) h3.objs.size code fp [(h'.objs.size, { cls := .type "generator", data := .fields #[.int s2.gens.size 0, .str "<genexpr>" (tk + 1), .str (X.env.qual ++ "<genexpr>") (tk + 1 + 1)] })] (gA_room hr)
    have I5 : Inv (gx X (gA X.A elt tg iter scope gpos it cenv) { s2 with heap := h3, toks := tk } (upd H2 P (.tbl (ps ++ more))) (genv X scope h3.objs.size code) fp [(h'.objs.size, _)]) [] (wipe σ (own.map (·.2))) _ _ := I5
    rw [hcenv] at I5 pg pe
    have hcoE : cenv.scope.isCoroutine = false := by rw [← hcenv]; exact hco
    generalize hog : ({ cls := .type "generator", data := .fields #[.int s2.gens.size 0, .str "<genexpr>" (tk + 1), .str (X.env.qual ++ "<genexpr>") (tk + 1 + 1)] } : Obj) = og at I5 pg pe
    have hig : ∀ h : Heap, h.get? h'.objs.size = some og → h.IsGen h'.objs.size s2.gens.size := fun hh e => ⟨og, _, _, e, by rw [← hog], by rw [← hog], by rw [← hog]⟩
    have mI5 : ∀ b ∈ fp, (upd H2 P (.tbl (ps ++ more))) b = none := fun b hb => (f4 b hb).1.1
    have back : ∀ σ' H' s', Inv (gx X (gA X.A elt tg iter scope gpos it cenv) { s2 with heap := h3, toks := tk } (upd H2 P (.tbl (ps ++ more))) cenv fp [(h'.objs.size, og)]) [] σ' H' s' → Inv X pins σ H' s' := fun σ' H' s' I6 =>
      I4.call' (ch := fp) I6.os I6.base I6.hok I6.bare fun b hb => ⟨(f4 b hb).1.2.2.2.1, (f4 b hb).1.2.1, (f4 b hb).1.2.2.2.2.1, (f4 b hb).1.2.2.2.2.2⟩
    have goes : ∀ s' : Shared, s'.heap = h'.push og → s'.os = s2.os → AllBare s'.gens →
        Seg (model X.prog X.w) X.A.in1.in1 (GRn (gx X (gA X.A elt tg iter scope gpos it cenv) { s2 with heap := h3, toks := tk } (upd H2 P (.tbl (ps ++ more))) cenv fp [(h'.objs.size, og)]) e Q)
          (GYp (gx X (gA X.A elt tg iter scope gpos it cenv) { s2 with heap := h3, toks := tk } (upd H2 P (.tbl (ps ++ more))) cenv fp [(h'.objs.size, og)]) e Q) (m0 + 1) s'
          (.compStart (.GeneratorExp elt [⟨tg, iter, [], 0⟩] scope gpos) 0 (.ref it) .none cenv) ((model X.prog X.w).den (.compStart (.GeneratorExp elt [⟨tg, iter, [], 0⟩] scope gpos) 0 (.ref it) .none cenv)) [] s' := fun s' hh ho hg => by
      have I6 := inv_same (s' := s') I5 hh ho hg
      have st6 : tn 0 s'.heap := by
        rw [hh]
        exact T.keep _ _ _ st4 fun b _ o e => Heap.get?_push_of_some _ (keep' b o e)
      refine seg_start (Y := gx X (gA X.A elt tg iter scope gpos it cenv) { s2 with heap := h3, toks := tk } (upd H2 P (.tbl (ps ++ more))) cenv fp [(h'.objs.size, og)]) T st6
        (seg_loop rfl rfl rfl rfl (fun b hb p hp z => ?_) hcoE T pg pe gw m0 0 (m0 + 1) s' s' _ (Nat.lt_succ_self _) I6 st6 mI5 w0)
      have hp : p ∈ [(h'.objs.size, og)] := hp
      rw [List.mem_singleton.mp hp] at z
      have z : h'.objs.size = b := z
      have h9 := (f4 b hb).2
      rw [← z, hsz'] at h9
      exact absurd h9 (Nat.not_lt.mpr (Nat.le_succ _))
    have ee : genEnv scope (cloFrom X.env.cells scope.names []) h3.objs.size code builtinsNs X.env = cenv := hcenv
    have fin := hQ h'.objs.size { s2 with heap := h'.push og, gens := s2.gens.push (.fresh (.compStart (.GeneratorExp elt [⟨tg, iter, [], 0⟩] scope gpos) 0 (.ref it) .none cenv)), toks := tk + 1 + 1 + 1 }
      ⟨gA X.A elt tg iter scope gpos it cenv, { s2 with heap := h3, toks := tk }, upd H2 P (.tbl (ps ++ more)), cenv, fp, [(h'.objs.size, og)], og, s2.gens.size, .fresh (.compStart (.GeneratorExp elt [⟨tg, iter, [], 0⟩] scope gpos) 0 (.ref it) .none cenv), wipe σ (own.map (·.2)), upd H2 P (.tbl (ps ++ more)), m0 + 1,
        List.mem_singleton.mpr rfl, hig, I5, Array.getElem?_push_size .., fun s' hh ho hg => ⟨rfl, goes s' hh ho hg⟩, back⟩
    rw [← ee] at fin
    exact fin
  cases hf : codeAmong gpos ps.toList with
  | none =>
    refine ⟨I2.nolimit, ?_⟩
    refine wpAny_genexprCodeX hcode (cd.code hPs ht) (cd.tab hPs) hf fun c' h' tk hx hge hlt hco' _ htab' _ => ?_
    obtain ⟨o1, vs, f1, tf, fl, tg, inF, tx, tt, op, _, _, _, _, _, _, _, _, _, htr, _⟩ := hco'
    exact cont _ h' tk _ hx (Nat.le_trans hge (Nat.le_of_lt hlt)) htab'.2 ⟨_, rfl⟩ htr
  | some cv =>
    refine ⟨I2.nolimit, ?_⟩
    refine wpAny_genexprCode_hit hcode (cd.code hPs ht) hf ?_
    exact cont cv s2.heap s2.toks ps (Heap.ExtBut.refl _ _) (Nat.le_refl _) hPs ⟨#[], by simp⟩ ht

theorem pe_all {c P : Addr} {elt tg iter : Expr} {p pos gpos : Pos} {scope : Scope} {own : List (Str × Nat)} {wi : TI} {g : TG} {te : TE} {k : Nat}
    (hr : Room (k + 1) X.A) (hg : Gl X "all") (hm : X.mg "all" = none) (TB : TabB X.base X.mg c P) (hcode : X.env.code = .ref c) (hN : X.N.Nodup) (ok : BlkOk X.N X.env.scope scope own) (hcell : ∀ y ∈ scope.names, y.2 ≠ .cell) (hco : scope.isCoroutine = false) (h0 : scope.names.lookup (".0" : Str) = some NameKind.local)
    (hi : PI X tg iter wi)
    (hpg : ∀ (A1 : Around) (s : Shared) (H : Hp) (C : Addr) (code : Value) (fp : List Addr) (pn : List (Addr × Obj)), PG (gx X A1 s H (genv X scope C code) fp pn) tg g)
    (hpe : ∀ (A1 : Around) (s : Shared) (H : Hp) (C : Addr) (code : Value) (fp : List Addr) (pn : List (Addr × Obj)), Room k A1 → PE (gx X A1 s H (genv X scope C code) fp pn) elt te)
    (hs : ∀ v, genFold iter X.env v = pure v := by intro _; rfl)
    (he : starEach [.GeneratorExp elt [⟨tg, iter, [], 0⟩] scope gpos] X.env = (false, eval (.GeneratorExp elt [⟨tg, iter, [], 0⟩] scope gpos) X.env) :: starEach [] X.env := by rfl) :
    PE X (.Call (.Name "all" p) [.GeneratorExp elt [⟨tg, iter, [], 0⟩] scope gpos] [] pos) (tGen true P wi g te (own.map (·.2))) := by
  refine ⟨fun pins s σ H Q I h => ?_⟩
  refine wpAny_Call_Name_kw (ld_blt I hg hm boot_all ?_)
  refine PyProof.Rows.callWith_builtin1 ?_ he (by rfl)
  rw [he]
  show wpAny _ _ (spliced ((false, eval (.GeneratorExp elt [⟨tg, iter, [], 0⟩] scope gpos) X.env) :: backTo pos (starEach [] X.env))) _ _ s
  refine Calls.spliced_cons (gen_make (e := true) (Q := Q) hr TB hcode hN ok hcell hco h0 hi hpg hpe hs I h fun a s5 hG => ?_)
  obtain ⟨A1, s4, H4, cenv, fp, pn, og, gi, gs, σ', H5, n, hpn, hig, I5, hgs, hgo, back⟩ := hG
  refine Calls.spliced_nil ?_
  refine call_function_tree F.kind_all F.plain_all F.entry_all (F.args_all1 _) ?_
  unfold Builtin.«all»
  refine wpAny_bind (m := oneArg "all" _) (wpAny_pure ?_)
  refine wpAny_bind (wpAny_pyIter_gen (hig _ (I5.pin _ (List.mem_append_left _ hpn)).1) ?_)
  refine wpAny_pure ⟨plainId_quiet F.plain_all_loop _, drv_all (Y := gx X A1 s4 H4 cenv fp pn) (A := X.A) hpn hig hr.hd (by have := hr.dp; show X.A.depth + 0 < _; omega) (fun b σ6 H6 s6 I6 q => ?_) n gs σ' H5 s5 I5 hgs hgo⟩
  exact ⟨.bl b, H6, back σ6 H6 s6 I6, rfl, q⟩
theorem pe_any {c P : Addr} {elt tg iter : Expr} {p pos gpos : Pos} {scope : Scope} {own : List (Str × Nat)} {wi : TI} {g : TG} {te : TE} {k : Nat}
    (hr : Room (k + 1) X.A) (hg : Gl X "any") (hm : X.mg "any" = none) (TB : TabB X.base X.mg c P) (hcode : X.env.code = .ref c) (hN : X.N.Nodup) (ok : BlkOk X.N X.env.scope scope own) (hcell : ∀ y ∈ scope.names, y.2 ≠ .cell) (hco : scope.isCoroutine = false) (h0 : scope.names.lookup (".0" : Str) = some NameKind.local)
    (hi : PI X tg iter wi)
    (hpg : ∀ (A1 : Around) (s : Shared) (H : Hp) (C : Addr) (code : Value) (fp : List Addr) (pn : List (Addr × Obj)), PG (gx X A1 s H (genv X scope C code) fp pn) tg g)
    (hpe : ∀ (A1 : Around) (s : Shared) (H : Hp) (C : Addr) (code : Value) (fp : List Addr) (pn : List (Addr × Obj)), Room k A1 → PE (gx X A1 s H (genv X scope C code) fp pn) elt te)
    (hs : ∀ v, genFold iter X.env v = pure v := by intro _; rfl)
    (he : starEach [.GeneratorExp elt [⟨tg, iter, [], 0⟩] scope gpos] X.env = (false, eval (.GeneratorExp elt [⟨tg, iter, [], 0⟩] scope gpos) X.env) :: starEach [] X.env := by rfl) :
    PE X (.Call (.Name "any" p) [.GeneratorExp elt [⟨tg, iter, [], 0⟩] scope gpos] [] pos) (tGen false P wi g te (own.map (·.2))) := by
  refine ⟨fun pins s σ H Q I h => ?_⟩
  refine wpAny_Call_Name_kw (ld_blt I hg hm boot_any ?_)
  refine PyProof.Rows.callWith_builtin1 ?_ he (by rfl)
  rw [he]
  show wpAny _ _ (spliced ((false, eval (.GeneratorExp elt [⟨tg, iter, [], 0⟩] scope gpos) X.env) :: backTo pos (starEach [] X.env))) _ _ s
  refine Calls.spliced_cons (gen_make (e := false) (Q := Q) hr TB hcode hN ok hcell hco h0 hi hpg hpe hs I h fun a s5 hG => ?_)
  obtain ⟨A1, s4, H4, cenv, fp, pn, og, gi, gs, σ', H5, n, hpn, hig, I5, hgs, hgo, back⟩ := hG
  refine Calls.spliced_nil ?_
  refine call_function_tree F.kind_any F.plain_any F.entry_any (F.args_any1 _) ?_
  unfold Builtin.«any»
  refine wpAny_bind (m := oneArg "any" _) (wpAny_pure ?_)
  refine wpAny_bind (wpAny_pyIter_gen (hig _ (I5.pin _ (List.mem_append_left _ hpn)).1) ?_)
  refine wpAny_pure ⟨plainId_quiet F.plain_any_loop _, drv_any (Y := gx X A1 s4 H4 cenv fp pn) (A := X.A) hpn hig hr.hd (by have := hr.dp; show X.A.depth + 0 < _; omega) (fun b σ6 H6 s6 I6 q => ?_) n gs σ' H5 s5 I5 hgs hgo⟩
  exact ⟨.bl b, H6, back σ6 H6 s6 I6, rfl, q⟩
end
end EwG

set_option Elab.async false
set_option linter.all false
set_option maxRecDepth 100000
set_option maxHeartbeats 4000000
/-! all(.. for .. for ..): two clauses. -/
namespace EwG
open PySem PySem.Spec PyProof.Rows L2 Ew GxR
open Sem (wp)

theorem eval_GE2 (elt t0 i0 t1 i1 : Expr) (scope : Scope) (pos : Pos) (env : Env) (hco : scope.isCoroutine = false) :
    eval (.GeneratorExp elt [⟨t0, i0, [], 0⟩, ⟨t1, i1, [], 0⟩] scope pos) env = (do
      let x ← eval i0 env
      standAt i0.pos
      let x ← genFold i0 env x
      let it ← holding [x] (pyIter x)
      enterFrame
      let cl ← closureFor scope env
      let code ← genexprCode env pos (env.qual ++ "<genexpr>") scope
      let bi ← builtinsFor env.globals env.builtins
      let cenv ← newFunctionEnv scope env.globals cl [(".0", it)] (env.qual ++ "<genexpr>.") none code none bi
      newGenerator (.compStart (.GeneratorExp elt [⟨t0, i0, [], 0⟩, ⟨t1, i1, [], 0⟩] scope pos) 0 it .none cenv) "<genexpr>" (env.qual ++ "<genexpr>")) := by
  rw [arm_eval_GeneratorExp]
  simp only [hco, Bool.false_eq_true, if_false]
  cases i0 <;> rfl

theorem make_GE2 {M : Model} {A : Around} {E : Value → Shared → Prop} {s : Shared} {env : Env} {elt t0 i0 t1 i1 : Expr} {scope : Scope} {cl : List (Str × Addr)} {pos : Pos} {Q : Value → Shared → Prop}
    (hco : scope.isCoroutine = false) (hclos : closureFor scope env = pure cl) (hcell : ∀ y ∈ scope.names, y.2 ≠ .cell) (h0 : scope.names.lookup (".0" : Str) = some NameKind.local) (hkind : scope.kind = .function)
    (hroom : A.depth < recursionLimit)
    (h : wpAny M A (eval i0 env) (fun xv s₁ => wpAny M A (pyIter xv) (fun it s₂ => s₂.heap.NoLimit ∧
      wpAny M A (genexprCode env pos (env.qual ++ "<genexpr>") scope) (fun code s₃ => wpAny M A (builtinsFor env.globals env.builtins) (fun bi s₄ =>
        ∀ h', h'.Ns s₄.heap.objs.size (fun y => if y = ".0" then some it else none) → Heap.SameBut s₄.heap.objs.size (s₄.heap.push { cls := .type "frame", data := .dict #[] }) h' →
          Q (.ref h'.objs.size) { s₄ with
            gens := s₄.gens.push (.fresh (.compStart (.GeneratorExp elt [⟨t0, i0, [], 0⟩, ⟨t1, i1, [], 0⟩] scope pos) 0 it .none (genEnv scope cl s₄.heap.objs.size code bi env))),
            toks := s₄.toks + 1 + 1 + 1,
            heap := h'.push { cls := .type "generator", data := .fields #[.int s₄.gens.size 0, .str "<genexpr>" (s₄.toks + 1), .str (env.qual ++ "<genexpr>") (s₄.toks + 1 + 1)] } }) E s₃) E s₂) E s₁) E s)
    (hs : ∀ x, genFold i0 env x = pure x) :
    wpAny M A (eval (.GeneratorExp elt [⟨t0, i0, [], 0⟩, ⟨t1, i1, [], 0⟩] scope pos) env) Q E s := by
  rw [eval_GE2 _ _ _ _ _ _ _ _ hco, hclos]
  refine wpAny_bind (wpAny_mono h (fun xv s₁ h₁ => ?_) fun _ _ e => e)
  refine wpAny_bind (wpAny_standAt ?_)
  refine wpAny_bind (wpAny_of_eq (hs xv) ?_)
  refine wpAny_bind (wpAny_holding (wpAny_mono h₁ (fun it s₂ h₂ => ?_) fun _ _ e => e))
  refine wpAny_bind (wpAny_enterFrame h₂.1 hroom ?_)
  refine wpAny_bind (wpAny_pure ?_)
  refine wpAny_bind (wpAny_mono h₂.2 (fun code s₃ h₃ => ?_) fun _ _ e => e)
  refine wpAny_bind (wpAny_mono h₃ (fun bi s₄ h₄ => ?_) fun _ _ e => e)
  have hbinds : ∀ y ∈ ([((".0" : Str), it)] : List (Str × Value)), scope.names.lookup y.1 = some NameKind.local := by
    intro y hy
    rcases List.mem_cons.mp hy with rfl | hy
    · exact h0
    · cases hy
  refine wpAny_bind (wpAny_newFunctionEnv hcell hbinds (fun h' hn' hs' => ?_) hkind)
  have e : (fun y : Str => ([((".0" : Str), it)] : List (Str × Value)).reverse.lookup y) = fun y : Str => if y = (".0" : Str) then some it else none := by
    funext y
    by_cases hy : y = ".0"
    · subst hy; simp
    · have : (y == (".0" : Str)) = false := by simpa using hy
      simp [List.lookup, this, hy]
  rw [e] at hn'
  simp only [newGenerator, newFields]
  refine wpAny_bind (wpAny_newGen (wpAny_bind (wpAny_mkText (wpAny_bind (wpAny_mkText (wpAny_newObj_type ?_ (by size_fits)))))))
  exact h₄ h' hn' hs'

theorem turn2_out (elt t0 i0 t1 i1 : Expr) (scope : Scope) (pos : Pos) (it acc : Value) (env : Env) :
    compTurn (.GeneratorExp elt [⟨t0, i0, [], 0⟩, ⟨t1, i1, [], 0⟩] scope pos) 0 it acc env = (do
      standAt i0.pos
      match ← pyNext it with
      | none => pure (.done .next)
      | some v =>
        letOwnedTupleGo t0 it v
        assign t0 env v
        let mut ok := true
        for c in ([] : List Expr) do
          if ok then ok ← isTrue c env (eval c env)
        if ok then
          let x ← eval i1 env
          standAt i1.pos
          let x ← foldedSetIterable i1 env x
          let _ ← runOwn (.compStart (.GeneratorExp elt [⟨t0, i0, [], 0⟩, ⟨t1, i1, [], 0⟩] scope pos) 1 (← holding [x] (pyIter x)) acc env) env
        again (.compLoop (.GeneratorExp elt [⟨t0, i0, [], 0⟩, ⟨t1, i1, [], 0⟩] scope pos) 0 it acc env)) := by rfl
theorem turn2_in (elt t0 i0 t1 i1 : Expr) (scope : Scope) (pos : Pos) (it acc : Value) (env : Env) :
    compTurn (.GeneratorExp elt [⟨t0, i0, [], 0⟩, ⟨t1, i1, [], 0⟩] scope pos) 1 it acc env = (do
      standAt i1.pos
      match ← pyNext it with
      | none => pure (.done .next)
      | some v =>
        letOwnedTupleGo t1 it v
        assign t1 env v
        let mut ok := true
        for c in ([] : List Expr) do
          if ok then ok ← isTrue c env (eval c env)
        if ok then
          (do let v ← eval elt env; standAt elt.pos; let _ ← yieldOut env v)
        again (.compLoop (.GeneratorExp elt [⟨t0, i0, [], 0⟩, ⟨t1, i1, [], 0⟩] scope pos) 1 it acc env)) := by rfl

def GW2 (J : It) (g : TG) (wi1 : TI) (g1 : TG) (te : TE) (vs vs1 : List Nat) (σ : L2.St) (e : Bool) (Q : VK) (W : Nat → Nat → Hp → Prop) : Prop := ∀ i m H, W i m H →
  (J.stop i H ∧ Q (.bl e) H) ∨ (J.go i H ∧ ∀ x H', J.yld i H x H' → g x (wipe σ vs) H' fun σ2 H2 => wipe σ2 vs = wipe σ vs ∧ wi1 σ2 H2 fun J1 H3 => ∃ W1 : Nat → Nat → Hp → Prop, (∃ k, k < m ∧ W1 0 k H3) ∧ ∀ j k H, W1 j k H →
    (J1.stop j H ∧ ∃ m', m' ≤ k ∧ m' < m ∧ W (i + 1) m' H) ∨ (J1.go j H ∧ ∀ x H', J1.yld j H x H' → g1 x (wipe σ2 vs1) H' fun σ3 H5 => wipe σ3 vs1 = wipe σ2 vs1 ∧ te σ3 H5 fun y H6 => ∃ b, y = .bl b ∧ (b = e → ∃ k', k' < k ∧ W1 (j + 1) k' H6) ∧ (b ≠ e → Q (.bl b) H6)))

section
variable {X : Cx} {pins : List (Addr × Obj)} {σ : L2.St} {H : Hp} {s : Shared}
theorem seg_in {Y : Cx} {A2 : Around} {elt t0 i0 t1 i1 : Expr} {scope : Scope} {pos : Pos} {it1 : Addr} {fp1 : List Addr} {tn1 : Nat → Heap → Prop} {J1 : It} {g1 : TG} {te : TE} {vs1 : List Nat} {σ8 : L2.St} {e : Bool} {Q : VK} {W1 : Nat → Nat → Hp → Prop} {Nx : Nat → Hp → Prop} {fs : List Frame} {pins : List (Addr × Obj)}
    (hA : Y.A = A2.over (.compLoop (.GeneratorExp elt [⟨t0, i0, [], 0⟩, ⟨t1, i1, [], 0⟩] scope pos) 1 (.ref it1) .none Y.env) fs) (hsp : splitAtGen fs = none) (hgd : fs.any Frame.guarded = false) (hc : Y.calm = true) (hx : Y.xe = fun _ _ => False) (hco : Y.env.scope.isCoroutine = false)
    (T1 : Turn Y.prog Y.w Y.K t1 J1 fp1 it1 tn1) (stat1 : ∀ {H' : Hp}, (∀ b ∈ fp1, H' b = none) → ∀ b ∈ fp1, FpOk Y pins H' b) (pg1 : PG Y t1 g1) (pe : PE Y elt te)
    (hW1 : ∀ j k H, W1 j k H → (J1.stop j H ∧ Nx k H) ∨ (J1.go j H ∧ ∀ x H', J1.yld j H x H' → g1 x (wipe σ8 vs1) H' fun σ3 H5 => wipe σ3 vs1 = wipe σ8 vs1 ∧ te σ3 H5 fun y H6 => ∃ b, y = .bl b ∧ (b = e → ∃ k', k' < k ∧ W1 (j + 1) k' H6) ∧ (b ≠ e → Q (.bl b) H6)))
    (leave : ∀ (k n : Nat) (s₀ s : Shared) (H : Hp), k < n → Inv Y pins (wipe σ8 vs1) H s → Nx k H → Seg (model Y.prog Y.w) A2 (GRn Y e Q) (GYp Y e Q) n s₀ (.compLoop (.GeneratorExp elt [⟨t0, i0, [], 0⟩, ⟨t1, i1, [], 0⟩] scope pos) 1 (.ref it1) .none Y.env) (leafOf (.ok .next)) fs s) :
    ∀ (k j n : Nat) (s₀ s : Shared) (H : Hp), k < n → Inv Y pins (wipe σ8 vs1) H s → tn1 j s.heap → (∀ b ∈ fp1, H b = none) → W1 j k H →
      Seg (model Y.prog Y.w) A2 (GRn Y e Q) (GYp Y e Q) n s₀ (.compLoop (.GeneratorExp elt [⟨t0, i0, [], 0⟩, ⟨t1, i1, [], 0⟩] scope pos) 1 (.ref it1) .none Y.env)
        ((model Y.prog Y.w).den (.compLoop (.GeneratorExp elt [⟨t0, i0, [], 0⟩, ⟨t1, i1, [], 0⟩] scope pos) 1 (.ref it1) .none Y.env)) fs s := by
  intro k
  induction k using Nat.strongRecOn with
  | ind k ih =>
    intro j n s₀ s H hkn I st hn w
    show Seg _ A2 _ _ _ s₀ _ ((compTurn (.GeneratorExp elt [⟨t0, i0, [], 0⟩, ⟨t1, i1, [], 0⟩] scope pos) 1 (.ref it1) .none Y.env).onRaise (fun x => do noteFrame x Y.env; theTreesLotGoes x)) fs s
    rw [turn2_in, Sem.onRaise_eq_wrap]
    refine seg_bind_wrap (wpAny_standAt ?_)
    rcases hW1 j k H w with ⟨stop, q⟩ | ⟨go, step⟩
    · refine seg_bind_wrap ?_
      rw [← hA]
      refine thnF (T1.done Y rfl rfl rfl hc j pins s _ H (fun _ _ => False) I (stat1 hn) st stop) fun r s6 ⟨hr, I6⟩ => ?_
      subst hr
      exact leave k n s₀ s6 H hkn I6 q
    · refine seg_bind_wrap ?_
      rw [← hA]
      refine thnF (T1.item Y rfl rfl rfl hc j pins s _ H (fun _ _ => False) I (stat1 hn) st go) fun r s6 ⟨u, hr, h6⟩ => ?_
      subst hr
      refine seg_bind_wrap ?_
      rw [← hA]
      refine thnF h6 fun _ s7 ⟨x, H7, I7, r7, y7, st7, n7⟩ => ?_
      have I7' := I7.pinned (stat1 n7) (T1.obj _ _ st7)
      refine seg_bind_wrap ?_
      rw [← hA]
      have hpg := pg1.run _ s7 _ H7 x u _ I7' r7 (step x H7 y7)
      rw [hx] at hpg
      refine thnF hpg fun _ s8 ⟨σ15, H8, I8, hw8, q8⟩ => ?_
      refine seg_bind_wrap ?_
      rw [← hA]
      refine wpAny_tests_nil ?_
      simp only [if_true]
      have hy : ∀ v, yieldOut Y.env v = yieldValue v := fun v => by simp only [yieldOut, hco, Bool.false_eq_true, if_false]
      simp only [hy]
      rw [Sem.bind_eq_wrap', Sem.bind_eq_wrap', Sem.wrap_wrap, Sem.wrap_wrap]
      refine seg_wrap ?_
      rw [← hA]
      have hpe := pe.run _ s8 σ15 H8 _ I8 q8
      rw [hx] at hpe
      refine thnF hpe fun z s9 ⟨y, H9, I9, r9, b, hyb, q9⟩ => ?_
      subst hyb
      have hz : z = .bool b := r9
      subst hz
      have pin' : ∀ c ∈ fp1, ∀ o, s7.heap.get? c = some o → s9.heap.get? c = some o ∧ H9 c = none := fun c hb o e =>
        let z := I9.pin (c, o) (List.mem_append_right _ (List.mem_append_right _ (mem_pinsAt hb e)))
        ⟨z.1, z.2.1⟩
      have hl : (wipe σ8 vs1).length = σ15.length := by rw [← hw8, wipe_length]
      have I10 : Inv Y pins (wipe σ8 vs1) H9 s9 := (I9.unpinned (pins := pins)).weak hl fun j v e => by
        rw [← hw8] at e
        exact (wipe_some e).1
      obtain ⟨n', rfl⟩ : ∃ n', n = n' + 1 := ⟨n - 1, by omega⟩
      refine seg_at (seg_yield hsp rfl hgd ⟨b, _, H9, rfl, I10.pins_of (pins' := []) (fun p hp => absurd hp (by simp)), q9.2, fun hb s' hh ho hg => ?_⟩)
      obtain ⟨k', hk, w'⟩ := q9.1 hb
      refine seg_again rfl (ih k' hk (j + 1) n' s' s' H9 (by omega) (inv_same I10 hh ho hg) ?_ (fun c hc => ?_) w')
      · rw [hh]
        exact T1.keep _ _ _ st7 fun c hb o e => (pin' c hb o e).1
      · obtain ⟨o, e, _⟩ := T1.obj _ _ st7 c hc
        exact (pin' c hc o e).2

theorem seg_loop2 {Y : Cx} {A2 : Around} {elt t0 i0 t1 i1 : Expr} {scope : Scope} {pos : Pos} {it : Addr} {fp : List Addr} {tn : Nat → Heap → Prop} {J : It} {g g1 : TG} {wi1 : TI} {te : TE} {vs vs1 : List Nat} {σ : L2.St} {e : Bool} {Q : VK} {W : Nat → Nat → Hp → Prop}
    (hA : Y.A = A2.over (.compLoop (.GeneratorExp elt [⟨t0, i0, [], 0⟩, ⟨t1, i1, [], 0⟩] scope pos) 0 (.ref it) .none Y.env) []) (hex : Y.ex = fp) (hc : Y.calm = true) (hx : Y.xe = fun _ _ => False) (hpn : ∀ b ∈ fp, ∀ p ∈ Y.pn, p.1 ≠ b) (hco : Y.env.scope.isCoroutine = false)
    (T : Turn Y.prog Y.w Y.K t0 J fp it tn) (pg : PG Y t0 g) (pi1 : PI Y t1 i1 wi1) (pg1 : PG Y t1 g1) (pe : PE Y elt te) (hs1 : ∀ x, foldedSetIterable i1 Y.env x = pure x) (hv : ∀ i ∈ vs1, i ∈ vs) (hW : GW2 J g wi1 g1 te vs vs1 σ e Q W) :
    ∀ (m i n : Nat) (s₀ s : Shared) (H : Hp), m < n → Inv Y [] (wipe σ vs) H s → tn i s.heap → (∀ b ∈ fp, H b = none) → W i m H →
      Seg (model Y.prog Y.w) A2 (GRn Y e Q) (GYp Y e Q) n s₀ (.compLoop (.GeneratorExp elt [⟨t0, i0, [], 0⟩, ⟨t1, i1, [], 0⟩] scope pos) 0 (.ref it) .none Y.env)
        ((model Y.prog Y.w).den (.compLoop (.GeneratorExp elt [⟨t0, i0, [], 0⟩, ⟨t1, i1, [], 0⟩] scope pos) 0 (.ref it) .none Y.env)) [] s := by
  have stat : ∀ {σ' : L2.St} {H' : Hp} {s' : Shared}, Inv Y [] σ' H' s' → (∀ b ∈ fp, H' b = none) → ∀ b ∈ fp, FpOk Y [] H' b := fun {σ' H' s'} I' hn b hb =>
    have hb' : b ∈ Y.ex := by rw [hex]; exact hb
    ⟨hn b hb, (I'.ok.exf b hb').1, I'.ok.exfs b hb', .inl hb', fun x c e => (I'.ok.exf b hb').2 x c e, fun p hp => hpn b hb p (by simpa using hp)⟩
  intro m
  induction m using Nat.strongRecOn with
  | ind m ih =>
    intro i n s₀ s H hmn I st hn w
    show Seg _ A2 _ _ _ s₀ _ ((compTurn (.GeneratorExp elt [⟨t0, i0, [], 0⟩, ⟨t1, i1, [], 0⟩] scope pos) 0 (.ref it) .none Y.env).onRaise (leaving Y.env)) [] s
    rw [turn2_out, Sem.onRaise_eq_wrap]
    refine seg_bind_wrap (wpAny_standAt ?_)
    rcases hW i m H w with ⟨stop, q⟩ | ⟨go, step⟩
    · refine seg_bind_wrap ?_
      rw [← hA]
      refine thnF (T.done Y rfl rfl rfl hc i [] s _ H (fun _ _ => False) I (stat I hn) st stop) fun r s6 ⟨hr, I6⟩ => ?_
      subst hr
      exact seg_end (.ok .next) ⟨rfl, _, H, I6, q⟩
    · refine seg_bind_wrap ?_
      rw [← hA]
      refine thnF (T.item Y rfl rfl rfl hc i [] s _ H (fun _ _ => False) I (stat I hn) st go) fun r s6 ⟨u, hr, h6⟩ => ?_
      subst hr
      refine seg_bind_wrap ?_
      rw [← hA]
      refine thnF h6 fun _ s7 ⟨x, H7, I7, r7, y7, st7, n7⟩ => ?_
      have I7' := I7.pinned (stat I7 n7) (T.obj _ _ st7)
      refine seg_bind_wrap ?_
      rw [← hA]
      have hpg := pg.run _ s7 _ H7 x u _ I7' r7 (step x H7 y7)
      rw [hx] at hpg
      refine thnF hpg fun _ s8 ⟨σ8, H8, I8, hw8, q8⟩ => ?_
      refine seg_bind_wrap ?_
      rw [← hA]
      refine wpAny_tests_nil ?_
      simp only [if_true]
      refine seg_bind_wrap ?_
      rw [← hA]
      have hpi := pi1.run _ s8 σ8 H8 _ I8 q8
      rw [hx] at hpi
      refine thnF hpi fun xv s9 h9 => ?_
      refine seg_bind_wrap (wpAny_standAt ?_)
      refine seg_bind_wrap (wpAny_of_eq (hs1 xv) ?_)
      refine seg_bind_wrap ?_
      rw [← hA]
      refine wpAny_holding (thnF h9 fun itv s11 h11 => ?_)
      obtain ⟨it1, fp1, tn1, J1, H11, e1, I11, T1, st11, f11, W1, ⟨k1, hk1, w1⟩, turn1⟩ := h11
      subst e1
      rw [Sem.bind_eq_wrap', Sem.wrap_wrap]
      unfold runOwn
      rw [Sem.onRaise_eq_wrap, Sem.wrap_wrap]
      have pin' : ∀ {σ' : L2.St} {H' : Hp} {s' : Shared}, Inv Y ([] ++ pinsAt fp s7.heap) σ' H' s' → ∀ c ∈ fp, ∀ o, s7.heap.get? c = some o → s'.heap.get? c = some o ∧ H' c = none := fun I' c hb o e =>
        let z := I'.pin (c, o) (List.mem_append_right _ (List.mem_append_right _ (mem_pinsAt hb e)))
        ⟨z.1, z.2.1⟩
      have hl : (wipe σ vs).length = (wipe σ8 vs1).length := by rw [← hw8, wipe_length, wipe_length]
      refine seg_call fun pc => ?_
      have hA1 : Y.A = A2.over (.compLoop (.GeneratorExp elt [⟨t0, i0, [], 0⟩, ⟨t1, i1, [], 0⟩] scope pos) 0 (.ref it) .none Y.env) [] := hA
      generalize hK : (fun r : Result => _) = kk
      have loop1 := seg_in (e := e) (Q := Q) (Nx := fun k H => ∃ m', m' ≤ k ∧ m' < m ∧ W (i + 1) m' H) (A2 := A2) (t0 := t0) (i0 := i0) (i1 := i1) (scope := scope) (pos := pos) (fs := [.ret kk none (id false) (id []) (.compLoop (.GeneratorExp elt [⟨t0, i0, [], 0⟩, ⟨t1, i1, [], 0⟩] scope pos) 0 (.ref it) .none Y.env) pc []])
        (hA.trans (GenW.over_loop (c := .compLoop (.GeneratorExp elt [⟨t0, i0, [], 0⟩, ⟨t1, i1, [], 0⟩] scope pos) 0 (.ref it) .none Y.env) rfl rfl).symm) rfl rfl hc hx hco T1 (fun hn b hb => ⟨hn b hb, (f11 b hb).2⟩) pg1 pe turn1 (fun k n s₀ s' H' hkn I' ⟨m', hm1, hm2, w'⟩ => ?_) k1 0 n s₀ s11 H11 (by omega) (I11.weak (wipe_length _ _) fun j v e => (wipe_some e).1) st11 (fun b hb => (f11 b hb).1) w1
      · show Seg _ A2 _ _ _ s₀ _ ((compStart (.GeneratorExp elt [⟨t0, i0, [], 0⟩, ⟨t1, i1, [], 0⟩] scope pos) 1 (.ref it1) .none Y.env).onRaise (fun x => do noteFrame x Y.env; standAt theWindowsPlace)) _ s11
        unfold compStart
        rw [Sem.onRaise_eq_wrap]
        show Seg _ A2 _ _ _ s₀ _ ((ask >>= _).wrap _ _ _ _) _ s11
        refine seg_bind_wrap (wpAny_askSetting ?_)
        split
        · exact seg_again rfl loop1
        · first
            | exact seg_bind_wrap (wpAny_rule (seg_bind_wrap (wpAny_standAt (seg_bind_wrap (T1.self _ 0 s11 _ _ st11 (seg_again rfl loop1))))))
            | (refine seg_bind_wrap (wpAny_rule ?_); show Seg _ A2 _ _ _ s₀ _ ((standAt i1.pos >>= _).wrap _ _ _ _) _ s11; exact seg_bind_wrap (wpAny_standAt (seg_bind_wrap (T1.self _ 0 s11 _ _ st11 (seg_again rfl loop1)))))
      · subst hK
        refine seg_leaf (.ok .next) ?_
        refine seg_again rfl (ih m' hm2 (i + 1) n s₀ s' H' (by omega) ((I'.unpinned (pins := [])).weak hl fun j v e => ?_) (T.keep _ _ _ st7 fun c hb o e => (pin' I' c hb o e).1) (fun c hc => ?_) w')
        · rw [← hw8] at e
          obtain ⟨e1, e2⟩ := wipe_some e
          rw [wipe_out fun z => e2 (hv j z)]
          exact e1
        · obtain ⟨o, e, _⟩ := T.obj _ _ st7 c hc
          exact (pin' I' c hc o e).2
theorem seg_start2 {Y : Cx} {A2 : Around} {elt t0 i0 t1 i1 : Expr} {scope : Scope} {pos : Pos} {it : Addr} {fp : List Addr} {tn : Nat → Heap → Prop} {J : It} {e : Bool} {Q : VK} {n : Nat} {s₀ s : Shared}
    (T : Turn Y.prog Y.w Y.K t0 J fp it tn) (st : tn 0 s.heap)
    (loop : Seg (model Y.prog Y.w) A2 (GRn Y e Q) (GYp Y e Q) n s₀ (.compLoop (.GeneratorExp elt [⟨t0, i0, [], 0⟩, ⟨t1, i1, [], 0⟩] scope pos) 0 (.ref it) .none Y.env)
        ((model Y.prog Y.w).den (.compLoop (.GeneratorExp elt [⟨t0, i0, [], 0⟩, ⟨t1, i1, [], 0⟩] scope pos) 0 (.ref it) .none Y.env)) [] s) :
    Seg (model Y.prog Y.w) A2 (GRn Y e Q) (GYp Y e Q) n s₀ (.compStart (.GeneratorExp elt [⟨t0, i0, [], 0⟩, ⟨t1, i1, [], 0⟩] scope pos) 0 (.ref it) .none Y.env)
        ((model Y.prog Y.w).den (.compStart (.GeneratorExp elt [⟨t0, i0, [], 0⟩, ⟨t1, i1, [], 0⟩] scope pos) 0 (.ref it) .none Y.env)) [] s := by
  show Seg _ A2 _ _ _ s₀ _ ((compStart (.GeneratorExp elt [⟨t0, i0, [], 0⟩, ⟨t1, i1, [], 0⟩] scope pos) 0 (.ref it) .none Y.env).onRaise (leaving Y.env)) [] s
  unfold compStart
  rw [Sem.onRaise_eq_wrap]
  show Seg _ A2 _ _ _ s₀ _ ((ask >>= _).wrap _ _ _ _) [] s
  refine seg_bind_wrap (wpAny_askSetting ?_)
  split
  · exact seg_again rfl loop
  · first
      | exact seg_bind_wrap (wpAny_rule (seg_bind_wrap (wpAny_standAt (seg_bind_wrap (T.self _ 0 s _ _ st (seg_again rfl loop))))))
      | (refine seg_bind_wrap (wpAny_rule ?_); show Seg _ A2 _ _ _ s₀ _ ((standAt i0.pos >>= _).wrap _ _ _ _) [] s; exact seg_bind_wrap (wpAny_standAt (seg_bind_wrap (T.self _ 0 s _ _ st (seg_again rfl loop)))))

/-- the around of the generator's body, of a consumer that is called at A -/
abbrev gB (A : Around) (elt t0 i0 t1 i1 : Expr) (scope : Scope) (pos : Pos) (it : Addr) (cenv : Env) : Around := A.in1.in1.over (.compLoop (.GeneratorExp elt [⟨t0, i0, [], 0⟩, ⟨t1, i1, [], 0⟩] scope pos) 0 (.ref it) .none cenv) []
theorem gB_room {k : Nat} {A : Around} {elt t0 i0 t1 i1 : Expr} {scope : Scope} {pos : Pos} {it : Addr} {cenv : Env} (r : Room (k + 1) A) : Room k (gB A elt t0 i0 t1 i1 scope pos it cenv) :=
  ⟨r.hd, by have := r.dp; show A.depth + 0 + 1 + 3 * k + 5 < _; omega, by have := r.un; show A.units + 1 + 1 + 0 + 3 + 16 * k + 200 < _; omega⟩
theorem gB_frames {A : Around} {elt t0 i0 t1 i1 : Expr} {scope : Scope} {pos : Pos} {it : Addr} {cenv : Env} {l : List Env} (h : A.frames = some l) : (gB A elt t0 i0 t1 i1 scope pos it cenv).frames = some (cenv :: l) := by
  show pushEnvs [cenv] (pushEnvs [] A.frames) = _
  rw [h]
  rfl

def tGen2 (e : Bool) (P : Addr) (wi : TI) (g : TG) (wi1 : TI) (g1 : TG) (te : TE) (vs vs1 : List Nat) : TE := fun σ H Q => wi σ H fun J H1 => TabG H1 P ∧ ∀ H2, Tabbed P H1 H2 → ∃ W : Nat → Nat → Hp → Prop, (∃ m, W 0 m H2) ∧ GW2 J g wi1 g1 te vs vs1 σ e Q W

theorem gen_make2 {c P : Addr} {elt t0 i0 t1 i1 : Expr} {gpos : Pos} {scope : Scope} {own : List (Str × Nat)} {wi wi1 : TI} {g g1 : TG} {vs1 : List Nat} {te : TE} {k : Nat} {e : Bool} {Q : VK} {Q' : Value → Shared → Prop}
    (hr : Room (k + 1) X.A) (TB : TabB X.base X.mg c P) (hcode : X.env.code = .ref c) (hN : X.N.Nodup) (ok : BlkOk X.N X.env.scope scope own) (hcell : ∀ y ∈ scope.names, y.2 ≠ .cell) (hco : scope.isCoroutine = false) (h0 : scope.names.lookup (".0" : Str) = some NameKind.local)
    (hi : PI X t0 i0 wi) (hv : ∀ i ∈ vs1, i ∈ own.map (·.2))
    (hpg : ∀ (A1 : Around) (s : Shared) (H : Hp) (C : Addr) (code : Value) (fp : List Addr) (pn : List (Addr × Obj)), PG (gx X A1 s H (genv X scope C code) fp pn) t0 g)
    (hpi1 : ∀ (A1 : Around) (s : Shared) (H : Hp) (C : Addr) (code : Value) (fp : List Addr) (pn : List (Addr × Obj)), Room k A1 → PI (gx X A1 s H (genv X scope C code) fp pn) t1 i1 wi1)
    (hpg1 : ∀ (A1 : Around) (s : Shared) (H : Hp) (C : Addr) (code : Value) (fp : List Addr) (pn : List (Addr × Obj)), PG (gx X A1 s H (genv X scope C code) fp pn) t1 g1)
    (hpe : ∀ (A1 : Around) (s : Shared) (H : Hp) (C : Addr) (code : Value) (fp : List Addr) (pn : List (Addr × Obj)), Room k A1 → PE (gx X A1 s H (genv X scope C code) fp pn) elt te)
    (hs : ∀ v, genFold i0 X.env v = pure v) (hs1 : ∀ env x, foldedSetIterable i1 env x = pure x) (I : Inv X pins σ H s) (h : tGen2 e P wi g wi1 g1 te (own.map (·.2)) vs1 σ H Q)
    (hQ : ∀ a s5, Ready2 X pins σ e Q a s5 → Q' (.ref a) s5) :
    wpAny (model X.prog X.w) X.A (eval (.GeneratorExp elt [⟨t0, i0, [], 0⟩, ⟨t1, i1, [], 0⟩] scope gpos) X.env) Q' X.xe s := by
  have hfree : ∀ y ∈ scope.names, y.2 = .free → ∃ c, X.env.cells.lookup y.1 = some c := fun y hy e => by
    rcases ok.free y hy e with k | k
    · exact I.ok.has _ (.inl k)
    · exact I.ok.has _ (.inr k)
  refine make_GE2 hco (closure_ok hfree) hcell h0 ok.kind (by have := hr.dp; omega) ?_ hs
  refine thn (hi.run pins s σ H _ I h) fun xv s1 hx => thn hx fun itv s2 h2 => ?_
  obtain ⟨it, fp, tn, J, H2, e2, I2, T, st2, f2, ⟨ps, hP, ht⟩, q⟩ := h2
  subst e2
  have hPs : s2.heap.get? P = some { cls := .none, data := .fields ps } := I2.hok P _ hP
  have cd : PySem.W.CodeHd s2.heap c P := TB.code.keeps fun b u e => I2.bk b u e
  have sz : ∀ b ∈ fp, b < s2.heap.objs.size := fun b hb => by
    obtain ⟨o, e, _⟩ := T.obj _ _ st2 b hb
    exact Heap.lt_size e
  have cont : ∀ (code : Value) (h3 : Heap) (tk : Nat) (ps' : Array Value), Heap.ExtBut P s2.heap h3 → s2.heap.objs.size ≤ h3.objs.size → h3.get? P = some { cls := .none, data := .fields ps' } → (∃ more, ps' = ps ++ more) → TriplesOk ps'.toList →
      wpAny (model X.prog X.w) X.A (builtinsFor X.env.globals X.env.builtins) (fun bi s₄ =>
        ∀ h', h'.Ns s₄.heap.objs.size (fun y => if y = ".0" then some (.ref it) else none) → Heap.SameBut s₄.heap.objs.size (s₄.heap.push { cls := .type "frame", data := .dict #[] }) h' →
          Q' (.ref h'.objs.size) { s₄ with
            gens := s₄.gens.push (.fresh (.compStart (.GeneratorExp elt [⟨t0, i0, [], 0⟩, ⟨t1, i1, [], 0⟩] scope gpos) 0 (.ref it) .none (genEnv scope (cloFrom X.env.cells scope.names []) s₄.heap.objs.size code bi X.env))),
            toks := s₄.toks + 1 + 1 + 1,
            heap := h'.push { cls := .type "generator", data := .fields #[.int s₄.gens.size 0, .str "<genexpr>" (s₄.toks + 1), .str (X.env.qual ++ "<genexpr>") (s₄.toks + 1 + 1)] } }) X.xe { s2 with heap := h3, toks := tk } := by
    intro code h3 tk ps' hx hsz hP3 hmore ht3
    obtain ⟨bm, ob, e1, e2, e3, e4, e5, e6, e7, e8⟩ := TB.bm
    have keep3 : ∀ b u, b ≠ P → s2.heap.get? b = some u → h3.get? b = some u := fun b u hb e => hx b u hb e
    refine wpAny_builtinsFor (m := X.mg) (by rw [I2.ok.glob]; exact (I2.mod.glob.keeps I2.bk).extBut hx TB.gP) e1 e2 (keep3 _ _ e4 (I2.bk _ _ e5)) e6 e7 e8 ?_
    obtain ⟨more, em⟩ := hmore
    have I4 : Inv X pins σ (upd H2 P (.tbl (ps ++ more))) { s2 with heap := h3, toks := tk } :=
      inv_tab (more := more) (h' := h3) (g' := s2.gens) (d' := s2.drawn) (t' := tk) I2 hP keep3 (by rw [← em]; exact hP3) I2.bare
    have nP : ∀ b ∈ fp, b ≠ P := fun b hb z => by
      have := (f2 b hb).1
      rw [z, hP] at this
      cases this
    have f4 : ∀ b ∈ fp, FpOk X pins (upd H2 P (.tbl (ps ++ more))) b ∧ b < h3.objs.size := fun b hb =>
      ⟨⟨by rw [upd_ne (nP b hb)]; exact (f2 b hb).1, (f2 b hb).2⟩, Nat.lt_of_lt_of_le (sz b hb) hsz⟩
    have st4 : tn 0 h3 := T.keep _ _ _ st2 fun b hb o e => keep3 b o (nP b hb) e
    obtain ⟨W, ⟨m0, w0⟩, gw⟩ := q _ ⟨⟨ps ++ more, upd_same, by rw [← em]; exact ht3⟩, fun b hb => upd_ne hb⟩
    intro h' hn' hs'
    have hn' : h'.Ns h3.objs.size (fun y => if y = ".0" then some (.ref it) else none) := hn'
    have hs' : Heap.SameBut h3.objs.size (h3.push { cls := .type "frame", data := .dict #[] }) h' := hs'
    have hsz' : h'.objs.size = h3.objs.size + 1 := by rw [hs'.1, Heap.size_push]
    have keep' : ∀ b o, h3.get? b = some o → h'.get? b = some o := fun b o e => hs'.extBut b o (Nat.ne_of_lt (Heap.lt_size e)) (Heap.get?_push_of_some _ e)
    generalize hcenv : genv X scope h3.objs.size code = cenv
    have I5 := gen_start (A1 := gB X.A elt t0 i0 t1 i1 scope gpos it cenv) (code := code) (t' := tk + 1 + 1 + 1)
      (obj := { cls := .type "generator", data := .fields #[.int s2.gens.size 0, .str "<genexpr>" (tk + 1), .str (X.env.qual ++ "<genexpr>") (tk + 1 + 1)] })
      (g' := s2.gens.push (.fresh (.compStart (.GeneratorExp elt [⟨t0, i0, [], 0⟩, ⟨t1, i1, [], 0⟩] scope gpos) 0 (.ref it) .none cenv)))
      I4 ok hcell hN f4 hr.hd (by rw [hcenv]; exact gB_frames I.ok.frames) hn' keep' hsz' (Heap.get?_push_size _ rfl) (fun v z => by cases z) (I2.bare.push rfl)
    have pg := hpg (gB X.A elt t0 i0 t1 i1 scope gpos it cenv) { s2 with heap := h3, toks := tk } (upd H2 P (.tbl (ps ++ more))) h3.objs.size code fp [(h'.objs.size, { cls := .type "generator", data := .fields #[.int s2.gens.size 0, .str "<genexpr>" (tk + 1), .str (X.env.qual ++ "<genexpr>") (tk + 1 + 1)] })]
    have pi1 := hpi1 (gB X.A elt t0 i0 t1 i1 scope gpos it cenv) { s2 with heap := h3, toks := tk } (upd H2 P (.tbl (ps ++ more))) h3.objs.size code fp [(h'.objs.size, { cls := .type "generator", data := .fields #[.int s2.gens.size 0, .str "<genexpr>" (tk + 1), .str (X.env.qual ++ "<genexpr>") (tk + 1 + 1)] })] (gB_room hr)
    have pg1 := hpg1 (gB X.A elt t0 i0 t1 i1 scope gpos it cenv) { s2 with heap := h3, toks := tk } (upd H2 P (.tbl (ps ++ more))) h3.objs.size code fp [(h'.objs.size, { cls := .type "generator", data := .fields #[.int s2.gens.size 0, .str "<genexpr>" (tk + 1), .str (X.env.qual ++ "<genexpr>") (tk + 1 + 1)] })]
    have pe := hpe (gB X.A elt t0 i0 t1 i1 scope gpos it cenv) { s2 with heap := h3, toks := tk } (upd H2 P (.tbl (ps ++ more))) h3.objs.size code fp [(h'.objs.size, { cls := .type "generator", data := .fields #[.int s2.gens.size 0, .str "<genexpr>" (tk + 1), .str (X.env.qual ++ "<genexpr>") (tk + 1 + 1)] })] (gB_room hr)
    have I5 : Inv (gx X (gB X.A elt t0 i0 t1 i1 scope gpos it cenv) { s2 with heap := h3, toks := tk } (upd H2 P (.tbl (ps ++ more))) (genv X scope h3.objs.size code) fp [(h'.objs.size, _)]) [] (wipe σ (own.map (·.2))) _ _ := I5
    rw [hcenv] at I5 pg pi1 pg1 pe
    have hcoE : cenv.scope.isCoroutine = false := by rw [← hcenv]; exact hco
    generalize hog : ({ cls := .type "generator", data := .fields #[.int s2.gens.size 0, .str "<genexpr>" (tk + 1), .str (X.env.qual ++ "<genexpr>") (tk + 1 + 1)] } : Obj) = og at I5 pg pi1 pg1 pe
    have hig : ∀ h : Heap, h.get? h'.objs.size = some og → h.IsGen h'.objs.size s2.gens.size := fun hh e => ⟨og, _, _, e, by rw [← hog], by rw [← hog], by rw [← hog]⟩
    have mI5 : ∀ b ∈ fp, (upd H2 P (.tbl (ps ++ more))) b = none := fun b hb => (f4 b hb).1.1
    have back : ∀ σ' H' s', Inv (gx X (gB X.A elt t0 i0 t1 i1 scope gpos it cenv) { s2 with heap := h3, toks := tk } (upd H2 P (.tbl (ps ++ more))) cenv fp [(h'.objs.size, og)]) [] σ' H' s' → Inv X pins σ H' s' := fun σ' H' s' I6 =>
      I4.call' (ch := fp) I6.os I6.base I6.hok I6.bare fun b hb => ⟨(f4 b hb).1.2.2.2.1, (f4 b hb).1.2.1, (f4 b hb).1.2.2.2.2.1, (f4 b hb).1.2.2.2.2.2⟩
    have goes : ∀ s' : Shared, s'.heap = h'.push og → s'.os = s2.os → AllBare s'.gens →
        Seg (model X.prog X.w) X.A.in1.in1 (GRn (gx X (gB X.A elt t0 i0 t1 i1 scope gpos it cenv) { s2 with heap := h3, toks := tk } (upd H2 P (.tbl (ps ++ more))) cenv fp [(h'.objs.size, og)]) e Q)
          (GYp (gx X (gB X.A elt t0 i0 t1 i1 scope gpos it cenv) { s2 with heap := h3, toks := tk } (upd H2 P (.tbl (ps ++ more))) cenv fp [(h'.objs.size, og)]) e Q) (m0 + 1) s'
          (.compStart (.GeneratorExp elt [⟨t0, i0, [], 0⟩, ⟨t1, i1, [], 0⟩] scope gpos) 0 (.ref it) .none cenv) ((model X.prog X.w).den (.compStart (.GeneratorExp elt [⟨t0, i0, [], 0⟩, ⟨t1, i1, [], 0⟩] scope gpos) 0 (.ref it) .none cenv)) [] s' := fun s' hh ho hg => by
      have I6 := inv_same (s' := s') I5 hh ho hg
      have st6 : tn 0 s'.heap := by
        rw [hh]
        exact T.keep _ _ _ st4 fun b _ o e => Heap.get?_push_of_some _ (keep' b o e)
      refine seg_start2 (Y := gx X (gB X.A elt t0 i0 t1 i1 scope gpos it cenv) { s2 with heap := h3, toks := tk } (upd H2 P (.tbl (ps ++ more))) cenv fp [(h'.objs.size, og)]) T st6
        (seg_loop2 rfl rfl rfl rfl (fun b hb p hp z => ?_) hcoE T pg pi1 pg1 pe (hs1 _) hv gw m0 0 (m0 + 1) s' s' _ (Nat.lt_succ_self _) I6 st6 mI5 w0)
      have hp : p ∈ [(h'.objs.size, og)] := hp
      rw [List.mem_singleton.mp hp] at z
      have z : h'.objs.size = b := z
      have h9 := (f4 b hb).2
      rw [← z, hsz'] at h9
      exact absurd h9 (Nat.not_lt.mpr (Nat.le_succ _))
    have ee : genEnv scope (cloFrom X.env.cells scope.names []) h3.objs.size code builtinsNs X.env = cenv := hcenv
    have fin := hQ h'.objs.size { s2 with heap := h'.push og, gens := s2.gens.push (.fresh (.compStart (.GeneratorExp elt [⟨t0, i0, [], 0⟩, ⟨t1, i1, [], 0⟩] scope gpos) 0 (.ref it) .none cenv)), toks := tk + 1 + 1 + 1 }
      ⟨gB X.A elt t0 i0 t1 i1 scope gpos it cenv, { s2 with heap := h3, toks := tk }, upd H2 P (.tbl (ps ++ more)), cenv, fp, [(h'.objs.size, og)], og, s2.gens.size, .fresh (.compStart (.GeneratorExp elt [⟨t0, i0, [], 0⟩, ⟨t1, i1, [], 0⟩] scope gpos) 0 (.ref it) .none cenv), wipe σ (own.map (·.2)), upd H2 P (.tbl (ps ++ more)), m0 + 1,
        List.mem_singleton.mpr rfl, hig, I5, Array.getElem?_push_size .., fun s' hh ho hg => ⟨rfl, goes s' hh ho hg⟩, back⟩
    rw [← ee] at fin
    exact fin
  cases hf : codeAmong gpos ps.toList with
  | none =>
    refine ⟨I2.nolimit, ?_⟩
    refine wpAny_genexprCodeX hcode (cd.code hPs ht) (cd.tab hPs) hf fun c' h' tk hx hge hlt hco' _ htab' _ => ?_
    obtain ⟨o1, vs, f1, tf, fl, tg, inF, tx, tt, op, _, _, _, _, _, _, _, _, _, htr, _⟩ := hco'
    exact cont _ h' tk _ hx (Nat.le_trans hge (Nat.le_of_lt hlt)) htab'.2 ⟨_, rfl⟩ htr
  | some cv =>
    refine ⟨I2.nolimit, ?_⟩
    refine wpAny_genexprCode_hit hcode (cd.code hPs ht) hf ?_
    exact cont cv s2.heap s2.toks ps (Heap.ExtBut.refl _ _) (Nat.le_refl _) hPs ⟨#[], by simp⟩ ht

theorem pe_all2 {c P : Addr} {elt t0 i0 t1 i1 : Expr} {p pos gpos : Pos} {scope : Scope} {own : List (Str × Nat)} {wi wi1 : TI} {g g1 : TG} {vs1 : List Nat} {te : TE} {k : Nat}
    (hr : Room (k + 1) X.A) (hg : Gl X "all") (hm : X.mg "all" = none) (TB : TabB X.base X.mg c P) (hcode : X.env.code = .ref c) (hN : X.N.Nodup) (ok : BlkOk X.N X.env.scope scope own) (hcell : ∀ y ∈ scope.names, y.2 ≠ .cell) (hco : scope.isCoroutine = false) (h0 : scope.names.lookup (".0" : Str) = some NameKind.local)
    (hi : PI X t0 i0 wi) (hv : ∀ i ∈ vs1, i ∈ own.map (·.2))
    (hpg : ∀ (A1 : Around) (s : Shared) (H : Hp) (C : Addr) (code : Value) (fp : List Addr) (pn : List (Addr × Obj)), PG (gx X A1 s H (genv X scope C code) fp pn) t0 g)
    (hpi1 : ∀ (A1 : Around) (s : Shared) (H : Hp) (C : Addr) (code : Value) (fp : List Addr) (pn : List (Addr × Obj)), Room k A1 → PI (gx X A1 s H (genv X scope C code) fp pn) t1 i1 wi1)
    (hpg1 : ∀ (A1 : Around) (s : Shared) (H : Hp) (C : Addr) (code : Value) (fp : List Addr) (pn : List (Addr × Obj)), PG (gx X A1 s H (genv X scope C code) fp pn) t1 g1)
    (hpe : ∀ (A1 : Around) (s : Shared) (H : Hp) (C : Addr) (code : Value) (fp : List Addr) (pn : List (Addr × Obj)), Room k A1 → PE (gx X A1 s H (genv X scope C code) fp pn) elt te)
    (hs : ∀ v, genFold i0 X.env v = pure v := by intro _; rfl)
    (hs1 : ∀ env x, foldedSetIterable i1 env x = pure x := by intro _ _; rfl)
    (he : starEach [.GeneratorExp elt [⟨t0, i0, [], 0⟩, ⟨t1, i1, [], 0⟩] scope gpos] X.env = (false, eval (.GeneratorExp elt [⟨t0, i0, [], 0⟩, ⟨t1, i1, [], 0⟩] scope gpos) X.env) :: starEach [] X.env := by rfl) :
    PE X (.Call (.Name "all" p) [.GeneratorExp elt [⟨t0, i0, [], 0⟩, ⟨t1, i1, [], 0⟩] scope gpos] [] pos) (tGen2 true P wi g wi1 g1 te (own.map (·.2)) vs1) := by
  refine ⟨fun pins s σ H Q I h => ?_⟩
  refine wpAny_Call_Name_kw (ld_blt I hg hm boot_all ?_)
  refine PyProof.Rows.callWith_builtin1 ?_ he (by rfl)
  rw [he]
  show wpAny _ _ (spliced ((false, eval (.GeneratorExp elt [⟨t0, i0, [], 0⟩, ⟨t1, i1, [], 0⟩] scope gpos) X.env) :: backTo pos (starEach [] X.env))) _ _ s
  refine Calls.spliced_cons (gen_make2 (e := true) (Q := Q) hr TB hcode hN ok hcell hco h0 hi hv hpg hpi1 hpg1 hpe hs hs1 I h fun a s5 hG => ?_)
  obtain ⟨A1, s4, H4, cenv, fp, pn, og, gi, gs, σ', H5, n, hpn, hig, I5, hgs, hgo, back⟩ := hG
  refine Calls.spliced_nil ?_
  refine call_function_tree F.kind_all F.plain_all F.entry_all (F.args_all1 _) ?_
  unfold Builtin.«all»
  refine wpAny_bind (m := oneArg "all" _) (wpAny_pure ?_)
  refine wpAny_bind (wpAny_pyIter_gen (hig _ (I5.pin _ (List.mem_append_left _ hpn)).1) ?_)
  refine wpAny_pure ⟨plainId_quiet F.plain_all_loop _, drv_all (Y := gx X A1 s4 H4 cenv fp pn) (A := X.A) hpn hig hr.hd (by have := hr.dp; show X.A.depth + 0 < _; omega) (fun b σ6 H6 s6 I6 q => ?_) n gs σ' H5 s5 I5 hgs hgo⟩
  exact ⟨.bl b, H6, back σ6 H6 s6 I6, rfl, q⟩
end
end EwG

set_option Elab.async false
set_option linter.all false
set_option maxRecDepth 100000
set_option maxHeartbeats 4000000
/-! Finite commutative semirings given by tables. -/
namespace SRm
structure SR (n : Nat) (p t : Nat → Nat → Nat) (o : Nat) : Prop where
  pos : 0 < n
  oo : o < n
  pc : ∀ a, a < n → ∀ b, b < n → p a b < n
  tc : ∀ a, a < n → ∀ b, b < n → t a b < n
  p0 : ∀ a, a < n → p 0 a = a
  ps : ∀ a, a < n → ∀ b, b < n → p a b = p b a
  pa : ∀ a, a < n → ∀ b, b < n → ∀ c, c < n → p a (p b c) = p (p a b) c
  t1 : ∀ a, a < n → t o a = a
  t0 : ∀ a, a < n → t 0 a = 0
  ts : ∀ a, a < n → ∀ b, b < n → t a b = t b a
  ta : ∀ a, a < n → ∀ b, b < n → ∀ c, c < n → t a (t b c) = t (t a b) c
  ds : ∀ a, a < n → ∀ b, b < n → ∀ c, c < n → t a (p b c) = p (t a b) (t a c)
abbrev SRp (n : Nat) (p t : Nat → Nat → Nat) (o : Nat) : Prop :=
  0 < n ∧ o < n ∧ (∀ a, a < n → p 0 a = a ∧ t o a = a ∧ t 0 a = 0 ∧ ∀ b, b < n → p a b < n ∧ t a b < n ∧ p a b = p b a ∧ t a b = t b a ∧ ∀ c, c < n → p a (p b c) = p (p a b) c ∧ t a (t b c) = t (t a b) c ∧ t a (p b c) = p (t a b) (t a c))
theorem SR.of {n : Nat} {p t : Nat → Nat → Nat} {o : Nat} (h : SRp n p t o) : SR n p t o where
  pos := h.1
  oo := h.2.1
  pc := fun a ha b hb => ((h.2.2 a ha).2.2.2 b hb).1
  tc := fun a ha b hb => ((h.2.2 a ha).2.2.2 b hb).2.1
  p0 := fun a ha => (h.2.2 a ha).1
  ps := fun a ha b hb => ((h.2.2 a ha).2.2.2 b hb).2.2.1
  pa := fun a ha b hb c hc => (((h.2.2 a ha).2.2.2 b hb).2.2.2.2 c hc).1
  t1 := fun a ha => (h.2.2 a ha).2.1
  t0 := fun a ha => (h.2.2 a ha).2.2.1
  ts := fun a ha b hb => ((h.2.2 a ha).2.2.2 b hb).2.2.2.1
  ta := fun a ha b hb c hc => (((h.2.2 a ha).2.2.2 b hb).2.2.2.2 c hc).2.1
  ds := fun a ha b hb c hc => (((h.2.2 a ha).2.2.2 b hb).2.2.2.2 c hc).2.2
/-- equal within the range -/
theorem SR.congr {n : Nat} {p t p' t' : Nat → Nat → Nat} {o : Nat} (h : SR n p t o) (hp : ∀ a, a < n → ∀ b, b < n → p' a b = p a b) (ht : ∀ a, a < n → ∀ b, b < n → t' a b = t a b) : SR n p' t' o := by
  refine SR.of ⟨h.pos, h.oo, fun a ha => ⟨by rw [hp _ h.pos _ ha]; exact h.p0 a ha, by rw [ht _ h.oo _ ha]; exact h.t1 a ha, by rw [ht _ h.pos _ ha]; exact h.t0 a ha, fun b hb => ?_⟩⟩
  have e1 := hp _ ha _ hb
  have e2 := hp _ hb _ ha
  have e3 := ht _ ha _ hb
  have e4 := ht _ hb _ ha
  refine ⟨by rw [e1]; exact h.pc a ha b hb, by rw [e3]; exact h.tc a ha b hb, by rw [e1, e2]; exact h.ps a ha b hb, by rw [e3, e4]; exact h.ts a ha b hb, fun c hc => ?_⟩
  have pbc := h.pc b hb c hc
  have pab := h.pc a ha b hb
  have tbc := h.tc b hb c hc
  have tab := h.tc a ha b hb
  have tac := h.tc a ha c hc
  refine ⟨?_, ?_, ?_⟩
  · rw [hp _ hb _ hc, e1, hp _ ha _ pbc, hp _ pab _ hc]; exact h.pa a ha b hb c hc
  · rw [ht _ hb _ hc, e3, ht _ ha _ tbc, ht _ tab _ hc]; exact h.ta a ha b hb c hc
  · rw [hp _ hb _ hc, e3, ht _ ha _ pbc, ht _ ha _ hc, hp _ tab _ tac]; exact h.ds a ha b hb c hc
/-- the drawn families -/
def fP (kind n : Nat) : Nat → Nat → Nat := fun a b => match kind with
  | 0 => (a + b) % n
  | 1 => min (a + b) (n - 1)
  | 2 => max a b
  | 3 => a ||| b
  | 4 => a ^^^ b
  | _ => if a * b = 0 then max a b else min a b
def fT (kind n : Nat) : Nat → Nat → Nat := fun a b => match kind with
  | 0 => (a * b) % n
  | 1 => min (a * b) (n - 1)
  | 2 => min a b
  | 3 => a &&& b
  | 4 => a &&& b
  | _ => if a * b = 0 then 0 else min (a + b - 1) (n - 1)
def fO (kind n : Nat) : Nat := match kind with
  | 0 => 1 % n
  | 1 => min 1 (n - 1)
  | 2 => n - 1
  | 3 => n - 1
  | 4 => n - 1
  | _ => 1
def SRb (n : Nat) (p t : Nat → Nat → Nat) (o : Nat) : Bool :=
  Nat.blt 0 n && Nat.blt o n && (List.range n).all fun a => p 0 a == a && t o a == a && t 0 a == 0 && (List.range n).all fun b => Nat.blt (p a b) n && Nat.blt (t a b) n && p a b == p b a && t a b == t b a &&
    (List.range n).all fun c => p a (p b c) == p (p a b) c && t a (t b c) == t (t a b) c && t a (p b c) == p (t a b) (t a c)
theorem SR.ofb {n : Nat} {p t : Nat → Nat → Nat} {o : Nat} (h : SRb n p t o = true) : SR n p t o := by
  unfold SRb at h
  simp only [Bool.and_eq_true, List.all_eq_true, List.mem_range, beq_iff_eq, Nat.blt_eq] at h
  obtain ⟨⟨h1, h2⟩, h3⟩ := h
  refine SR.of ⟨h1, h2, fun a ha => ?_⟩
  obtain ⟨⟨⟨a1, a2⟩, a3⟩, a4⟩ := h3 a ha
  refine ⟨a1, a2, a3, fun b hb => ?_⟩
  obtain ⟨⟨⟨⟨b1, b2⟩, b3⟩, b4⟩, b5⟩ := a4 b hb
  refine ⟨b1, b2, b3, b4, fun c hc => ?_⟩
  obtain ⟨⟨c1, c2⟩, c3⟩ := b5 c hc
  exact ⟨c1, c2, c3⟩
theorem sr_smallb : ((List.range 3).all fun k => (List.range 6).all fun n => SRb (n + 1) (fP k (n + 1)) (fT k (n + 1)) (fO k (n + 1))) = true := by decide +kernel
theorem sr_bitsb : ((List.range 3).all fun k => (List.range 3).all fun m => SRb (2 ^ (m + 1)) (fP (k + 3) (2 ^ (m + 1))) (fT (k + 3) (2 ^ (m + 1))) (fO (k + 3) (2 ^ (m + 1)))) = true := by decide +kernel
theorem sr_small {k n : Nat} (hk : k < 3) (h0 : 0 < n) (hn : n < 7) : SR n (fP k n) (fT k n) (fO k n) := by
  have h := sr_smallb
  simp only [List.all_eq_true, List.mem_range] at h
  have q := h k hk (n - 1) (by omega)
  rw [show n - 1 + 1 = n by omega] at q
  exact SR.ofb q
theorem sr_bits {k m : Nat} (hk : k < 3) (hm : m < 3) : SR (2 ^ (m + 1)) (fP (k + 3) (2 ^ (m + 1))) (fT (k + 3) (2 ^ (m + 1))) (fO (k + 3) (2 ^ (m + 1))) := by
  have h := sr_bitsb
  simp only [List.all_eq_true, List.mem_range] at h
  exact SR.ofb (h k hk m hm)

theorem dm {m x y : Nat} (h : y < m) : (x * m + y) / m = x ∧ (x * m + y) % m = y := by
  have hm : 0 < m := Nat.lt_of_le_of_lt (Nat.zero_le _) h
  refine ⟨?_, ?_⟩
  · rw [Nat.mul_comm, Nat.mul_add_div hm, Nat.div_eq_of_lt h]; rfl
  · rw [Nat.mul_comm, Nat.mul_add_mod, Nat.mod_eq_of_lt h]
theorem lt_mul {n m x y : Nat} (hx : x < n) (hy : y < m) : x * m + y < n * m := by
  have : (x + 1) * m ≤ n * m := Nat.mul_le_mul_right m hx
  rw [Nat.succ_mul] at this
  omega
/-- both at once -/
def pr2 (m : Nat) (f g : Nat → Nat → Nat) : Nat → Nat → Nat := fun a b => f (a / m) (b / m) * m + g (a % m) (b % m)
theorem sr_pair {n m o o' : Nat} {p t p' t' : Nat → Nat → Nat} (x : SR n p t o) (y : SR m p' t' o') : SR (n * m) (pr2 m p p') (pr2 m t t') (o * m + o') := by
  have hm := y.pos
  have dl : ∀ {a}, a < n * m → a / m < n := fun h => Nat.div_lt_of_lt_mul (by rw [Nat.mul_comm]; exact h)
  have ml : ∀ a, a % m < m := fun a => Nat.mod_lt _ hm
  have eq : ∀ a, a / m * m + a % m = a := fun a => by rw [Nat.mul_comm]; exact Nat.div_add_mod a m
  have z : 0 / m = 0 ∧ 0 % m = 0 := ⟨Nat.zero_div _, Nat.zero_mod _⟩
  refine SR.of ⟨Nat.mul_pos x.pos hm, lt_mul x.oo y.oo, fun a ha => ⟨?_, ?_, ?_, fun b hb => ⟨?_, ?_, ?_, ?_, fun c hc => ⟨?_, ?_, ?_⟩⟩⟩⟩
  · unfold pr2; rw [z.1, z.2, x.p0 _ (dl ha), y.p0 _ (ml a), eq]
  · unfold pr2; rw [(dm y.oo).1, (dm y.oo).2, x.t1 _ (dl ha), y.t1 _ (ml a), eq]
  · unfold pr2; rw [z.1, z.2, x.t0 _ (dl ha), y.t0 _ (ml a)]; simp
  · exact lt_mul (x.pc _ (dl ha) _ (dl hb)) (y.pc _ (ml a) _ (ml b))
  · exact lt_mul (x.tc _ (dl ha) _ (dl hb)) (y.tc _ (ml a) _ (ml b))
  · unfold pr2; rw [x.ps _ (dl ha) _ (dl hb), y.ps _ (ml a) _ (ml b)]
  · unfold pr2; rw [x.ts _ (dl ha) _ (dl hb), y.ts _ (ml a) _ (ml b)]
  · unfold pr2
    rw [(dm (y.pc _ (ml b) _ (ml c))).1, (dm (y.pc _ (ml b) _ (ml c))).2, (dm (y.pc _ (ml a) _ (ml b))).1, (dm (y.pc _ (ml a) _ (ml b))).2, x.pa _ (dl ha) _ (dl hb) _ (dl hc), y.pa _ (ml a) _ (ml b) _ (ml c)]
  · unfold pr2
    rw [(dm (y.tc _ (ml b) _ (ml c))).1, (dm (y.tc _ (ml b) _ (ml c))).2, (dm (y.tc _ (ml a) _ (ml b))).1, (dm (y.tc _ (ml a) _ (ml b))).2, x.ta _ (dl ha) _ (dl hb) _ (dl hc), y.ta _ (ml a) _ (ml b) _ (ml c)]
  · unfold pr2
    rw [(dm (y.pc _ (ml b) _ (ml c))).1, (dm (y.pc _ (ml b) _ (ml c))).2, (dm (y.tc _ (ml a) _ (ml b))).1, (dm (y.tc _ (ml a) _ (ml b))).2, (dm (y.tc _ (ml a) _ (ml c))).1, (dm (y.tc _ (ml a) _ (ml c))).2, x.ds _ (dl ha) _ (dl hb) _ (dl hc), y.ds _ (ml a) _ (ml b) _ (ml c)]
/-- renamed by s, back by b -/
theorem sr_ren {n o : Nat} {p t : Nat → Nat → Nat} {s b : Nat → Nat} (x : SR n p t o) (hs : ∀ i, i < n → s i < n) (hb : ∀ i, i < n → b i < n) (sb : ∀ i, i < n → s (b i) = i) (bs : ∀ i, i < n → b (s i) = i) (s0 : s 0 = 0) :
    SR n (fun i j => s (p (b i) (b j))) (fun i j => s (t (b i) (b j))) (s o) := by
  have b0 : b 0 = 0 := by have := bs 0 x.pos; rw [s0] at this; exact this
  refine SR.of ⟨x.pos, hs _ x.oo, fun i hi => ⟨?_, ?_, ?_, fun j hj => ⟨?_, ?_, ?_, ?_, fun k hk => ⟨?_, ?_, ?_⟩⟩⟩⟩
  · show s (p (b 0) (b i)) = i
    rw [b0, x.p0 _ (hb i hi), sb i hi]
  · show s (t (b (s o)) (b i)) = i
    rw [bs _ x.oo, x.t1 _ (hb i hi), sb i hi]
  · show s (t (b 0) (b i)) = 0
    rw [b0, x.t0 _ (hb i hi), s0]
  · exact hs _ (x.pc _ (hb i hi) _ (hb j hj))
  · exact hs _ (x.tc _ (hb i hi) _ (hb j hj))
  · show s (p (b i) (b j)) = s (p (b j) (b i))
    rw [x.ps _ (hb i hi) _ (hb j hj)]
  · show s (t (b i) (b j)) = s (t (b j) (b i))
    rw [x.ts _ (hb i hi) _ (hb j hj)]
  · show s (p (b i) (b (s (p (b j) (b k))))) = s (p (b (s (p (b i) (b j)))) (b k))
    rw [bs _ (x.pc _ (hb j hj) _ (hb k hk)), bs _ (x.pc _ (hb i hi) _ (hb j hj)), x.pa _ (hb i hi) _ (hb j hj) _ (hb k hk)]
  · show s (t (b i) (b (s (t (b j) (b k))))) = s (t (b (s (t (b i) (b j)))) (b k))
    rw [bs _ (x.tc _ (hb j hj) _ (hb k hk)), bs _ (x.tc _ (hb i hi) _ (hb j hj)), x.ta _ (hb i hi) _ (hb j hj) _ (hb k hk)]
  · show s (t (b i) (b (s (p (b j) (b k))))) = s (p (b (s (t (b i) (b j)))) (b (s (t (b i) (b k)))))
    rw [bs _ (x.pc _ (hb j hj) _ (hb k hk)), bs _ (x.tc _ (hb i hi) _ (hb j hj)), bs _ (x.tc _ (hb i hi) _ (hb k hk)), x.ds _ (hb i hi) _ (hb j hj) _ (hb k hk)]
end SRm

set_option Elab.async false
set_option linter.all false
set_option maxRecDepth 100000
set_option maxHeartbeats 4000000
/-! Readings of comprehensions and loops over tables. -/
namespace Tb
open PySem PySem.Spec PyProof.Rows L2 Ew EwG GxR

theorem yes_then {σ : L2.St} {H : Hp} {Q : Bool → Hp → Prop} (q : Q true H) : tYes σ H Q := q
/-- all but what stands at a is as it was -/
def But (a : Addr) (H H' : Hp) : Prop := ∀ b o, b ≠ a → H b = some o → H' b = some o
theorem but_app {D : Addr} {H : Hp} {o : HO} : But D H (upd H D o) := fun b u n e => by rw [upd_ne n]; exact e
theorem But.of {D : Addr} {H H' : Hp} (s : Same H H') : But D H H' := fun b o _ e => s b o e
theorem But.trans {D : Addr} {H H' H'' : Hp} (x : But D H H') (y : But D H' H'') : But D H H'' := fun b o n e => y b o n (x b o n e)
theorem same_but {D : Addr} {H1 H H' : Hp} (hD : H1 D = none) (s : Same H1 H) (b : But D H H') : Same H1 H' := fun c o e => b c o (ne_of_none e hD) (s c o e)
theorem same_new {p : Addr} {H H1 : Hp} {o : HO} (x : Same H H1) (h : H p = none) : Same H (L2.upd H1 p o) := fun b u e => by rw [upd_ne (ne_of_none e h)]; exact x b u e
theorem ext_of {xs : List V} {n : Nat} {f : Nat → V} (hl : xs.length = n) (h : ∀ (i : Nat) v, xs[i]? = some v → v = f i) : xs = (List.range n).map f := by
  refine List.ext_getElem? fun i => ?_
  rw [List.getElem?_map]
  by_cases c : i < n
  · have e : (List.range n)[i]? = some i := by rw [List.getElem?_eq_getElem (by simpa using c), List.getElem_range]
    rw [e]
    obtain ⟨v, hv⟩ : ∃ v, xs[i]? = some v := ⟨_, List.getElem?_eq_getElem (by omega)⟩
    rw [hv, h i v hv]
    rfl
  · rw [List.getElem?_eq_none (by omega), List.getElem?_eq_none (by simpa using c)]
    rfl
theorem at_map {n i : Nat} {f : Nat → V} (h : i < n) : ((List.range n).map f)[i]? = some (f i) := by
  rw [List.getElem?_map, List.getElem?_eq_getElem (by simpa using h), List.getElem_range]
  rfl

/-- [e for x in range(lo, lo + n)]: the heap grows; each element satisfies R -/
theorem lc_rng {lo : Int} {n k : Nat} {te : TE} {vs : List Nat} {σ : L2.St} {H1 : Hp} {D : Addr} {Qd : Hp → Prop} (R : Nat → V → Hp → Prop) (hD : H1 D = none)
    (NR : ∀ i v H H', But D H H' → R i v H → R i v H') (hn : n ≤ 100000) (hw : ∀ x, wipe ((wipe σ vs).set k (some x)) vs = wipe σ vs)
    (hs : ∀ (i : Nat) (H : Hp) (acc : List V) (Kt : VK), i < n → Same H1 H → H D = some (.lst acc) → (∀ y H4, Same H H4 → R i y H4 → Kt y H4) → te ((wipe σ vs).set k (some (.int (lo + i)))) H Kt)
    (hd : ∀ H rows, Same H1 H → H D = some (.lst rows) → rows.length = n → (∀ (i : Nat) v, rows[i]? = some v → R i v H) → Qd H) :
    ∃ W : Nat → Nat → Hp → Prop, (∃ m, W 0 m (upd H1 D (.lst []))) ∧ ∀ i m H, W i m H →
      ((Itr lo n).stop i H ∧ Qd H) ∨ ((Itr lo n).go i H ∧ ∃ Nx : Hp → Prop, (∀ H', Nx H' → ∃ m', m' < m ∧ W (i + 1) m' H') ∧ ∀ x H', (Itr lo n).yld i H x H' → gName k x (wipe σ vs) H' fun σ2 H2 => wipe σ2 vs = wipe σ vs ∧ tYes σ2 H2 fun b H3 =>
        if b = true then te σ2 H3 fun y H4 => ∃ acc, H4 D = some (.lst acc) ∧ acc.length < sizeLine ∧ Nx (upd H4 D (.lst (acc ++ [y]))) else Nx H3) := by
  refine lc_range (fun i H => Same H1 H ∧ ∃ rows, H D = some (.lst rows) ∧ rows.length = i ∧ ∀ (j : Nat) v, rows[j]? = some v → R j v H) ⟨same_new (Same.refl _) hD, [], upd_same, rfl, fun j v e => by simp at e⟩ (fun i H hi ⟨s1, rows, e1, e2, e3⟩ => ?_) (fun H ⟨s1, rows, e1, e2, e3⟩ => hd H rows s1 e1 e2 e3)
  refine ⟨hw _, ?_⟩
  refine yes_then ?_
  refine iteT ?_
  refine hs i H rows _ hi s1 e1 fun y H4 s4 r4 => ⟨rows, s4 _ _ e1, ?_, same_but hD (fun b o e => s4 b o (s1 b o e)) but_app, rows ++ [y], upd_same, by rw [List.length_append, e2]; rfl, fun j v e => ?_⟩
  · rw [e2]
    exact Nat.lt_of_lt_of_le hi (Nat.le_trans hn (by decide))
  · by_cases c : j < rows.length
    · rw [List.getElem?_append_left c] at e
      exact NR _ _ _ _ (But.trans (But.of s4) but_app) (e3 j v e)
    · rw [List.getElem?_append_right (by omega)] at e
      have hj : j = i := by
        have : j - rows.length < [y].length := by
          rcases Nat.lt_or_ge (j - rows.length) [y].length with h | h
          · exact h
          · rw [List.getElem?_eq_none h] at e; cases e
        have h1 : [y].length = 1 := rfl
        omega
      subst hj
      rw [e2, Nat.sub_self] at e
      have : y = v := by simpa using e
      subst this
      exact NR _ _ _ _ but_app r4
/-- .. whose elements are plain values -/
theorem lc_vals {lo : Int} {n k : Nat} {te : TE} {vs : List Nat} {σ : L2.St} {H1 : Hp} {D : Addr} {Qd : Hp → Prop} (f : Nat → V) (hD : H1 D = none)
    (hn : n ≤ 100000) (hw : ∀ x, wipe ((wipe σ vs).set k (some x)) vs = wipe σ vs)
    (hs : ∀ (i : Nat) (H : Hp) (Kt : VK), i < n → Same H1 H → (∀ H4, Same H H4 → Kt (f i) H4) → te ((wipe σ vs).set k (some (.int (lo + i)))) H Kt)
    (hd : ∀ H, Same H1 H → H D = some (.lst ((List.range n).map f)) → Qd H) :
    ∃ W : Nat → Nat → Hp → Prop, (∃ m, W 0 m (upd H1 D (.lst []))) ∧ ∀ i m H, W i m H →
      ((Itr lo n).stop i H ∧ Qd H) ∨ ((Itr lo n).go i H ∧ ∃ Nx : Hp → Prop, (∀ H', Nx H' → ∃ m', m' < m ∧ W (i + 1) m' H') ∧ ∀ x H', (Itr lo n).yld i H x H' → gName k x (wipe σ vs) H' fun σ2 H2 => wipe σ2 vs = wipe σ vs ∧ tYes σ2 H2 fun b H3 =>
        if b = true then te σ2 H3 fun y H4 => ∃ acc, H4 D = some (.lst acc) ∧ acc.length < sizeLine ∧ Nx (upd H4 D (.lst (acc ++ [y]))) else Nx H3) :=
  lc_rng (fun i v _ => v = f i) hD (fun _ _ _ _ _ h => h) hn hw (fun i H _ Kt hi s _ k => hs i H Kt hi s fun H4 s4 => k _ H4 s4 rfl) fun H rows s e l h => hd H s (by rw [e, ext_of l h])

/-- a list (at D) of n lists of n ints; none of them at a -/
def LL (a : Addr) (H : Hp) (D : Addr) (n : Nat) (F : Nat → Nat → Int) : Prop :=
  ∃ rows : List V, D ≠ a ∧ H D = some (.lst rows) ∧ rows.length = n ∧ ∀ i, i < n → ∃ r, rows[i]? = some (.ref r) ∧ r ≠ a ∧ H r = some (.lst ((List.range n).map fun j => V.int (F i j)))
theorem LL.but {a D : Addr} {H H' : Hp} {n : Nat} {F : Nat → Nat → Int} (x : LL a H D n F) (b : But a H H') : LL a H' D n F := by
  obtain ⟨rows, h1, h2, h3, h4⟩ := x
  exact ⟨rows, h1, b _ _ h1 h2, h3, fun i hi => let ⟨r, e1, e2, e3⟩ := h4 i hi; ⟨r, e1, e2, b _ _ e2 e3⟩⟩
theorem LL.congr {a D : Addr} {H : Hp} {n : Nat} {F G : Nat → Nat → Int} (x : LL a H D n F) (e : ∀ i, i < n → ∀ j, j < n → F i j = G i j) : LL a H D n G := by
  obtain ⟨rows, h1, h2, h3, h4⟩ := x
  refine ⟨rows, h1, h2, h3, fun i hi => ?_⟩
  obtain ⟨r, e1, e2, e3⟩ := h4 i hi
  refine ⟨r, e1, e2, ?_⟩
  rw [e3]
  refine congrArg (fun z => some (HO.lst z)) (List.map_congr_left fun j hj => ?_)
  rw [e i hi j (List.mem_range.mp hj)]
/-- a tuple of n tuples of n ints -/
def TT (H : Hp) (D : Addr) (n : Nat) (F : Nat → Nat → Int) : Prop :=
  ∃ rows : List V, H D = some (.tup rows) ∧ rows.length = n ∧ ∀ i, i < n → ∃ r, rows[i]? = some (.ref r) ∧ H r = some (.tup ((List.range n).map fun j => V.int (F i j)))
theorem TT.same {D : Addr} {H H' : Hp} {n : Nat} {F : Nat → Nat → Int} (x : TT H D n F) (b : ∀ c xs, H c = some (.tup xs) → H' c = some (.tup xs)) : TT H' D n F := by
  obtain ⟨rows, h2, h3, h4⟩ := x
  exact ⟨rows, b _ _ h2, h3, fun i hi => let ⟨r, e1, e3⟩ := h4 i hi; ⟨r, e1, b _ _ e3⟩⟩
/-- [[e for b in range(n)] for a in range(n)] : the outer one -/
theorem lc_LL {a : Addr} {ao : HO} {n k : Nat} {te : TE} {vs : List Nat} {σ : L2.St} {H1 : Hp} {D : Addr} {Qd : Hp → Prop} (F : Nat → Nat → Int) (hD : H1 D = none) (ha : H1 a = some ao)
    (hn : n ≤ 100000) (hw : ∀ x, wipe ((wipe σ vs).set k (some x)) vs = wipe σ vs)
    (hs : ∀ (i : Nat) (H : Hp) (Kt : VK), i < n → Same H1 H → (∀ r H4, Same H H4 → H r = none → H4 r = some (.lst ((List.range n).map fun j => V.int (F i j))) → Kt (.ref r) H4) → te ((wipe σ vs).set k (some (.int (0 + i)))) H Kt)
    (hd : ∀ H, Same H1 H → LL a H D n F → Qd H) :
    ∃ W : Nat → Nat → Hp → Prop, (∃ m, W 0 m (upd H1 D (.lst []))) ∧ ∀ i m H, W i m H →
      ((Itr 0 n).stop i H ∧ Qd H) ∨ ((Itr 0 n).go i H ∧ ∃ Nx : Hp → Prop, (∀ H', Nx H' → ∃ m', m' < m ∧ W (i + 1) m' H') ∧ ∀ x H', (Itr 0 n).yld i H x H' → gName k x (wipe σ vs) H' fun σ2 H2 => wipe σ2 vs = wipe σ vs ∧ tYes σ2 H2 fun b H3 =>
        if b = true then te σ2 H3 fun y H4 => ∃ acc, H4 D = some (.lst acc) ∧ acc.length < sizeLine ∧ Nx (upd H4 D (.lst (acc ++ [y]))) else Nx H3) := by
  refine lc_rng (fun i v H => ∃ r, v = .ref r ∧ r ≠ D ∧ r ≠ a ∧ H r = some (.lst ((List.range n).map fun j => V.int (F i j)))) hD (fun i v H H' b ⟨r, e1, e2, e3, e4⟩ => ⟨r, e1, e2, e3, b _ _ e2 e4⟩) hn hw
    (fun i H acc Kt hi s e k => hs i H Kt hi s fun r H4 s4 hr h4 => k _ H4 s4 ⟨r, rfl, (fun z => by rw [z, e] at hr; cases hr), (fun z => by rw [z, s _ _ ha] at hr; cases hr), h4⟩) fun H rows s e l h => hd H s ⟨rows, (fun z => by rw [z, ha] at hD; cases hD), e, l, fun i hi => ?_⟩
  obtain ⟨v, hv⟩ : ∃ v, rows[i]? = some v := ⟨_, List.getElem?_eq_getElem (by omega)⟩
  obtain ⟨r, rfl, _, h1, h2⟩ := h i v hv
  exact ⟨r, hv, h1, h2⟩

/-- [[e for b in range(n)] for a in range(n)] as a reading -/
theorem tab_lc {a : Addr} {ao : HO} {n ns ka kb : Nat} {te : TE} {σ : L2.St} {H : Hp} {Q : VK} (F : Nat → Nat → Int) (ha : H a = some ao) (hn : n ≤ 100000)
    (hs : ∀ (i j : Nat) (H' : Hp) (Kt : VK), i < n → j < n → Same H H' → (∀ H4, Same H' H4 → Kt (.int (F i j)) H4) → te ((wipe ((wipe σ [ka]).set ka (some (.int (i : Int)))) [kb]).set kb (some (.int (j : Int)))) H' Kt)
    (hd : ∀ H' D, Same H H' → H D = none → LL a H' D n F → Q (.ref D) H')
    (h1 : σ[ns]? = some (some (.int (n : Int))) := by rfl) (h2 : ∀ x, ((wipe σ [ka]).set ka (some x))[ns]? = some (some (.int (n : Int))) := by intro _; rfl)
    (w1 : ∀ x, wipe ((wipe σ [ka]).set ka (some x)) [ka] = wipe σ [ka] := by intro _; rfl) (w2 : ∀ y x, wipe ((wipe ((wipe σ [ka]).set ka (some y)) [kb]).set kb (some x)) [kb] = wipe ((wipe σ [ka]).set ka (some y)) [kb] := by intro _ _; rfl) :
    tLc (iRng1 (tCons (tVar ns) tNil)) (gName ka) tYes (tLc (iRng1 (tCons (tVar ns) tNil)) (gName kb) tYes te [kb]) [ka] σ H Q := by
  refine ⟨_, h1, _, rfl, by omega, by omega, fun D hD => ?_⟩
  refine lc_LL (a := a) F hD ha hn w1 (fun i H' Kt hi s k => ?_) (fun H' s l => hd H' D s hD l)
  refine ⟨_, h2 _, _, rfl, by omega, by omega, fun D' hD' => ?_⟩
  refine lc_vals (fun j => V.int (F i j)) hD' hn (w2 _) (fun j H4 Kt4 hj s4 k4 => ?_) (fun H4 s4 e4 => k D' H4 s4 hD' e4)
  rw [Int.zero_add, Int.zero_add]
  exact hs i j H4 Kt4 hi hj (fun b o e => s4 b o (s b o e)) k4

/-- [e for x in l], l a list that the turns leave as it is -/
theorem lc_lst {K : PySem.W.Frag} {L : Addr} {xs : List V} {k : Nat} {te : TE} {vs : List Nat} {σ : L2.St} {H1 : Hp} {D : Addr} {Qd : Hp → Prop} (R : Nat → V → Hp → Prop) (hD : H1 D = none) (hL : SqL K H1 L xs) (hLs : ∀ H, Same H1 H → SqL K H L xs)
    (NR : ∀ i v H H', But D H H' → R i v H → R i v H') (hn : xs.length ≤ 100000) (hw : ∀ x, wipe ((wipe σ vs).set k (some x)) vs = wipe σ vs)
    (hs : ∀ (i : Nat) (x : V) (H : Hp) (acc : List V) (Kt : VK), xs[i]? = some x → Same H1 H → H D = some (.lst acc) → (∀ y H4, Same H H4 → R i y H4 → Kt y H4) → te ((wipe σ vs).set k (some x)) H Kt)
    (hd : ∀ H rows, Same H1 H → H D = some (.lst rows) → rows.length = xs.length → (∀ (i : Nat) v, rows[i]? = some v → R i v H) → Qd H) :
    ∃ W : Nat → Nat → Hp → Prop, (∃ m, W 0 m (upd H1 D (.lst []))) ∧ ∀ i m H, W i m H →
      ((Itl K L).stop i H ∧ Qd H) ∨ ((Itl K L).go i H ∧ ∃ Nx : Hp → Prop, (∀ H', Nx H' → ∃ m', m' < m ∧ W (i + 1) m' H') ∧ ∀ x H', (Itl K L).yld i H x H' → gName k x (wipe σ vs) H' fun σ2 H2 => wipe σ2 vs = wipe σ vs ∧ tYes σ2 H2 fun b H3 =>
        if b = true then te σ2 H3 fun y H4 => ∃ acc, H4 D = some (.lst acc) ∧ acc.length < sizeLine ∧ Nx (upd H4 D (.lst (acc ++ [y]))) else Nx H3) := by
  refine lc_list (fun i H => Same H1 H ∧ ∃ rows, H D = some (.lst rows) ∧ rows.length = i ∧ ∀ (j : Nat) v, rows[j]? = some v → R j v H) ⟨same_new (Same.refl _) hD, [], upd_same, rfl, fun j v e => by simp at e⟩ (fun i H _ ⟨s1, _⟩ => hLs H s1) (fun i x H hx ⟨s1, rows, e1, e2, e3⟩ => ?_) (fun H ⟨s1, rows, e1, e2, e3⟩ => hd H rows s1 e1 e2 e3)
  refine ⟨hw _, ?_⟩
  refine yes_then ?_
  refine iteT ?_
  have hi : i < xs.length := by
    rcases Nat.lt_or_ge i xs.length with h | h
    · exact h
    · rw [List.getElem?_eq_none h] at hx; cases hx
  refine hs i x H rows _ hx s1 e1 fun y H4 s4 r4 => ⟨rows, s4 _ _ e1, ?_, same_but hD (fun b o e => s4 b o (s1 b o e)) but_app, rows ++ [y], upd_same, by rw [List.length_append, e2]; rfl, fun j v e => ?_⟩
  · rw [e2]
    exact Nat.lt_of_lt_of_le hi (Nat.le_trans hn (by decide))
  · by_cases c : j < rows.length
    · rw [List.getElem?_append_left c] at e
      exact NR _ _ _ _ (But.trans (But.of s4) but_app) (e3 j v e)
    · rw [List.getElem?_append_right (by omega)] at e
      have hj : j = i := by
        have : j - rows.length < [y].length := by
          rcases Nat.lt_or_ge (j - rows.length) [y].length with h | h
          · exact h
          · rw [List.getElem?_eq_none h] at e; cases e
        have h1 : [y].length = 1 := rfl
        omega
      subst hj
      rw [e2, Nat.sub_self] at e
      have : y = v := by simpa using e
      subst this
      exact NR _ _ _ _ but_app r4
/-- [[e for b in l] for a in l], l a list of n things, as a reading: a list of n lists of n ints -/
theorem tab_lst {K : PySem.W.Frag} {a L : Addr} {ao : HO} {xs : List V} {n ns ka kb : Nat} {te : TE} {σ : L2.St} {H : Hp} {Q : VK} (F : Nat → Nat → Int) (ha : H a = some ao) (hL : H L = some (.lst xs)) (hxl : xs.length = n) (hn : n ≤ 100000)
    (hs : ∀ (i j : Nat) (x y : V) (H' : Hp) (Kt : VK), i < n → j < n → xs[i]? = some x → xs[j]? = some y → Same H H' → (∀ H4, Same H' H4 → Kt (.int (F i j)) H4) → te ((wipe ((wipe σ [ka]).set ka (some x)) [kb]).set kb (some y)) H' Kt)
    (hd : ∀ H' D, Same H H' → H D = none → LL a H' D n F → Q (.ref D) H')
    (h1 : σ[ns]? = some (some (.ref L)) := by rfl) (h2 : ∀ x, ((wipe σ [ka]).set ka (some x))[ns]? = some (some (.ref L)) := by intro _; rfl)
    (w1 : ∀ x, wipe ((wipe σ [ka]).set ka (some x)) [ka] = wipe σ [ka] := by intro _; rfl) (w2 : ∀ y x, wipe ((wipe ((wipe σ [ka]).set ka (some y)) [kb]).set kb (some x)) [kb] = wipe ((wipe σ [ka]).set ka (some y)) [kb] := by intro _ _; rfl) :
    tLc (iList K (tVar ns)) (gName ka) tYes (tLc (iList K (tVar ns)) (gName kb) tYes te [kb]) [ka] σ H Q := by
  have at_ : ∀ {i : Nat} {x : V}, xs[i]? = some x → i < n := fun {i x} h => by
    rcases Nat.lt_or_ge i xs.length with h' | h'
    · omega
    · rw [List.getElem?_eq_none h'] at h; cases h
  refine ⟨_, h1, L, rfl, ⟨xs, SqL.of hL⟩, fun D hD => ?_⟩
  refine lc_lst (K := K) (xs := xs) (fun i v H => ∃ r, v = .ref r ∧ r ≠ D ∧ r ≠ a ∧ H r = some (.lst ((List.range n).map fun j => V.int (F i j)))) hD (SqL.of hL) (fun H' s => SqL.of (s _ _ hL)) (fun i v H H' b ⟨r, e1, e2, e3, e4⟩ => ⟨r, e1, e2, e3, b _ _ e2 e4⟩) (by omega) w1 (fun i x H' acc Kt hx s e k => ?_) (fun H' rows s e l h => ?_)
  · refine ⟨_, h2 _, L, rfl, ⟨xs, SqL.of (s _ _ hL)⟩, fun D' hD' => ?_⟩
    refine lc_lst (K := K) (xs := xs) (fun j v _ => v = V.int (F i j)) hD' (SqL.of (s _ _ hL)) (fun H4 s4 => SqL.of (s4 _ _ (s _ _ hL))) (fun _ _ _ _ _ h => h) (by omega) (w2 _) (fun j y H4 acc' Kt4 hy s4 e4 k4 => ?_) (fun H4 rows s4 e4 l4 h4 => ?_)
    · exact hs i j x y H4 Kt4 (at_ hx) (at_ hy) hx hy (fun b o e => s4 b o (s b o e)) fun H5 s5 => k4 _ H5 s5 rfl
    · refine k _ H4 s4 ⟨D', rfl, (fun z => by rw [z, e] at hD'; cases hD'), (fun z => by rw [z, s _ _ ha] at hD'; cases hD'), ?_⟩
      rw [e4, ext_of (l4.trans hxl) h4]
  · refine hd H' D s hD ⟨rows, (fun z => by rw [z, ha] at hD; cases hD), e, l.trans hxl, fun i hi => ?_⟩
    obtain ⟨v, hv⟩ : ∃ v, rows[i]? = some v := ⟨_, List.getElem?_eq_getElem (by omega)⟩
    obtain ⟨r, rfl, _, h1, h2⟩ := h i v hv
    exact ⟨r, hv, h1, h2⟩
abbrev rTupOf (K : PySem.W.Frag) : List V → Hp → VK → Prop := fun xs H Q => ∃ p ys, xs = [.ref p] ∧ ((SqL K H p ys ∧ ∀ l, H l = none → Q (.ref l) (upd H l (.tup ys))) ∨ (SqT K H p ys ∧ Q (.ref p) H))
/-- tuple([tuple([e for b in range(n)]) for a in range(n)]) as a reading -/
theorem tab_tt {K : PySem.W.Frag} {n ns ka kb : Nat} {te : TE} {σ : L2.St} {H : Hp} {Q : VK} (F : Nat → Nat → Int) (hn : n ≤ 100000)
    (hs : ∀ (i j : Nat) (H' : Hp) (Kt : VK), i < n → j < n → Same H H' → (∀ H4, Same H' H4 → Kt (.int (F i j)) H4) → te ((wipe ((wipe σ [ka]).set ka (some (.int (i : Int)))) [kb]).set kb (some (.int (j : Int)))) H' Kt)
    (hd : ∀ H' D, Same H H' → TT H' D n F → Q (.ref D) H')
    (h1 : σ[ns]? = some (some (.int (n : Int))) := by rfl) (h2 : ∀ x, ((wipe σ [ka]).set ka (some x))[ns]? = some (some (.int (n : Int))) := by intro _; rfl)
    (w1 : ∀ x, wipe ((wipe σ [ka]).set ka (some x)) [ka] = wipe σ [ka] := by intro _; rfl) (w2 : ∀ y x, wipe ((wipe ((wipe σ [ka]).set ka (some y)) [kb]).set kb (some x)) [kb] = wipe ((wipe σ [ka]).set ka (some y)) [kb] := by intro _ _; rfl) :
    tCB (rTupOf K) (tCons (tLc (iRng1 (tCons (tVar ns) tNil)) (gName ka) tYes (tCB (rTupOf K) (tCons (tLc (iRng1 (tCons (tVar ns) tNil)) (gName kb) tYes te [kb]) tNil)) [ka]) tNil) σ H Q := by
  refine ⟨_, h1, _, rfl, by omega, by omega, fun D hD => ?_⟩
  rw [Int.toNat_natCast]
  refine lc_rng (lo := 0) (n := n) (fun i v H => ∃ r, v = .ref r ∧ r ≠ D ∧ H r = some (.tup ((List.range n).map fun j => V.int (F i j)))) hD (fun i v H H' b ⟨r, e1, e2, e3⟩ => ⟨r, e1, e2, b _ _ e2 e3⟩) hn w1 (fun i H' acc Kt hi s e k => ?_) (fun H' rows s e l h => ?_)
  · rw [Int.zero_add]
    refine ⟨_, h2 _, _, rfl, by omega, by omega, fun D' hD' => ?_⟩
    rw [Int.toNat_natCast]
    refine lc_vals (lo := 0) (n := n) (fun j => V.int (F i j)) hD' hn (w2 _) (fun j H4 Kt4 hj s4 k4 => ?_) (fun H4 s4 e4 => ?_)
    · rw [Int.zero_add]
      exact hs i j H4 Kt4 hi hj (fun b o e => s4 b o (s b o e)) k4
    · refine ⟨D', _, rfl, .inl ⟨SqL.of e4, fun r hr => ?_⟩⟩
      exact k _ _ (fun b o e => same_new (Same.refl _) hr b o (s4 b o e)) ⟨r, rfl, (fun z => by rw [z, s4 _ _ e] at hr; cases hr), upd_same⟩
  · refine ⟨D, rows, rfl, .inl ⟨SqL.of e, fun q hq => ?_⟩⟩
    have sq : Same H' (upd H' q (.tup rows)) := same_new (Same.refl _) hq
    refine hd _ q (fun b o e => sq b o (s b o e)) ⟨rows, upd_same, l, fun i hi => ?_⟩
    obtain ⟨v, hv⟩ : ∃ v, rows[i]? = some v := ⟨_, List.getElem?_eq_getElem (by omega)⟩
    obtain ⟨r, rfl, _, h2⟩ := h i v hv
    exact ⟨r, hv, sq _ _ h2⟩
section
variable {X : Cx} {o e : Expr} {es : List Expr} {to : TE} {t : TA} {name : Str} {apos cpos : Pos} {T id : String} {r : V → List V → Hp → VK → Prop}
theorem kpe_bm {K : PySem.W.Frag} (pa : PlainAttrs T) (slot : Slot T name id) (hty : typeOf (.builtin id) = pure (.type "method_descriptor")) (hm : MtR X id r) (ho : PE X o to) (ha : PA X (e :: es) t) (hK : X.K = K := by rfl)
    (hbase : attributeBase o name X.env (eval o X.env) = eval o X.env := by rfl)
    (hfew : ((backTo cpos (starEach (e :: es) X.env)).all (fun x => !x.1) && (backToKw cpos (keywordEach [] X.env)).all (fun x => x.1.isSome)
      && decide ((e :: es).length + ([] : List Keyword).length + (if ([] : List Keyword).isEmpty then 0 else 1) < 30)) = true := by rfl)
    (hline : (apos.endLine == cpos.line) = true := by rfl) (hs : starEach (e :: es) X.env = (false, eval e X.env) :: starEach es X.env := by rfl) (hplain : (backTo cpos (starEach es X.env)).any (·.1) = false := by rfl) :
    PE X (.Call (.Attribute o name apos) (e :: es) [] cpos) (tBM K T r to t) := hK ▸ pe_bm pa slot hty hm ho ha hbase hfew hline hs hplain
theorem kmt_index {K : PySem.W.Frag} (hK : X.K = K := by rfl) : MtR X "list.index" (rIndex K) := hK ▸ mt_index
theorem kcall_tuple_of {K : PySem.W.Frag} (hK : X.K = K := by rfl) : CallR X (.type "tuple") (rTupOf K) := hK ▸ call_tuple_of
end
theorem erase_perm {α : Type} : ∀ (l : List α) (i : Nat) (y : α), l[i]? = some y → (y :: l.eraseIdx i).Perm l
  | [], i, y, e => by simp at e
  | a :: l, 0, y, e => by
    have q : a = y := by simpa using e
    subst q
    exact List.Perm.refl _
  | a :: l, i + 1, y, e => by
    have q := erase_perm l i y (by simpa using e)
    show (y :: a :: l.eraseIdx i).Perm (a :: l)
    exact (List.Perm.swap a y _).trans (q.cons a)
/-- names: a renaming of 0 .. n - 1 that keeps 0, and its inverse -/
theorem ren_of {n : Nat} {ns : List Nat} (p : ns.Perm (List.range n)) (h0 : ns[0]? = some 0) :
    (∀ i, i < n → ns[i]? = some (ns.getD i 0)) ∧ (∀ i, i < n → ns.getD i 0 < n) ∧ (∀ k, k < n → ns.idxOf k < n) ∧ (∀ k, k < n → ns.getD (ns.idxOf k) 0 = k) ∧ (∀ i, i < n → ns.idxOf (ns.getD i 0) = i) ∧ ns.getD 0 0 = 0 := by
  have hl : ns.length = n := by rw [p.length_eq, List.length_range]
  have nd : ns.Nodup := p.nodup_iff.mpr List.nodup_range
  have at_ : ∀ i, i < n → ns[i]? = some (ns.getD i 0) := fun i hi => by
    rw [List.getD_eq_getElem?_getD, List.getElem?_eq_getElem (by omega)]
    rfl
  have mem : ∀ k, k < n → k ∈ ns := fun k hk => p.mem_iff.mpr (List.mem_range.mpr hk)
  have ix : ∀ k, k < n → ns.idxOf k < n := fun k hk => by
    have := List.idxOf_lt_length_iff.mpr (mem k hk)
    omega
  refine ⟨at_, fun i hi => List.mem_range.mp (p.mem_iff.mp (List.mem_of_getElem? (at_ i hi))), ix, fun k hk => ?_, fun i hi => ?_, ?_⟩
  · have h := ix k hk
    rw [← hl] at h
    rw [List.getD_eq_getElem?_getD, List.getElem?_eq_getElem h, List.getElem_idxOf h]
    rfl
  · have h : i < ns.length := by omega
    rw [List.getD_eq_getElem?_getD, List.getElem?_eq_getElem h]
    exact nd.idxOf_getElem i h
  · rw [List.getD_eq_getElem?_getD, h0]
    rfl
theorem idx_first {n : Nat} {ns : List Nat} (p : ns.Perm (List.range n)) {k m z : Nat} (h : m < ns.idxOf k) (e : ns[m]? = some z) : z ≠ k := fun q => by
  have nd : ns.Nodup := p.nodup_iff.mpr List.nodup_range
  obtain ⟨hm, e⟩ := List.getElem?_eq_some_iff.mp e
  have := nd.idxOf_getElem m hm
  rw [e, q] at this
  omega
theorem go_seq {te : TE} {g : TG} {u : TS} {D : Ends} {σ : L2.St} {H : Hp} (h : te σ H fun x H1 => g x σ H1 fun σ' H' => u D σ' H') : tSeq (tAsg te g) u D σ H := h
theorem go_next {f : L2.St → Hp → Prop} {rt : VK} {bk ct : L2.St → Hp → Prop} {σ : L2.St} {H : Hp} (h : f σ H) : tNext ⟨f, rt, bk, ct⟩ σ H := h
theorem go_nx {f : L2.St → Hp → Prop} {rt : VK} {bk ct : L2.St → Hp → Prop} {σ : L2.St} {H : Hp} (h : f σ H) : (Ends.mk f rt bk ct).nx σ H := h
theorem go_ret {te : TE} {D : Ends} {σ : L2.St} {H : Hp} (h : te σ H D.rt) : tRet te D σ H := h
theorem go_tup {t : TA} {σ : L2.St} {H : Hp} {Q : VK} (h : t σ H fun xs H1 => xs.length ≤ sizeLine ∧ ∀ p, H1 p = none → Q (.ref p) (upd H1 p (.tup xs))) : tTup t σ H Q := h
theorem go_lst {t : TA} {σ : L2.St} {H : Hp} {Q : VK} (h : t σ H fun xs H1 => xs.length ≤ sizeLine ∧ ∀ p, H1 p = none → Q (.ref p) (upd H1 p (.lst xs))) : tLst t σ H Q := h
theorem go_cons {t : TE} {u : TA} {σ : L2.St} {H : Hp} {Q : List V → Hp → Prop} (h : t σ H fun x H1 => u σ H1 fun xs H2 => Q (x :: xs) H2) : tCons t u σ H Q := h
theorem go_nil {σ : L2.St} {H : Hp} {Q : List V → Hp → Prop} (h : Q [] H) : tNil σ H Q := h
theorem go_var {i : Nat} {v : V} {σ : L2.St} {H : Hp} {Q : VK} (e : σ[i]? = some (some v)) (h : Q v H) : tVar i σ H Q := ⟨v, e, h⟩
theorem go_name {i : Nat} {v v' : V} {σ : L2.St} {H : Hp} {Q : L2.St → Hp → Prop} (e : v = v') (h : Q (σ.set i (some v')) H) : gName i v σ H Q := e ▸ h
end Tb

set_option Elab.async false
set_option linter.all false
set_option maxRecDepth 100000
set_option maxHeartbeats 4000000
/-! Defs that hold a generator expression; readings of all(..), any(..) where every turn goes on. -/
namespace Tb
open PySem PySem.Spec PyProof.Rows L2 Ew EwG GxR

/-- a def whose code object stands at c -/
structure FunC (K : PySem.W.Frag) (x qual : Str) (st : Stmt) (f : Addr) (fd : FuncData) (c : Addr) : Prop where
  ex : ∃ (oc : Value) (od : Option Addr) (kV doc pm : Value) (an : Option Addr) (ct : Value) (osl : Array (Option Value)),
    fd = PySem.W.fnOf x qual (defArgs st) (defBody st) (defScope st) .none kV doc pm an (.ref c) ct ∧ K.lookup f = some ⟨oc, od, .func fd, osl⟩ ∧ PySem.W.codeIn K (.ref c) qual = true
  kp : PySem.W.keepIn K (.ref f) = true
section
variable {P : Program} {w : World} {K : PySem.W.Frag} {mg : Str → Option Value} {base : Heap}
theorem FunC.okX {x qual : Str} {st : Stmt} {f c : Addr} {fd : FuncData} {N ps : List Str} {k : Nat} {sp : Sp} (F : FunC K x qual st f fd c) (S : FnScope N ps (defScope st)) (len : ∀ vs H Q E, sp vs H Q E → vs.length = ps.length)
    (hbody : ∀ (A : Around) (outer : List Env) (s : Shared) (H : Hp) (vs : List V) (Q : VK) (E : XK), Room k (A.deeper (envOfC qual (defScope st) s.heap.objs.size f (.ref c))) → sp vs H Q E →
      ∃ t, PSs (cxOf (L2.CX P w) P w K mg base N qual (defScope st) f (.ref c) A outer s H E) (defBody st) t ∧ t { nx := fun _ H' => Q .non H', rt := Q } (start N vs) H) : FnOk P w K mg base (L2.CX P w) (k + 1) f fd ps sp := by
  obtain ⟨oc, od, kV, doc, pm, an, ct, osl, rfl, lk, hcd⟩ := F.ex
  exact fn_of lk hcd S len fun A outer s H vs Q E hr hsp => hbody A outer s H vs Q E hr hsp
theorem FunC.fun_ {x qual : Str} {st : Stmt} {f c : Addr} {fd : FuncData} (F : FunC K x qual st f fd c) : Fun K x qual st f fd := by
  obtain ⟨oc, od, kV, doc, pm, an, ct, osl, rfl, lk, hcd⟩ := F.ex
  exact ⟨⟨oc, od, kV, doc, pm, an, .ref c, ct, osl, rfl, lk, hcd⟩, F.kp⟩
theorem func_mk {x qual : Str} {st : Stmt} {f c : Addr} {oc : Value} {od an : Option Addr} {osl : Array (Option Value)} {kV doc pm ct : Value} (l : K.lookup f = some ⟨oc, od, .func (PySem.W.fnOf x qual (defArgs st) (defBody st) (defScope st) .none kV doc pm an (.ref c) ct), osl⟩)
    (cc : PySem.W.codeIn K (.ref c) qual = true) (k : PySem.W.keepIn K (.ref f) = true) : FunC K x qual st f (PySem.W.fnOf x qual (defArgs st) (defBody st) (defScope st) .none kV doc pm an (.ref c) ct) c := ⟨⟨oc, od, kV, doc, pm, an, ct, osl, rfl, l, cc⟩, k⟩
end
def rAnyT (K : PySem.W.Frag) : List V → Hp → VK → Prop := fun vs H Q => ∃ (a : Addr) (ns : List Int), vs = [V.ref a] ∧ SqT K H a (ns.map V.int) ∧ Q (.bl (ns.any fun i => i != 0)) H
theorem cr_anyT {X : Cx} (hc : X.calm = true) : CallR X (.builtin "any") (rAnyT X.K) := by
  intro pins s σ H vs us Q I r h
  obtain ⟨a, ns, rfl, hs, q⟩ := h
  obtain ⟨its, rv, hl, _⟩ := I.tuple hs
  rw [Vals.ref1 r]
  have hlt : a < s.heap.objs.size := hl.lt
  refine call_any_walk ?_
  refine wpAny_pyIter_tuple (show s.heap.IsTuple a its.toArray from hl) ?_
  refine ⟨_, _, _, _, _, _, fun i => (ns.getD i 0) != 0, rfl, Walks.tuple (A := X.A.in1) (I.ok.hd hc) _ a (Nat.ne_of_lt hlt) its.toArray, ⟨⟨_, Heap.get?_push_size _ rfl, rfl, rfl⟩, (show s.heap.IsTuple a its.toArray from hl).push _⟩, fun i v s' Q' E' hv hq => ?_, fun h' tk hk => ?_⟩
  · have hv' : its[i]? = some v := by simpa using hv
    obtain ⟨n, hn⟩ : ∃ n, ns[i]? = some n := by
      have l := rv.length
      rw [List.length_map] at l
      have : i < its.length := by
        rcases Nat.lt_or_ge i its.length with h | h
        · exact h
        · rw [List.getElem?_eq_none h] at hv'; cases hv'
      exact ⟨_, List.getElem?_eq_getElem (by omega)⟩
    obtain ⟨u, e1, e2⟩ := rv.get (x := V.int n) (i := i) (by rw [List.getElem?_map, hn]; rfl)
    rw [hv'] at e1
    cases e1
    obtain ⟨t, rfl⟩ := e2
    have hq' : Q' ((ns.getD i 0) != 0) s' := hq
    rw [List.getD_eq_getElem?_getD, hn] at hq'
    first | exact PySem.truthy_int hq' | exact PySem.P.truthy_int hq' | exact truthy_int hq'
  · refine ⟨.bl _, H, I.kept fun b o eo => hk b o (fun hmem => ?_) (Heap.get?_push_of_some _ eo), ?_, q⟩
    · rcases List.mem_cons.mp hmem with e1 | hmem
      · exact absurd (e1 ▸ Heap.lt_size eo) (Nat.lt_irrefl _)
      · cases hmem
    · show Value.bool _ = Value.bool _
      have l := rv.length
      rw [List.length_map] at l
      rw [List.size_toArray, ← l]
      have key : ∀ ns : List Int, (List.range ns.length).any (fun i => ns.getD i 0 != 0) = ns.any fun i => i != 0 := fun ns => by
        induction ns with
        | nil => rfl
        | cons b bs ih =>
          rw [List.length_cons, List.range_succ_eq_map, List.any_cons, List.any_map, List.any_cons, ← ih]
          rfl
      rw [key]
/-- a statement that is never reached -/
def tNever : TS := fun _ _ _ => False
theorem ps_never {X : Cx} {st : Stmt} : PS X st tNever := ⟨fun _ _ _ _ _ _ h => h.elim⟩

/-- the heap has grown; tables too -/
structure FrT (H H' : Hp) : Prop where
  keep : ∀ b o, H b = some o → (∀ ps, o ≠ .tbl ps) → H' b = some o
  tabs : ∀ P, TabG H P → TabG H' P
theorem FrT.refl (H : Hp) : FrT H H := ⟨fun _ _ h _ => h, fun _ h => h⟩
theorem FrT.trans {H H' H'' : Hp} (x : FrT H H') (y : FrT H' H'') : FrT H H'' := ⟨fun b o h n => y.keep b o (x.keep b o h n) n, fun P h => y.tabs P (x.tabs P h)⟩
theorem FrT.of {H H' : Hp} (s : Same H H') : FrT H H' := ⟨fun b o h _ => s b o h, fun P h => let ⟨ps, e, t⟩ := h; ⟨ps, s _ _ e, t⟩⟩
theorem FrT.tab {P : Addr} {H H' : Hp} (t : TabG H P) (x : Tabbed P H H') : FrT H H' := by
  refine ⟨fun b o h n => ?_, fun P' h => ?_⟩
  · by_cases e : b = P
    · obtain ⟨ps, e2, _⟩ := t
      rw [e, e2] at h
      cases h
      exact absurd rfl (n ps)
    · rw [x.2 b e]; exact h
  · by_cases e : P' = P
    · rw [e]; exact x.1
    · obtain ⟨ps, e2, e3⟩ := h
      exact ⟨ps, by rw [x.2 P' e]; exact e2, e3⟩
theorem FrT.tup {H H' : Hp} (x : FrT H H') {b : Addr} {xs : List V} (h : H b = some (.tup xs)) : H' b = some (.tup xs) := x.keep b _ h fun ps z => by cases z
theorem FrT.lst {H H' : Hp} (x : FrT H H') {b : Addr} {xs : List V} (h : H b = some (.lst xs)) : H' b = some (.lst xs) := x.keep b _ h fun ps z => by cases z
theorem FrT.ins {H H' : Hp} (x : FrT H H') {b C d : Addr} {fs : List (Str × V)} (h : H b = some (.ins C d fs)) : H' b = some (.ins C d fs) := x.keep b _ h fun ps z => by cases z

theorem gw_rng {n k : Nat} {te : TE} {vs : List Nat} {σ : L2.St} {e : Bool} {Q : VK} {H2 : Hp} (hw : ∀ x, wipe ((wipe σ vs).set k (some x)) vs = wipe σ vs)
    (hs : ∀ (i : Nat) (Kt : VK), i < n → Kt (.bl e) H2 → te ((wipe σ vs).set k (some (.int (i : Int)))) H2 Kt) (hd : Q (.bl e) H2) :
    ∃ W : Nat → Nat → Hp → Prop, (∃ m, W 0 m H2) ∧ GW (Itr 0 n) (gName k) te vs σ e Q W := by
  refine ⟨fun i m H => m = n - i ∧ i ≤ n ∧ H = H2, ⟨n, by simp, Nat.zero_le _, rfl⟩, ?_⟩
  rintro i m H ⟨rfl, hi, rfl⟩
  by_cases hlt : i < n
  · refine .inr ⟨hlt, fun x H' y => ?_⟩
    obtain ⟨e1, y⟩ := y
    subst e1 y
    refine ⟨hw _, ?_⟩
    rw [Int.zero_add]
    exact hs i _ hlt ⟨e, rfl, fun _ => ⟨n - (i + 1), by omega, rfl, hlt, rfl⟩, fun z => absurd rfl z⟩
  · have e1 : i = n := by omega
    subst e1
    exact .inl ⟨Nat.le_refl _, hd⟩
theorem gw_lst {K : PySem.W.Frag} {L : Addr} {xs : List V} {k : Nat} {te : TE} {vs : List Nat} {σ : L2.St} {e : Bool} {Q : VK} {H2 : Hp} (hL : SqL K H2 L xs) (hw : ∀ x, wipe ((wipe σ vs).set k (some x)) vs = wipe σ vs)
    (hs : ∀ (i : Nat) (x : V) (Kt : VK), xs[i]? = some x → Kt (.bl e) H2 → te ((wipe σ vs).set k (some x)) H2 Kt) (hd : Q (.bl e) H2) :
    ∃ W : Nat → Nat → Hp → Prop, (∃ m, W 0 m H2) ∧ GW (Itl K L) (gName k) te vs σ e Q W := by
  refine ⟨fun i m H => m = xs.length - i ∧ i ≤ xs.length ∧ H = H2, ⟨xs.length, by simp, Nat.zero_le _, rfl⟩, ?_⟩
  rintro i m H ⟨rfl, hi, rfl⟩
  by_cases hlt : i < xs.length
  · refine .inr ⟨⟨xs, xs[i], hL, by simp [hlt]⟩, fun x H' y => ?_⟩
    obtain ⟨e1, y⟩ := y
    subst e1
    refine ⟨hw _, ?_⟩
    exact hs i x _ (y xs hL) ⟨e, rfl, fun _ => ⟨xs.length - (i + 1), by omega, rfl, hlt, rfl⟩, fun z => absurd rfl z⟩
  · have e1 : i = xs.length := by omega
    subst e1
    exact .inl ⟨⟨xs, hL, Nat.le_refl _⟩, hd⟩
theorem gw_tup {K : PySem.W.Frag} {L : Addr} {xs : List V} {k : Nat} {te : TE} {vs : List Nat} {σ : L2.St} {e : Bool} {Q : VK} {H2 : Hp} (hL : SqT K H2 L xs) (hw : ∀ x, wipe ((wipe σ vs).set k (some x)) vs = wipe σ vs)
    (hs : ∀ (i : Nat) (x : V) (Kt : VK), xs[i]? = some x → Kt (.bl e) H2 → te ((wipe σ vs).set k (some x)) H2 Kt) (hd : Q (.bl e) H2) :
    ∃ W : Nat → Nat → Hp → Prop, (∃ m, W 0 m H2) ∧ GW (Itt K L) (gName k) te vs σ e Q W := by
  refine ⟨fun i m H => m = xs.length - i ∧ i ≤ xs.length ∧ H = H2, ⟨xs.length, by simp, Nat.zero_le _, rfl⟩, ?_⟩
  rintro i m H ⟨rfl, hi, rfl⟩
  by_cases hlt : i < xs.length
  · refine .inr ⟨⟨xs, xs[i], hL, by simp [hlt]⟩, fun x H' y => ?_⟩
    obtain ⟨e1, y⟩ := y
    subst e1
    refine ⟨hw _, ?_⟩
    exact hs i x _ (y xs hL) ⟨e, rfl, fun _ => ⟨xs.length - (i + 1), by omega, rfl, hlt, rfl⟩, fun z => absurd rfl z⟩
  · have e1 : i = xs.length := by omega
    subst e1
    exact .inl ⟨⟨xs, hL, Nat.le_refl _⟩, hd⟩
/-- .. for a in range(n) for b in range(a) -/
theorem gw2_rng {n ka kb : Nat} {te : TE} {vs : List Nat} {σ : L2.St} {e : Bool} {Q : VK} {H2 : Hp} (hn : n ≤ 100000) (h2 : ∀ x, ((wipe σ vs).set ka (some x))[ka]? = some (some x)) (w1 : ∀ x, wipe ((wipe σ vs).set ka (some x)) vs = wipe σ vs)
    (w2 : ∀ y x, wipe ((wipe ((wipe σ vs).set ka (some y)) [kb]).set kb (some x)) [kb] = wipe ((wipe σ vs).set ka (some y)) [kb])
    (hs : ∀ (i j : Nat) (Kt : VK), i < n → j < i → Kt (.bl e) H2 → te ((wipe ((wipe σ vs).set ka (some (.int (i : Int)))) [kb]).set kb (some (.int (j : Int)))) H2 Kt) (hd : Q (.bl e) H2) :
    ∃ W : Nat → Nat → Hp → Prop, (∃ m, W 0 m H2) ∧ GW2 (Itr 0 n) (gName ka) (iRng1 (tCons (tVar ka) tNil)) (gName kb) te vs [kb] σ e Q W := by
  have step : ∀ i, i < n → (n - i) * (n + 1) = (n - (i + 1)) * (n + 1) + n + 1 := fun i hi => by
    have : n - i = (n - (i + 1)) + 1 := by omega
    rw [this, Nat.succ_mul]
    omega
  refine ⟨fun i m H => m = (n - i) * (n + 1) ∧ i ≤ n ∧ H = H2, ⟨_, rfl, Nat.zero_le _, rfl⟩, ?_⟩
  rintro i m H ⟨rfl, hi, rfl⟩
  by_cases hlt : i < n
  · have st := step i hlt
    refine .inr ⟨hlt, fun x HH y => ?_⟩
    obtain ⟨e1, y⟩ := y
    subst e1 y
    refine ⟨w1 _, ?_⟩
    rw [Int.zero_add]
    refine ⟨_, h2 _, _, rfl, by omega, by omega, ?_⟩
    rw [Int.toNat_natCast]
    refine ⟨fun j k H' => k = (n - i) * (n + 1) - 1 - j ∧ j ≤ i ∧ H' = HH, ⟨_, ?_, rfl, Nat.zero_le _, rfl⟩, ?_⟩
    · omega
    rintro j k H' ⟨rfl, hj, rfl⟩
    by_cases hlj : j < i
    · refine .inr ⟨hlj, fun x H4 y => ?_⟩
      obtain ⟨e1, y⟩ := y
      subst e1 y
      refine ⟨w2 _ _, ?_⟩
      rw [Int.zero_add]
      exact hs i j _ hlt hlj ⟨e, rfl, fun _ => ⟨(n - i) * (n + 1) - 1 - (j + 1), by omega, rfl, hlj, rfl⟩, fun z => absurd rfl z⟩
    · have e1 : j = i := by omega
      subst e1
      exact .inl ⟨Nat.le_refl _, (n - (j + 1)) * (n + 1), by omega, by omega, rfl, hlt, rfl⟩
  · have e1 : i = n := by omega
    subst e1
    exact .inl ⟨Nat.le_refl _, hd⟩
/-- [e for x in l], l a list that the turns leave as it is -/
theorem lc_tupR {K : PySem.W.Frag} {L : Addr} {xs : List V} {k : Nat} {te : TE} {vs : List Nat} {σ : L2.St} {H1 : Hp} {D : Addr} {Qd : Hp → Prop} (R : Nat → V → Hp → Prop) (hD : H1 D = none) (hL : SqT K H1 L xs) (hLs : ∀ H, Same H1 H → SqT K H L xs)
    (NR : ∀ i v H H', But D H H' → R i v H → R i v H') (hn : xs.length ≤ 100000) (hw : ∀ x, wipe ((wipe σ vs).set k (some x)) vs = wipe σ vs)
    (hs : ∀ (i : Nat) (x : V) (H : Hp) (acc : List V) (Kt : VK), xs[i]? = some x → Same H1 H → H D = some (.lst acc) → (∀ y H4, Same H H4 → R i y H4 → Kt y H4) → te ((wipe σ vs).set k (some x)) H Kt)
    (hd : ∀ H rows, Same H1 H → H D = some (.lst rows) → rows.length = xs.length → (∀ (i : Nat) v, rows[i]? = some v → R i v H) → Qd H) :
    ∃ W : Nat → Nat → Hp → Prop, (∃ m, W 0 m (upd H1 D (.lst []))) ∧ ∀ i m H, W i m H →
      ((Itt K L).stop i H ∧ Qd H) ∨ ((Itt K L).go i H ∧ ∃ Nx : Hp → Prop, (∀ H', Nx H' → ∃ m', m' < m ∧ W (i + 1) m' H') ∧ ∀ x H', (Itt K L).yld i H x H' → gName k x (wipe σ vs) H' fun σ2 H2 => wipe σ2 vs = wipe σ vs ∧ tYes σ2 H2 fun b H3 =>
        if b = true then te σ2 H3 fun y H4 => ∃ acc, H4 D = some (.lst acc) ∧ acc.length < sizeLine ∧ Nx (upd H4 D (.lst (acc ++ [y]))) else Nx H3) := by
  refine lc_tup (fun i H => Same H1 H ∧ ∃ rows, H D = some (.lst rows) ∧ rows.length = i ∧ ∀ (j : Nat) v, rows[j]? = some v → R j v H) ⟨same_new (Same.refl _) hD, [], upd_same, rfl, fun j v e => by simp at e⟩ (fun i H _ ⟨s1, _⟩ => hLs H s1) (fun i x H hx ⟨s1, rows, e1, e2, e3⟩ => ?_) (fun H ⟨s1, rows, e1, e2, e3⟩ => hd H rows s1 e1 e2 e3)
  refine ⟨hw _, ?_⟩
  refine yes_then ?_
  refine iteT ?_
  have hi : i < xs.length := by
    rcases Nat.lt_or_ge i xs.length with h | h
    · exact h
    · rw [List.getElem?_eq_none h] at hx; cases hx
  refine hs i x H rows _ hx s1 e1 fun y H4 s4 r4 => ⟨rows, s4 _ _ e1, ?_, same_but hD (fun b o e => s4 b o (s1 b o e)) but_app, rows ++ [y], upd_same, by rw [List.length_append, e2]; rfl, fun j v e => ?_⟩
  · rw [e2]
    exact Nat.lt_of_lt_of_le hi (Nat.le_trans hn (by decide))
  · by_cases c : j < rows.length
    · rw [List.getElem?_append_left c] at e
      exact NR _ _ _ _ (But.trans (But.of s4) but_app) (e3 j v e)
    · rw [List.getElem?_append_right (by omega)] at e
      have hj : j = i := by
        have : j - rows.length < [y].length := by
          rcases Nat.lt_or_ge (j - rows.length) [y].length with h | h
          · exact h
          · rw [List.getElem?_eq_none h] at e; cases e
        have h1 : [y].length = 1 := rfl
        omega
      subst hj
      rw [e2, Nat.sub_self] at e
      have : y = v := by simpa using e
      subst this
      exact NR _ _ _ _ but_app r4
end Tb

set_option Elab.async false
set_option linter.all false
set_option maxRecDepth 100000
set_option maxHeartbeats 4000000
/-! all(..), any(..) whose turns may end it; tables of any form. -/
namespace Tb
open PySem PySem.Spec PyProof.Rows L2 Ew EwG GxR
theorem ne_not {a e : Bool} (h : a ≠ e) : a = !e := by cases a <;> cases e <;> simp_all
theorem gwb_rng {n k : Nat} {te : TE} {vs : List Nat} {σ : L2.St} {e : Bool} {Q : VK} {H2 : Hp} (b : Nat → Bool) (hw : ∀ x, wipe ((wipe σ vs).set k (some x)) vs = wipe σ vs)
    (hs : ∀ (i : Nat) (Kt : VK), i < n → Kt (.bl (b i)) H2 → te ((wipe σ vs).set k (some (.int (i : Int)))) H2 Kt) (hd : (∀ i, i < n → b i = e) → Q (.bl e) H2) (hx : ∀ i, i < n → b i = (!e) → Q (.bl (!e)) H2) :
    ∃ W : Nat → Nat → Hp → Prop, (∃ m, W 0 m H2) ∧ GW (Itr 0 n) (gName k) te vs σ e Q W := by
  refine ⟨fun i m H => m = n - i ∧ i ≤ n ∧ H = H2 ∧ ∀ j, j < i → b j = e, ⟨n, by simp, Nat.zero_le _, rfl, fun j h => absurd h (Nat.not_lt_zero _)⟩, ?_⟩
  rintro i m H ⟨rfl, hi, rfl, ha⟩
  by_cases hlt : i < n
  · refine .inr ⟨hlt, fun x H' y => ?_⟩
    obtain ⟨e1, y⟩ := y
    subst e1 y
    refine ⟨hw _, ?_⟩
    rw [Int.zero_add]
    refine hs i _ hlt ⟨b i, rfl, fun z => ⟨n - (i + 1), by omega, rfl, hlt, rfl, fun j hj => ?_⟩, fun z => ?_⟩
    · by_cases h : j < i
      · exact ha j h
      · rw [show j = i by omega]; exact z
    · have z' := ne_not z
      rw [z']
      exact hx i hlt z'
  · have e1 : i = n := by omega
    subst e1
    exact .inl ⟨Nat.le_refl _, hd ha⟩
theorem gwb_tup {K : PySem.W.Frag} {L : Addr} {xs : List V} {k : Nat} {te : TE} {vs : List Nat} {σ : L2.St} {e : Bool} {Q : VK} {H2 : Hp} (b : Nat → Bool) (hL : SqT K H2 L xs) (hw : ∀ x, wipe ((wipe σ vs).set k (some x)) vs = wipe σ vs)
    (hs : ∀ (i : Nat) (x : V) (Kt : VK), xs[i]? = some x → Kt (.bl (b i)) H2 → te ((wipe σ vs).set k (some x)) H2 Kt) (hd : (∀ i, i < xs.length → b i = e) → Q (.bl e) H2) (hx : ∀ i, i < xs.length → b i = (!e) → Q (.bl (!e)) H2) :
    ∃ W : Nat → Nat → Hp → Prop, (∃ m, W 0 m H2) ∧ GW (Itt K L) (gName k) te vs σ e Q W := by
  refine ⟨fun i m H => m = xs.length - i ∧ i ≤ xs.length ∧ H = H2 ∧ ∀ j, j < i → b j = e, ⟨xs.length, by simp, Nat.zero_le _, rfl, fun j h => absurd h (Nat.not_lt_zero _)⟩, ?_⟩
  rintro i m H ⟨rfl, hi, rfl, ha⟩
  by_cases hlt : i < xs.length
  · refine .inr ⟨⟨xs, xs[i], hL, by simp [hlt]⟩, fun x H' y => ?_⟩
    obtain ⟨e1, y⟩ := y
    subst e1
    refine ⟨hw _, ?_⟩
    refine hs i x _ (y xs hL) ⟨b i, rfl, fun z => ⟨xs.length - (i + 1), by omega, rfl, hlt, rfl, fun j hj => ?_⟩, fun z => ?_⟩
    · by_cases h : j < i
      · exact ha j h
      · rw [show j = i by omega]; exact z
    · have z' := ne_not z
      rw [z']
      exact hx i hlt z'
  · have e1 : i = xs.length := by omega
    subst e1
    exact .inl ⟨⟨xs, hL, Nat.le_refl _⟩, hd ha⟩
theorem gwb_lst {K : PySem.W.Frag} {L : Addr} {xs : List V} {k : Nat} {te : TE} {vs : List Nat} {σ : L2.St} {e : Bool} {Q : VK} {H2 : Hp} (b : Nat → Bool) (hL : SqL K H2 L xs) (hw : ∀ x, wipe ((wipe σ vs).set k (some x)) vs = wipe σ vs)
    (hs : ∀ (i : Nat) (x : V) (Kt : VK), xs[i]? = some x → Kt (.bl (b i)) H2 → te ((wipe σ vs).set k (some x)) H2 Kt) (hd : (∀ i, i < xs.length → b i = e) → Q (.bl e) H2) (hx : ∀ i, i < xs.length → b i = (!e) → Q (.bl (!e)) H2) :
    ∃ W : Nat → Nat → Hp → Prop, (∃ m, W 0 m H2) ∧ GW (Itl K L) (gName k) te vs σ e Q W := by
  refine ⟨fun i m H => m = xs.length - i ∧ i ≤ xs.length ∧ H = H2 ∧ ∀ j, j < i → b j = e, ⟨xs.length, by simp, Nat.zero_le _, rfl, fun j h => absurd h (Nat.not_lt_zero _)⟩, ?_⟩
  rintro i m H ⟨rfl, hi, rfl, ha⟩
  by_cases hlt : i < xs.length
  · refine .inr ⟨⟨xs, xs[i], hL, by simp [hlt]⟩, fun x H' y => ?_⟩
    obtain ⟨e1, y⟩ := y
    subst e1
    refine ⟨hw _, ?_⟩
    refine hs i x _ (y xs hL) ⟨b i, rfl, fun z => ⟨xs.length - (i + 1), by omega, rfl, hlt, rfl, fun j hj => ?_⟩, fun z => ?_⟩
    · by_cases h : j < i
      · exact ha j h
      · rw [show j = i by omega]; exact z
    · have z' := ne_not z
      rw [z']
      exact hx i hlt z'
  · have e1 : i = xs.length := by omega
    subst e1
    exact .inl ⟨⟨xs, hL, Nat.le_refl _⟩, hd ha⟩
/-- .. for a in range(n) for b in range(a) -/
theorem gwb2_rng {n ka kb : Nat} {te : TE} {vs : List Nat} {σ : L2.St} {e : Bool} {Q : VK} {H2 : Hp} (c : Nat → Nat → Bool) (hn : n ≤ 100000) (h2 : ∀ x, ((wipe σ vs).set ka (some x))[ka]? = some (some x)) (w1 : ∀ x, wipe ((wipe σ vs).set ka (some x)) vs = wipe σ vs)
    (w2 : ∀ y x, wipe ((wipe ((wipe σ vs).set ka (some y)) [kb]).set kb (some x)) [kb] = wipe ((wipe σ vs).set ka (some y)) [kb])
    (hs : ∀ (i j : Nat) (Kt : VK), i < n → j < i → Kt (.bl (c i j)) H2 → te ((wipe ((wipe σ vs).set ka (some (.int (i : Int)))) [kb]).set kb (some (.int (j : Int)))) H2 Kt) (hd : (∀ i j, i < n → j < i → c i j = e) → Q (.bl e) H2) (hx : ∀ i j, i < n → j < i → c i j = (!e) → Q (.bl (!e)) H2) :
    ∃ W : Nat → Nat → Hp → Prop, (∃ m, W 0 m H2) ∧ GW2 (Itr 0 n) (gName ka) (iRng1 (tCons (tVar ka) tNil)) (gName kb) te vs [kb] σ e Q W := by
  have step : ∀ i, i < n → (n - i) * (n + 1) = (n - (i + 1)) * (n + 1) + n + 1 := fun i hi => by
    have : n - i = (n - (i + 1)) + 1 := by omega
    rw [this, Nat.succ_mul]
    omega
  refine ⟨fun i m H => m = (n - i) * (n + 1) ∧ i ≤ n ∧ H = H2 ∧ ∀ a b, a < i → b < a → c a b = e, ⟨_, rfl, Nat.zero_le _, rfl, fun a b h => absurd h (Nat.not_lt_zero _)⟩, ?_⟩
  rintro i m H ⟨rfl, hi, rfl, ha⟩
  by_cases hlt : i < n
  · have st := step i hlt
    refine .inr ⟨hlt, fun x HH y => ?_⟩
    obtain ⟨e1, y⟩ := y
    subst e1 y
    refine ⟨w1 _, ?_⟩
    rw [Int.zero_add]
    refine ⟨_, h2 _, _, rfl, by omega, by omega, ?_⟩
    rw [Int.toNat_natCast]
    refine ⟨fun j k H' => k = (n - i) * (n + 1) - 1 - j ∧ j ≤ i ∧ H' = HH ∧ ∀ b, b < j → c i b = e, ⟨_, ?_, rfl, Nat.zero_le _, rfl, fun b h => absurd h (Nat.not_lt_zero _)⟩, ?_⟩
    · omega
    rintro j k H' ⟨rfl, hj, rfl, hb⟩
    by_cases hlj : j < i
    · refine .inr ⟨hlj, fun x H4 y => ?_⟩
      obtain ⟨e1, y⟩ := y
      subst e1 y
      refine ⟨w2 _ _, ?_⟩
      rw [Int.zero_add]
      refine hs i j _ hlt hlj ⟨c i j, rfl, fun z => ⟨(n - i) * (n + 1) - 1 - (j + 1), by omega, rfl, hlj, rfl, fun b hb' => ?_⟩, fun z => ?_⟩
      · by_cases h : b < j
        · exact hb b h
        · rw [show b = j by omega]; exact z
      · have z' := ne_not z
        rw [z']
        exact hx i j hlt hlj z'
    · have e1 : j = i := by omega
      subst e1
      refine .inl ⟨Nat.le_refl _, (n - (j + 1)) * (n + 1), by omega, by omega, rfl, hlt, rfl, fun a b h1 h2 => ?_⟩
      by_cases h : a < j
      · exact ha a b h h2
      · rw [show a = j by omega] at h2 ⊢
        exact hb b h2
  · have e1 : i = n := by omega
    subst e1
    exact .inl ⟨Nat.le_refl _, hd fun a b h1 h2 => ha a b h1 h2⟩
/-- a tuple of tuples of ints -/
def RR (H : Hp) (p : Addr) (P : List (List Int)) : Prop := ∃ rows : List V, H p = some (.tup rows) ∧ rows.length = P.length ∧ ∀ (i : Nat) row, P[i]? = some row → ∃ r, rows[i]? = some (.ref r) ∧ H r = some (.tup (row.map V.int))
theorem RR.same {H H' : Hp} {p : Addr} {P : List (List Int)} (x : RR H p P) (s : ∀ b xs, H b = some (.tup xs) → H' b = some (.tup xs)) : RR H' p P := by
  obtain ⟨rows, e1, e2, e3⟩ := x
  refine ⟨rows, s _ _ e1, e2, fun i row h => ?_⟩
  obtain ⟨r, h1, h2⟩ := e3 i row h
  exact ⟨r, h1, s _ _ h2⟩
theorem RR.len {H : Hp} {p : Addr} {P : List (List Int)} (x : RR H p P) : ∃ rows, H p = some (.tup rows) ∧ rows.length = P.length := by
  obtain ⟨rows, e1, e2, e3⟩ := x
  exact ⟨rows, e1, e2⟩
theorem RR.at {H : Hp} {p : Addr} {P : List (List Int)} {rows : List V} {i : Nat} {v : V} (x : RR H p P) (e : H p = some (.tup rows)) (h : rows[i]? = some v) : ∃ r row, v = .ref r ∧ P[i]? = some row ∧ H r = some (.tup (row.map V.int)) := by
  obtain ⟨rows', e1, e2, e3⟩ := x
  rw [e] at e1
  cases e1
  have hi : i < P.length := by
    rcases Nat.lt_or_ge i rows.length with h' | h'
    · omega
    · rw [List.getElem?_eq_none h'] at h; cases h
  obtain ⟨r, h1, h2⟩ := e3 i P[i] (List.getElem?_eq_getElem hi)
  rw [h] at h1
  cases h1
  exact ⟨r, _, rfl, List.getElem?_eq_getElem hi, h2⟩
/-- both tables' rows, one behind the other -/
theorem RR.app {H : Hp} {p m q : Addr} {P T : List (List Int)} {rp rm : List V} (x : RR H p P) (y : RR H m T) (ep : H p = some (.tup rp)) (em : H m = some (.tup rm)) (eq : H q = some (.tup (rp ++ rm))) : RR H q (P ++ T) := by
  obtain ⟨rp', a1, a2, a3⟩ := x
  obtain ⟨rm', b1, b2, b3⟩ := y
  rw [ep] at a1
  cases a1
  rw [em] at b1
  cases b1
  refine ⟨_, eq, by rw [List.length_append, List.length_append, a2, b2], fun i row h => ?_⟩
  by_cases c : i < P.length
  · rw [List.getElem?_append_left c] at h
    rw [List.getElem?_append_left (by omega)]
    exact a3 i row h
  · rw [List.getElem?_append_right (by omega)] at h
    rw [List.getElem?_append_right (by omega), a2]
    exact b3 _ row h
/-- the entry at a, b -/
def fnI (P : List (List Int)) (a b : Nat) : Int := (P.getD a []).getD b 0
def fnN (P : List (List Int)) (a b : Nat) : Nat := (fnI P a b).toNat
theorem RR.tt {H : Hp} {p : Addr} {P : List (List Int)} (x : RR H p P) (hl : ∀ row ∈ P, row.length = P.length) : TT H p P.length (fnI P) := by
  obtain ⟨rows, e1, e2, e3⟩ := x
  refine ⟨rows, e1, e2, fun i hi => ?_⟩
  obtain ⟨r, h1, h2⟩ := e3 i P[i] (List.getElem?_eq_getElem hi)
  refine ⟨r, h1, ?_⟩
  have hrow := hl P[i] (List.getElem_mem hi)
  have : P[i].map V.int = (List.range P.length).map fun j => V.int (fnI P i j) := by
    refine ext_of (by rw [List.length_map, hrow]) fun j v hv => ?_
    rw [List.getElem?_map] at hv
    cases hj : P[i][j]? with
    | none => rw [hj] at hv; cases hv
    | some z =>
      rw [hj] at hv
      have hv' : V.int z = v := Option.some.inj hv
      rw [← hv']
      unfold fnI
      rw [List.getD_eq_getElem?_getD, List.getD_eq_getElem?_getD, List.getElem?_eq_getElem hi]
      show V.int z = V.int (P[i][j]?.getD 0)
      rw [hj]
      rfl
  rw [this] at h2
  exact h2
theorem TT.congr {H : Hp} {p : Addr} {n : Nat} {F G : Nat → Nat → Int} (x : TT H p n F) (h : ∀ i j, i < n → j < n → F i j = G i j) : TT H p n G := by
  obtain ⟨rows, e1, e2, e3⟩ := x
  refine ⟨rows, e1, e2, fun i hi => ?_⟩
  obtain ⟨r, h1, h2⟩ := e3 i hi
  refine ⟨r, h1, h2.trans (congrArg (fun l => some (HO.tup l)) (List.map_congr_left fun j hj => ?_))⟩
  rw [h i j hi (List.mem_range.mp hj)]
theorem fn_mem {P : List (List Int)} {n i j : Nat} (hP : P.length = n) (hl : ∀ row ∈ P, row.length = n) (hi : i < n) (hj : j < n) : ∃ row, row ∈ P ∧ fnI P i j ∈ row := by
  have h1 : i < P.length := by omega
  have hr := hl P[i] (List.getElem_mem h1)
  refine ⟨P[i], List.getElem_mem h1, ?_⟩
  unfold fnI
  rw [List.getD_eq_getElem?_getD, List.getD_eq_getElem?_getD, List.getElem?_eq_getElem h1]
  show (P[i][j]?).getD 0 ∈ P[i]
  rw [List.getElem?_eq_getElem (by omega)]
  exact List.getElem_mem _
end Tb

set_option Elab.async false
set_option linter.all false
set_option maxRecDepth 100000
set_option maxHeartbeats 4000000
/-! Dicts whose keys are nested tuples, in the hand layer: the object, and d[k], k in d, k not in d, d[k] = v, d.get(k), {}, displays. -/
namespace ND
open PySem PySem.W L2
open Sem (wp)

/-! ### keys -/
mutual
inductive Ky (H : Hp) : NestedKey → V → Prop
  | non : Ky H .none .non
  | int (i : Int) : Ky H (.num i) (.int i)
  | str (x : Str) : Ky H (.text x) (.str x)
  | tup {a : Addr} {xs : List V} {ks : List NestedKey} : H a = some (.tup xs) → Kys H ks xs → Ky H (.tup ks) (.ref a)
inductive Kys (H : Hp) : List NestedKey → List V → Prop
  | nil : Kys H [] []
  | cons {k : NestedKey} {x : V} {ks : List NestedKey} {xs : List V} : Ky H k x → Kys H ks xs → Kys H (k :: ks) (x :: xs)
end
mutual
theorem Ky.keeps {H H' : Hp} (ht : ∀ b ys, H b = some (.tup ys) → H' b = some (.tup ys)) : ∀ {k : NestedKey} {v : V}, Ky H k v → Ky H' k v
  | _, _, .non => .non
  | _, _, .int i => .int i
  | _, _, .str x => .str x
  | _, _, .tup e r => .tup (ht _ _ e) (Kys.keeps ht r)
theorem Kys.keeps {H H' : Hp} (ht : ∀ b ys, H b = some (.tup ys) → H' b = some (.tup ys)) : ∀ {ks : List NestedKey} {xs : List V}, Kys H ks xs → Kys H' ks xs
  | _, _, .nil => .nil
  | _, _, .cons a r => .cons (Ky.keeps ht a) (Kys.keeps ht r)
end
mutual
theorem Ky.is {P : Program} {w : World} {H : Hp} {h : Heap} (ok : HOk P w H h) : ∀ {k : NestedKey} {v : V} {u : Value}, Ky H k v → RelV v u → NestedIs h k u
  | _, _, _, .non, r => by
    obtain rfl := (show _ = Value.none from r)
    exact .none
  | _, _, _, .int i, r => by
    obtain ⟨t, rfl⟩ := (show ∃ t, _ = Value.int i t from r)
    exact .int i t
  | _, _, _, .str x, r => by
    obtain ⟨t, rfl⟩ := (show ∃ t, _ = Value.str x t from r)
    exact .text x t
  | _, _, _, .tup (a := a) (xs := xs) e q, r => by
    obtain rfl := (show _ = Value.ref a from r)
    obtain ⟨_, its, rv, o, h1, h2, n, h3⟩ := (show ObjOk P w H h a (.tup xs) from ok a _ e)
    exact .tup h1 h2 h3 (by simpa using Kys.is ok q rv)
theorem Kys.is {P : Program} {w : World} {H : Hp} {h : Heap} (ok : HOk P w H h) : ∀ {ks : List NestedKey} {xs : List V} {us : List Value}, Kys H ks xs → Vals xs us → NestedAll h ks us
  | _, _, _, .nil, .nil => .nil
  | _, _, _, .cons a r, .cons b t => .cons (Ky.is ok a b) (Kys.is ok r t)
end
theorem Kys.ints {H : Hp} : ∀ is : List Int, Kys H (is.map .num) (is.map .int)
  | [] => .nil
  | i :: is => .cons (.int i) (Kys.ints is)
mutual
/-- a value is at most one key -/
theorem Ky.inj {H : Hp} : ∀ {k k' : NestedKey} {v : V}, Ky H k v → Ky H k' v → k = k'
  | _, _, _, .non, .non => rfl
  | _, _, _, .int i, .int _ => rfl
  | _, _, _, .str x, .str _ => rfl
  | _, _, _, .tup e q, .tup e' q' => by
    rw [e] at e'
    cases e'
    rw [Kys.inj q q']
theorem Kys.inj {H : Hp} : ∀ {ks ks' : List NestedKey} {xs : List V}, Kys H ks xs → Kys H ks' xs → ks = ks'
  | _, _, _, .nil, .nil => rfl
  | _, _, _, .cons a r, .cons a' r' => by rw [Ky.inj a a', Kys.inj r r']
end

/-! ### the object -/
abbrev RE : List (NestedKey × Addr × V) → List (NestedKey × Addr × Value) → Prop := Paired fun p q => p.1 = q.1 ∧ p.2.1 = q.2.1 ∧ RelV p.2.2 q.2.2
def nD (P : Program) (w : World) (a : Addr) (es : List (NestedKey × Addr × V)) : HO := .ext fun h =>
  es.length ≤ sizeLine ∧ (a == sysModules) = false ∧ ∃ xs, RE es xs ∧ ∃ o ds ep, h.get? a = some o ∧ o.ExactDict ∧ o.data = .dict ds ep ∧ ds.toList = xs.map (entryOfKey (nestedKind P w)) ∧ (xs.map (·.1)).Nodup
def kvOf (es : List (NestedKey × Addr × V)) : List (NestedKey × V) := es.map fun e => (e.1, e.2.2)
def Keyed (H : Hp) (es : List (NestedKey × Addr × V)) : Prop := ∀ e ∈ es, Ky H e.1 (.ref e.2.1) ∧ e.1.depth ≤ 8
/-- a dict with nested keys, readable; changeable -/
def AtR (P : Program) (w : World) (H : Hp) (a : Addr) (kvs : List (NestedKey × V)) : Prop := ∃ es, Rd H a (nD P w a es) ∧ Keyed H es ∧ kvs = kvOf es
def At (P : Program) (w : World) (H : Hp) (a : Addr) (kvs : List (NestedKey × V)) : Prop := ∃ es, H a = some (nD P w a es) ∧ Keyed H es ∧ kvs = kvOf es
section
variable {P : Program} {w : World} {H H' : Hp} {h : Heap} {a : Addr} {kvs : List (NestedKey × V)} {es : List (NestedKey × Addr × V)}
theorem At.rd (x : At P w H a kvs) : AtR P w H a kvs := let ⟨es, e, k, r⟩ := x; ⟨es, .inl e, k, r⟩
theorem At.ext (x : At P w H a kvs) : ∃ φ, H a = some (.ext φ) := let ⟨_, e, _⟩ := x; ⟨_, e⟩
theorem Keyed.keeps (x : Keyed H es) (ht : ∀ b ys, H b = some (.tup ys) → H' b = some (.tup ys)) : Keyed H' es := fun e he => ⟨(x e he).1.keeps ht, (x e he).2⟩
/-- it stays while it and the tuples stay -/
theorem At.keeps (x : At P w H a kvs) (ha : ∀ u, H a = some u → H' a = some u) (ht : ∀ b ys, H b = some (.tup ys) → H' b = some (.tup ys)) : At P w H' a kvs :=
  let ⟨es, e, k, r⟩ := x; ⟨es, ha _ e, k.keeps ht, r⟩
theorem nD_ok {xs : List (NestedKey × Addr × Value)} (hl : es.length ≤ sizeLine) (hd : (a == sysModules) = false) (r : RE es xs) (d : ∃ o ds ep, h.get? a = some o ∧ o.ExactDict ∧ o.data = .dict ds ep ∧ ds.toList = xs.map (entryOfKey (nestedKind P w)) ∧ (xs.map (·.1)).Nodup) :
    ObjOk P w H' h a (nD P w a es) :=
  ⟨⟨hl, hd, xs, r, d⟩, let ⟨o, _, _, e, _⟩ := d; ⟨o, e⟩, fun h1 h2 ⟨z1, z2, xs, r, o, ds, ep, e, q⟩ k => ⟨z1, z2, xs, r, o, ds, ep, k o e, q⟩⟩
theorem keyed_is (ok : HOk P w H h) : ∀ {es : List (NestedKey × Addr × V)} {xs : List (NestedKey × Addr × Value)}, RE es xs → Keyed H es → ∀ x ∈ xs, (nestedKind P w).is h x.1 x.2.1 := by
  intro es xs r
  induction r with
  | nil => intro _ x hx; exact nomatch hx
  | @cons p q ps qs hq t ih =>
    intro k x hx
    rcases List.mem_cons.mp hx with e | hx
    · subst e
      obtain ⟨k1, k2⟩ := k p (List.mem_cons_self ..)
      rw [← hq.1, ← hq.2.1]
      exact ⟨k1.is ok rfl, k2⟩
    · exact ih (fun e he => k e (List.mem_cons_of_mem _ he)) x hx
theorem re_kv : ∀ {es : List (NestedKey × Addr × V)} {xs : List (NestedKey × Addr × Value)}, RE es xs → KV (kvOf es) (pairsH xs)
  | _, _, .nil => .nil
  | _, _, .cons h t => .cons ⟨h.1, h.2.2⟩ (re_kv t)
theorem rd_all (ok : HOk P w H h) (x : AtR P w H a kvs) : kvs.length ≤ sizeLine ∧ (a == sysModules) = false ∧ ∃ vs, KV kvs vs ∧ h.DictKeyed (nestedKind P w) a vs := by
  obtain ⟨es, e, k, rfl⟩ := x
  obtain ⟨⟨z, y, xs, r, o, ds, ep, h1, h2, h3, h4, h5⟩, _, _⟩ := (show ObjOk P w H h a (nD P w a es) from rd_of ok e)
  exact ⟨by unfold kvOf; rw [List.length_map]; exact z, y, pairsH xs, re_kv r, xs, ⟨o, ds, ep, h1, h2, h3, h4, keyed_is ok r k, h5⟩, rfl⟩
end

/-! ### reads -/
/-- what the dict at a holds at the key y -/
def NGet (P : Program) (w : World) (H : Hp) (a : Addr) (y : V) (r : Option V) : Prop := ∃ kvs k b, AtR P w H a kvs ∧ y = .ref b ∧ Ky H k y ∧ k.depth ≤ 8 ∧ r = valV kvs k
section
variable {X : Cx} {pins : List (Addr × Obj)} {σ : L2.St} {H : Hp} {s : Shared} {a : Addr} {y v d : V} {u r : Value} {o : Option V} {A : Around} {E : Value → Shared → Prop}
theorem n_getItem {Q : Value → Shared → Prop} (hu : A.units + 9 < cLine) (I : Inv X pins σ H s) (g : NGet X.prog X.w H a y (some v)) (ry : RelV y u) (h : ∀ w' s', Inv X pins σ H s' → RelV v w' → Q w' s') :
    wpAny (model X.prog X.w) A (getItem (.ref a) u) Q E s := by
  obtain ⟨kvs, k, b, e, rfl, ky, kd, l⟩ := g
  cases (show u = Value.ref b from ry)
  obtain ⟨z, hd, vs, rel, dd⟩ := rd_all I.hok e
  obtain ⟨w', hw, rw'⟩ := RelO.some_of (v := v) (o := valueAt vs k) (by rw [l]; exact rel.val k)
  exact getItem_keyed (knd := nestedKind X.prog X.w) (by show A.units + 1 + 8 < cLine; omega) ⟨ky.is I.hok rfl, kd⟩ dd hw (h w' _ (I.tok _) rw')
theorem n_in {Q : Value → Shared → Prop} (hu : A.units + 9 < cLine) (I : Inv X pins σ H s) (g : NGet X.prog X.w H a y o) (ry : RelV y u) (h : ∀ s', Inv X pins σ H s' → Q (.bool o.isSome) s') :
    wpAny (model X.prog X.w) A (compareOp .In u (.ref a)) Q E s := by
  obtain ⟨kvs, k, b, e, rfl, ky, kd, l⟩ := g
  cases (show u = Value.ref b from ry)
  obtain ⟨z, hd, vs, rel, dd⟩ := rd_all I.hok e
  refine in_keyed (knd := nestedKind X.prog X.w) (by show A.units + 1 + 8 < cLine; omega) ⟨ky.is I.hok rfl, kd⟩ hd dd ?_
  rw [← (rel.val k).isSome_eq, ← l]
  exact h _ (I.tok _)
theorem n_notIn {Q : Value → Shared → Prop} (hu : A.units + 9 < cLine) (I : Inv X pins σ H s) (g : NGet X.prog X.w H a y o) (ry : RelV y u) (h : ∀ s', Inv X pins σ H s' → Q (.bool (!o.isSome)) s') :
    wpAny (model X.prog X.w) A (compareOp .NotIn u (.ref a)) Q E s := by
  obtain ⟨kvs, k, b, e, rfl, ky, kd, l⟩ := g
  cases (show u = Value.ref b from ry)
  obtain ⟨z, hd, vs, rel, dd⟩ := rd_all I.hok e
  refine notIn_keyed (knd := nestedKind X.prog X.w) (by show A.units + 1 + 8 < cLine; omega) ⟨ky.is I.hok rfl, kd⟩ hd dd ?_
  rw [← (rel.val k).isSome_eq, ← l]
  exact h _ (I.tok _)
theorem n_get1 {Q : Value → Shared → Prop} (hu : A.units + 9 < cLine) (I : Inv X pins σ H s) (g : NGet X.prog X.w H a y o) (ry : RelV y u) (h : ∀ w' s', Inv X pins σ H s' → RelV (o.getD .non) w' → Q w' s') :
    wpAny (model X.prog X.w) A (call (.builtin "dict.get") [.ref a, u]) Q E s := by
  obtain ⟨kvs, k, b, e, rfl, ky, kd, l⟩ := g
  cases (show u = Value.ref b from ry)
  obtain ⟨z, hd, vs, rel, dd⟩ := rd_all I.hok e
  refine get_keyed (knd := nestedKind X.prog X.w) (by show A.units + 1 + 8 < cLine; omega) ⟨ky.is I.hok rfl, kd⟩ hd dd (h _ _ (I.tok _) ?_)
  rw [l]
  exact (rel.val k).getD rfl
theorem n_get2 {Q : Value → Shared → Prop} (hu : A.units + 9 < cLine) (I : Inv X pins σ H s) (g : NGet X.prog X.w H a y o) (ry : RelV y u) (rd : RelV d r) (h : ∀ w' s', Inv X pins σ H s' → RelV (o.getD d) w' → Q w' s') :
    wpAny (model X.prog X.w) A (call (.builtin "dict.get") [.ref a, u, r]) Q E s := by
  obtain ⟨kvs, k, b, e, rfl, ky, kd, l⟩ := g
  cases (show u = Value.ref b from ry)
  obtain ⟨z, hd, vs, rel, dd⟩ := rd_all I.hok e
  refine getOr_keyed (knd := nestedKind X.prog X.w) (by show A.units + 1 + 8 < cLine; omega) ⟨ky.is I.hok rfl, kd⟩ hd dd (h _ _ (I.tok _) ?_)
  rw [l]
  exact (rel.val k).getD rd
end

/-! ### d[k] = v -/
def putE (es : List (NestedKey × Addr × V)) (k : NestedKey) (b : Addr) (v : V) : List (NestedKey × Addr × V) :=
  if (es.any fun e => decide (e.1 = k)) = true then es.map fun e => if e.1 = k then (e.1, e.2.1, v) else e else es ++ [(k, b, v)]
theorem kv_any (es : List (NestedKey × Addr × V)) (k : NestedKey) : ((kvOf es).any fun kv => decide (kv.1 = k)) = es.any fun e => decide (e.1 = k) := by
  unfold kvOf
  rw [List.any_map]
  rfl
theorem kv_put (es : List (NestedKey × Addr × V)) (k : NestedKey) (b : Addr) (v : V) : kvOf (putE es k b v) = putK (kvOf es) k v := by
  unfold putE putK
  rw [kv_any]
  by_cases c : (es.any fun e => decide (e.1 = k)) = true
  · rw [if_pos c, if_pos c]
    unfold kvOf
    rw [List.map_map, List.map_map]
    refine List.map_congr_left fun e _ => ?_
    show (fun e : NestedKey × Addr × V => (e.1, e.2.2)) (if e.1 = k then (e.1, e.2.1, v) else e) = if e.1 = k then (e.1, v) else (e.1, e.2.2)
    by_cases q : e.1 = k
    · rw [if_pos q, if_pos q]
    · rw [if_neg q, if_neg q]
  · rw [if_neg c, if_neg c]
    unfold kvOf
    rw [List.map_append]
    rfl
theorem putE_len (es : List (NestedKey × Addr × V)) (k : NestedKey) (b : Addr) (v : V) : (putE es k b v).length ≤ es.length + 1 := by
  unfold putE
  split
  · rw [List.length_map]; omega
  · rw [List.length_append]; exact Nat.le_refl _
theorem re_any {k : NestedKey} : ∀ {es : List (NestedKey × Addr × V)} {xs : List (NestedKey × Addr × Value)}, RE es xs → (es.any fun e => decide (e.1 = k)) = (atKey xs k).isSome
  | _, _, .nil => rfl
  | _, _, .cons (a := p) (b := q) (l₁ := ps) (l₂ := qs) h t => by
    have ih := re_any (k := k) t
    rw [List.any_cons, ih, h.1]
    by_cases e : q.1 = k
    · rw [decide_eq_true e, Bool.true_or]
      simp [atKey, List.find?_cons, e]
    · rw [decide_eq_false e, Bool.false_or]
      simp [atKey, List.find?_cons, e]
theorem re_repl {k : NestedKey} {v : V} {u : Value} (rv : RelV v u) : ∀ {es : List (NestedKey × Addr × V)} {xs : List (NestedKey × Addr × Value)}, RE es xs → RE (es.map fun e => if e.1 = k then (e.1, e.2.1, v) else e) (xs.map (putAt k u))
  | _, _, .nil => .nil
  | _, _, .cons (a := p) (b := q) h t => by
    rw [List.map_cons, List.map_cons]
    refine .cons ?_ (re_repl rv t)
    unfold putAt
    obtain ⟨h1, h2, h3⟩ := h
    by_cases e : p.1 = k
    · rw [if_pos e, if_pos (h1.symm.trans e)]
      exact ⟨h1, h2, rv⟩
    · rw [if_neg e, if_neg (fun z => e (h1.trans z))]
      exact ⟨h1, h2, h3⟩
theorem re_put {k : NestedKey} {b : Addr} {v : V} {u : Value} (rv : RelV v u) {es : List (NestedKey × Addr × V)} {xs : List (NestedKey × Addr × Value)} (r : RE es xs) : RE (putE es k b v) (storedH xs k b u) := by
  unfold putE storedH
  rw [re_any r]
  by_cases q : (atKey xs k).isSome = true
  · rw [if_pos q, if_pos q]
    exact re_repl rv r
  · rw [if_neg q, if_neg q]
    exact Paired.snoc r ⟨rfl, rfl, rv⟩
theorem keyed_put {H : Hp} {k : NestedKey} {b : Addr} {v : V} {es : List (NestedKey × Addr × V)} (x : Keyed H es) (ky : Ky H k (.ref b)) (kd : k.depth ≤ 8) : Keyed H (putE es k b v) := by
  unfold putE
  split
  · intro e he
    obtain ⟨e0, h0, rfl⟩ := List.mem_map.mp he
    have := x e0 h0
    by_cases q : e0.1 = k
    · rw [if_pos q]; exact this
    · rw [if_neg q]; exact this
  · intro e he
    rcases List.mem_append.mp he with h | h
    · exact x e h
    · rw [List.mem_singleton.mp h]
      exact ⟨ky, kd⟩
/-- the heap behind a[y] = v: any that holds the changed dict at a, and else what was -/
def NPut (P : Program) (w : World) (H : Hp) (a : Addr) (y v : V) (Q : Hp → Prop) : Prop :=
  ∃ kvs k b, At P w H a kvs ∧ y = .ref b ∧ Ky H k y ∧ k.depth ≤ 8 ∧ kvs.length < sizeLine ∧ ∀ φ, At P w (upd H a (.ext φ)) a (putK kvs k v) → Q (upd H a (.ext φ))
theorem upd_tup {H : Hp} {a : Addr} {u : HO} {φ : Heap → Prop} (e : H a = some (.ext φ)) : ∀ b ys, H b = some (.tup ys) → upd H a u b = some (.tup ys) := fun b ys eb => by
  rw [upd_ne (ne_of eb e (fun z => nomatch z))]
  exact eb
section
variable {X : Cx} {pins : List (Addr × Obj)} {σ : L2.St} {H : Hp} {s : Shared} {a : Addr} {y v d : V} {u r : Value} {A : Around} {E : Value → Shared → Prop}
theorem n_setItem {Qh : Hp → Prop} {Q : Unit → Shared → Prop} (hu : A.units + 9 < cLine) (I : Inv X pins σ H s) (g : NPut X.prog X.w H a y v Qh) (ry : RelV y u) (rv : RelV v r) (h : ∀ H' s', Inv X pins σ H' s' → Qh H' → Q () s') :
    wpAny (model X.prog X.w) A (setItem (.ref a) u r) Q E s := by
  obtain ⟨kvs, k, b, ⟨es, e, ke, rfl⟩, rfl, ky, kd, hl, q⟩ := g
  cases (show u = Value.ref b from ry)
  obtain ⟨⟨z, hd, xs, re, o, ds, ep, h1, h2, h3, h4, h5⟩, _, _⟩ := (show ObjOk X.prog X.w H s.heap a (nD X.prog X.w a es) from I.hok a _ e)
  have dd : s.heap.DictOfH (nestedKind X.prog X.w) a xs := ⟨o, ds, ep, h1, h2, h3, h4, keyed_is I.hok re ke, h5⟩
  have hel : (kvOf es).length = es.length := List.length_map ..
  have hz : xs.length ≤ sizeLine := by rw [← Paired.length re]; exact z
  refine wpAny_setItem_heap (knd := nestedKind X.prog X.w) (hsz := hz) (by show A.units + 1 + 8 < cLine; omega) ⟨ky.is I.hok rfl, kd⟩ dd fun h' dd' hs => ?_
  obtain ⟨o', ds', ep', g1, g2, g3, g4, _, g5⟩ := dd'
  have hzl : (putE es k b v).length ≤ sizeLine := by
    have := putE_len es k b v
    omega
  refine h _ _ (d_write (ob := nD X.prog X.w a (putE es k b v)) I (by rw [e]; exact True.intro) hs ⟨o', g1⟩ (nD_ok hzl hd (re_put rv re) ⟨o', ds', ep', g1, g2, g3, g4, g5⟩)) (q _ ⟨putE es k b v, upd_same, ?_, (kv_put es k b v).symm⟩)
  exact (keyed_put ke ky kd).keeps (upd_tup e)
end

/-! ### readings -/
section
variable (P : Program) (w : World)
def tNGet (td ty : TE) : TE := fun σ H Q => td σ H fun x H1 => ty σ H1 fun y H2 => ∃ a v, x = .ref a ∧ NGet P w H2 a y (some v) ∧ Q v H2
def tNIn (ty td : TE) : TE := fun σ H Q => ty σ H fun y H1 => td σ H1 fun x H2 => ∃ a o, x = .ref a ∧ NGet P w H2 a y o ∧ Q (.bl o.isSome) H2
def tNNotIn (ty td : TE) : TE := fun σ H Q => ty σ H fun y H1 => td σ H1 fun x H2 => ∃ a o, x = .ref a ∧ NGet P w H2 a y o ∧ Q (.bl (!o.isSome)) H2
def sNPut (td ty tv : TE) : TS := fun D σ H => tv σ H fun v H1 => td σ H1 fun x H2 => ty σ H2 fun y H3 => ∃ a, x = .ref a ∧ NPut P w H3 a y v (D.nx σ)
def tNGet1 (td ty : TE) : TE := fun σ H Q => td σ H fun x H1 => ∃ a kvs, x = .ref a ∧ AtR P w H1 a kvs ∧ ty σ H1 fun y H2 => ∃ o, NGet P w H2 a y o ∧ Q (o.getD .non) H2
def tNGet2 (td ty tx : TE) : TE := fun σ H Q => td σ H fun x H1 => ∃ a kvs, x = .ref a ∧ AtR P w H1 a kvs ∧ ty σ H1 fun y H2 => tx σ H2 fun z H3 => ∃ o, NGet P w H3 a y o ∧ Q (o.getD z) H3
def tNNew : TE := fun _ H Q => ∀ p φ, H p = none → At P w (upd H p (.ext φ)) p [] → Q (.ref p) (upd H p (.ext φ))
end
section
variable {X : Cx} {o i e f value : Expr} {pos pos' tpos apos cpos : Pos} {td ty tv tx : TE}
theorem typeIs_of {pins : List (Addr × Obj)} {σ : L2.St} {H : Hp} {s : Shared} {a : Addr} {kvs : List (NestedKey × V)} (I : Inv X pins σ H s) (g : AtR X.prog X.w H a kvs) : s.TypeIs (.ref a) "dict" := by
  obtain ⟨_, _, vs, _, dd⟩ := rd_all I.hok g
  exact dd.typeIs
theorem noDict_of {pins : List (Addr × Obj)} {σ : L2.St} {H : Hp} {s : Shared} {a : Addr} {kvs : List (NestedKey × V)} (I : Inv X pins σ H s) (g : AtR X.prog X.w H a kvs) :
    ∀ b, Value.ref a = .ref b → ∃ ob, s.heap.get? b = some ob ∧ ob.dict = none := fun b q => by
  cases q
  obtain ⟨_, _, vs, _, xs, ⟨ob, _, _, h1, h2, _⟩, _⟩ := rd_all I.hok g
  exact ⟨ob, h1, h2.2.1⟩
theorem pe_nget (hu : X.A.units + 9 < cLine) (ho : PE X o td) (hi : PE X i ty) (hs : NoSl i) : PE X (.Subscript o i pos) (tNGet X.prog X.w td ty) := by
  refine ⟨fun pins s σ H Q I h => ?_⟩
  refine subD_of PySem.F.slot_dict_getitem.lookup hs (thn (ho.run pins s σ H _ I h) fun u s1 ⟨x, H1, I1, rx, q1⟩ => thn (hi.run pins s1 σ H1 _ I1 q1) fun iv s2 ⟨y, H2, I2, ry, a, v, ex, g, q2⟩ => ?_)
  subst ex
  obtain rfl : u = Value.ref a := rx
  refine ⟨?_, n_getItem hu I2 g ry fun w' s3 I3 rw' => ⟨v, H2, I3, rw', q2⟩⟩
  obtain ⟨kvs, k, b, e, _⟩ := g
  exact typeIs_of I2 e
theorem pc_nin (hu : X.A.units + 9 < cLine) (hi : PE X i ty) (ho : PE X o td) : PC X .In i o (tNIn X.prog X.w ty td) := by
  refine ⟨fun pins s σ H Q I h => ?_⟩
  refine thn (hi.run pins s σ H _ I h) fun iv s1 ⟨y, H1, I1, ry, q1⟩ => thn (ho.run pins s1 σ H1 _ I1 q1) fun u s2 ⟨x, H2, I2, rx, a, ov, ex, g, q2⟩ => ?_
  subst ex
  obtain rfl : u = Value.ref a := rx
  exact n_in hu I2 g ry fun s3 I3 => ⟨.bl ov.isSome, H2, I3, rfl, q2⟩
theorem pc_nnotin (hu : X.A.units + 9 < cLine) (hi : PE X i ty) (ho : PE X o td) : PC X .NotIn i o (tNNotIn X.prog X.w ty td) := by
  refine ⟨fun pins s σ H Q I h => ?_⟩
  refine thn (hi.run pins s σ H _ I h) fun iv s1 ⟨y, H1, I1, ry, q1⟩ => thn (ho.run pins s1 σ H1 _ I1 q1) fun u s2 ⟨x, H2, I2, rx, a, ov, ex, g, q2⟩ => ?_
  subst ex
  obtain rfl : u = Value.ref a := rx
  exact n_notIn hu I2 g ry fun s3 I3 => ⟨.bl (!ov.isSome), H2, I3, rfl, q2⟩
theorem ps_nput (hu : X.A.units + 9 < cLine) (ho : PE X o td) (hi : PE X i ty) (hv : PE X value tv) (hs : swapsWith value (some (.Subscript o i pos')) pos.line X.env = pure false) :
    PS X (.Assign [.Subscript o i pos'] value pos) (sNPut X.prog X.w td ty tv) := by
  refine ⟨fun pins s σ H D I h => ?_⟩
  refine wpAny_Assign_Subscript (thn (hv.run pins s σ H _ I h) fun r s1 ⟨v, H1, I1, rv, q1⟩ => thn (ho.run pins s1 σ H1 _ I1 q1) fun u s2 ⟨x, H2, I2, rx, q2⟩ => thn (hi.run pins s2 σ H2 _ I2 q2) fun iv s3 ⟨y, H3, I3, ry, a, ex, g⟩ => ?_) hs
  subst ex
  obtain rfl : u = Value.ref a := rx
  exact n_setItem hu I3 g ry rv fun H4 s4 I4 q3 => ⟨σ, H4, I4, q3⟩
theorem pe_nget1 (hu : X.A.units + 9 < cLine) (ho : PE X o td) (he : PE X e ty) (m : M1 X o "get" apos e cpos) : PE X (.Call (.Attribute o "get" apos) [e] [] cpos) (tNGet1 X.prog X.w td ty) := by
  refine ⟨fun pins s σ H Q I h => ?_⟩
  refine wpAny_Call_method m.base m.few m.line PySem.F.plainAttrs_dict PySem.F.slot_dict_get PySem.F.type_dict_get (thn (ho.run pins s σ H _ I h) fun u s1 ⟨x, H1, I1, rx, a, kvs, ex, d, q1⟩ => ?_)
  subst ex
  obtain rfl : u = Value.ref a := rx
  refine ⟨typeIs_of I1 d, noDict_of I1 d, ?_⟩
  rw [m.trees]
  refine Calls.callWith_builtin rfl (Calls.evalArgs_plain (Calls.spliced_cons (thn (he.run pins s1 σ H1 _ I1 q1) fun iv s2 ⟨y, H2, I2, ry, ov, g, q2⟩ => Calls.spliced_nil ?_)))
  exact n_get1 hu I2 g ry fun w' s3 I3 rw' => ⟨_, H2, I3, rw', q2⟩
theorem pe_nget2 (hu : X.A.units + 9 < cLine) (ho : PE X o td) (he : PE X e ty) (hf : PE X f tx) (m : M2 X o "get" apos e f cpos) : PE X (.Call (.Attribute o "get" apos) [e, f] [] cpos) (tNGet2 X.prog X.w td ty tx) := by
  refine ⟨fun pins s σ H Q I h => ?_⟩
  refine wpAny_Call_method m.base m.few m.line PySem.F.plainAttrs_dict PySem.F.slot_dict_get PySem.F.type_dict_get (thn (ho.run pins s σ H _ I h) fun u s1 ⟨x, H1, I1, rx, a, kvs, ex, d, q1⟩ => ?_)
  subst ex
  obtain rfl : u = Value.ref a := rx
  refine ⟨typeIs_of I1 d, noDict_of I1 d, ?_⟩
  rw [m.trees]
  refine Calls.callWith_builtin rfl (Calls.evalArgs_plain (Calls.spliced_cons (thn (he.run pins s1 σ H1 _ I1 q1) fun iv s2 ⟨y, H2, I2, ry, q2⟩ =>
    Calls.spliced_cons (thn (hf.run pins s2 σ H2 _ I2 q2) fun fv s3 ⟨z, H3, I3, rz, ov, g, q3⟩ => Calls.spliced_nil ?_))))
  exact n_get2 hu I3 g ry rz fun w' s4 I4 rw' => ⟨_, H3, I4, rw', q3⟩
theorem n_empty {P : Program} {w : World} {H : Hp} (h : Heap) (hb : sysModules < h.objs.size) : ObjOk P w H (h.push { cls := .type "dict", data := .dict #[] }) h.objs.size (nD P w h.objs.size []) :=
  nD_ok (xs := []) (Nat.zero_le _) (beq_eq_false_iff_ne.mpr (Ne.symm (Nat.ne_of_lt hb))) .nil ⟨_, #[], 0, Heap.get?_push_size _ rfl, ⟨rfl, rfl, rfl⟩, rfl, rfl, List.nodup_nil⟩
theorem pe_nnew : PE X (.Dict [] [] pos) (tNNew X.prog X.w) := ⟨fun pins s σ H Q I h =>
  wpAny_Dict_empty ⟨.ref s.heap.objs.size, _, I.laid (a := s.heap.objs.size) (o := nD X.prog X.w s.heap.objs.size []) (t' := s.toks) (fun _ _ q => Heap.get?_push_of_some _ q) (Nat.le_refl _) (n_empty s.heap I.big), rfl,
    h _ _ (I.hok.fresh (Nat.le_refl _)) ⟨[], upd_same, (fun _ h => nomatch h), rfl⟩⟩⟩
end

/-! ### displays -/
inductive CK (H : Hp) : List (V × V) → List (NestedKey × Addr × V) → Prop
  | nil : CK H [] []
  | cons {k : NestedKey} {b : Addr} {v : V} {ps : List (V × V)} {es : List (NestedKey × Addr × V)} : Ky H k (.ref b) → k.depth ≤ 8 → CK H ps es → CK H ((.ref b, v) :: ps) ((k, b, v) :: es)
def mergeE (acc more : List (NestedKey × Addr × V)) : List (NestedKey × Addr × V) := more.foldl (fun acc e => putE acc e.1 e.2.1 e.2.2) acc
theorem mergeE_len : ∀ (more acc : List (NestedKey × Addr × V)), (mergeE acc more).length ≤ acc.length + more.length
  | [], acc => Nat.le_refl _
  | p :: r, acc => by
    have h1 := mergeE_len r (putE acc p.1 p.2.1 p.2.2)
    have h2 := putE_len acc p.1 p.2.1 p.2.2
    show (mergeE (putE acc p.1 p.2.1 p.2.2) r).length ≤ _
    rw [List.length_cons]; omega
theorem ck_carries {P : Program} {w : World} {H : Hp} {h : Heap} (ok : HOk P w H h) {ps : List (V × V)} {es : List (NestedKey × Addr × V)} (c : CK H ps es) :
    ∀ {ws : List (Value × Value)}, VV ps ws → ∃ xs, CarriesH (nestedKind P w) h ws xs ∧ RE es xs := by
  induction c with
  | nil => intro ws r; cases r; exact ⟨[], True.intro, .nil⟩
  | @cons k b v ps es ky kd c ih =>
    intro ws r
    cases r with
    | @cons _ q _ qs h1 t =>
      obtain ⟨xs, c', r'⟩ := ih t
      obtain ⟨q1, q2⟩ := q
      obtain rfl : q1 = Value.ref b := h1.1
      exact ⟨(k, b, q2) :: xs, ⟨rfl, rfl, ⟨ky.is ok rfl, kd⟩, c'⟩, .cons ⟨rfl, rfl, h1.2⟩ r'⟩
theorem re_merge {es : List (NestedKey × Addr × V)} {xs : List (NestedKey × Addr × Value)} (r : RE es xs) : ∀ {acc : List (NestedKey × Addr × V)} {acc' : List (NestedKey × Addr × Value)}, RE acc acc' → RE (mergeE acc es) (storedAllH acc' xs) := by
  induction r with
  | nil => intro _ _ r; exact r
  | @cons p q ps qs h t ih =>
    intro acc acc' r
    obtain ⟨h1, h2, h3⟩ := h
    have := ih (re_put (k := p.1) (b := p.2.1) h3 r)
    rw [show mergeE acc (p :: ps) = mergeE (putE acc p.1 p.2.1 p.2.2) ps from rfl, show storedAllH acc' (q :: qs) = storedAllH (storedH acc' q.1 q.2.1 q.2.2) qs from rfl, ← h1, ← h2]
    exact this
theorem keyed_merge {H : Hp} : ∀ {es acc : List (NestedKey × Addr × V)}, Keyed H es → Keyed H acc → Keyed H (mergeE acc es)
  | [], _, _, r => r
  | (k, b, v) :: es, acc, q, r => by
    have h1 := q (k, b, v) (List.mem_cons_self ..)
    exact keyed_merge (es := es) (fun e he => q e (List.mem_cons_of_mem _ he)) (keyed_put r h1.1 h1.2)
theorem CK.keyed {H : Hp} {ps : List (V × V)} {es : List (NestedKey × Addr × V)} (c : CK H ps es) : Keyed H es := by
  induction c with
  | nil => exact fun _ h => nomatch h
  | cons ky kd _ ih =>
    intro e he
    rcases List.mem_cons.mp he with h | h
    · rw [h]; exact ⟨ky, kd⟩
    · exact ih e h
theorem kv_merge : ∀ (es acc : List (NestedKey × Addr × V)), kvOf (mergeE acc es) = es.foldl (fun acc e => putK acc e.1 e.2.2) (kvOf acc)
  | [], _ => rfl
  | (k, b, v) :: es, acc => by
    show kvOf (mergeE (putE acc k b v) es) = List.foldl (fun acc (e : NestedKey × Addr × V) => putK acc e.1 e.2.2) (putK (kvOf acc) k v) es
    rw [kv_merge es, kv_put]
def tNDisp (P : Program) (w : World) (trs : List (TE × TE)) : TE := fun σ H Q => ∀ p φ, H p = none → At P w (upd H p (.ext φ)) p [] → tPairs trs σ (upd H p (.ext φ)) fun ps H2 => H2 p = some (.ext φ) ∧ ∃ es, CK H2 ps es ∧ es.length ≤ 15 ∧
  ∀ φ', At P w (upd H2 p (.ext φ')) p (kvOf (mergeE [] es)) → Q (.ref p) (upd H2 p (.ext φ'))
theorem pe_ndisp {X : Cx} {pos : Pos} {keys : List (Option Expr)} {values : List Expr} {trs : List (TE × TE)} (hu : X.A.units + 9 < cLine) (h : PPs X pos keys values trs) (hall : keys.all (·.isSome) = true) (hl : keys.length = values.length) (h0 : keys ≠ [])
    (h15 : keys.length ≤ 15) : PE X (.Dict keys values pos) (tNDisp X.prog X.w trs) := by
  refine ⟨fun pins s σ H Q I q => ?_⟩
  have hn := I.hok.fresh (Nat.le_refl s.heap.objs.size)
  have I1 := I.laid (a := s.heap.objs.size) (o := nD X.prog X.w s.heap.objs.size []) (h' := s.heap.push { cls := .type "dict", data := .dict #[] }) (t' := s.toks) (fun _ _ q => Heap.get?_push_of_some _ q) (Nat.le_refl _) (n_empty s.heap I.big)
  have hlen := pairTrees_length keys values X.env pos hall hl
  have hne : pairTrees keys values X.env pos ≠ [] := fun e => by
    rw [e] at hlen
    exact h0 (List.length_eq_zero_iff.mp hlen.symm)
  rw [arm_eval_Dict, zip_pairTrees keys values X.env pos hall hl, dictDisplay_pairs _ hne (by omega)]
  refine wpAny_bind (wpAny_standAt (wpAny_bind (wpAny_subDictH (knd := nestedKind X.prog X.w) (by show X.A.units + 8 < cLine; omega) (by rw [hlen]; exact h15) ?_)))
  refine thn (h.run pins _ σ _ _ I1 (q _ _ hn ⟨[], upd_same, (fun _ h => nomatch h), rfl⟩)) fun ws s2 ⟨ps, H2, I2, rel, e, es, ck, lk, q2⟩ => ?_
  obtain ⟨xs, c, rk⟩ := ck_carries (P := X.prog) (w := X.w) I2.hok ck rel
  obtain ⟨⟨z, hd, xs0, re0, o, ds, ep, h1, h2, h3, h4, h5⟩, _, _⟩ := (show ObjOk X.prog X.w H2 s2.heap s.heap.objs.size (nD X.prog X.w s.heap.objs.size []) from I2.hok _ _ e)
  cases re0
  refine ⟨xs, c, ⟨o, ds, ep, h1, h2, h3, h4, (fun _ h => nomatch h), h5⟩, fun h' tk dd' hs => wpAny_pure ⟨.ref s.heap.objs.size, _, ?_, rfl, q2 _ ⟨mergeE [] es, upd_same, (keyed_merge (acc := []) ck.keyed (fun _ h => nomatch h)).keeps (upd_tup e), rfl⟩⟩⟩
  obtain ⟨o', ds', ep', g1, g2, g3, g4, _, g5⟩ := dd'
  have hz : (mergeE [] es).length ≤ sizeLine := by
    have h1 := mergeE_len es []
    rw [List.length_nil] at h1
    rw [sizeLine_eq]; omega
  exact d_write (ob := nD X.prog X.w s.heap.objs.size (mergeE [] es)) I2 (by rw [e]; exact True.intro) hs ⟨o', g1⟩ (nD_ok hz hd (re_merge rk .nil) ⟨o', ds', ep', g1, g2, g3, g4, g5⟩)
end ND

set_option Elab.async false
set_option linter.all false
set_option maxRecDepth 100000
set_option maxHeartbeats 4000000
/-! ==, !=, in, not in, list.index of nested tuples. -/
namespace ND
open PySem PySem.W L2
open Sem (wp)

theorem Kys.depth_le {H : Hp} : ∀ {ks : List NestedKey} {d : Nat}, NestedKey.depthAll ks ≤ d → ∀ k ∈ ks, k.depth ≤ d
  | [], _, _, _, h => nomatch h
  | k :: ks, d, hd, x, hx => by
    rw [NestedKey.depthAll] at hd
    rcases List.mem_cons.mp hx with rfl | h
    · omega
    · exact Kys.depth_le (H := H) (by omega) x h
section
variable {X : Cx}
/-- two tuples that are keys are compared -/
def rEqK : R2 := fun x y H Q => ∃ ks ks', Ky H (.tup ks) x ∧ Ky H (.tup ks') y ∧ NestedKey.depthAll ks ≤ 7 ∧ Q (.bl (decide (ks = ks'))) H
theorem decide_tup (ks ks' : List NestedKey) : decide (ks = ks') = NestedKey.beqAll ks ks' := by
  rw [← (show NestedKey.beq (.tup ks) (.tup ks') = NestedKey.beqAll ks ks' from rfl), ← NestedKey.decide_eq]
  by_cases e : ks = ks'
  · rw [e]; simp
  · rw [decide_eq_false e, decide_eq_false fun z => e (by injection z)]
theorem op_eqK (hu : X.A.units + 9 < cLine) : OpR X (compareOp .Eq) rEqK := by
  intro pins s σ H x y v u Q I rx ry h
  obtain ⟨ks, ks', a, b, hd, q⟩ := h
  have ha := a.is I.hok rx
  have hb := b.is I.hok ry
  cases ha with
  | @tup l o vs n _ h1 h2 h3 h4 =>
    cases hb with
    | @tup l' o' vs' n' _ k1 k2 k3 k4 =>
      have hl : s.heap.IsTuple l vs := ⟨_, h1, h2, _, h3⟩
      have hl' : s.heap.IsTuple l' vs' := ⟨_, k1, k2, _, k3⟩
      have n1 : vs.size = ks.length := by simpa using NestedAll.length _ _ h4
      have n2 : vs'.size = ks'.length := by simpa using NestedAll.length _ _ k4
      refine SeqAt.eq_tupleAt (e := keyEqAt ks ks') hl hl' (by omega) (fun j j1 j2 => ?_) ?_
      · have := eqAt_keys ks ks' X.A.in1 s vs.toList vs'.toList h4 k4 (by show X.A.units + 1 + _ < cLine; omega) j (by simpa using j1) (by simpa using j2)
        simpa using this
      · rw [n1, n2, beqAll_eq, ← decide_tup]
        exact ⟨.bl _, H, I, rfl, q⟩
/-- the item is the key k -/
noncomputable def isK (h : Heap) (k : NestedKey) (v : Value) : Bool := @decide (NestedIs h k v) (Classical.propDecidable _)
theorem isK_of {h : Heap} {k k' : NestedKey} {v : Value} (x : NestedIs h k' v) : isK h k v = decide (k' = k) := by
  unfold isK
  by_cases e : k' = k
  · subst e
    rw [decide_eq_true rfl]
    exact @decide_eq_true _ (Classical.propDecidable _) x
  · rw [decide_eq_false e]
    exact @decide_eq_false _ (Classical.propDecidable _) fun y => e (NestedIs.inj _ _ _ x y)
theorem any_isK {h : Heap} {k : NestedKey} : ∀ {ks : List NestedKey} {vs : List Value}, NestedAll h ks vs → vs.any (isK h k) = decide (k ∈ ks)
  | _, _, .nil => rfl
  | _, _, .cons (k := k') a r => by
    rw [List.any_cons, isK_of a, any_isK r]
    by_cases e : k' = k
    · simp [e]
    · have e' : ¬ k = k' := fun z => e z.symm
      simp [e, e']
theorem all_eq {h : Heap} {A : Around} {s : Shared} {k : NestedKey} {u : Value} (hs : s.heap = h) (hu : A.units + 8 < cLine) (hk : NestedIs h k u) (hd : k.depth ≤ 8) : ∀ {ks : List NestedKey} {vs : List Value}, NestedAll h ks vs → ∀ v ∈ vs, SeqAt.EqAt A s v u (isK h k v)
  | _, _, .nil => fun _ hv => nomatch hv
  | _, _, .cons (k := k') (v := v0) a r => fun v hv => by
    rcases List.mem_cons.mp hv with rfl | hv
    · rw [isK_of a, NestedKey.decide_eq]
      exact eqAt_key k' k A s _ u (by rw [hs]; exact a) (by rw [hs]; exact hk) (by omega)
    · exact all_eq hs hu hk hd r v hv
def rInK (K : PySem.W.Frag) (neg : Bool) : R2 := fun x y H Q => ∃ k p ks xs, y = .ref p ∧ SqL K H p xs ∧ Ky H k x ∧ k.depth ≤ 8 ∧ Kys H ks xs ∧ Q (.bl (if neg then !decide (k ∈ ks) else decide (k ∈ ks))) H
theorem op_inK (hu : X.A.units + 9 < cLine) : OpR X (compareOp .In) (rInK X.K false) := by
  intro pins s σ H x y v u Q I rx ry h
  obtain ⟨k, p, ks, xs, rfl, hq, hk, hd, hks, q⟩ := h
  cases ry
  obtain ⟨its, r, pl, hz⟩ := I.list hq
  have hv := hk.is I.hok rx
  have hi := hks.is I.hok r
  refine SeqAt.in_listAt (isK s.heap k) pl.isList (fun w hw => all_eq rfl (by show X.A.units + 1 + 8 < cLine; omega) hv hd hi w (by simpa using hw)) ⟨.bl _, H, I, rfl, ?_⟩
  rw [show its.toArray.any (isK s.heap k) = its.any (isK s.heap k) by simp, any_isK hi]
  exact q
theorem op_notInK (hu : X.A.units + 9 < cLine) : OpR X (compareOp .NotIn) (rInK X.K true) := by
  intro pins s σ H x y v u Q I rx ry h
  obtain ⟨k, p, ks, xs, rfl, hq, hk, hd, hks, q⟩ := h
  cases ry
  obtain ⟨its, r, pl, hz⟩ := I.list hq
  have hv := hk.is I.hok rx
  have hi := hks.is I.hok r
  refine SeqAt.notIn_listAt (isK s.heap k) pl.isList (fun w hw => all_eq rfl (by show X.A.units + 1 + 8 < cLine; omega) hv hd hi w (by simpa using hw)) ⟨.bl _, H, I, rfl, ?_⟩
  rw [show its.toArray.any (isK s.heap k) = its.any (isK s.heap k) by simp, any_isK hi]
  exact q
def rIndexK (K : PySem.W.Frag) : V → List V → Hp → VK → Prop := fun x ys H Q => ∃ p k y ks xs, x = .ref p ∧ ys = [y] ∧ SqL K H p xs ∧ Ky H k y ∧ k.depth ≤ 8 ∧ Kys H ks xs ∧ k ∈ ks ∧ Q (.int (ks.idxOf k : Nat)) H
theorem mt_indexK (hu : X.A.units + 9 < cLine) : MtR X "list.index" (rIndexK X.K) := by
  intro pins s σ H x xs v us Q I rx rxs h
  obtain ⟨p, k, y, ks, ys, rfl, rfl, hq, hk, hd, hks, hm, q⟩ := h
  cases rx
  cases rxs with
  | cons ry rt =>
    rename_i uy ut
    cases rt
    obtain ⟨its, r, pl, hz⟩ := I.list hq
    have hv := hk.is I.hok ry
    have hi := hks.is I.hok r
    have hl := NestedAll.length _ _ hi
    exact SeqAt.call_list_index pl.isList (SeqAt.ItemsEq.nested hi hv (by show X.A.units + 1 + k.depth < cLine; omega)) (by rw [← hl, ← r.length]; exact hz) hm ⟨.int (ks.idxOf k : Nat), H, I.tok _, ⟨_, rfl⟩, q⟩
/-- y in d, y not in d: d a dict with nested keys -/
def rInN (P : Program) (w : World) (neg : Bool) : R2 := fun y x H Q => ∃ a o, x = .ref a ∧ NGet P w H a y o ∧ Q (.bl (if neg then !o.isSome else o.isSome)) H
theorem op_inN (hu : X.A.units + 9 < cLine) : OpR X (compareOp .In) (rInN X.prog X.w false) := by
  intro pins s σ H y x u v Q I ry rx h
  obtain ⟨a, o, rfl, g, q⟩ := h
  cases rx
  exact n_in hu I g ry fun s3 I3 => ⟨.bl o.isSome, H, I3, rfl, q⟩
theorem op_notInN (hu : X.A.units + 9 < cLine) : OpR X (compareOp .NotIn) (rInN X.prog X.w true) := by
  intro pins s σ H y x u v Q I ry rx h
  obtain ⟨a, o, rfl, g, q⟩ := h
  cases rx
  exact n_notIn hu I g ry fun s3 I3 => ⟨.bl (!o.isSome), H, I3, rfl, q⟩
/-- a list or a tuple is walked -/
def iSeq (K : PySem.W.Frag) (tl : TE) : TI := fun σ H R => tl σ H fun x H1 => ∃ a xs, x = .ref a ∧ ((SqL K H1 a xs ∧ R (Itl K a) H1) ∨ (SqT K H1 a xs ∧ R (Itt K a) H1))
theorem pi_seq {tg l : Expr} {tl : TE} (hl : PE X l tl) : PI X tg l (iSeq X.K tl) := by
  refine ⟨fun pins s σ H R I h => ?_⟩
  refine thn (hl.run pins s σ H _ I h) fun v s1 ⟨x, H1, I1, r1, q1⟩ => ?_
  obtain ⟨a, xs, e, q⟩ := q1
  subst e
  cases r1
  rcases q with ⟨hq, q⟩ | ⟨hq, q⟩
  · obtain ⟨its, rv, p, hz⟩ := I1.list hq
    refine wpAny_pyIter_list p.isList ?_
    refine ⟨s1.heap.objs.size, [s1.heap.objs.size], _, _, H1, rfl, I1.kept (t' := s1.toks) fun b o e => Heap.get?_push_of_some _ e, turn_list a _, ⟨_, Heap.get?_push_size _ rfl, rfl, rfl⟩, fun b hb => ?_, q⟩
    have e : b = s1.heap.objs.size := by simpa using hb
    subst e
    exact I1.fpOk (Nat.le_refl _) (I1.hok.fresh (Nat.le_refl _))
  · obtain ⟨its, rv, p, hz⟩ := I1.tuple hq
    refine wpAny_pyIter_tuple (show s1.heap.IsTuple a its.toArray from p) ?_
    refine ⟨s1.heap.objs.size, [s1.heap.objs.size], _, _, H1, rfl, I1.kept (t' := s1.toks) fun b o e => Heap.get?_push_of_some _ e, turn_tuple a _, ⟨_, Heap.get?_push_size _ rfl, rfl, rfl⟩, fun b hb => ?_, q⟩
    have e : b = s1.heap.objs.size := by simpa using hb
    subst e
    exact I1.fpOk (Nat.le_refl _) (I1.hok.fresh (Nat.le_refl _))
theorem hu9 {A : Around} {k : Nat} (hr : Room k A) : A.units + 9 < cLine := by have := hr.un; omega
end
end ND

set_option Elab.async false
set_option linter.all false
set_option maxRecDepth 100000
set_option maxHeartbeats 4000000
/-! sorted(xs), xs a list of nested data: tuples of any lengths (empty ones too), or no tuples; < of nested data. -/
namespace SDx
open PySem PySem.W PySem.Calls PyProof.Rows SeqAt
section
variable {prog : Program} {w : World} {A : Around} {s : Shared}
/-- a tuple's own __lt__, as a sort calls it -/
theorem call_tup_lt {E Q : Value → Shared → Prop} {l b : Addr} {xs ys : Array Value} {e r : Nat → Bool} (hl : s.heap.IsTuple l xs) (hb : s.heap.IsTuple b ys)
    (he : ∀ j (h1 : j < xs.size) (h2 : j < ys.size), EqAt A.in1 s xs[j] ys[j] (e j)) (hr : ∀ j (h1 : j < xs.size) (h2 : j < ys.size), e j = false → RcLt A.in1 s xs[j] ys[j] (r j))
    (h : Q (.bool (firstLt e r (decide (xs.size < ys.size)) (List.range (min xs.size ys.size)))) s) : wpAny (model prog w) A (call (.builtin "tuple.__lt__") [.ref l, .ref b]) Q E s := by
  obtain ⟨⟨c1, d1, x1, s1⟩, o1, q1, n1, r1⟩ := id hl
  obtain ⟨⟨c2, d2, x2, s2⟩, o2, q2, n2, r2⟩ := id hb
  simp only at q1 r1 q2 r2
  subst q1 r1 q2 r2
  exact call_meets F.slot_tuple_lt ⟨_, o1, rfl⟩ F.entry_tuple_lt (F.args_tuple_lt_2 _ _) (tuple_ltAt l b xs ys n1 n2 d1 d2 s1 s2 e r) ⟨o1, o2, he, hr, h⟩
theorem oneLt_any {E : Value → Shared → Prop} {f : Bool} {da db : PyData} {a b : Value} {as bs : List Addr} {Q : Bool → Shared → Prop} (ra : Reads s.heap a da as) (rb : Reads s.heap b db bs) (h : alike da db = true) (hn : da ≠ .none) (hu : A.units + min da.depth db.depth < cLine)
    (hq : Q (dataLt da db) s) : wpAny (model prog w) A (oneLt' f a b) Q E s := by
  cases f with
  | false => exact oneLt_alike (fun z => nomatch z) ra rb h hn hu hq
  | true =>
    cases da with
    | tuple xs =>
      cases db with
      | tuple ys =>
        have hal : alikeAll xs ys = true := by simpa [alike] using h
        cases ra with
        | @tuple l o vs n _ as₁ h1 h2 h3 h4 =>
          cases rb with
          | @tuple l' o' vs' n' _ bs₁ k1 k2 k3 k4 =>
            have n1 : vs.size = xs.length := by simpa using SeqAt.ReadsAll.length _ _ _ h4
            have n2 : vs'.size = ys.length := by simpa using SeqAt.ReadsAll.length _ _ _ k4
            rw [dataLt_tuple, ← firstLt_toks xs ys hal, ← n1, ← n2] at hq
            rw [oneLt'_eq]
            simp only [if_true]
            refine wpAny_bind (wpAny_cRoomFor (SeqAt.room_here hu) ?_)
            refine wpAny_bind (wpAny_callSpecialIfBound?_slot (T := "tuple") ⟨_, h1, h2⟩ F.slot_tuple_lt (call_tup_lt (e := pairEq xs ys) (r := fun j => dataLt (xs.getD j .none) (ys.getD j .none)) ⟨_, h1, h2, _, h3⟩ ⟨_, k1, k2, _, k3⟩ (fun j j1 j2 => ?_) (fun j j1 j2 hj => ?_) (wpAny_truthy_bool hq)))
            · have := eqAt_alikeAll xs ys A.in1 s vs.toList vs'.toList _ _ h4 k4 hal (SeqAt.room_in hu) j (by simpa using j1) (by simpa using j2)
              simpa using this
            · have := rcLt_alikeAll xs ys A.in1 s vs.toList vs'.toList _ _ h4 k4 hal (SeqAt.room_in hu) j (by simpa using j1) (by simpa using j2) hj
              simpa using this
      | _ => exact absurd h (by simp [alike])
    | _ => exact oneLt_alike (fun _ xs z => by cases z) ra rb h hn hu hq
/-- the first items of tuples of which some are empty -/
theorem firsts_any : ∀ {vs : List Value} {ds : List PyData}, EachIs (fun v d => ∃ as, Reads s.heap v d as) vs ds → (∀ d ∈ ds, ∃ t, d = .tuple t) →
    ∃ fs : List (Option Value), (fs.all (·.isSome) = true → ∀ d ∈ ds, ∃ x r, d = .tuple (x :: r)) ∧ ∀ {E : Value → Shared → Prop} {Q : List (Option Value) → Shared → Prop}, Q fs s → wpAny (model prog w) A (vs.mapM firstOfTuple') Q E s
  | _, _, .nil, _ => ⟨[], fun _ d h => (nomatch h), fun {E Q} h => by rw [List.mapM_nil]; exact wpAny_pure h⟩
  | _, _, .cons (a := v) (b := d) (as := vs) (bs := ds) ⟨as, r⟩ q, ht => by
    obtain ⟨fs, h1, h2⟩ := firsts_any q fun d hd => ht d (List.mem_cons_of_mem _ hd)
    obtain ⟨t, rfl⟩ := ht d (List.mem_cons_self ..)
    cases r with
    | @tuple a o xs n _ _ ho hc hd hr =>
      refine ⟨xs[0]? :: fs, fun al e he => ?_, fun {E Q} h => ?_⟩
      · rw [List.all_cons, Bool.and_eq_true] at al
        rcases List.mem_cons.mp he with rfl | he
        · cases e1 : xs.toList with
          | nil =>
            have : xs[0]? = none := by rw [← Array.getElem?_toList, e1]; rfl
            rw [this] at al
            exact absurd al.1 (by decide)
          | cons f fr =>
            rw [e1] at hr
            cases hr with
            | cons r1 r2 => exact ⟨_, _, rfl⟩
        · exact h1 al.2 e he
      · rw [List.mapM_cons]
        refine wpAny_bind ?_
        rw [kas_first_eq]
        refine wpAny_bind (Looks.here (show Looks _ s.heap (typeOf (.ref a)) o.cls from (Looks.ld ho).andThen .now) ?_)
        rw [hc, if_neg (by decide)]
        refine wpAny_bind (listItems_at ho hd (wpAny_pure ?_))
        exact wpAny_bind (h2 (Q := fun bs s' => wpAny _ A (pure (xs[0]? :: bs)) Q E s') (wpAny_pure h))
/-- tuples of any lengths can be sorted -/
theorem sorts_tuples {vs : List Value} {ds : List PyData} (e : EachIs (fun v d => ∃ as, Reads s.heap v d as) vs ds) (hal : AllAlike ds) (ht : ∀ d ∈ ds, ∃ t, d = .tuple t) (hu : ∀ d, d ∈ ds → A.units + d.depth < cLine) : SortsAt prog w A s (dataKind s.heap ds) vs := by
  by_cases ne : ∀ d ∈ ds, ∃ x r, d = .tuple (x :: r)
  · exact SortsAt.data e hal (.inl ne) hu
  · have room : ∀ {d d' : PyData}, d ∈ ds → A.units + min d.depth d'.depth < cLine := fun {d d'} hd => Nat.lt_of_le_of_lt (Nat.add_le_add_left (Nat.min_le_left _ _) _) (hu d hd)
    have nn : ∀ {d}, d ∈ ds → d ≠ .none := fun hd z => by
      obtain ⟨t, e⟩ := ht _ hd
      rw [e] at z
      cases z
    refine ⟨fun v hv => ?_, ?_⟩
    · obtain ⟨d, hd, as, r⟩ := e.left v hv
      exact ⟨_, dataKind_some hal hd r⟩
    · have lt1 : H.LtAt prog w A s (dataKind s.heap ds) oneType' := by
        intro E x y a b Q ha hb hq
        obtain ⟨d, as, hd, ra, rfl⟩ := dataKind_inv ha
        obtain ⟨d', as', hd', rb, rfl⟩ := dataKind_inv hb
        rw [keyLt'_oneType]
        exact oneLt_any ra rb (hal d hd d' hd') (nn hd) (room hd) hq
      have lt2 : H.LtAt prog w A s (dataKind s.heap ds) general' := by
        intro E x y a b Q ha hb hq
        obtain ⟨d, as, hd, ra, rfl⟩ := dataKind_inv ha
        obtain ⟨d', as', hd', rb, rfl⟩ := dataKind_inv hb
        show wpAny _ _ (oneLt' false x y) _ _ _
        exact oneLt_any ra rb (hal d hd d' hd') (nn hd) (room hd) hq
      have one : ∀ (E : Value → Shared → Prop) {Q : Option Value → Shared → Prop}, 1 ≤ vs.length → Q (some (.type "tuple")) s → wpAny (model prog w) A (oneTypeOnly' vs.toArray) Q E s := fun E Q h1 hq => by
        rw [oneTypeOnly'_eq, List.mapM_toArray, map_eq_pure_bind]
        refine wpAny_bind (wpAny_bind (kas_mapM (r := Value.type "tuple") _ (fun v hv Q' hq' => ?_) (wpAny_pure ?_)))
        · obtain ⟨d, hd, as, r⟩ := e.left v hv
          obtain ⟨t, e⟩ := ht d hd
          subst e
          exact (looks_reads r).here hq'
        · match vs, h1 with
          | v :: rest, _ =>
            have hall : ((List.map (fun _ => Value.type "tuple") (v :: rest)).toArray.all fun x => x == Value.type "tuple") = true := by
              simp only [List.all_toArray, List.all_map, List.all_eq_true]
              intro _ _
              rfl
            have h0 : (List.map (fun _ => Value.type "tuple") (v :: rest)).toArray[0]? = some (Value.type "tuple") := by simp
            rw [h0]
            simp only [hall, if_true]
            exact wpAny_pure hq
      obtain ⟨fs, h1, h2⟩ := firsts_any (prog := prog) (w := w) (A := A) e ht
      have nall : ¬ fs.all (·.isSome) = true := fun z => ne (h1 z)
      have nall' : ¬ (fs.toArray.all fun x => x.isSome) = true := by simpa using nall
      by_cases c : (fs.toArray[0]?.bind id).isSome = true
      · refine ⟨general', lt2, fun h2' E Q hq => ?_⟩
        rw [kat_kind_eq, List.mapM_toArray, map_eq_pure_bind]
        refine wpAny_bind (wpAny_bind (h2 (wpAny_pure ?_)))
        rw [if_neg nall', if_pos c]
        exact wpAny_pure hq
      · refine ⟨oneType', lt1, fun h2' E Q hq => ?_⟩
        rw [kat_kind_eq, List.mapM_toArray, map_eq_pure_bind]
        refine wpAny_bind (wpAny_bind (h2 (wpAny_pure ?_)))
        rw [if_neg nall', if_neg c]
        refine wpAny_bind (one E (by omega) ?_)
        exact wpAny_pure hq
end
end SDx
namespace L2
open PySem PySem.Spec PyProof.Rows PySem.W
/-- data that a sort takes: alike, all tuples or none a tuple -/
def SortOk (ds : List PyData) : Prop := AllAlike ds ∧ ((∀ d ∈ ds, ∃ t, d = .tuple t) ∨ ∀ d, d ∈ ds → d ≠ .none ∧ ∀ xs, d ≠ .tuple xs)
/-- sorted(xs), xs a list of nested data: a new list of the same things in their order -/
def rSortedD (K : PySem.W.Frag) : List V → Hp → VK → Prop := fun vs H Q => ∃ (a : Addr) (zs : List (V × PyData)), vs = [V.ref a] ∧ SqL K H a (zs.map (·.1)) ∧ (∀ z ∈ zs, Dp K H z.1 z.2 ∧ z.2.depth ≤ 60) ∧ SortOk (zs.map (·.2)) ∧
  ∀ (ys : List (V × PyData)) (p : Addr), ys.Perm zs → ys.Pairwise (fun a b => dataLt b.2 a.2 = false) → H p = none → Q (.ref p) (upd H p (.lst (ys.map (·.1))))
theorem each_vals : ∀ {zs : List (V × PyData)} {us : List Value}, Vals (zs.map (·.1)) us → EachIs (fun u z => RelV z.1 u) us zs
  | [], _, r => by rw [List.map_nil] at r; cases r; exact .nil
  | z :: zs, _, r => by
    rw [List.map_cons] at r
    cases r with
    | cons h q => exact .cons h (each_vals q)
theorem vals_each : ∀ {zs : List (V × PyData)} {us : List Value}, EachIs (fun u z => RelV z.1 u) us zs → Vals (zs.map (·.1)) us
  | _, _, .nil => .nil
  | _, _, .cons h q => .cons h (vals_each q)
theorem each_and {α β : Type} {R : α → β → Prop} {S : β → Prop} {as : List α} {bs : List β} (e : EachIs R as bs) (h : ∀ b ∈ bs, S b) : EachIs (fun a b => R a b ∧ S b) as bs := by
  induction e with
  | nil => exact .nil
  | cons h1 t ih => exact .cons ⟨h1, h _ (List.mem_cons_self ..)⟩ (ih fun b hb => h b (List.mem_cons_of_mem _ hb))
section
variable {X : Cx}
theorem cr_sortedD (hu : X.A.units + 64 < cLine) : CallR X (.builtin "sorted") (rSortedD X.K) := by
  intro pins s σ H vs us Q I r h
  obtain ⟨a, zs, rfl, hs, hx, ⟨hal, hk⟩, q⟩ := h
  obtain ⟨its, rv, hl, hz⟩ := I.list hs
  rw [Vals.ref1 r]
  have e := each_vals rv
  have er : EachIs (fun v (z : V × PyData) => ∃ as, Reads s.heap v z.2 as) its zs := (each_and e hx).mono fun v z h => Dp.reads I z.2 z.1 v h.2.1 h.1
  have er' : EachIs (fun v (z : V × PyData) => ∃ as, Reads (sortingHeap (copyHeap s.heap its) (s.heap.objs.size + 1) its) v z.2 as) its zs := er.mono fun _ _ ⟨as, r⟩ => ⟨as, PyProof.Rows.Reads.keeps (fun _ _ => sorting_copy_old) r⟩
  have em := each_map (R := fun v d => ∃ as, Reads (sortingHeap (copyHeap s.heap its) (s.heap.objs.size + 1) its) v d as) (fun z : V × PyData => z.2) er'
  have hd : ∀ d, d ∈ zs.map (fun z => z.2) → X.A.in1.in1.units + d.depth < cLine := fun d h => by
    obtain ⟨z, hz, rfl⟩ := List.mem_map.mp h
    have := (hx z hz).2
    show X.A.units + 1 + 1 + _ < cLine
    omega
  have S : SortsAt X.prog X.w X.A.in1.in1 { s with heap := sortingHeap (copyHeap s.heap its) (s.heap.objs.size + 1) its } (dataKind (sortingHeap (copyHeap s.heap its) (s.heap.objs.size + 1) its) (zs.map fun z => z.2)) its := by
    rcases hk with ht | hn
    · exact SDx.sorts_tuples (s := { s with heap := sortingHeap (copyHeap s.heap its) (s.heap.objs.size + 1) its }) em hal ht hd
    · exact SortsAt.data (s := { s with heap := sortingHeap (copyHeap s.heap its) (s.heap.objs.size + 1) its }) em hal (.inr hn) hd
  refine sorted_vals hl.isList S (by rw [← rv.length]; exact hz) ?_
  have eo := sortVals_data false e er' hal
  have rvo := vals_each eo
  generalize sortVals (dataKind (sortingHeap (copyHeap s.heap its) (s.heap.objs.size + 1) its) (zs.map fun z => z.2)) false its its = out at rvo eo ⊢
  generalize hys : zs.mergeSort (dataLe false fun z => z.2) = ys at rvo eo
  have pp : ys.Perm zs := by rw [← hys]; exact List.mergeSort_perm ..
  have ps : ys.Pairwise (fun a b => dataLt b.2 a.2 = false) := by
    rw [← hys]
    refine (sort_pairwise (sortLe_total _ _ _) zs).imp fun {a b} h => ?_
    have h' : (!dataLt b.2 a.2) = true := h
    simpa using h'
  obtain ⟨n, hn⟩ := sortedAll_at s.heap its out.toArray
  refine ⟨.ref (s.heap.objs.size + 1), upd H (s.heap.objs.size + 1) (.lst (ys.map (·.1))), I.laid (t' := s.toks) (fun b o e => sortedAll_old e) (Nat.le_succ _) ⟨?_, out, n, rvo, hn⟩, rfl, q ys _ pp ps (I.hok.fresh (Nat.le_succ _))⟩
  rw [List.length_map, pp.length_eq]
  rw [List.length_map] at hz
  exact hz
/-- x < y of nested data -/
def rLtD (K : PySem.W.Frag) : R2 := fun x y H Q => ∃ d e, Dp K H x d ∧ Dp K H y e ∧ alike d e = true ∧ d ≠ .none ∧ d.depth ≤ 60 ∧ Q (.bl (dataLt d e)) H
theorem op_ltD (hu : X.A.units + 64 < cLine) : OpR X (compareOp .Lt) (rLtD X.K) := by
  intro pins s σ H x y v u Q I rx ry h
  obtain ⟨d, e, hd, he, al, nn, dp, q⟩ := h
  obtain ⟨as, r1⟩ := Dp.reads I d x v hd rx
  obtain ⟨bs, r2⟩ := Dp.reads I e y u he ry
  exact lt_data r1 r2 al nn (by have := Nat.min_le_left d.depth e.depth; omega) ⟨.bl _, H, I, rfl, q⟩
end
/-- of two alike things neither is less: they are the same -/
theorem data_tie {x y : PyData} (h : alike x y = true) (h1 : dataLt x y = false) (h2 : dataLt y x = false) : PyData.eqv x y = true := by
  rcases e : PyData.eqv x y with _ | _
  · have k := (toks_eqv x y h).2 e
    have et : keyToks x = keyToks y := lex_total (O := itemOrd) _ _ h1 h2
    have k1 := k [] [.inl 0]
    rw [List.append_nil, et] at k1
    have k2 := k [] []
    rw [et] at k2
    have l1 : PyProof.Rows.lexLt itemOrd (keyToks y) (keyToks y ++ [.inl 0]) = true := by
      have := lex_pre (keyToks y) [] [.inl 0]
      rw [List.append_nil] at this
      rw [this]
      rfl
    rw [l1, show PyProof.Rows.lexLt itemOrd (keyToks y) (keyToks y) = false from lex_irrefl _] at k1
    cases k1
  · rfl
end L2

set_option Elab.async false
set_option linter.all false
set_option maxRecDepth 100000
set_option maxHeartbeats 4000000
/-! d.items(), sorted(d), sorted(d.items()), len(d): d a dict with nested keys, or with int and text keys. -/
namespace NI
open PySem PySem.W PySem.Calls PyProof.Rows L2
open L2.DX (itemsO itemsO_ok takeT)
/-- the pairs that stand in the dict at a -/
def DictV (P : Program) (w : World) (H : Hp) (a : Addr) (ps : List (V × V)) : Prop :=
  (∃ es, Rd H a (ND.nD P w a es) ∧ ps = es.map fun e => (V.ref e.2.1, e.2.2)) ∨ ∃ kvs : List (L2.Key × V), Rd H a (.dK kvs) ∧ ps = kvs.map fun kv => (kV kv.1, kv.2)
def RawV (h : Heap) (a : Addr) (ps : List (V × V)) : Prop := ∃ es ep, h.DictRaw a es ep ∧ (a == sysModules) = false ∧ es.size = ps.length ∧ ps.length ≤ sizeLine ∧ ∀ (i : Nat) (p : V × V), ps[i]? = some p → ∃ e, es[i]? = some e ∧ RelV p.1 e.key ∧ RelV p.2 e.val
theorem re_at {es : List (NestedKey × Addr × V)} {xs : List (NestedKey × Addr × Value)} (r : ND.RE es xs) : ∀ (i : Nat) e, es[i]? = some e → ∃ x, xs[i]? = some x ∧ e.1 = x.1 ∧ e.2.1 = x.2.1 ∧ RelV e.2.2 x.2.2 := by
  induction r with
  | nil => intro i e h; simp at h
  | cons h t ih =>
    intro i e he
    rcases i with _ | i
    · cases he
      exact ⟨_, rfl, h⟩
    · exact ih i e he
theorem kv_at {κ : Type} {kvs : List (κ × V)} {vs : List (κ × Value)} (r : KV kvs vs) : ∀ (i : Nat) e, kvs[i]? = some e → ∃ x, vs[i]? = some x ∧ e.1 = x.1 ∧ RelV e.2 x.2 := by
  induction r with
  | nil => intro i e h; simp at h
  | cons h t ih =>
    intro i e he
    rcases i with _ | i
    · cases he
      exact ⟨_, rfl, h⟩
    · exact ih i e he
theorem each_of {α β : Type} {R : α → β → Prop} : ∀ {as : List α} {bs : List β}, as.length = bs.length → (∀ (i : Nat) a b, as[i]? = some a → bs[i]? = some b → R a b) → EachIs R as bs
  | [], [], _, _ => .nil
  | [], _ :: _, h, _ => by simp at h
  | _ :: _, [], h, _ => by simp at h
  | a :: as, b :: bs, h, f => .cons (f 0 a b rfl rfl) (each_of (by simpa using h) fun i a b x y => f (i + 1) a b x y)
theorem DictV.raw {P : Program} {w : World} {H : Hp} {h : Heap} {a : Addr} {ps : List (V × V)} (ok : HOk P w H h) (d : DictV P w H a ps) : RawV h a ps := by
  rcases d with ⟨es, e, rfl⟩ | ⟨kvs, e, rfl⟩
  · obtain ⟨⟨z, y, xs, r, o, ds, ep, h1, h2, h3, h4, h5⟩, _, _⟩ := (show ObjOk P w H h a (ND.nD P w a es) from rd_of ok e)
    have l := Paired.length r
    have ls : ds.size = xs.length := size_of_entries h4
    refine ⟨ds, ep, ⟨o, h1, h2, h3⟩, y, by rw [List.length_map, l, ls], by rw [List.length_map]; exact z, fun i p hp => ?_⟩
    rw [List.getElem?_map] at hp
    obtain ⟨e', he', rfl⟩ := Option.map_eq_some_iff.mp hp
    obtain ⟨x, hx, _, e2, r3⟩ := re_at r i e' he'
    refine ⟨entryOfKey (nestedKind P w) x, by rw [entry_at h4 i, hx]; rfl, ?_, r3⟩
    show Value.ref x.2.1 = Value.ref e'.2.1
    rw [e2]
  · obtain ⟨z, lo, vs, rel, dd⟩ := dk_rd ok e
    obtain ⟨es, ep, dr, sz, at_⟩ := Heap.DictOf.raw dd
    have l := Paired.length rel
    refine ⟨es, ep, dr, lo, by rw [List.length_map, sz, l], by rw [List.length_map]; exact z, fun i p hp => ?_⟩
    rw [List.getElem?_map] at hp
    obtain ⟨kv, hk, rfl⟩ := Option.map_eq_some_iff.mp hp
    have hi : i < kvs.length := (List.getElem?_eq_some_iff.mp hk).1
    have hv : i < vs.length := by omega
    have he : i < es.size := by omega
    obtain ⟨b1, b2⟩ := at_ i he vs[i].1 vs[i].2 (by rw [List.getElem?_eq_getElem hv])
    obtain ⟨x, hx, r1, r2⟩ := kv_at rel i kv hk
    rw [List.getElem?_eq_getElem hv] at hx
    cases hx
    refine ⟨es[i], Array.getElem?_eq_getElem he, ?_, by rw [b2]; exact r2⟩
    rw [← r1] at b1
    rcases keyIs_shape (show keyIs kv.1 es[i].key = true from b1) with ⟨n, t, ek, ev⟩ | ⟨z, t, ek, ev⟩
    · rw [ek, ev]; exact ⟨t, rfl⟩
    · rw [ek, ev]; exact ⟨t, rfl⟩
theorem KV_src {prog : Program} {w : World} {a : Addr} {es : Array DictEntry} {ep : Nat} (lo : (a == sysModules) = false) : KdlSrc prog w "dict" a a es.size (fun i v => ∃ hi : i < es.size, v = es[i].key) (fun h => h.DictRaw a es ep) where
  type := fun _ hm => hm.typeIs
  there := fun _ hm => let ⟨_, ho, _⟩ := hm; ⟨Heap.lt_size ho, Heap.lt_size ho⟩
  keep := fun _ _ hm hk => hm.at fun o e => hk a (.inl rfl) o e
  notList := by decide
  notTuple := by decide
  hint := fun _ _ _ _ hm hq => kdl_hint_dict hm.typeIs hq
  iter := fun _ _ hh hm => ⟨_, _, (fun _ _ hq => wpAny_pyIter_dict_raw lo hm hq), Walks.rawKeys hh _ a (let ⟨_, ho, _⟩ := hm; Nat.ne_of_lt (Heap.lt_size ho)) es ep, ⟨⟨_, Heap.get?_push_size _ rfl, rfl, rfl⟩, hm.at fun o e => Heap.get?_push_of_some _ e⟩⟩
/-! ### the sort of a list just made -/
section
variable {prog : Program} {w : World} {A : Around} {E : Value → Shared → Prop} {s : Shared}
theorem sort_here {a : Addr} {vs : List Value} {n : Nat} {Q : Value → Shared → Prop} (zs : List (V × PyData)) (ho : s.heap.get? a = some (seqObj "list" vs.toArray n)) (e : EachIs (fun v (z : V × PyData) => RelV z.1 v ∧ ∃ as, Reads (sortingHeap s.heap a vs) v z.2 as) vs zs) (hok : SortOk (zs.map (·.2)))
    (hu : ∀ z ∈ zs, A.in1.units + z.2.depth < cLine) (hL : vs.length ≤ sizeLine)
    (h : ∀ (out : List Value) (ys : List (V × PyData)), ys.Perm zs → ys.Pairwise (fun a b => dataLt b.2 a.2 = false) → Vals (ys.map (·.1)) out → EachIs (fun v (z : V × PyData) => RelV z.1 v ∧ ∃ as, Reads (sortingHeap s.heap a vs) v z.2 as) out ys → Q .none { s with heap := sortedHeap s.heap a vs out.toArray }) :
    wpAny (model prog w) A (call (.builtin "list.sort") [.ref a]) Q E s := by
  refine wpAny_call_entry slot_list_sort ⟨_, ho, rfl⟩ entry_list_sort ?_ (args_list_sort _)
  have er : EachIs (fun v (z : V × PyData) => ∃ as, Reads (sortingHeap s.heap a vs) v z.2 as) vs zs := e.mono fun _ _ h => h.2
  have em := each_map (R := fun v d => ∃ as, Reads (sortingHeap s.heap a vs) v d as) (fun z : V × PyData => z.2) er
  have hd : ∀ d, d ∈ zs.map (fun z => z.2) → A.in1.units + d.depth < cLine := fun d h => by
    obtain ⟨z, hz, rfl⟩ := List.mem_map.mp h
    exact hu z hz
  have S : SortsAt prog w A.in1 { s with heap := sortingHeap s.heap a vs } (dataKind (sortingHeap s.heap a vs) (zs.map fun z => z.2)) vs := by
    rcases hok.2 with ht | hn
    · exact SDx.sorts_tuples (s := { s with heap := sortingHeap s.heap a vs }) em hok.1 ht hd
    · exact SortsAt.data (s := { s with heap := sortingHeap s.heap a vs }) em hok.1 (.inr hn) hd
  have eo := sortVals_data false e er hok.1
  refine list_sort_vals ho S hL ⟨.none, rfl, ?_⟩
  generalize sortVals (dataKind (sortingHeap s.heap a vs) (zs.map fun z => z.2)) false vs vs = out at eo ⊢
  refine h out (zs.mergeSort (dataLe false fun z => z.2)) (List.mergeSort_perm ..) ?_ (vals_each (eo.mono fun _ _ h => h.1)) eo
  refine (sort_pairwise (sortLe_total _ _ _) zs).imp fun {a b} h => ?_
  have h' : (!dataLt b.2 a.2) = true := h
  simpa using h'
end
theorem perm_backL {α β : Type} {f : α → β} : ∀ (l : List α) {ys : List β}, ys.Perm (l.map f) → ∃ ts : List α, ts.Perm l ∧ ts.map f = ys := by
  intro l ys h
  generalize hm : l.map f = m at h
  induction h generalizing l with
  | nil => exact ⟨[], by rw [List.map_eq_nil_iff.mp hm], rfl⟩
  | @cons x l1 l2 p ih =>
    match l, hm with
    | a :: l, hm =>
      injection hm with h1 h2
      obtain ⟨ts, p', e⟩ := ih l h2
      exact ⟨a :: ts, p'.cons a, by rw [List.map_cons, h1, e]⟩
  | swap x y l1 =>
    match l, hm with
    | a :: b :: l, hm =>
      injection hm with h1 h2
      injection h2 with h2 h3
      exact ⟨b :: a :: l, List.Perm.swap a b l, by rw [List.map_cons, List.map_cons, h1, h2, h3]⟩
  | trans p1 p2 ih1 ih2 =>
    obtain ⟨ts, p', e⟩ := ih2 l hm
    obtain ⟨us, p'', e'⟩ := ih1 ts e
    exact ⟨us, p''.trans p', e'⟩
end NI
namespace L2
open PySem PySem.W PySem.Calls PyProof.Rows NI
open L2.DX (itemsO itemsO_ok takeT)
section
variable {X : Cx}
def rItemsV (P : Program) (w : World) : V → List V → Hp → VK → Prop := fun x xs H Q => ∃ a ps, x = .ref a ∧ xs = [] ∧ DictV P w H a ps ∧ ∀ p, H p = none → Q (.ref p) (upd H p (itemsO p a))
theorem mt_itemsV : MtR X "dict.items" (rItemsV X.prog X.w) := by
  intro pins s σ H x xs v us Q I rx rxs h
  obtain ⟨a, ps, rfl, rfl, ha, q⟩ := h
  cases rx
  cases rxs
  obtain ⟨es, ep, dr, lo, _⟩ := ha.raw I.hok
  refine DT.callItems (es := es) (ep := ep) lo dr ?_
  exact ⟨.ref s.heap.objs.size, upd H s.heap.objs.size (itemsO s.heap.objs.size a), I.laid (t' := s.toks) (fun b u e => Heap.get?_push_of_some _ e) (Nat.le_refl _) (itemsO_ok (Heap.get?_push_size _ rfl)), rfl, q _ (I.hok.fresh (Nat.le_refl _))⟩
/-- sorted(d): its keys -/
def rSortKeys (P : Program) (w : World) (K : PySem.W.Frag) : List V → Hp → VK → Prop := fun vs H Q => ∃ (a : Addr) (ps : List (V × V)) (zs : List (V × PyData)), vs = [V.ref a] ∧ DictV P w H a ps ∧ zs.map (·.1) = ps.map (·.1) ∧ (∀ z ∈ zs, Dp K H z.1 z.2 ∧ z.2.depth ≤ 60) ∧ SortOk (zs.map (·.2)) ∧
  ∀ (ys : List (V × PyData)) (p : Addr), ys.Perm zs → ys.Pairwise (fun a b => dataLt b.2 a.2 = false) → H p = none → Q (.ref p) (upd H p (.lst (ys.map (·.1))))
theorem cr_sortKeys (hc : X.calm = true) (hu : X.A.units + 64 < cLine) : CallR X (.builtin "sorted") (rSortKeys X.prog X.w X.K) := by
  intro pins s σ H xs us Q I r h
  obtain ⟨a, ps, zs, rfl, hd, hz, hx, hok, q⟩ := h
  obtain rfl := Vals.ref1 r
  obtain ⟨es, ep, dr, lo, sz, hl, at_⟩ := hd.raw I.hok
  have lz : zs.length = ps.length := by have := congrArg List.length hz; rw [List.length_map, List.length_map] at this; exact this
  refine Calls.call_function_entry PyProof.Rows.kind_sorted PyProof.Rows.plain_sorted PyProof.Rows.entry_sorted (PyProof.Rows.args_sorted1 _) ?_
  unfold Builtin.«sorted»
  refine wpAny_bind (m := checkCount "sorted" 1 1 _) (wpAny_pure ?_)
  refine wpAny_bind (PySem.W.kdu_collect (A := X.A.in1) (KV_src (es := es) (ep := ep) lo) (I.ok.hd hc) dr (by rw [sz]; exact hl) fun h' tk acc hk hacc => ?_)
  have hal : acc.toList.length = zs.length := by rw [Array.length_toList, hacc.1, sz, lz]
  refine wpAny_bind (wpAny_newList ?_ (by rw [hal, lz]; exact hl))
  have I1 : Inv X pins σ H { s with heap := h', toks := tk } := I.kept hk
  have hoL : (h'.push (seqObj "list" acc.toList.toArray 0)).get? h'.objs.size = some (seqObj "list" acc.toList.toArray 0) := Heap.get?_push_size _ rfl
  have keep : ∀ b o, s.heap.get? b = some o → (sortingHeap (h'.push (seqObj "list" acc.toList.toArray 0)) h'.objs.size acc.toList).get? b = some o := fun b o e =>
    sortingHeap_old (Nat.ne_of_lt (Heap.lt_size (hk b o e))) (Heap.get?_push_of_some _ (hk b o e))
  have ev : EachIs (fun v (z : V × PyData) => RelV z.1 v ∧ ∃ as, Reads (sortingHeap (h'.push (seqObj "list" acc.toList.toArray 0)) h'.objs.size acc.toList) v z.2 as) acc.toList zs := by
    refine each_of hal fun j v z hv hzj => ?_
    obtain ⟨hi, ek⟩ := hacc.2 j v (by rw [← Array.getElem?_toList]; exact hv)
    have e3 : (ps.map (·.1))[j]? = some z.1 := by rw [← hz, List.getElem?_map, hzj]; rfl
    rw [List.getElem?_map] at e3
    obtain ⟨p, hp, e4⟩ := Option.map_eq_some_iff.mp e3
    obtain ⟨e, he, r1, _⟩ := at_ j p hp
    rw [Array.getElem?_eq_getElem hi] at he
    have e5 : es[j] = e := Option.some.inj he
    have rv : RelV z.1 v := by rw [ek, e5, ← e4]; exact r1
    obtain ⟨as, rd⟩ := Dp.reads I z.2 z.1 v (hx z (List.mem_of_getElem? hzj)).1 rv
    exact ⟨rv, as, PyProof.Rows.Reads.keeps keep rd⟩
  show wpAny _ _ _ _ _ { s with heap := h'.push (seqObj "list" acc.toList.toArray 0), toks := tk }
  refine wpAny_bind (wpAny_holding (sort_here (s := { s with heap := h'.push (seqObj "list" acc.toList.toArray 0), toks := tk }) zs hoL ev hok (fun z hz' => by have := (hx z hz').2; show X.A.units + 1 + 1 + _ < cLine; omega) (by rw [hal, lz]; exact hl) fun out ys pp ps' rv _ => ?_))
  obtain ⟨e', he'⟩ := PyProof.Rows.sortedHeap_at (vs := acc.toList) (out := out.toArray) hoL
  refine wpAny_pure ⟨_, rfl, .ref h'.objs.size, upd H h'.objs.size (.lst (ys.map (·.1))), I1.laid (t' := tk) (fun b u e => ?_) (Nat.le_refl _)
    (show ObjOk X.prog X.w _ _ _ (.lst (ys.map (·.1))) from ⟨by rw [List.length_map, pp.length_eq, lz]; exact hl, out, e', rv, he'⟩), rfl, q ys _ pp ps' (I1.hok.fresh (Nat.le_refl _))⟩
  have hb : b < h'.objs.size := Heap.lt_size e
  rw [PyProof.Rows.sortedHeap_old (Nat.ne_of_lt hb) (by rw [size_push']; exact Nat.lt_succ_of_lt hb)]
  exact Heap.get?_push_of_some _ e
/-- sorted(d.items()): new pairs of key and value -/
def rSortItems (P : Program) (w : World) (K : PySem.W.Frag) : List V → Hp → VK → Prop := fun vs H Q => ∃ (v a : Addr) (zs : List ((V × V) × (PyData × PyData))), vs = [V.ref v] ∧ H v = some (itemsO v a) ∧ DictV P w H a (zs.map (·.1)) ∧
  (∀ z ∈ zs, Dp K H z.1.1 z.2.1 ∧ Dp K H z.1.2 z.2.2 ∧ (PyData.tuple [z.2.1, z.2.2]).depth ≤ 60) ∧ SortOk (zs.map fun z => .tuple [z.2.1, z.2.2]) ∧
  ∀ (H' : Hp) (l : Addr) (ts : List (Addr × ((V × V) × (PyData × PyData)))), (∀ b o, H b = some o → H' b = some o) → (ts.map (·.2)).Perm zs → ts.Pairwise (fun a b => dataLt (.tuple [b.2.2.1, b.2.2.2]) (.tuple [a.2.2.1, a.2.2.2]) = false) → H l = none → H' l = some (.lst (ts.map fun z => V.ref z.1)) →
    (∀ z ∈ ts, H' z.1 = some (.tup [z.2.1.1, z.2.1.2])) → Q (.ref l) H'
theorem cr_sortItems (hc : X.calm = true) (hu : X.A.units + 64 < cLine) : CallR X (.builtin "sorted") (rSortItems X.prog X.w X.K) := by
  intro pins s σ H xs us Q I r h
  obtain ⟨p, a, zs, rfl, hp, hd, hx, hok, q⟩ := h
  obtain rfl := Vals.ref1 r
  have view : s.heap.IsItemsView p a := (show ObjOk X.prog X.w H s.heap p (itemsO p a) from I.hok p _ hp).1
  obtain ⟨es, ep, dr, lo, sz, hl, at_⟩ := hd.raw I.hok
  rw [List.length_map] at sz hl
  have hh : X.A.handled = none := I.ok.hd hc
  refine DT.sortedI (es := es) (ep := ep) hh view dr (by rw [sz]; exact hl) fun h' tk as hk hlt hla hG => ?_
  have lak : as.length = zs.length := by omega
  have nd : as.Nodup := List.Pairwise.imp (fun h => Nat.ne_of_lt h) hG.rise
  have pr : ∀ (j : Nat) (b : Addr) z, as[j]? = some b → zs[j]? = some z → ∃ kv vv, RelV z.1.1 kv ∧ RelV z.1.2 vv ∧ h'.get? b = some { cls := .type "tuple", data := .seq #[kv, vv] } := by
    intro j b z hj hz
    obtain ⟨en, he, hg⟩ := hG.pairs j b hj
    obtain ⟨e, he2, r1, r2⟩ := at_ j z.1 (by rw [List.getElem?_map, hz]; rfl)
    rw [he] at he2
    cases he2
    exact ⟨_, _, r1, r2, hg⟩
  have hob : (h'.push { cls := .type "list", data := .seq (as.map Value.ref).toArray }).get? h'.objs.size = some (seqObj "list" (as.map Value.ref).toArray 0) := Heap.get?_push_size _ rfl
  have ne0 : ∀ b o, h'.get? b = some o → b ≠ h'.objs.size := fun b o e => Nat.ne_of_lt (Heap.lt_size e)
  have ka : ∀ b o, h'.get? b = some o → (h'.push { cls := .type "list", data := .seq (as.map Value.ref).toArray }).get? b = some o := fun b o e => Heap.get?_push_of_some _ e
  generalize h'.push { cls := .type "list", data := .seq (as.map Value.ref).toArray } = h2 at hob ka ⊢
  have keep : ∀ b o, h'.get? b = some o → (sortingHeap h2 h'.objs.size (as.map Value.ref)).get? b = some o := fun b o e => sortingHeap_old (ne0 b o e) (ka b o e)
  generalize hws : (as.zip zs).map (fun z => (V.ref z.1, PyData.tuple [z.2.2.1, z.2.2.2])) = ws
  have lz : (as.zip zs).length = zs.length := by rw [List.length_zip, lak, Nat.min_self]
  have w2 : ws.map (·.2) = zs.map fun z => PyData.tuple [z.2.1, z.2.2] := by
    rw [← hws, List.map_map]
    have : (as.zip zs).map (fun z => z.2) = zs := List.map_snd_zip (by rw [lak]; exact Nat.le_refl _)
    conv => rhs; rw [← this]
    rw [List.map_map]
    rfl
  have ev : EachIs (fun v (z : V × PyData) => RelV z.1 v ∧ ∃ as', Reads (sortingHeap h2 h'.objs.size (as.map Value.ref)) v z.2 as') (as.map Value.ref) ws := by
    refine each_of (by rw [← hws, List.length_map, List.length_map, lz, lak]) fun j v z hv hz => ?_
    rw [← hws, List.getElem?_map] at hz
    obtain ⟨⟨b, z0⟩, hz0, rfl⟩ := Option.map_eq_some_iff.mp hz
    obtain ⟨hb, hz1⟩ := List.getElem?_zip_eq_some.mp hz0
    rw [List.getElem?_map, hb] at hv
    cases hv
    obtain ⟨kv, vv, r1, r2, hg⟩ := pr j b z0 hb hz1
    obtain ⟨d1, d2, _⟩ := hx z0 (List.mem_of_getElem? hz1)
    obtain ⟨as1, rd1⟩ := Dp.reads I _ _ _ d1 r1
    obtain ⟨as2, rd2⟩ := Dp.reads I _ _ _ d2 r2
    have rds : ReadsAll (sortingHeap h2 h'.objs.size (as.map Value.ref)) [kv, vv] [z0.2.1, z0.2.2] (as1 ++ (as2 ++ [])) := .cons (PyProof.Rows.Reads.keeps (fun b o e => keep b o (hk b o e)) rd1) (.cons (PyProof.Rows.Reads.keeps (fun b o e => keep b o (hk b o e)) rd2) .nil)
    exact ⟨rfl, _, .tuple (keep _ _ hg) rfl rfl rds⟩
  refine sort_here (s := { s with heap := h2, toks := tk }) ws hob ev (by rw [w2]; exact hok) (fun z hz => ?_) (by rw [List.length_map, lak]; exact hl) fun out ys pp ps' rv _ => ?_
  · rw [← hws] at hz
    obtain ⟨⟨b, z0⟩, hz0, rfl⟩ := List.mem_map.mp hz
    have := (hx z0 (List.of_mem_zip hz0).2).2.2
    show X.A.units + 1 + 1 + (PyData.tuple [z0.2.1, z0.2.2]).depth < cLine
    omega
  · obtain ⟨ts, pt, et⟩ : ∃ ts : List (Addr × ((V × V) × (PyData × PyData))), ts.Perm (as.zip zs) ∧ ts.map (fun z => (V.ref z.1, PyData.tuple [z.2.2.1, z.2.2.2])) = ys := perm_backL (as.zip zs) (by rw [hws]; exact pp)
    have idx : ∀ z ∈ ts, ∃ j : Nat, as[j]? = some z.1 ∧ zs[j]? = some z.2 := fun z hz => by
      obtain ⟨j, hj⟩ := List.mem_iff_getElem?.mp (pt.mem_iff.mp hz)
      exact ⟨j, List.getElem?_zip_eq_some.mp hj⟩
    have hperm : (ts.map (·.2)).Perm zs := by
      have e := pt.map (·.2)
      rw [show (as.zip zs).map (·.2) = zs from List.map_snd_zip (by rw [lak]; exact Nat.le_refl _)] at e
      exact e
    have hsort : ts.Pairwise (fun a b => dataLt (.tuple [b.2.2.1, b.2.2.2]) (.tuple [a.2.2.1, a.2.2.2]) = false) := by
      rw [← et, List.pairwise_map] at ps'
      exact ps'
    have y1 : ys.map (·.1) = ts.map fun z => V.ref z.1 := by rw [← et, List.map_map]; rfl
    have kF : ∀ b o, b ≠ h'.objs.size → h2.get? b = some o → (sortedHeap h2 h'.objs.size (as.map Value.ref) out.toArray).get? b = some o := fun b o hb e => (PyProof.Rows.sortedHeap_old hb (Heap.lt_size e)).trans e
    have kS : ∀ b o, s.heap.get? b = some o → (sortedHeap h2 h'.objs.size (as.map Value.ref) out.toArray).get? b = some o := fun b o e => kF b o (ne0 _ _ (hk b o e)) (ka b o (hk b o e))
    obtain ⟨eF, heF⟩ := PyProof.Rows.sortedHeap_at (vs := as.map Value.ref) (out := out.toArray) hob
    have I1 : Inv X pins σ H { s with heap := sortedHeap h2 h'.objs.size (as.map Value.ref) out.toArray, toks := tk } := I.kept (t' := tk) kS
    have hn0 : H h'.objs.size = none := I.hok.fresh (Nat.le_of_lt hlt)
    have hlen : (ts.map fun z => V.ref z.1).length ≤ sizeLine := by
      rw [List.length_map, pt.length_eq, lz]
      exact hl
    have I2 : Inv X pins σ (upd H h'.objs.size (.lst (ts.map fun z => V.ref z.1))) { s with heap := sortedHeap h2 h'.objs.size (as.map Value.ref) out.toArray, toks := tk } :=
      I1.take (h' := sortedHeap h2 h'.objs.size (as.map Value.ref) out.toArray) (t' := tk) (fun b ob _ e => e) (I.fpOk (Nat.le_of_lt hlt) hn0) ⟨hlen, out, eF, by rw [← y1]; exact rv, heF⟩
    obtain ⟨H2, I3, g, qt⟩ := takeT (P := fun b vs => ∃ (j : Nat) (z : (V × V) × (PyData × PyData)), as[j]? = some b ∧ zs[j]? = some z ∧ vs = [z.1.1, z.1.2]) I as _ I2 nd fun b hb => by
      obtain ⟨j, hj⟩ := List.mem_iff_getElem?.mp hb
      have hjz : j < zs.length := by rw [← lak]; exact (List.getElem?_eq_some_iff.mp hj).1
      have hz := List.getElem?_eq_getElem hjz
      obtain ⟨kv, vv, r1, r2, hg⟩ := pr j b _ hj hz
      have hbl : s.heap.objs.size ≤ b := Nat.le_of_lt (hG.above b hb)
      refine ⟨hbl, ?_, [zs[j].1.1, zs[j].1.2], ⟨j, _, hj, hz, rfl⟩, fun H3 => ⟨(by rw [sizeLine_eq]; show 2 ≤ 16777216; omega), [kv, vv], .cons r1 (.cons r2 .nil), ⟨_, kF _ _ (ne0 _ _ hg) (ka _ _ hg), rfl, 0, rfl⟩⟩⟩
      rw [upd_ne (ne0 _ _ hg)]
      exact I.hok.fresh hbl
    have gr : ∀ b o, H b = some o → H2 b = some o := fun b o e => g b o (by rw [upd_ne (ne_of_none e hn0)]; exact e)
    refine ⟨.ref h'.objs.size, H2, I3, rfl, q H2 h'.objs.size ts gr hperm hsort hn0 (g _ _ upd_same) fun z' hz' => ?_⟩
    obtain ⟨i, i1, i2⟩ := idx z' hz'
    obtain ⟨vs, ⟨j, z, j1, j2, ev⟩, hH⟩ := qt z'.1 (List.mem_of_getElem? i1)
    have eij : i = j := (List.getElem?_inj (List.getElem?_eq_some_iff.mp i1).1 nd).mp (i1.trans j1.symm)
    subst eij
    rw [ev, show z = z'.2 from Option.some.inj (j2.symm.trans i2)] at hH
    exact hH
/-- len(d), d with nested keys -/
def rLenN (P : Program) (w : World) : List V → Hp → VK → Prop := fun vs H Q => ∃ a kvs, vs = [V.ref a] ∧ ND.AtR P w H a kvs ∧ Q (.int (kvs.length : Nat)) H
theorem call_lenN : CallR X (.builtin "len") (rLenN X.prog X.w) := by
  intro pins s σ H xs us Q I r h
  obtain ⟨a, kvs, rfl, ⟨es, e, ke, rfl⟩, q⟩ := h
  obtain rfl := Vals.ref1 r
  obtain ⟨⟨z, hd, xs, re, o, ds, ep, h1, h2, h3, h4, h5⟩, _, _⟩ := (show ObjOk X.prog X.w H s.heap a (ND.nD X.prog X.w a es) from rd_of I.hok e)
  have dd : s.heap.DictOfH (nestedKind X.prog X.w) a xs := ⟨o, ds, ep, h1, h2, h3, h4, ND.keyed_is I.hok re ke, h5⟩
  have hl : es.length = xs.length := Paired.length re
  refine call_len_dictH hd dd (by rw [← hl]; rw [sizeLine_eq] at z; omega) ?_
  have hk : (ND.kvOf es).length = xs.length := by unfold ND.kvOf; rw [List.length_map, hl]
  rw [hk] at q
  exact ⟨.int (xs.length : Nat), H, I.tok _, ⟨_, rfl⟩, q⟩
/-- d.items() -/
def tItems (P : Program) (w : World) (to : TE) : TE := fun σ H Q => to σ H fun x H1 => ∃ a ps, x = .ref a ∧ DictV P w H1 a ps ∧ ∀ p, H1 p = none → Q (.ref p) (upd H1 p (itemsO p a))
theorem pe_items {o : Expr} {apos cpos : Pos} {to : TE} (ho : PE X o to) (hbase : attributeBase o "items" X.env (eval o X.env) = eval o X.env := by rfl) (hline : (apos.endLine == cpos.line) = true := by rfl) :
    PE X (.Call (.Attribute o "items" apos) [] [] cpos) (tItems X.prog X.w to) := by
  refine ⟨fun pins s σ H Q I h => ?_⟩
  refine wpAny_Call_method0_late hbase hline (thn (ho.run pins s σ H _ I h) fun v s1 ⟨x, H1, I1, r1, a, ps, ex, hd, q1⟩ => ?_)
  subst ex
  obtain rfl : v = Value.ref a := r1
  obtain ⟨es, ep, dr, lo, _⟩ := hd.raw I1.hok
  refine ⟨"dict", _, PySem.F.plainAttrs_dict, PySem.F.slot_dict_items, PySem.F.type_dict_items, dr.typeIs, fun b q => ?_, Calls.callWith_builtin rfl (PySem.evalArgs_none (mt_itemsV pins s1 σ H1 (.ref a) [] (.ref a) [] Q I1 rfl .nil ⟨a, ps, rfl, rfl, hd, q1⟩))⟩
  cases q
  obtain ⟨ob, h1, h2, _⟩ := dr
  exact ⟨ob, h1, h2.2.1⟩
end
end L2

set_option Elab.async false
set_option linter.all false
set_option maxRecDepth 100000
set_option maxHeartbeats 4000000
/-! name = {k: v for ..}: the block is run with the store. -/
namespace DCx
open PySem PySem.W L2
open Sem (wp)
section
variable {X : Cx}
theorem swd_true {kx vx : Expr} {gs : List Comprehension} {scope : Scope} {pos py : Pos} {y : Str} {l : Nat} {env : Env} (hk : env.scope.kind = .function) (hy : env.scope.names.lookup y = some .local) (hl : (py.line == pos.line) = true)
    (ha : (scope.names.any fun (n, k) => n == y && (k == .local || k == .cell)) = false) : swapsWith (.DictComp kx vx gs scope pos) (some (.Name y py)) l env = pure true := by
  have ky : env.kindOf y = some .local := hy
  have hb : env.blockKind = .function := by unfold Env.blockKind; rw [hk]; rfl
  unfold swapsWith
  simp only [hb, ky, ha, Expr.pos, hl]
  rfl
theorem ps_setDc {i : Nat} {y : Str} {py : Pos} {kx vx tg iter : Expr} {ifs : List Expr} {scope : Scope} {own : List (Str × Nat)} {pos spos : Pos} {wi : TI} {g : TG} {tt : TT} {tk tv : TE} (hc : X.calm = true) (hN : X.N.Nodup) (hy : X.N[i]? = some y) (hyl : X.env.scope.names.lookup y = some .local)
    (hsw : swapsWith (.DictComp kx vx [⟨tg, iter, ifs, 0⟩] scope pos) (some (.Name y py)) spos.line X.env = pure true) (hi : PI X tg iter wi) (ok : BlkOk X.N X.env.scope scope own)
    (hg : ∀ (s : Shared) (H : Hp) (C : Addr) (cl : List (Str × Addr)) (fp : List Addr), PG (X.blk s H scope (compEnvC scope cl C X.env) fp) tg g) (ht : ∀ (s : Shared) (H : Hp) (C : Addr) (cl : List (Str × Addr)) (fp : List Addr), PTs (X.blk s H scope (compEnvC scope cl C X.env) fp) ifs tt)
    (hk : ∀ (s : Shared) (H : Hp) (C : Addr) (cl : List (Str × Addr)) (fp : List Addr), PE (X.blk s H scope (compEnvC scope cl C X.env) fp) kx tk)
    (he : ∀ (s : Shared) (H : Hp) (C : Addr) (cl : List (Str × Addr)) (fp : List Addr), PE (X.blk s H scope (compEnvC scope cl C X.env) fp) vx tv) (hs : ∀ x, foldedSetIterable iter X.env x = pure x := by intro _; rfl) :
    PS X (.Assign [.Name y py] (.DictComp kx vx [⟨tg, iter, ifs, 0⟩] scope pos) spos) (tAsg (tDc wi g tt tk tv (own.map (·.2))) (gName i)) := by
  refine ⟨fun pins s σ H D I h => ?_⟩
  rw [exec_Assign_Name_used _ _ _ _ hsw]
  refine wpAny_bind (wpAny_standAt (wpAny_bind ?_))
  show wpAny _ X.A (do let _ ← comprehension (.DictComp kx vx [⟨tg, iter, ifs, 0⟩] scope pos) scope X.env (firstIterPos [⟨tg, iter, ifs, 0⟩] pos) newDict false (eval iter X.env) (some (assign (.Name y py) X.env))) _ _ s
  have h : tDc wi g tt tk tv (own.map (·.2)) σ H (fun x H1 => gName i x σ H1 D.nx) := h
  refine wpAny_bind (thn (dc_core (Qf := fun _ s' => SP X pins D .next s') hc hN I hi ok hg ht hk he hs h fun L C s' m H' I' q hn f => ?_) fun _ s' hq => wpAny_pure (wpAny_pure hq))
  show wpAny _ _ (assign (.Name y py) X.env (.ref L)) _ _ _
  refine wpAny_assign_Name (store_ok2 (v := V.ref L) I' hN hy (.inl hyl) rfl (fun s2 I2 ⟨a, sb, ha⟩ => ?_) (.inr hyl))
  obtain ⟨f0, f1, f2, f3, f4, f5⟩ := f
  have haC : C ≠ a := by
    rcases ha with z | z
    · rw [z]; exact f1
    · exact fun e => f4 y a z e.symm
  refine ⟨m, hn.sameBut sb haC, fun h3 sb3 => ?_⟩
  exact ⟨_, H', I2.turned (t' := s2.toks) (fun b o hb e => (sb3.2 b hb).trans e) f0 f1 f3 f4 f5, q⟩
end
end DCx

set_option Elab.async false
set_option linter.all false
set_option maxRecDepth 100000
set_option maxHeartbeats 4000000
/-! {k: v for a in A for b in B}: two walks, no tests. -/
namespace DC2
open PySem PySem.Spec PyProof.Rows L2
section
variable {kx vx ta ia tb ib : Expr} {scope : Scope} {pos : Pos} {it acc : Value} {env : Env}
/-- the comprehension -/
abbrev two (kx vx ta ia tb ib : Expr) (scope : Scope) (pos : Pos) : Expr := .DictComp kx vx [⟨ta, ia, [], 0⟩, ⟨tb, ib, [], 0⟩] scope pos
theorem turnA : compTurn (two kx vx ta ia tb ib scope pos) 0 it acc env = (do
      standAt ia.pos
      match ← pyNext it with
      | none => pure (.done .next)
      | some u => do
        letOwnedTupleGo ta it u
        assign ta env u
        let y ← eval ib env
        standAt ib.pos
        let y' ← foldedSetIterable ib env y
        let _ ← runOwn (.compStart (two kx vx ta ia tb ib scope pos) 1 (← holding [y'] (pyIter y')) acc env) env
        again (.compLoop (two kx vx ta ia tb ib scope pos) 0 it acc env)) := by rfl
theorem turnB {D : Addr} : compTurn (two kx vx ta ia tb ib scope pos) 1 it (.ref D) env = (do
      standAt ib.pos
      match ← pyNext it with
      | none => pure (.done .next)
      | some u => do
        letOwnedTupleGo tb it u
        assign tb env u
        (do
          let k ← eval kx env
          let z ← holding [k] (eval vx env)
          standAt { kx.pos with endLine := vx.pos.endLine, endCol := vx.pos.endCol }
          holding [k, z] (dictSet D k z))
        again (.compLoop (two kx vx ta ia tb ib scope pos) 1 it (.ref D) env)) := by rfl
end
section
variable {P : Program} {w : World} {A : Around} {R : Result → Shared → Prop} {s : Shared} {kx vx ta ia tb ib : Expr} {scope : Scope} {pos : Pos} {it : Value} {D : Addr} {env : Env}
/-- what is wanted where an error leaves -/
abbrev Er (P : Program) (w : World) (A : Around) (env : Env) (R : Result → Shared → Prop) : Value → Shared → Prop := notedBy (model P w) A env fun x s' => R (.error x) s'
theorem loopA (hf : ∀ y, foldedSetIterable ib env y = pure y) (J : Nat → Shared → Prop)
    (go : ∀ n s, J n s → wpAny (model P w) A (pyNext it) (fun r s₁ => match r with
      | none => R (.ok .next) s₁
      | some u => wpAny (model P w) A (letOwnedTupleGo ta it u) (fun _ s₂ => wpAny (model P w) A (assign ta env u) (fun _ s₃ => wpAny (model P w) A (eval ib env) (fun y s₄ => wpAny (model P w) A (pyIter y) (fun it1 s₅ =>
              codeAny (model P w) A (.compStart (two kx vx ta ia tb ib scope pos) 1 it1 (.ref D) env) (fun r s' => match r with
                | .ok _ => ∃ m, m < n ∧ J m s'
                | .error _ => False) s₅) (Er P w A env R) s₄) (Er P w A env R) s₃) (Er P w A env R) s₂) (Er P w A env R) s₁) (Er P w A env R) s)
    (n : Nat) (h : J n s) : codeAny (model P w) A (.compLoop (two kx vx ta ia tb ib scope pos) 0 it (.ref D) env) R s := by
  refine codeAny_loop rfl J (fun n s hJ => ?_) n h
  show wpAny _ A ((compTurn (two kx vx ta ia tb ib scope pos) 0 it (.ref D) env).onRaise (fun x => do noteFrame x env; theTreesLotGoes x)) _ _ s
  refine wpAny_noted ?_
  rw [turnA]
  refine wpAny_bind (wpAny_standAt (wpAny_bind (wpAny_mono (go n s hJ) (fun r s₁ h₁ => ?_) fun _ _ z => z)))
  cases r with
  | none => exact wpAny_pure h₁
  | some u =>
    refine wpAny_bind (wpAny_mono h₁ (fun _ s₂ h₂ => wpAny_bind (wpAny_mono h₂ (fun _ s₃ h₃ => wpAny_bind (wpAny_mono h₃ (fun y s₄ h₄ => ?_) fun _ _ z => z)) fun _ _ z => z)) fun _ _ z => z)
    refine wpAny_bind (wpAny_standAt (wpAny_bind (wpAny_of_eq (hf y) (wpAny_bind (wpAny_holding (wpAny_mono h₄ (fun it1 s₅ h₅ => wpAny_bind (wpAny_runOwn ?_)) fun _ _ z => z))))))
    rw [Around.mark_none]
    refine codeAny_mono h₅ fun r s' hr => ?_
    cases r with
    | ok f => first | exact wpAny_pure ⟨rfl, hr⟩ | exact wpAny_bind (wpAny_pure (wpAny_pure ⟨rfl, hr⟩))
    | error e => exact hr.elim
theorem loopB (J : Nat → Shared → Prop)
    (go : ∀ n s, J n s → wpAny (model P w) A (pyNext it) (fun r s₁ => match r with
      | none => R (.ok .next) s₁
      | some u => wpAny (model P w) A (letOwnedTupleGo tb it u) (fun _ s₂ => wpAny (model P w) A (assign tb env u) (fun _ s₃ => wpAny (model P w) A (eval kx env) (fun k s₄ => wpAny (model P w) A (eval vx env) (fun z s₅ =>
              wpAny (model P w) A (dictSet D k z) (fun _ s₆ => ∃ m, m < n ∧ J m s₆) (Er P w A env R) s₅) (Er P w A env R) s₄) (Er P w A env R) s₃) (Er P w A env R) s₂) (Er P w A env R) s₁) (Er P w A env R) s)
    (n : Nat) (h : J n s) : codeAny (model P w) A (.compLoop (two kx vx ta ia tb ib scope pos) 1 it (.ref D) env) R s := by
  refine codeAny_loop rfl J (fun n s hJ => ?_) n h
  show wpAny _ A ((compTurn (two kx vx ta ia tb ib scope pos) 1 it (.ref D) env).onRaise (fun x => do noteFrame x env; theTreesLotGoes x)) _ _ s
  refine wpAny_noted ?_
  rw [turnB]
  refine wpAny_bind (wpAny_standAt (wpAny_bind (wpAny_mono (go n s hJ) (fun r s₁ h₁ => ?_) fun _ _ z => z)))
  cases r with
  | none => exact wpAny_pure h₁
  | some u =>
    refine wpAny_bind (wpAny_mono h₁ (fun _ s₂ h₂ => wpAny_bind (wpAny_mono h₂ (fun _ s₃ h₃ => wpAny_bind (wpAny_bind (wpAny_mono h₃ (fun k s₄ h₄ => ?_) fun _ _ z => z))) fun _ _ z => z)) fun _ _ z => z)
    exact wpAny_bind (wpAny_holding (wpAny_mono h₄ (fun z s₅ h₅ => wpAny_bind (wpAny_standAt (wpAny_holding (wpAny_mono h₅ (fun _ s₆ h₆ => wpAny_pure ⟨rfl, h₆⟩) fun _ _ z => z)))) fun _ _ z => z))
theorem startB (h0 : codeAny (model P w) A (.compLoop (two kx vx ta ia tb ib scope pos) 1 it (.ref D) env) R s)
    (h : wpAny (model P w) A (pyIter it) (fun it' s' => codeAny (model P w) A (.compLoop (two kx vx ta ia tb ib scope pos) 1 it' (.ref D) env) R s') (Er P w A env R) s) :
    codeAny (model P w) A (.compStart (two kx vx ta ia tb ib scope pos) 1 it (.ref D) env) R s := by
  refine codeAny_of_tree ?_
  show wpAny _ _ ((compStart (two kx vx ta ia tb ib scope pos) 1 it (.ref D) env).onRaise (fun x => do noteFrame x env; standAt theWindowsPlace)) _ _ s
  refine wpAny_notedAt ?_
  unfold compStart
  show wpAny _ _ (ask >>= _) _ _ s
  refine wpAny_bind (wpAny_askSetting (wpAny_ite ?_))
  split
  · first | exact wpAny_bind (wpAny_pure (wpAny_pure (And.intro rfl h0))) | exact wpAny_pure (And.intro rfl h0)
  · have hm := fun (x : Sem (Value × Unit)) => x
    refine wpAny_bind (wpAny_rule ?_)
    show wpAny _ _ (standAt ib.pos >>= _) _ _ s
    exact wpAny_bind (wpAny_standAt (wpAny_bind (wpAny_mono h (fun it' s' h' => wpAny_pure (And.intro rfl h')) fun _ _ x => x)))
end
section
variable {X : Cx}
/-- the reading: W for the outer walk, W1 for the inner one; vs all names of the comprehension, vs1 those of the second target -/
def tDc2 (wa : TI) (ga : TG) (wb : TI) (gb : TG) (tk tv : TE) (vs vs1 : List Nat) : TE := fun σ H Q => wa σ H fun Ja H1 => ∀ D, H1 D = none → ∃ W : Nat → Nat → Hp → Prop, (∃ m, W 0 m (upd H1 D (.dK []))) ∧ ∀ i m H, W i m H →
  (Ja.stop i H ∧ Q (.ref D) H) ∨ (Ja.go i H ∧ ∃ Nx : Hp → Prop, (∀ H', Nx H' → ∃ m', m' < m ∧ W (i + 1) m' H') ∧ ∀ x H', Ja.yld i H x H' → ga x (wipe σ vs) H' fun σ2 H2 => wipe σ2 vs = wipe σ vs ∧
    wb σ2 H2 fun Jb H4 => ∃ W1 : Nat → Nat → Hp → Prop, (∃ m, W1 0 m H4) ∧ ∀ j k H, W1 j k H →
      (Jb.stop j H ∧ Nx H) ∨ (Jb.go j H ∧ ∃ Nx1 : Hp → Prop, (∀ H', Nx1 H' → ∃ k', k' < k ∧ W1 (j + 1) k' H') ∧ ∀ x H', Jb.yld j H x H' → gb x (wipe σ2 vs1) H' fun σ3 H5 => wipe σ3 vs1 = wipe σ2 vs1 ∧
        tk σ3 H5 fun y H6 => tv σ3 H6 fun z H7 => ∃ kvs k, y = kV k ∧ H7 D = some (.dK kvs) ∧ kvs.length < sizeLine ∧ Nx1 (upd H7 D (.dK (putK kvs k z)))))
/-- a piece of the block serves wherever the block stands -/
abbrev InBlk (X : Cx) (scope : Scope) (p : Cx → Prop) : Prop := ∀ (s : Shared) (H : Hp) (C : Addr) (cl : List (Str × Addr)) (fp : List Addr), p (X.blk s H scope (compEnvC scope cl C X.env) fp)
theorem core {pins : List (Addr × Obj)} {s : Shared} {σ : L2.St} {H : Hp} {Q : VK} {kx vx ta ia tb ib : Expr} {scope : Scope} {own : List (Str × Nat)} {vs1 : List Nat} {pos pos' : Pos} {wa wb : TI} {ga gb : TG} {tk tv : TE} {use : Option (Value → Sem Unit)} {Qf : Value → Shared → Prop}
    (hc : X.calm = true) (hN : X.N.Nodup) (I : Inv X pins σ H s) (hi : PI X ta ia wa) (ok : BlkOk X.N X.env.scope scope own) (hv : ∀ i ∈ vs1, i ∈ own.map (·.2))
    (hga : InBlk X scope fun Y => PG Y ta ga) (hib : InBlk X scope fun Y => PI Y tb ib wb) (hgb : InBlk X scope fun Y => PG Y tb gb) (hk : InBlk X scope fun Y => PE Y kx tk) (hz : InBlk X scope fun Y => PE Y vx tv)
    (fa : ∀ x, foldedSetIterable ia X.env x = pure x) (fb : ∀ env x, foldedSetIterable ib env x = pure x) (h : tDc2 wa ga wb gb tk tv (own.map (·.2)) vs1 σ H Q)
    (fin : ∀ D C s' m H', Inv X pins σ H' s' → Q (.ref D) H' → s'.heap.Ns C m → FpOk X pins H' C → compPost (model X.prog X.w) X.A X.xe use Qf (.ref D) C (.ok .next) s') :
    wpAny (model X.prog X.w) X.A (comprehension (two kx vx ta ia tb ib scope pos) scope X.env pos' newDict false (eval ia X.env) use) Qf X.xe s := by
  have free : ∀ y ∈ scope.names, y.2 = .free → ∃ c, X.env.cells.lookup y.1 = some c := fun y hy e => (ok.free y hy e).elim (fun z => I.ok.has _ (.inl z)) fun z => I.ok.has _ (.inr z)
  refine wpAny_comprehension_free (use := use) rfl fa (closure_ok free) ok.kind (fun y hy e => by rw [ok.uniq y hy, e]) (thn (hi.run pins s σ H _ I h) fun xv s1 hx => thn hx fun itv s2 h2 => ?_)
  obtain ⟨it, fp, tn, Ja, H2, e, I2, T, st2, f2, q⟩ := h2
  subst e
  refine wpAny_newObj_type (newEnv_comp ?_)
  generalize hD : s2.heap.objs.size = D
  obtain ⟨W, ⟨m0, w0⟩, turn⟩ := q D (I2.hok.fresh (Nat.le_of_eq hD))
  generalize hs3 : ({ s2 with heap := s2.heap.push { cls := .type "dict", data := .dict #[] } } : Shared) = s3
  have h3 : s3.heap = s2.heap.push { cls := .type "dict", data := .dict #[] } := by rw [← hs3]
  have I3 : Inv X pins σ (upd H2 D (.dK [])) s3 := by
    rw [← hs3]
    exact I2.laid (t' := s2.toks) (fun b o e => Heap.get?_push_of_some _ e) (Nat.le_of_eq hD) (hD ▸ dk_empty s2.heap I2.big)
  have lt2 : ∀ b ∈ fp, b < s2.heap.objs.size := fun b hb => let ⟨_, e, _⟩ := T.obj _ _ st2 b hb; Heap.lt_size e
  have f3 : ∀ b ∈ fp, FpOk X pins (upd H2 D (.dK [])) b ∧ b < s3.heap.objs.size := fun b hb =>
    ⟨⟨by rw [upd_ne (by rw [← hD]; exact Nat.ne_of_lt (lt2 b hb))]; exact (f2 b hb).1, (f2 b hb).2⟩, by rw [h3, Heap.size_push]; exact Nat.lt_succ_of_lt (lt2 b hb)⟩
  have I4 := block_start I3 ok hN f3
  have pga := hga s3 (upd H2 D (.dK [])) s3.heap.objs.size (cellsFrom (s3.heap.objs.size + 1) scope.names (cloFrom X.env.cells scope.names [])) fp
  have pib := hib s3 (upd H2 D (.dK [])) s3.heap.objs.size (cellsFrom (s3.heap.objs.size + 1) scope.names (cloFrom X.env.cells scope.names [])) fp
  have pgb := hgb s3 (upd H2 D (.dK [])) s3.heap.objs.size (cellsFrom (s3.heap.objs.size + 1) scope.names (cloFrom X.env.cells scope.names [])) fp
  have pk := hk s3 (upd H2 D (.dK [])) s3.heap.objs.size (cellsFrom (s3.heap.objs.size + 1) scope.names (cloFrom X.env.cells scope.names [])) fp
  have pz := hz s3 (upd H2 D (.dK [])) s3.heap.objs.size (cellsFrom (s3.heap.objs.size + 1) scope.names (cloFrom X.env.cells scope.names [])) fp
  have st3 : tn 0 s3.heap := T.keep _ _ _ st2 fun b _ o e => by rw [h3]; exact Heap.get?_push_of_some _ e
  show codeAny _ _ (.compStart (two kx vx ta ia tb ib scope pos) 0 (.ref it) (.ref D) (compEnvC scope (cellsFrom (s3.heap.objs.size + 1) scope.names (cloFrom X.env.cells scope.names [])) s3.heap.objs.size X.env)) (compPost (model X.prog X.w) X.A X.xe use Qf (.ref D) s3.heap.objs.size) { s3 with heap := pushCells (s3.heap.push { cls := .type "dict", data := .dict #[] }) scope.names }
  have nfp : ∀ b ∈ fp, (upd H2 D (.dK [])) b = none := fun b hb => (f3 b hb).1.1
  generalize hce : compEnvC scope (cellsFrom (s3.heap.objs.size + 1) scope.names (cloFrom X.env.cells scope.names [])) s3.heap.objs.size X.env = ce at I4 pga pib pgb pk pz ⊢
  have cL : ce.locals = s3.heap.objs.size := hce ▸ rfl
  generalize hH3 : upd H2 D (.dK []) = H3 at I3 I4 pga pib pgb pk pz w0 nfp f3
  generalize hs4 : ({ s3 with heap := pushCells (s3.heap.push { cls := .type "dict", data := .dict #[] }) scope.names } : Shared) = s4 at I4 ⊢
  have st4 : tn 0 s4.heap := T.keep _ _ _ st3 fun b _ o e => hs4 ▸ pushCells_keeps _ _ _ _ (Heap.get?_push_of_some _ e)
  generalize hY : X.blk s3 H3 scope ce fp = Y at I4 pga pib pgb pk pz
  have yp : Y.prog = X.prog := hY ▸ rfl
  have yw : Y.w = X.w := hY ▸ rfl
  have yK : Y.K = X.K := hY ▸ rfl
  subst hY
  generalize hvs : own.map (·.2) = vs at hv h I4 turn
  have stat : ∀ {σ' : L2.St} {H' : Hp} {s' : Shared}, Inv (X.blk s3 H3 scope ce fp) [] σ' H' s' → (∀ b ∈ fp, H' b = none) → ∀ b ∈ fp, FpOk (X.blk s3 H3 scope ce fp) [] H' b := fun {σ' H' s'} I' hn b hb =>
    ⟨hn b hb, (I'.ok.exf b hb).1, I'.ok.exfs b hb, .inl hb, (I'.ok.exf b hb).2, fun p hp => by cases hp⟩
  have loop : codeAny (model X.prog X.w) X.A (.compLoop (two kx vx ta ia tb ib scope pos) 0 (.ref it) (.ref D) ce) (compPost (model X.prog X.w) X.A X.xe use Qf (.ref D) s3.heap.objs.size) s4 := by
    refine loopA (fb ce) (fun n s' => ∃ i H', Inv (X.blk s3 H3 scope ce fp) [] (wipe σ vs) H' s' ∧ tn i s'.heap ∧ (∀ b ∈ fp, H' b = none) ∧ W i n H') ?_ m0 ⟨0, H3, I4, st4, nfp, w0⟩
    rintro n s5 ⟨i, H5, I5, st5, n5, w5⟩
    rcases turn i n H5 w5 with ⟨stop, qq⟩ | ⟨go, Nx, hNx, step⟩
    · refine thnF (T.done (X.blk s3 H3 scope ce fp) rfl rfl rfl hc i [] s5 _ H5 (fun _ _ => False) I5 (stat I5 n5) st5 stop) fun r s6 ⟨hr, I6⟩ => ?_
      subst hr
      have I7 : Inv X pins σ H5 s6 := I3.call' (ch := fp) I6.os I6.base I6.hok I6.bare fun b hb => let z := (f3 b hb).1.2; ⟨z.2.2.1, z.1, z.2.2.2.1, z.2.2.2.2⟩
      have nC : H5 s3.heap.objs.size = none := cL ▸ I6.free
      obtain ⟨m, hn, _⟩ := I6.loc
      have hn : s6.heap.Ns ce.locals m := hn
      exact fin D s3.heap.objs.size s6 m H5 I7 qq (cL ▸ hn) (I3.fpOk (Nat.le_refl _) nC)
    · refine thnF (T.item (X.blk s3 H3 scope ce fp) rfl rfl rfl hc i [] s5 _ H5 (fun _ _ => False) I5 (stat I5 n5) st5 go) fun r s6 ⟨u, hr, h6⟩ => ?_
      subst hr
      refine thnF h6 fun _ s7 ⟨x, H7, I7, r7, y7, st7, n7⟩ => ?_
      refine thnF (pga.run _ s7 _ H7 x u _ (I7.pinned (stat I7 n7) (T.obj _ _ st7)) r7 (step x H7 y7)) fun _ s8 ⟨σ8, H8, I8, hw8, q8⟩ => ?_
      have k8 : ∀ (j : Nat) v, (wipe σ vs)[j]? = some (some v) → (wipe σ8 vs1)[j]? = some (some v) := fun j v e => by
        rw [← hw8] at e
        obtain ⟨e1, e2⟩ := wipe_some e
        rw [wipe_out fun z => e2 (hv j z)]
        exact e1
      have l8 : (wipe σ vs).length = (wipe σ8 vs1).length := by rw [wipe_length σ8, ← hw8, wipe_length]
      -- the outer turn ends
      have close : ∀ {s' : Shared} {H' : Hp}, Inv (X.blk s3 H3 scope ce fp) ([] ++ pinsAt fp s7.heap) (wipe σ8 vs1) H' s' → Nx H' →
          ∃ m, m < n ∧ ∃ i H', Inv (X.blk s3 H3 scope ce fp) [] (wipe σ vs) H' s' ∧ tn i s'.heap ∧ (∀ b ∈ fp, H' b = none) ∧ W i m H' := fun {s' H'} I' nx => by
        obtain ⟨m', hm, w'⟩ := hNx H' nx
        have pin' : ∀ b ∈ fp, ∀ o, s7.heap.get? b = some o → s'.heap.get? b = some o ∧ H' b = none := fun b hb o e =>
          let z := I'.pin (b, o) (List.mem_append_right _ (List.mem_append_right _ (mem_pinsAt hb e))); ⟨z.1, z.2.1⟩
        exact ⟨m', hm, i + 1, H', (I'.unpinned (pins := [])).weak l8 k8, T.keep _ _ _ st7 fun b hb o e => (pin' b hb o e).1, fun b hb => let ⟨o, e, _⟩ := T.obj _ _ st7 b hb; (pin' b hb o e).2, w'⟩
      refine thnF (pib.run _ s8 σ8 H8 _ I8 q8) fun xv s10 hx => thnF hx fun itv s11 h11 => ?_
      obtain ⟨it1, fp1, tn1, Jb, H11, e1, I11, T1, st11, f11, W1, ⟨m1, w1⟩, turn1⟩ := h11
      subst e1
      have stat1 : ∀ {H' : Hp}, (∀ b ∈ fp1, H' b = none) → ∀ b ∈ fp1, FpOk (X.blk s3 H3 scope ce fp) ([] ++ pinsAt fp s7.heap) H' b := fun hn b hb => ⟨hn b hb, (f11 b hb).2⟩
      have inner : codeAny (model X.prog X.w) X.A (.compLoop (two kx vx ta ia tb ib scope pos) 1 (.ref it1) (.ref D) ce)
          (fun r s' => match r with
            | .ok _ => ∃ m, m < n ∧ ∃ i H', Inv (X.blk s3 H3 scope ce fp) [] (wipe σ vs) H' s' ∧ tn i s'.heap ∧ (∀ b ∈ fp, H' b = none) ∧ W i m H'
            | .error _ => False) s11 := by
        refine loopB (fun k s' => ∃ j H', Inv (X.blk s3 H3 scope ce fp) ([] ++ pinsAt fp s7.heap) (wipe σ8 vs1) H' s' ∧ tn1 j s'.heap ∧ (∀ b ∈ fp1, H' b = none) ∧ W1 j k H') ?_ m1 ⟨0, H11, I11.weak (wipe_length _ _) (fun j v e => (wipe_some e).1), st11, fun b hb => (f11 b hb).1, w1⟩
        rintro k s12 ⟨j, H12, I12, st12, n12, w12⟩
        rcases turn1 j k H12 w12 with ⟨stop1, nx1⟩ | ⟨go1, Nx1, hNx1, step1⟩
        · refine thnF (T1.done (X.blk s3 H3 scope ce fp) rfl rfl rfl hc j _ s12 (wipe σ8 vs1) H12 (fun _ _ => False) I12 (stat1 n12) st12 stop1) fun r s13 ⟨hr, I13⟩ => ?_
          subst hr
          exact close I13 nx1
        · refine thnF (T1.item (X.blk s3 H3 scope ce fp) rfl rfl rfl hc j _ s12 (wipe σ8 vs1) H12 (fun _ _ => False) I12 (stat1 n12) st12 go1) fun r s13 ⟨u1, hr, h13⟩ => ?_
          subst hr
          refine thnF h13 fun _ s14 ⟨x1, H14, I14, r14, y14, st14, n14⟩ => ?_
          refine thnF (pgb.run _ s14 (wipe σ8 vs1) H14 x1 u1 _ (I14.pinned (stat1 n14) (T1.obj _ _ st14)) r14 (step1 x1 H14 y14)) fun _ s15 ⟨σ15, H15, I15, hw15, q15⟩ => ?_
          refine thnF (pk.run _ s15 σ15 H15 _ I15 q15) fun kv s16 ⟨yk, H16, I16, r16, q16⟩ => ?_
          refine thnF (pz.run _ s16 σ15 H16 _ I16 q16) fun zv s17 ⟨yz, H17, I17, r17, kvs, ke, ek, hD17, hz17, nx⟩ => ?_
          subst ek
          refine d_dictSet (X := X.blk s3 H3 scope ce fp) I17 hD17 hz17 r16 r17 fun s18 I18 => ?_
          obtain ⟨m', hm, w'⟩ := hNx1 _ nx
          have pin' : ∀ b ∈ fp1, ∀ o, s14.heap.get? b = some o → s18.heap.get? b = some o ∧ (upd H17 D (.dK (putK kvs ke yz))) b = none := fun b hb o e =>
            let z := I18.pin (b, o) (List.mem_append_right _ (List.mem_append_right _ (mem_pinsAt hb e))); ⟨z.1, z.2.1⟩
          exact ⟨m', hm, j + 1, _, I18.unpinned.weak (by rw [← hw15, wipe_length]) (fun j v e => by rw [← hw15] at e; exact (wipe_some e).1), T1.keep _ _ _ st14 fun b hb o e => (pin' b hb o e).1, fun b hb => let ⟨o, e, _⟩ := T1.obj _ _ st14 b hb; (pin' b hb o e).2, w'⟩
      exact startB inner (T1.self X.A 0 _ _ _ st11 inner)
  exact codeAny_compStart_dict loop (T.self X.A 0 _ _ _ st4 loop)
theorem pe_dc2 {kx vx ta ia tb ib : Expr} {scope : Scope} {own : List (Str × Nat)} {vs1 : List Nat} {pos : Pos} {wa wb : TI} {ga gb : TG} {tk tv : TE} (hc : X.calm = true) (hN : X.N.Nodup) (hi : PI X ta ia wa) (ok : BlkOk X.N X.env.scope scope own) (hv : ∀ i ∈ vs1, i ∈ own.map (·.2))
    (hga : InBlk X scope fun Y => PG Y ta ga) (hib : InBlk X scope fun Y => PI Y tb ib wb) (hgb : InBlk X scope fun Y => PG Y tb gb) (hk : InBlk X scope fun Y => PE Y kx tk) (hz : InBlk X scope fun Y => PE Y vx tv)
    (fa : ∀ x, foldedSetIterable ia X.env x = pure x := by intro _; rfl) (fb : ∀ env x, foldedSetIterable ib env x = pure x := by intro _ _; rfl) :
    PE X (.DictComp kx vx [⟨ta, ia, [], 0⟩, ⟨tb, ib, [], 0⟩] scope pos) (tDc2 wa ga wb gb tk tv (own.map (·.2)) vs1) := by
  refine ⟨fun pins s σ H Q I h => ?_⟩
  rw [arm_eval_DictComp]
  refine core hc hN I hi ok hv hga hib hgb hk hz fa fb h fun D C s' m H' I' q hn f => ⟨m, hn, fun h'' sb => ?_⟩
  exact ⟨.ref D, H', I'.turned (t' := s'.toks) (fun b o hb e => (sb.2 b hb).trans e) f.1 f.2.1 f.2.2.2.1 f.2.2.2.2.1 f.2.2.2.2.2, rfl, q⟩
/-! ### a walk of a tuple, of a list, of a range: T x H Nx is one turn -/
theorem walk_t {K : PySem.W.Frag} {a : Addr} {xs : List V} {T : V → Hp → (Hp → Prop) → Prop} {H0 : Hp} {Qd : Hp → Prop} (Pv : Nat → Hp → Prop) (h0 : Pv 0 H0) (hl : ∀ i H, i ≤ xs.length → Pv i H → SqT K H a xs)
    (hs : ∀ i x H, xs[i]? = some x → Pv i H → T x H (Pv (i + 1))) (hd : ∀ H, Pv xs.length H → Qd H) :
    ∃ W : Nat → Nat → Hp → Prop, (∃ m, W 0 m H0) ∧ ∀ i m H, W i m H →
      ((Itt K a).stop i H ∧ Qd H) ∨ ((Itt K a).go i H ∧ ∃ Nx : Hp → Prop, (∀ H', Nx H' → ∃ m', m' < m ∧ W (i + 1) m' H') ∧ ∀ x H', (Itt K a).yld i H x H' → T x H' Nx) := by
  refine ⟨fun i m H => m = xs.length - i ∧ i ≤ xs.length ∧ Pv i H, ⟨xs.length, (Nat.sub_zero _).symm, Nat.zero_le _, h0⟩, ?_⟩
  rintro i m H ⟨rfl, hi, p⟩
  have q := hl i H hi p
  rcases Nat.lt_or_ge i xs.length with c | c
  · refine .inr ⟨⟨xs, xs[i], q, List.getElem?_eq_getElem c⟩, Pv (i + 1), fun H' p' => ⟨xs.length - (i + 1), by omega, rfl, c, p'⟩, ?_⟩
    rintro x H' ⟨e, y⟩
    subst e
    exact hs i x _ (y xs q) p
  · have e : i = xs.length := by omega
    subst e
    exact .inl ⟨⟨xs, q, Nat.le_refl _⟩, hd H p⟩
theorem walk_l {K : PySem.W.Frag} {a : Addr} {xs : List V} {T : V → Hp → (Hp → Prop) → Prop} {H0 : Hp} {Qd : Hp → Prop} (Pv : Nat → Hp → Prop) (h0 : Pv 0 H0) (hl : ∀ i H, i ≤ xs.length → Pv i H → SqL K H a xs)
    (hs : ∀ i x H, xs[i]? = some x → Pv i H → T x H (Pv (i + 1))) (hd : ∀ H, Pv xs.length H → Qd H) :
    ∃ W : Nat → Nat → Hp → Prop, (∃ m, W 0 m H0) ∧ ∀ i m H, W i m H →
      ((Itl K a).stop i H ∧ Qd H) ∨ ((Itl K a).go i H ∧ ∃ Nx : Hp → Prop, (∀ H', Nx H' → ∃ m', m' < m ∧ W (i + 1) m' H') ∧ ∀ x H', (Itl K a).yld i H x H' → T x H' Nx) := by
  refine ⟨fun i m H => m = xs.length - i ∧ i ≤ xs.length ∧ Pv i H, ⟨xs.length, (Nat.sub_zero _).symm, Nat.zero_le _, h0⟩, ?_⟩
  rintro i m H ⟨rfl, hi, p⟩
  have q := hl i H hi p
  rcases Nat.lt_or_ge i xs.length with c | c
  · refine .inr ⟨⟨xs, xs[i], q, List.getElem?_eq_getElem c⟩, Pv (i + 1), fun H' p' => ⟨xs.length - (i + 1), by omega, rfl, c, p'⟩, ?_⟩
    rintro x H' ⟨e, y⟩
    subst e
    exact hs i x _ (y xs q) p
  · have e : i = xs.length := by omega
    subst e
    exact .inl ⟨⟨xs, q, Nat.le_refl _⟩, hd H p⟩
end
end DC2

set_option Elab.async false
set_option linter.all false
set_option maxRecDepth 100000
set_option maxHeartbeats 4000000
/-! tuple * 1: the tuple itself. -/
namespace Ew
open PySem PySem.Spec PyProof.Rows L2
theorem tuple_mulW1 (l : Addr) (items : Array Value) (n : Nat) (dd : Option Addr) (sl : Array (Option Value)) (u : Tok) :
    Meets (Builtin.«tuple.__mul__» ⟨[.ref l, .int 1 u], []⟩) (fun _ R s => s.heap.get? l = some { cls := .type "tuple", dict := dd, data := .seq items n, slots := sl } ∧ R (.ok (.ret (Value.ref l))) s) :=
  .of_wp fun prog w A R s h => by
    obtain ⟨hp, g, d, tk, os⟩ := s
    obtain ⟨hl, h⟩ := h
    have f1 := AutoSeq1.idx_int
    have c1 : (items.isEmpty || (1 : Int) == 1) = true := by simp
    wp_walk using wpAny_loadPart' hl
    repeat (first
      | (refine wpAny_ite_false (decide_eq_false (by decide)) ?_; wp_walk using wpAny_loadPart' hl)
      | (refine wpAny_ite_true (decide_eq_true (by simp)) ?_; wp_walk using wpAny_loadPart' hl))
    exact ⟨_, rfl, h⟩
def rRepT1 (K : PySem.W.Frag) : R2 := fun x y H Q => ∃ l xs, x = .ref l ∧ y = .int 1 ∧ SqT K H l xs ∧ Q (.ref l) H
theorem op_repT1 {X : Cx} : OpR X (binaryOp .Mult) (rRepT1 X.K) := by
  intro pins s σ H x y v u Q I rx ry h
  obtain ⟨l, xs, rfl, rfl, hT, q⟩ := h
  cases rx
  obtain ⟨t, rfl⟩ := ry
  obtain ⟨its, r, ⟨⟨cls, dd, data, sl⟩, ho, hc, n, hd⟩, hs⟩ := I.tuple hT
  simp only at hc hd
  subst hc hd
  refine wpAny_binaryOp_repeat_ref (T := "tuple") (U := "int") (by decide) ⟨_, ho, rfl⟩ (fun s' => typeIs_int s' 1 t) noFill_tuple_mul F.fills_int_mul F.slot_int_rmul repeat_tuple F.slot_int_index.lookup
    (call_meets F.slot_int_rmul (typeIs_int s 1 t) F.entry_int_rmul (F.args_int_rmul_2 _ _) (int_rmul_tuple 1 t l its.toArray n dd sl)
      ⟨ho, rfl, ⟨_, ho, rfl⟩, call_meets F.slot_tuple_mul ⟨_, ho, rfl⟩ F.entry_tuple_mul (F.args_tuple_mul_2 _ _) (tuple_mulW1 l its.toArray n dd sl t) ⟨ho, ?_⟩⟩)
  exact ⟨.ref l, H, I, rfl, q⟩
end Ew

set_option Elab.async false
set_option linter.all false
set_option maxRecDepth 100000
set_option maxHeartbeats 4000000
/-! sorted(t) of a tuple of ints. -/
namespace STx
open PySem PySem.W L2 PySem.Spec PyProof.Rows
open Sem (wp)
section
variable {prog : Program} {w : World} {A : Around} {E : Value → Shared → Prop} {s : Shared}
/-- what a tuple holds is collected -/
theorem gathered {t : Addr} {us : List Value} {Q : List Value → Shared → Prop} (ht : s.heap.IsTuple t us.toArray) (hz : us.length ≤ sizeLine)
    (q : Q us { s with heap := (s.heap.push (seqObj "list" #[] 0)).update s.heap.objs.size (Obj.mapSeq (· ++ us.toArray)) }) : wpAny (model prog w) A (collect (.ref t)) Q E s := by
  obtain ⟨ob, h1, h2, m, h3⟩ := id ht
  unfold collect
  refine wpAny_bind (wpAny_runValue (codeAny_builtin entry_proto_collect' ?_)); show wpAny _ _ (do again (.builtin "list.__iadd__" ⟨[← newList [], .ref t], []⟩)) _ _ s
  refine wpAny_bind (wpAny_newList (wpAny_pure ⟨Code.quiet_builtin _ (by decide +kernel), codeAny_builtin entry_list_iadd' ?_⟩)); show wpAny _ _ (Builtin.List.listExtendWith (.ref s.heap.objs.size) (.ref t) (.ref s.heap.objs.size)) _ _ { s with heap := s.heap.push (seqObj "list" #[] 0) }
  unfold Builtin.List.listExtendWith
  have h1' : (s.heap.push (seqObj "list" #[] 0)).get? t = some ob := Heap.get?_push_of_some _ h1
  refine wpAny_bind (wpAny_typeOf (T := "tuple") ⟨ob, h1', h2⟩ ?_); have e : (Value.type "tuple" == Value.type "tuple") = true := by rfl
  rw [if_pos (by rw [e]; simp)]; refine wpAny_bind (listItems_at h1' h3 ?_); refine wpAny_bind (listItems_at (xs := #[]) (n := 0) (Heap.get?_push_size _ rfl) rfl ?_); rw [if_neg (by simp)]
  refine wpAny_bind (listUpdate_at (xs := #[]) (n := 0) (Heap.get?_push_size _ rfl) rfl ?_ (Nat.zero_le _) (by show (#[] ++ us.toArray).size ≤ sizeLine + 1; simp only [Array.size_append, List.size_toArray, List.length_nil]; omega)); refine wpAny_pure ?_
  show wpAny (model prog w) A (do let o ← load s.heap.objs.size; match o.data with | .seq xs _ => pure xs.toList | _ => unsupported "internal:collect") Q E { s with heap := (s.heap.push (seqObj "list" #[] 0)).update s.heap.objs.size (Obj.mapSeq (· ++ us.toArray)) }
  refine wpAny_bind (wpAny_load (get?_update_seq (Heap.get?_push_size _ rfl) _) ?_); show wpAny _ _ (pure ((#[] : Array Value) ++ us.toArray).toList) Q E _
  rw [show ((#[] : Array Value) ++ us.toArray).toList = us by simp]; exact wpAny_pure q
theorem sorted_tup {t : Addr} {us : List Value} {lt : Value → Value → Bool} {Q : Value → Shared → Prop} (O : SrtO.Swo lt) (ht : s.heap.IsTuple t us.toArray) (hz : us.length ≤ sizeLine)
    (hS : 2 ≤ us.length → ∀ (g : Heap) (a : Addr), g.get? a = some (seqObj "list" us.toArray 0) → (∀ b o, s.heap.get? b = some o → b ≠ a ∧ g.get? b = some o) → SrtO.SortableO prog w A.in1.in1 { s with heap := g } a us lt)
    (q : ∀ out : List Value, SrtO.Srtd lt out → SrtO.Stb lt out us → Q (.ref (s.heap.objs.size + 1)) { s with heap := sortedAll s.heap us out.toArray }) :
    wpAny (model prog w) A (call (.builtin "sorted") [.ref t]) Q E s := by
  refine Calls.call_function_entry kind_sorted plain_sorted entry_sorted (args_sorted1 _) ?_; unfold Builtin.«sorted»
  refine wpAny_bind (m := checkCount "sorted" 1 1 _) (wpAny_pure ?_); refine wpAny_bind (gathered ht hz ?_); refine wpAny_bind (wpAny_newList ?_ hz)
  have e1 : ((s.heap.push (seqObj "list" #[] 0)).update s.heap.objs.size (Obj.mapSeq (· ++ us.toArray))).objs.size = s.heap.objs.size + 1 := by
    rw [Heap.size_update, size_push']
  have e2 : (((s.heap.push (seqObj "list" #[] 0)).update s.heap.objs.size (Obj.mapSeq (· ++ us.toArray))).push (seqObj "list" us.toArray 0)).get? (s.heap.objs.size + 1) = some (seqObj "list" us.toArray 0) := by
    rw [← e1]; exact Heap.get?_push_size _ rfl
  have e3 : ∀ b o, s.heap.get? b = some o → b ≠ s.heap.objs.size + 1 ∧ (((s.heap.push (seqObj "list" #[] 0)).update s.heap.objs.size (Obj.mapSeq (· ++ us.toArray))).push (seqObj "list" us.toArray 0)).get? b = some o := fun b o g => by
    have hb : b < s.heap.objs.size := Heap.lt_size g
    refine ⟨Nat.ne_of_lt (Nat.lt_succ_of_lt hb), Heap.get?_push_of_some _ ?_⟩
    rw [Heap.get?_update_ne _ _ _ _ (Nat.ne_of_lt hb)]; exact Heap.get?_push_of_some _ g
  show wpAny _ _ _ _ _ { s with heap := ((s.heap.push (seqObj "list" #[] 0)).update s.heap.objs.size (Obj.mapSeq (· ++ us.toArray))).push (seqObj "list" us.toArray 0) }
  rw [e1]; refine wpAny_bind (wpAny_holding (wpAny_call_entry slot_list_sort ⟨_, e2, rfl⟩ entry_list_sort (SrtO.list_sort_ord O e2 hz (fun h2 => hS h2 _ _ e2 e3) fun out hs hb => ⟨_, rfl, ?_⟩) (args_list_sort _)))
  exact wpAny_pure ⟨_, rfl, q out hs hb⟩
end
section
variable {X : Cx}
/-- sorted(xs), xs a list or a tuple of ints -/
def rSortA (K : PySem.W.Frag) : List V → Hp → VK → Prop := fun vs H Q => ∃ (a : Addr) (ns : List Int), vs = [V.ref a] ∧ (SqL K H a (ns.map V.int) ∨ SqT K H a (ns.map V.int)) ∧
  ∀ (ms : List Int) (p : Addr), ms.Perm ns → ms.Pairwise (· ≤ ·) → H p = none → Q (.ref p) (upd H p (.lst (ms.map V.int)))
theorem cr_sortedA : CallR X (.builtin "sorted") (rSortA X.K) := by
  intro pins s σ H vs us Q I r h
  obtain ⟨a, ns, rfl, hs | hs, q⟩ := h
  · exact cr_sortedI pins s σ H _ us Q I r ⟨a, ns, rfl, hs, q⟩
  · obtain ⟨its, rv, ht, hz⟩ := I.tuple hs
    rw [Vals.ref1 r]
    have rin := rv.ints
    refine sorted_tup SrtO.swo_int (show s.heap.IsTuple a its.toArray from ht) (by rw [← rv.length]; exact hz) (fun h2 g a' _ _ => SrtO.ints_sortable rin h2) fun out h1 h2 => ?_
    obtain ⟨k1, k2, k3⟩ := SrtO.ints_out rin h1 h2
    obtain ⟨ep, at_⟩ := PyProof.Rows.sortedAll_at s.heap its out.toArray
    have len : ((out.map SrtO.iv).map V.int).length ≤ sizeLine := by
      rw [List.length_map, k2.length_eq]; rw [List.length_map] at hz; exact hz
    exact ⟨.ref _, upd H (s.heap.objs.size + 1) (.lst ((out.map SrtO.iv).map V.int)), I.laid (t' := s.toks) (fun _ _ => PyProof.Rows.sortedAll_old) (Nat.le_succ _) ⟨len, out, ep, vals_of_ints k1, at_⟩, rfl, q _ _ k2 k3 (I.hok.fresh (Nat.le_succ _))⟩
end
end STx

set_option Elab.async false
set_option linter.all false
set_option maxRecDepth 100000
set_option maxHeartbeats 4000000
/-! Lists of whole numbers: sorted, the least k, the sums. -/
namespace KM
open PySem L2 Ew
abbrev nV (ns : List Nat) : List V := ns.map fun (n : Nat) => V.int (n : Int)
def sortN (ns : List Nat) : List Nat := (PySem.W.sortI (ns.map fun (n : Nat) => (n : Int))).map Int.toNat
theorem sortN_of {ns : List Nat} {ns' : List Int} (hp : ns'.Perm (ns.map fun (n : Nat) => (n : Int))) (hs : ns'.Pairwise (· ≤ ·)) : ns' = (sortN ns).map fun (n : Nat) => (n : Int) := by
  have e := PySem.W.eq_sortI hp hs
  unfold sortN
  rw [← e, List.map_map]
  refine (List.map_id _).symm.trans (List.map_congr_left fun x hx => ?_)
  obtain ⟨n, _, rfl⟩ := List.mem_map.mp (hp.mem_iff.mp hx)
  show (n : Int) = ((n : Int).toNat : Int)
  rw [Int.toNat_natCast]
theorem int_map (ns : List Nat) : (ns.map fun (n : Nat) => (n : Int)).map V.int = nV ns := by
  rw [List.map_map]; rfl
theorem id_nat (ns : List Nat) : (ns.map fun (n : Nat) => (n : Int)).map Int.toNat = ns := by
  rw [List.map_map]
  exact (List.map_congr_left fun n _ => Int.toNat_natCast n).trans (List.map_id _)
theorem sortN_perm (ns : List Nat) : (sortN ns).Perm ns := by
  have h := (PySem.W.sortI_perm (ns.map fun (n : Nat) => (n : Int))).map Int.toNat
  rw [id_nat] at h
  exact h
theorem sortN_rises (ns : List Nat) : (sortN ns).Pairwise (· ≤ ·) :=
  (PySem.W.sortI_rises (ns.map fun (n : Nat) => (n : Int))).map Int.toNat fun a b hab => by omega
/-- what rises and holds the same is the sorted list -/
theorem sortN_eq {ns ms : List Nat} (hp : ms.Perm ns) (hs : ms.Pairwise (· ≤ ·)) : ms = sortN ns := by
  have e := sortN_of (ns := ns) (ns' := ms.map fun (n : Nat) => (n : Int)) (hp.map _) (hs.map (S := fun (a b : Int) => a ≤ b) _ fun a b hab => by omega)
  have e3 := congrArg (List.map Int.toNat) e
  rwa [id_nat, id_nat] at e3
theorem sortN_congr {ns ms : List Nat} (hp : ms.Perm ns) : sortN ms = sortN ns := sortN_eq ((sortN_perm ms).trans hp) (sortN_rises ms)
theorem sortN_self {ns : List Nat} (hs : ns.Pairwise (· ≤ ·)) : sortN ns = ns := (sortN_eq (.refl _) hs).symm
theorem sortN_len (ns : List Nat) : (sortN ns).length = ns.length := (sortN_perm ns).length_eq
def topN (k : Nat) (ns : List Nat) : List Nat := (sortN ns).take k
theorem topN_congr {k : Nat} {ns ms : List Nat} (hp : ms.Perm ns) : topN k ms = topN k ns := by unfold topN; rw [sortN_congr hp]
theorem topN_rises (k : Nat) (ns : List Nat) : (topN k ns).Pairwise (· ≤ ·) := (sortN_rises ns).sublist (List.take_sublist _ _)
theorem topN_len (k : Nat) (ns : List Nat) : (topN k ns).length ≤ k := List.length_take_le _ _
theorem topN_self {k : Nat} {ns : List Nat} (hs : ns.Pairwise (· ≤ ·)) (hl : ns.length ≤ k) : topN k ns = ns := by
  unfold topN; rw [sortN_self hs, List.take_of_length_le hl]
/-- what many lesser ones stand ahead of does not matter -/
theorem topN_drop {k : Nat} {Y Z : List Nat} (h : ∀ z ∈ Z, k ≤ Y.countP fun y => decide (y ≤ z)) : topN k (Y ++ Z) = topN k Y := by
  rcases Nat.lt_or_ge Y.length k with hk | hk
  · have hz : Z = [] := by
      rcases Z with _ | ⟨z, Z⟩
      · rfl
      · have h1 := h z (List.mem_cons_self ..)
        have h2 := List.countP_le_length (p := fun y => decide (y ≤ z)) (l := Y)
        omega
    rw [hz, List.append_nil]
  · have hS := sortN_rises Y
    have hP := sortN_perm Y
    have hl : (sortN Y).length = Y.length := hP.length_eq
    have split_ : (sortN Y).take k ++ (sortN Y).drop k = sortN Y := List.take_append_drop k _
    have low : ∀ z ∈ Z, ∀ p ∈ (sortN Y).take k, p ≤ z := fun z hz p hp => by
      refine Nat.not_lt.mp fun hlt => ?_
      have hc := h z hz
      rw [← hP.countP_eq, ← split_, List.countP_append] at hc
      obtain ⟨i, hi⟩ := List.mem_iff_getElem?.mp hp
      have hik : i < ((sortN Y).take k).length := (List.getElem?_eq_some_iff.mp hi).1
      have hi' : (sortN Y)[i]? = some p := by
        rw [List.getElem?_take] at hi
        split at hi
        · exact hi
        · cases hi
      have hin : i < (sortN Y).length := (List.getElem?_eq_some_iff.mp hi').1
      have hk2 : i < k := by
        have := List.length_take_le k (sortN Y)
        omega
      have c1 : (sortN Y).countP (fun y => decide (y ≤ z)) ≤ i := by
        rw [← List.take_append_drop i (sortN Y), List.countP_append]
        have a1 := List.countP_le_length (p := fun y => decide (y ≤ z)) (l := (sortN Y).take i)
        have a2 : ((sortN Y).drop i).countP (fun y => decide (y ≤ z)) = 0 := by
          refine List.countP_eq_zero.mpr fun y hy => ?_
          have hd : (sortN Y).drop i = p :: (sortN Y).drop (i + 1) := by
            rw [List.drop_eq_getElem_cons hin]
            congr 1
            rw [List.getElem?_eq_getElem hin] at hi'
            exact Option.some.inj hi'
          have hpw := hS.sublist (List.drop_sublist i (sortN Y))
          rw [hd] at hy hpw
          rcases List.mem_cons.mp hy with rfl | hy
          · simp; omega
          · have := (List.pairwise_cons.mp hpw).1 y hy
            simp; omega
        have a3 := List.length_take_le i (sortN Y)
        omega
      have c2 := hP.countP_eq (p := fun y => decide (y ≤ z))
      rw [← List.countP_append, split_] at hc
      omega
    have e : sortN (Y ++ Z) = (sortN Y).take k ++ sortN ((sortN Y).drop k ++ Z) := by
      refine (sortN_eq ?_ ?_).symm
      · have p1 := (sortN_perm ((sortN Y).drop k ++ Z)).append_left ((sortN Y).take k)
        rw [← List.append_assoc, split_] at p1
        exact p1.trans (hP.append_right Z)
      · refine List.pairwise_append.mpr ⟨hS.sublist (List.take_sublist _ _), sortN_rises _, fun a ha b hb => ?_⟩
        rcases List.mem_append.mp ((sortN_perm _).mem_iff.mp hb) with h1 | h1
        · rw [← split_] at hS
          exact (List.pairwise_append.mp hS).2.2 a ha b h1
        · exact low b h1 a ha
    unfold topN
    rw [e, List.take_append_of_le_length (by rw [List.length_take, hl]; omega), List.take_take, Nat.min_self]
/-- the least k and the rest -/
theorem topN_split (k : Nat) (ns : List Nat) : ∃ R, ns.Perm (topN k ns ++ R) ∧ ∀ r ∈ R, (topN k ns).length = k ∧ ∀ p ∈ topN k ns, p ≤ r := by
  refine ⟨(sortN ns).drop k, ?_, fun r hr => ⟨?_, fun p hp => ?_⟩⟩
  · unfold topN
    rw [List.take_append_drop]
    exact (sortN_perm ns).symm
  · have := List.length_pos_of_mem hr
    rw [List.length_drop] at this
    unfold topN
    rw [List.length_take]
    omega
  · have h := sortN_rises ns
    rw [← List.take_append_drop k (sortN ns)] at h
    exact (List.pairwise_append.mp h).2.2 p hp r hr
theorem topN_app (k : Nat) (a b : List Nat) : topN k (topN k a ++ b) = topN k (a ++ b) := by
  obtain ⟨R, hp, hr⟩ := topN_split k a
  have p2 : (a ++ b).Perm ((topN k a ++ b) ++ R) := by
    refine (hp.append_right b).trans ?_
    rw [List.append_assoc, List.append_assoc]
    exact List.Perm.append_left _ List.perm_append_comm
  rw [topN_congr p2]
  refine (topN_drop fun z hz => ?_).symm
  obtain ⟨h1, h2⟩ := hr z hz
  rw [List.countP_append, List.countP_eq_length.mpr (fun p hp => by simpa using h2 p hp), h1]
  omega
theorem topN_app_r (k : Nat) (a b : List Nat) : topN k (a ++ topN k b) = topN k (a ++ b) := by
  rw [topN_congr (List.perm_append_comm (l₁ := a)), topN_app, topN_congr List.perm_append_comm]
def sumsN (a b : List Nat) : List Nat := a.flatMap fun x => b.map fun y => x + y
theorem sums_nil (b : List Nat) : sumsN [] b = [] := rfl
theorem sums_cons (x : Nat) (a b : List Nat) : sumsN (x :: a) b = (b.map fun y => x + y) ++ sumsN a b := rfl
theorem sums_app (a a' b : List Nat) : sumsN (a ++ a') b = sumsN a b ++ sumsN a' b := List.flatMap_append
theorem sums_perm {a a' : List Nat} (b : List Nat) (h : a.Perm a') : (sumsN a b).Perm (sumsN a' b) := h.flatMap_right _
theorem sums_nil_r : ∀ a : List Nat, sumsN a [] = []
  | [] => rfl
  | x :: a => by rw [sums_cons, sums_nil_r a]; rfl
theorem sums_cons_r (y : Nat) (b : List Nat) : ∀ a : List Nat, (sumsN a (y :: b)).Perm ((a.map fun x => x + y) ++ sumsN a b)
  | [] => .refl _
  | x :: a => by
    rw [sums_cons, sums_cons, List.map_cons, List.map_cons, List.cons_append, List.cons_append]
    refine List.Perm.cons _ ((List.Perm.append_left _ (sums_cons_r y b a)).trans ?_)
    rw [← List.append_assoc, ← List.append_assoc]
    exact List.Perm.append_right _ List.perm_append_comm
theorem sums_comm : ∀ a b : List Nat, (sumsN a b).Perm (sumsN b a)
  | [], b => by rw [sums_nil_r]; exact .refl _
  | x :: a, b => by
    have h := sums_cons_r x a b
    rw [show (b.map fun y => y + x) = b.map fun y => x + y from List.map_congr_left fun y _ => Nat.add_comm y x] at h
    exact (List.Perm.append_left _ (sums_comm a b)).trans h.symm
theorem sums_app_r (a b c : List Nat) : (sumsN a (b ++ c)).Perm (sumsN a b ++ sumsN a c) :=
  (sums_comm _ _).trans ((by rw [sums_app]; exact (sums_comm b a).append (sums_comm c a) : (sumsN (b ++ c) a).Perm _))
theorem sums_map (x : Nat) (c : List Nat) : ∀ b : List Nat, sumsN (b.map fun y => x + y) c = (sumsN b c).map fun z => x + z
  | [] => rfl
  | y :: b => by
    rw [List.map_cons, sums_cons, sums_cons, List.map_append, sums_map x c b, List.map_map]
    congr 1
    exact List.map_congr_left fun z _ => Nat.add_assoc x y z
theorem sums_assoc (b c : List Nat) : ∀ a : List Nat, sumsN (sumsN a b) c = sumsN a (sumsN b c)
  | [] => rfl
  | x :: a => by rw [sums_cons, sums_app, sums_map, sums_cons, sums_assoc b c a]
theorem sums_count {q : Nat → Bool} {y : Nat} {b : List Nat} (hy : y ∈ b) : ∀ {P : List Nat}, (∀ p ∈ P, q (p + y) = true) → P.length ≤ (sumsN P b).countP q
  | [], _ => Nat.zero_le _
  | p :: P, h => by
    have ih := sums_count hy (P := P) fun p' hp' => h p' (List.mem_cons_of_mem _ hp')
    rw [sums_cons, List.countP_append, List.length_cons]
    have : 0 < (b.map fun y => p + y).countP q := List.countP_pos_iff.mpr ⟨p + y, List.mem_map.mpr ⟨y, hy, rfl⟩, h p (List.mem_cons_self ..)⟩
    omega
theorem topN_sums (k : Nat) (a b : List Nat) : topN k (sumsN (topN k a) b) = topN k (sumsN a b) := by
  obtain ⟨R, hp, hr⟩ := topN_split k a
  have p2 : (sumsN a b).Perm (sumsN (topN k a) b ++ sumsN R b) := by
    rw [← sums_app]
    exact sums_perm b hp
  rw [topN_congr p2]
  refine (topN_drop fun z hz => ?_).symm
  obtain ⟨r, hrR, hz2⟩ := List.mem_flatMap.mp hz
  obtain ⟨y, hy, rfl⟩ := List.mem_map.mp hz2
  obtain ⟨h1, h2⟩ := hr r hrR
  have := sums_count (q := fun s => decide (s ≤ r + y)) hy (P := topN k a) fun p hp => by
    have := h2 p hp
    simp
    omega
  omega
theorem topN_sums_r (k : Nat) (a b : List Nat) : topN k (sumsN a (topN k b)) = topN k (sumsN a b) := by
  rw [topN_congr (sums_comm a _), topN_sums, topN_congr (sums_comm b a)]
/-! ### the semiring -/
def plN (k : Nat) (a b : List Nat) : List Nat := topN k (a ++ b)
def tmN (k : Nat) (a b : List Nat) : List Nat := topN k (sumsN a b)
theorem tm_pl (k : Nat) (a b c : List Nat) : tmN k a (plN k b c) = plN k (tmN k a b) (tmN k a c) := by
  unfold tmN plN
  rw [topN_sums_r, topN_app, topN_app_r]
  exact topN_congr (sums_app_r a b c)
theorem tm_tm (k : Nat) (a b c : List Nat) : tmN k a (tmN k b c) = tmN k (tmN k a b) c := by
  unfold tmN
  rw [topN_sums_r, topN_sums, sums_assoc]
theorem pl_pl (k : Nat) (a b c : List Nat) : plN k a (plN k b c) = plN k (plN k a b) c := by
  unfold plN
  rw [topN_app_r, topN_app, List.append_assoc]
structure ElN (k : Nat) (a : List Nat) : Prop where
  up : a.Pairwise (· ≤ ·)
  len : a.length ≤ k
theorem el_top (k : Nat) (ns : List Nat) : ElN k (topN k ns) := ⟨topN_rises _ _, topN_len _ _⟩
theorem tm_one {k : Nat} {a : List Nat} (h : ElN k a) : tmN k a [0] = a := by
  unfold tmN
  have e : sumsN [0] a = a := by
    rw [sums_cons, sums_nil, List.append_nil]
    exact (List.map_congr_left fun y _ => Nat.zero_add y).trans (List.map_id _)
  have p := sums_comm a [0]
  rw [e] at p
  rw [topN_congr p]
  exact topN_self h.up h.len
theorem tm_zero (k : Nat) (a : List Nat) : tmN k a [] = [] := by
  unfold tmN
  rw [sums_nil_r]
  exact topN_self .nil (Nat.zero_le _)
theorem pl_zero {k : Nat} {a : List Nat} (h : ElN k a) : plN k a [] = a := by
  unfold plN
  rw [List.append_nil]
  exact topN_self h.up h.len
/-! ### the star -/
def stepN (k : Nat) (a t : List Nat) : List Nat := plN k [0] (tmN k a t)
def iterN (k : Nat) (a : List Nat) : Nat → List Nat
  | 0 => [0]
  | i + 1 => stepN k a (iterN k a i)
def starN (k : Nat) (a : List Nat) : List Nat := if 0 ∈ a then List.replicate k 0 else iterN k a k
theorem step_eq (k : Nat) (a t : List Nat) : stepN k a t = topN k (0 :: sumsN a t) := topN_app_r k [0] _
theorem sort_zero (ns : List Nat) : sortN (0 :: ns) = 0 :: sortN ns :=
  (sortN_eq (List.Perm.cons 0 (sortN_perm ns)) (List.pairwise_cons.mpr ⟨fun _ _ => Nat.zero_le _, sortN_rises ns⟩)).symm
theorem step_take {k m : Nat} {a u v : List Nat} (hu : u.Pairwise (· ≤ ·)) (hv : v.Pairwise (· ≤ ·)) (h : u.take m = v.take m) : (stepN k a u).take (m + 1) = (stepN k a v).take (m + 1) := by
  have key : ∀ w : List Nat, w.Pairwise (· ≤ ·) → (stepN k a w).take (m + 1) = (0 :: topN m (sumsN a (w.take m))).take k := fun w hw => by
    rw [step_eq]
    show ((sortN (0 :: sumsN a w)).take k).take (m + 1) = _
    rw [sort_zero, List.take_take, Nat.min_comm, ← List.take_take, List.take_succ_cons]
    have : (sortN (sumsN a w)).take m = topN m (sumsN a (w.take m)) := by
      show topN m (sumsN a w) = _
      rw [← topN_sums_r m a w, show topN m w = w.take m by unfold topN; rw [sortN_self hw]]
    rw [this]
  rw [key u hu, key v hv, h]
theorem iter_el {k : Nat} (hk : 1 ≤ k) (a : List Nat) : ∀ i, ElN k (iterN k a i)
  | 0 => ⟨List.pairwise_singleton _ _, hk⟩
  | _ + 1 => el_top _ _
theorem iter_take {k : Nat} (hk : 1 ≤ k) (a : List Nat) : ∀ i, (iterN k a i).take (i + 1) = (iterN k a (i + 1)).take (i + 1)
  | 0 => by
    show _ = (stepN k a [0]).take 1
    rw [step_eq]
    show _ = ((sortN (0 :: sumsN a [0])).take k).take 1
    rw [sort_zero, List.take_take, show min 1 k = 1 by omega]
    rfl
  | i + 1 => step_take (iter_el hk a i).up (iter_el hk a (i + 1)).up (iter_take hk a i)
theorem iter_fix {k : Nat} (hk : 1 ≤ k) (a : List Nat) : stepN k a (iterN k a k) = iterN k a k := by
  have h := iter_take hk a k
  rw [List.take_of_length_le (by have := (iter_el hk a k).len; omega), List.take_of_length_le (by have := (iter_el hk a (k + 1)).len; omega)] at h
  exact h.symm
theorem zeros_fix {k : Nat} {a : List Nat} (h0 : 0 ∈ a) : stepN k a (List.replicate k 0) = List.replicate k 0 := by
  rw [step_eq]
  obtain ⟨s, t, rfl⟩ := List.append_of_mem h0
  have p : (0 :: sumsN (s ++ 0 :: t) (List.replicate k 0)).Perm (List.replicate k 0 ++ (0 :: sumsN (s ++ t) (List.replicate k 0))) := by
    have p1 : (s ++ 0 :: t).Perm (0 :: (s ++ t)) := List.perm_middle
    have p2 := sums_perm (List.replicate k 0) p1
    rw [sums_cons, show ((List.replicate k 0).map fun y => 0 + y) = List.replicate k 0 by rw [List.map_replicate]] at p2
    exact (List.Perm.cons 0 p2).trans List.perm_middle.symm
  rw [topN_congr p, topN_drop fun z _ => by rw [List.countP_eq_length.mpr fun y hy => by rw [List.eq_of_mem_replicate hy]; simp]; rw [List.length_replicate]; exact Nat.le_refl _]
  exact topN_self (List.pairwise_replicate.mpr (.inr (Nat.le_refl _))) (by rw [List.length_replicate]; exact Nat.le_refl _)
theorem star_fix {k : Nat} (hk : 1 ≤ k) (a : List Nat) : plN k [0] (tmN k a (starN k a)) = starN k a := by
  unfold starN
  split
  · rename_i h; exact zeros_fix h
  · exact iter_fix hk a
theorem star_el {k : Nat} (hk : 1 ≤ k) (a : List Nat) : ElN k (starN k a) := by
  unfold starN
  split
  · exact ⟨List.pairwise_replicate.mpr (.inr (Nat.le_refl _)), by rw [List.length_replicate]; exact Nat.le_refl _⟩
  · exact iter_el hk a k
end KM

set_option Elab.async false
set_option linter.all false
set_option maxRecDepth 100000
set_option maxHeartbeats 4000000
/-! tuple * n from 1 on; == and != of lists, tuples of whole numbers; walks that do anything. -/
namespace KM
open PySem PySem.W L2 Ew
section
variable {X : Cx}
def rRepA (K : PySem.W.Frag) : R2 := fun x y H Q => ∃ l k xs, x = .ref l ∧ y = .int k ∧ SqT K H l xs ∧ xs ≠ [] ∧ 1 ≤ k ∧ k ≤ 1000 ∧ xs.length ≤ 1000 ∧ (k = 1 → Q (.ref l) H) ∧ (2 ≤ k → ∀ p, H p = none → Q (.ref p) (upd H p (.tup (List.replicate k.toNat xs).flatten)))
theorem op_repA : OpR X (binaryOp .Mult) (rRepA X.K) := by
  intro pins s σ H x y v u Q I rx ry h
  obtain ⟨l, k, xs, rfl, rfl, hT, hne, h1, h2, hz, q1, q2⟩ := h
  by_cases c : k = 1
  · subst c
    exact op_repT1 pins s σ H _ _ v u Q I rx ry ⟨l, xs, rfl, rfl, hT, q1 rfl⟩
  · exact op_repT pins s σ H _ _ v u Q I rx ry ⟨l, k, xs, rfl, rfl, hT, hne, by omega, h2, hz, q2 (by omega)⟩
abbrev dN (ns : List Nat) : List PyData := ns.map fun (n : Nat) => .int (n : Int)
theorem dp_nums {K : PySem.W.Frag} {H : Hp} : ∀ ns : List Nat, DpAll K H (nV ns) (dN ns)
  | [] => .nil
  | n :: ns => .cons (.int _) (dp_nums ns)
theorem eqv_nums : ∀ ns ms : List Nat, PyData.eqvAll (dN ns) (dN ms) = decide (ns = ms)
  | [], [] => rfl
  | [], _ :: _ => rfl
  | _ :: _, [] => rfl
  | n :: ns, m :: ms => by
    show (((n : Int) == (m : Int)) && PyData.eqvAll (dN ns) (dN ms)) = _
    rw [eqv_nums ns ms]
    by_cases a : n = m
    · subst a
      by_cases b : ns = ms
      · subst b; simp
      · simp [b]
    · have : ((n : Int) == (m : Int)) = false := beq_eq_false_iff_ne.mpr (by omega)
      rw [this]
      simp [a]
theorem lay_nums : ∀ ns : List Nat, PyData.canLayAll0 (dN ns) = true
  | [] => rfl
  | n :: ns => by
    show (true && PyData.canLayAll0 (dN ns)) = true
    rw [lay_nums ns]; rfl
theorem dep_nums : ∀ ns : List Nat, PyData.depthAll (dN ns) = 0
  | [] => rfl
  | n :: ns => by
    show max 0 (PyData.depthAll (dN ns)) = 0
    rw [dep_nums ns]; rfl
theorem shT (ns : List Nat) : SeqAt.shaped (.tuple (dN ns)) = true := by
  unfold SeqAt.shaped
  rw [show PyData.canLay0 (.tuple (dN ns)) = PyData.canLayAll0 (dN ns) from rfl, lay_nums, show PyData.depth (.tuple (dN ns)) = PyData.depthAll (dN ns) + 1 from rfl, dep_nums]
  rfl
theorem shL (ns : List Nat) : SeqAt.shaped (.list (dN ns)) = true := by
  unfold SeqAt.shaped
  rw [show PyData.canLay0 (.list (dN ns)) = PyData.canLayAll0 (dN ns) from rfl, lay_nums, show PyData.depth (.list (dN ns)) = PyData.depthAll (dN ns) + 1 from rfl, dep_nums]
  rfl
/-- two tuples, or two lists, of whole numbers -/
def rNums (K : PySem.W.Frag) (neg : Bool) : R2 := fun x y H Q => ∃ a b ns ms, x = .ref a ∧ y = .ref b ∧ ((SqT K H a (nV ns) ∧ SqT K H b (nV ms)) ∨ (SqL K H a (nV ns) ∧ SqL K H b (nV ms))) ∧ Q (.bl (if neg then !decide (ns = ms) else decide (ns = ms))) H
theorem op_eqNums (hu : X.A.units + 64 < cLine) : OpR X (compareOp .Eq) (rNums X.K false) := by
  intro pins s σ H x y v u Q I rx ry h
  obtain ⟨a, b, ns, ms, rfl, rfl, ⟨h1, h2⟩ | ⟨h1, h2⟩, q⟩ := h
  · refine op_eqD hu pins s σ H _ _ v u Q I rx ry ⟨.tuple (dN ns), .tuple (dN ms), .tup h1 (dp_nums _), .tup h2 (dp_nums _), shT _, shT _, ?_⟩
    rw [show PyData.eqv (.tuple (dN ns)) (.tuple (dN ms)) = PyData.eqvAll (dN ns) (dN ms) from rfl, eqv_nums]
    exact q
  · refine op_eqD hu pins s σ H _ _ v u Q I rx ry ⟨.list (dN ns), .list (dN ms), .lst h1 (dp_nums _), .lst h2 (dp_nums _), shL _, shL _, ?_⟩
    rw [show PyData.eqv (.list (dN ns)) (.list (dN ms)) = PyData.eqvAll (dN ns) (dN ms) from rfl, eqv_nums]
    exact q
theorem op_neNums (hu : X.A.units + 64 < cLine) : OpR X (compareOp .NotEq) (rNums X.K true) := by
  intro pins s σ H x y v u Q I rx ry h
  obtain ⟨a, b, ns, ms, rfl, rfl, ⟨h1, h2⟩ | ⟨h1, h2⟩, q⟩ := h
  · refine op_neD hu pins s σ H _ _ v u Q I rx ry ⟨.tuple (dN ns), .tuple (dN ms), .tup h1 (dp_nums _), .tup h2 (dp_nums _), shT _, shT _, ?_⟩
    rw [show PyData.eqv (.tuple (dN ns)) (.tuple (dN ms)) = PyData.eqvAll (dN ns) (dN ms) from rfl, eqv_nums]
    exact q
  · refine op_neD hu pins s σ H _ _ v u Q I rx ry ⟨.list (dN ns), .list (dN ms), .lst h1 (dp_nums _), .lst h2 (dp_nums _), shL _, shL _, ?_⟩
    rw [show PyData.eqv (.list (dN ns)) (.list (dN ms)) = PyData.eqvAll (dN ns) (dN ms) from rfl, eqv_nums]
    exact q
end
/-- a walk through a tuple, whatever a turn does -/
theorem wk_tup {K : PySem.W.Frag} {a : Addr} {xs : List V} {Qd : Hp → Prop} {H0 : Hp} {B : V → Hp → (Hp → Prop) → Prop} (Pv : Nat → Hp → Prop) (h0 : Pv 0 H0) (hl : ∀ i H, i ≤ xs.length → Pv i H → SqT K H a xs) (hs : ∀ i x H, xs[i]? = some x → Pv i H → B x H (Pv (i + 1))) (hd : ∀ H, Pv xs.length H → Qd H) :
    ∃ W : Nat → Nat → Hp → Prop, (∃ m, W 0 m H0) ∧ ∀ i m H, W i m H → ((Itt K a).stop i H ∧ Qd H) ∨ ((Itt K a).go i H ∧ ∃ Nx : Hp → Prop, (∀ H', Nx H' → ∃ m', m' < m ∧ W (i + 1) m' H') ∧ ∀ x H', (Itt K a).yld i H x H' → B x H' Nx) := by
  refine ⟨fun i m H => m = xs.length - i ∧ i ≤ xs.length ∧ Pv i H, ⟨xs.length, by simp, Nat.zero_le _, h0⟩, ?_⟩
  rintro i m H ⟨rfl, hi, p⟩
  have q := hl i H hi p
  by_cases c : i < xs.length
  · refine .inr ⟨⟨xs, xs[i], q, by simp [c]⟩, Pv (i + 1), fun H' p' => ⟨xs.length - (i + 1), by omega, rfl, c, p'⟩, fun x H' y => ?_⟩
    obtain ⟨rfl, y⟩ := y
    exact hs i x _ (y xs q) p
  · obtain rfl : i = xs.length := by omega
    exact .inl ⟨⟨xs, q, Nat.le_refl _⟩, hd H p⟩
theorem nV_flat : ∀ ps : List Nat, (nV ps).all flatV = true
  | [] => rfl
  | p :: ps => nV_flat ps
theorem inV_nV (m : Nat) : ∀ ps : List Nat, inV (.int (m : Int)) (nV ps) = decide (m ∈ ps)
  | [] => rfl
  | p :: ps => by
    have ih := inV_nV m ps
    have e : inV (.int (m : Int)) (nV (p :: ps)) = (eqV (.int (p : Int)) (.int (m : Int)) || inV (.int (m : Int)) (nV ps)) := rfl
    rw [e, ih]
    by_cases c : p = m
    · subst c; simp [eqV]
    · have c' : ¬ m = p := fun z => c z.symm
      have e2 : eqV (.int (p : Int)) (.int (m : Int)) = false := by simp [eqV]; omega
      rw [e2]
      simp [c']
theorem nV_app (a b : List Nat) : nV a ++ nV b = nV (a ++ b) := List.map_append.symm
theorem nV_len (a : List Nat) : (nV a).length = a.length := List.length_map _
theorem nV_at {a : List Nat} {i : Nat} {x : V} (h : (nV a)[i]? = some x) : ∃ n : Nat, a[i]? = some n ∧ x = .int (n : Int) := by
  rw [List.getElem?_map] at h
  obtain ⟨n, h1, h2⟩ := Option.map_eq_some_iff.mp h
  exact ⟨n, h1, h2.symm⟩
theorem cut_to (ns : List Nat) (k : Nat) : cutV (nV ns) none (some (k : Int)) = nV (ns.take k) := by
  unfold cutV
  rw [HT.sIx_none, HT.sIx_nat, List.drop_zero, Nat.sub_zero, nV_len, ← List.map_take]
  rcases Nat.le_total k ns.length with h | h
  · rw [Nat.min_eq_left h]
  · rw [Nat.min_eq_right h, List.take_length, List.take_of_length_le h]
end KM

set_option Elab.async false
set_option linter.all false
set_option maxRecDepth 100000
set_option maxHeartbeats 4000000
namespace K25
open PySem L2 Ew Tb GxR WM WS
def topS (i : Nat) : Stmt := PySem.Challenge.pw_everyworth_k25_chances.main.body.getD i (.Pass ⟨0, 0, 0, 0⟩)
abbrev s_facts_of : Stmt := (topS 5)
theorem sc_facts_of : FnScope ["sets", "facts", "fact"] ["sets"] (defScope s_facts_of) := ⟨rfl, rfl, rfl, by decide +kernel, rfl, by decide +kernel, by decide +kernel⟩
abbrev s_masks_of : Stmt := (topS 6)
theorem sc_masks_of : FnScope ["sets", "facts", "bits", "k", "one", "fact"] ["sets", "facts"] (defScope s_masks_of) := ⟨rfl, rfl, rfl, by decide +kernel, rfl, by decide +kernel, by decide +kernel⟩
abbrev s_least_masks : Stmt := (topS 7)
theorem sc_least_masks : FnScope ["masks", "enough", "kept", "by_lowest", "mask"] ["masks", "enough"] (defScope s_least_masks) := ⟨rfl, rfl, rfl, by decide +kernel, rfl, by decide +kernel, by decide +kernel⟩
abbrev s_has_part : Stmt := (topS 8)
theorem sc_has_part : FnScope ["mask", "by_lowest", "rest", "lowest", "part"] ["mask", "by_lowest"] (defScope s_has_part) := ⟨rfl, rfl, rfl, by decide +kernel, rfl, by decide +kernel, by decide +kernel⟩
abbrev s_chance : Stmt := (topS 11)
theorem sc_chance : FnScope ["whys", "chances", "facts", "still_open", "sure", "whole", "k", "fact", "n", "d", "further", "masks", "weight", "met", "unmet", "common", "mask"] ["whys", "chances"] (defScope s_chance) := ⟨rfl, rfl, rfl, by decide +kernel, rfl, by decide +kernel, by decide +kernel⟩
abbrev s_settled : Stmt := (topS 12)
theorem sc_settled : FnScope ["masks", "weight", "still_open", "least"] ["masks", "weight", "still_open"] (defScope s_settled) := ⟨rfl, rfl, rfl, by decide +kernel, rfl, by decide +kernel, by decide +kernel⟩
abbrev s_law_pot : Stmt := (topS 14)
theorem sc_law_pot : FnScope ["script", "seed", "cell"] ["script"] (defScope s_law_pot) := ⟨rfl, rfl, rfl, by decide +kernel, rfl, by decide +kernel, by decide +kernel⟩
abbrev s_law_next : Stmt := (topS 15)
theorem sc_law_next : FnScope ["pot", "limit", "cell", "found", "mixed"] ["pot", "limit"] (defScope s_law_next) := ⟨rfl, rfl, rfl, by decide +kernel, rfl, by decide +kernel, by decide +kernel⟩
abbrev s_law_gcd : Stmt := (topS 16)
theorem sc_law_gcd : FnScope ["a", "b", "k"] ["a", "b"] (defScope s_law_gcd) := ⟨rfl, rfl, rfl, by decide +kernel, rfl, by decide +kernel, by decide +kernel⟩
abbrev s_law_low : Stmt := (topS 17)
theorem sc_law_low : FnScope ["n", "d", "common"] ["n", "d"] (defScope s_law_low) := ⟨rfl, rfl, rfl, by decide +kernel, rfl, by decide +kernel, by decide +kernel⟩
abbrev s_law_due : Stmt := (topS 18)
theorem sc_law_due : FnScope ["sets", "chances", "facts", "total", "ways", "fact", "n", "d", "new", "way", "one"] ["sets", "chances"] (defScope s_law_due) := ⟨rfl, rfl, rfl, by decide +kernel, rfl, by decide +kernel, by decide +kernel⟩
abbrev s_law_refused : Stmt := (topS 19)
theorem sc_law_refused : FnScope ["sets", "e", "k"] [] (defScope s_law_refused) := ⟨rfl, rfl, rfl, by decide +kernel, rfl, by decide +kernel, by decide +kernel⟩
abbrev s_law : Stmt := (topS 20)
theorem sc_law : FnScope ["script", "pot", "sets", "k", "drawn", "whys", "one", "smaller", "chances", "fact", "d", "kept", "found", "j", "other"] ["script"] (defScope s_law) := ⟨rfl, rfl, rfl, by decide +kernel, rfl, by decide +kernel, by decide +kernel⟩
local macro_rules | `(tactic| walk_at "len") => `(tactic| first | (intro h; obtain ⟨_, e, _⟩ := h; rw [e]; rfl) | (intro h; obtain ⟨_, _, e, _⟩ := h; rw [e]; rfl) | (intro h; obtain ⟨_, _, _, e, _⟩ := h; rw [e]; rfl) | (intro h; obtain ⟨_, _, _, _, e, _⟩ := h; rw [e]; rfl) | (intro h; obtain ⟨_, _, _, _, _, e, _⟩ := h; rw [e]; rfl) | (intro h; obtain ⟨_, _, _, _, _, _, e, _⟩ := h; rw [e]; rfl) | (intro h; obtain ⟨_, _, _, _, _, _, _, e, _⟩ := h; rw [e]; rfl) | (intro h; exact h.elim))
structure Ad where
  WorthError : Addr
  TooLarge : Addr
structure Txt (K : PySem.W.Frag) (mg : Str → Option Value) (ad : Ad) : Prop where
  z_isinstance : mg "isinstance" = none
  z_int : mg "int" = none
  z_list : mg "list" = none
  z_tuple : mg "tuple" = none
  z_dict : mg "dict" = none
  z_enumerate : mg "enumerate" = none
  z_abs : mg "abs" = none
  z_len : mg "len" = none
  z_range : mg "range" = none
  z_all : mg "all" = none
  z_any : mg "any" = none
  z_sorted : mg "sorted" = none
  z_sum : mg "sum" = none
  g_gcd : mg "gcd" = some (.builtin "math.gcd")
  g_MOST_FACTS : ∃ t, mg "MOST_FACTS" = some (.int 20 t)
  g_WorthError : mg "WorthError" = some (.ref ad.WorthError)
  g_TooLarge : mg "TooLarge" = some (.ref ad.TooLarge)
  x_TooLarge : PySem.W.excIn K ad.TooLarge [.type "ValueError", .type "Exception", .type "BaseException", .type "object"] "ValueError.__new__" = true
  k_TooLarge : PySem.W.keepIn K (.ref ad.TooLarge) = true
  b_TooLarge : PySem.W.subIn K (.ref ad.TooLarge) (.type "BaseException") = some true
  t_TooLarge : PySem.W.typeIn K (.ref ad.TooLarge) = some (.type "type")
  ec_TooLarge : ExcC K ad.TooLarge
  em_TooLarge : PySem.W.exmOne K (.ref ad.TooLarge) (.ref ad.WorthError) = some true
  ki_TooLarge : PySem.W.kitOne K (.ref ad.TooLarge) (.ref ad.TooLarge) = some true
abbrev nV (ns : List Nat) : List V := ns.map fun (n : Nat) => V.int (n : Int)
theorem nV_length (ns : List Nat) : (nV ns).length = ns.length := List.length_map ..
theorem nV_in {ns : List Nat} {i : Nat} {x : V} (h : (nV ns)[i]? = some x) : ∃ n, ns[i]? = some n ∧ x = .int (n : Nat) := by
  rw [List.getElem?_map] at h
  obtain ⟨n, e, rfl⟩ := Option.map_eq_some_iff.mp h
  exact ⟨n, e, rfl⟩
def rInD0 : R2 := fun y x H Q => ∃ a o, x = .ref a ∧ DGet H a y o ∧ Q (.bl o.isSome) H
theorem op_inD0 {X : Cx} (hu : X.A.units + 1 < cLine) : OpR X (compareOp .In) rInD0 := by
  intro pins s σ H y x u v Q I ry rx h
  obtain ⟨a, o, rfl, g, q⟩ := h
  cases rx
  exact d_in hu I g ry fun s3 I3 => ⟨.bl o.isSome, H, I3, rfl, q⟩
/-- the lowest bit as the program tells it: none of zero -/
def lowB (n : Nat) : Nat := if n = 0 then 0 else low n
/-- the kept masks by their lowest bits -/
structure ByL (H : Hp) (d : Addr) (kvs : List (Key × V)) (kept : List Nat) : Prop where
  d_ : H d = some (.dK kvs)
  at_ : ∀ l : Nat, match valV kvs (.inl (l : Int)) with
    | none => ∀ k ∈ kept, lowB k ≠ l
    | some v => (∃ k ∈ kept, lowB k = l) ∧ ∃ a, v = .ref a ∧ H a = some (.lst (nV (kept.filter fun k => decide (lowB k = l))))
theorem ByL.fr {H H' : Hp} {d : Addr} {kvs : List (Key × V)} {kept : List Nat} (x : ByL H d kvs kept) (f : FrT H H') : ByL H' d kvs kept := by
  refine ⟨f.keep _ _ x.d_ (fun ps z => nomatch z), fun l => ?_⟩
  have h := x.at_ l
  rcases e : valV kvs (.inl (l : Int)) with _ | v
  · rw [e] at h
    exact h
  · rw [e] at h
    obtain ⟨h1, a, h2, h3⟩ := h
    exact ⟨h1, a, h2, f.lst h3⟩
theorem lowB_pos {n : Nat} (h : 0 < n) : lowB n = low n := if_neg (by omega)
theorem low_pos (n : Nat) : 0 < low n := Nat.two_pow_pos _
theorem lowB_zero {n : Nat} (h : lowB n = 0) : n = 0 := by
  rcases Nat.eq_zero_or_pos n with e | e
  · exact e
  · rw [lowB_pos e] at h
    have := low_pos n
    omega
theorem sub_dec (p m : Nat) : decide (V.int (Builtin.bitAnd (p : Int) (m : Int)) = V.int (p : Int)) = decide (Sub p m) := decide_eq_decide.mpr ⟨fun z => (and_sub p m).mp (by injection z), fun z => congrArg V.int ((and_sub p m).mpr z)⟩
def rstM (σ : L2.St) : Nat := match (σ : List (Option V))[2]? with
  | some (some (V.int i)) => i.toNat
  | _ => 0
theorem go_sq {t u : TS} {D : Ends} {σ : L2.St} {H : Hp} (h : t { D with nx := fun σ' H' => u D σ' H' } σ H) : tSeq t u D σ H := h
def spHas (PP : Addr) : Sp := fun vs H Q _ => ∃ (m : Nat) (d : Addr) (kvs : List (Key × V)) (kept : List Nat), vs = [.int (m : Int), .ref d] ∧ ByL H d kvs kept ∧ TabG H PP ∧ ∀ H', FrT H H' → Q (.bl (decide (HP kept m))) H'
section
variable {P : Program} {w : World} {K : PySem.W.Frag} {mg : Str → Option Value} {base : Heap} {ad : Ad}
theorem ok_has_part  {f cc PP : Addr} {fd : FuncData} (F : FunC K "_has_part" "_has_part" s_has_part f fd cc) (TB : GxR.TabB base mg cc PP) (T : Txt K mg ad) : FnOk P w K mg base (L2.CX P w) 2 f fd ["mask", "by_lowest"] (spHas PP) := by
  refine F.okX sc_has_part (fun vs H Q E => ?_) (fun A outer s H vs Q E hr h => ?_)
  · walk_at "len"
  ·
    obtain ⟨m, d, kvs, kept, rfl, by_, tg, k⟩ := h
    refine ⟨_, (pss_cons (ps_if (pt_cmpR (op_inD0 (hu_of hr)) pe_int (pv 1) (by rfl)) (pss_one (ps_ret pe_bl)) pss_nil)
      (pss_cons (ps_set (i := 2) sc_has_part.nd rfl (by first | exact Or.inl rfl | exact Or.inr rfl) (pv 0))
      (pss_cons (ps_while (passes_of rfl) (pt_truth (pv 2) (by intro _; rfl)) (pss_cons (ps_set (i := 3) sc_has_part.nd rfl (by first | exact Or.inl rfl | exact Or.inr rfl) (pe_op op_and (pv 2) (pe_un un_neg (pv 2))))
      (pss_cons (ps_if (pt_val (EwG.pe_any (own := [("part", 4)]) hr (by rfl) T.z_any TB rfl sc_has_part.nd (blkOk_by (by kernel_rfl)) (by decide +kernel) rfl rfl (ND.pi_seq (pe_dget2 (hu_of hr) (pv 1) (pv 3) (pe_tup pa_nil) ⟨rfl, rfl, rfl, rfl⟩)) (fun _ _ _ _ _ _ _ => (pg_name (i := 4) sc_has_part.nd rfl (by first | exact Or.inl rfl | exact Or.inr rfl))) (fun _ _ _ _ _ _ _ hr => (pe_cmpR op_eq (pe_op op_and (pv 4) (pv 0)) (pv 4) (nomark _))))) (pss_one (ps_ret pe_bl)) pss_nil)
      (pss_one (ps_set (i := 2) sc_has_part.nd rfl (by first | exact Or.inl rfl | exact Or.inr rfl) (pe_op op_xor (pv 2) (pv 3)))))))
      (pss_one (ps_ret pe_bl))))), ?_⟩
    have z_ := by_.at_ 0
    refine go_sq ⟨_, rfl, d, _, rfl, DGet.k (k := .inl ((0 : Nat) : Int)) by_.d_, _, rfl, ?_⟩
    rcases e0 : valV kvs (.inl ((0 : Nat) : Int)) with _ | v0
    · rw [e0] at z_
      have h0 : ¬ 0 ∈ kept := fun z => z_ 0 z rfl
      refine iteF (go_next ?_)
      refine go_seq ⟨_, rfl, go_name rfl ?_⟩
      refine go_sq ?_
      refine while_by (fun σ H' => ∃ (rest : Nat) (vl : Option V), σ = [some (.int (m : Int)), some (.ref d), some (.int (rest : Int)), vl, none] ∧ FrT H H' ∧ ∀ k ∈ kept, Sub k m → rest.testBit (lowI k) = true) (fun σ _ => rstM σ) ⟨m, none, rfl, FrT.refl _, walk_start h0⟩ ?_ (fun σ H Q Q' hq ⟨v, e, k, t, q⟩ => ⟨v, e, k, t, hq _ _ q⟩)
      rintro σ H1 ⟨rest, vl, rfl, f1, inv⟩
      refine ⟨_, rfl, _, rfl, ?_⟩
      rcases Nat.eq_zero_or_pos rest with e | hpos
      · subst e
        refine iteF ?_
        have no := walk_end inv
        have := k H1 f1
        rw [decide_eq_false no] at this
        exact this
      · rw [show (((rest : Nat) : Int) != 0) = true from bne_iff_ne.mpr (by omega)]
        refine iteT ?_
        refine go_seq ⟨_, rfl, _, rfl, _, rfl, _, _, rfl, rfl, go_name (congrArg V.int (and_neg hpos)) ?_⟩
        have by1 := by_.fr f1
        have tg1 := f1.tabs _ tg
        have l_ := by1.at_ (low rest)
        have stp : ∀ H3, FrT H H3 → (∀ k ∈ kept, low k = low rest → ¬ Sub k m) → (∃ (rest' : Nat) (vl' : Option V), [some (V.int (m : Int)), some (V.ref d), some (V.int ((clr rest : Nat) : Int)), some (V.int ((low rest : Nat) : Int)), (none : Option V)] = [some (.int (m : Int)), some (.ref d), some (.int (rest' : Int)), vl', none] ∧ FrT H H3 ∧ ∀ k ∈ kept, Sub k m → rest'.testBit (lowI k) = true) ∧ rstM [some (V.int (m : Int)), some (V.ref d), some (V.int ((clr rest : Nat) : Int)), some (V.int ((low rest : Nat) : Int)), (none : Option V)] < rstM [some (V.int (m : Int)), some (V.ref d), some (V.int ((rest : Nat) : Int)), vl, (none : Option V)] := fun H3 f3 no => by
          refine ⟨⟨clr rest, _, rfl, f3, walk_step hpos inv no⟩, ?_⟩
          show ((clr rest : Nat) : Int).toNat < ((rest : Nat) : Int).toNat
          rw [Int.toNat_natCast, Int.toNat_natCast]
          exact clr_lt hpos
        refine go_sq ⟨_, rfl, d, rfl, .inl ⟨kvs, .inl by1.d_⟩, _, rfl, (show 0 ≤ sizeLine by decide), fun p hp => ?_⟩
        have s2 : Same H1 (upd H1 p (.tup [])) := same_new (Same.refl _) hp
        have f2 := f1.trans (FrT.of s2)
        have by2 := by1.fr (FrT.of s2)
        have tg2 := (FrT.of s2).tabs _ tg1
        refine ⟨_, DGet.k (k := .inl ((low rest : Nat) : Int)) by2.d_, ?_⟩
        rcases e1 : valV kvs (.inl ((low rest : Nat) : Int)) with _ | v
        · rw [e1] at l_
          refine ⟨p, [], rfl, .inr ⟨SqT.of upd_same, tg2, fun H3 htb => ?_⟩⟩
          have f3 := FrT.tab tg2 htb
          refine gwb_tup (fun _ => false) (SqT.of (f3.tup upd_same)) (fun _ => rfl) (fun i x Kt hx _ => by simp at hx) (fun _ => ?_) (fun i hi _ => absurd hi (by simp))
          refine ⟨_, rfl, iteF (go_next ?_)⟩
          refine ⟨_, rfl, _, rfl, _, _, rfl, rfl, go_name (congrArg V.int (xor_bit hpos)) (stp H3 (f2.trans f3) fun k hk e _ => ?_)⟩
          have kp : 0 < k := Nat.pos_of_ne_zero fun z => h0 (z ▸ hk)
          exact l_ k hk (by rw [lowB_pos kp, e])
        · have l2 := by2.at_ (low rest)
          rw [e1] at l2
          obtain ⟨_, L, rfl, hL⟩ := l2
          refine ⟨L, _, rfl, .inl ⟨SqL.of hL, tg2, fun H3 htb => ?_⟩⟩
          have f3 := FrT.tab tg2 htb
          generalize hks : (kept.filter fun k => decide (lowB k = low rest)) = ks at hL
          refine gwb_lst (fun j => decide (Sub (ks.getD j 0) m)) (SqL.of (f3.lst hL)) (fun _ => rfl) (fun j x Kt hx kt => ?_) (fun hall => ?_) (fun j hj hb => ?_)
          · obtain ⟨n, hn, rfl⟩ := nV_in hx
            refine ⟨_, rfl, _, rfl, _, _, rfl, rfl, _, rfl, rfl, ?_⟩
            rw [sub_dec]
            have e : ks.getD j 0 = n := by rw [List.getD_eq_getElem?_getD, hn]; rfl
            rw [e] at kt
            exact kt
          · refine ⟨_, rfl, iteF (go_next ?_)⟩
            refine ⟨_, rfl, _, rfl, _, _, rfl, rfl, go_name (congrArg V.int (xor_bit hpos)) (stp H3 (f2.trans f3) fun k hk e su => ?_)⟩
            have kp : 0 < k := Nat.pos_of_ne_zero fun z => h0 (z ▸ hk)
            have hm : k ∈ ks := by rw [← hks]; exact List.mem_filter.mpr ⟨hk, decide_eq_true (by rw [lowB_pos kp, e])⟩
            obtain ⟨j, hj, ej⟩ := List.mem_iff_getElem.mp hm
            have := hall j (by rw [nV_length]; exact hj)
            rw [List.getD_eq_getElem?_getD, List.getElem?_eq_getElem hj, ej] at this
            exact of_decide_eq_false this su
          · rw [nV_length] at hj
            refine ⟨_, rfl, iteT ?_⟩
            rw [List.getD_eq_getElem?_getD, List.getElem?_eq_getElem hj] at hb
            have hmm : ks[j] ∈ kept.filter fun k => decide (lowB k = low rest) := by rw [hks]; exact List.getElem_mem hj
            have yes : HP kept m := ⟨ks[j], (List.mem_filter.mp hmm).1, of_decide_eq_true hb⟩
            have := k H3 (f2.trans f3)
            rw [decide_eq_true yes] at this
            exact this
    · rw [e0] at z_
      obtain ⟨⟨k0, hk0, e1⟩, _⟩ := z_
      refine iteT ?_
      have yes : HP kept m := ⟨k0, hk0, by rw [lowB_zero e1]; exact zero_sub m⟩
      have := k H (FrT.refl _)
      rw [decide_eq_true yes] at this
      exact this
end
end K25

set_option Elab.async false
set_option linter.all false
set_option maxRecDepth 100000
set_option maxHeartbeats 4000000
namespace K25
open PySem L2 Ew Tb GxR WM WS
local macro_rules | `(tactic| walk_at "len") => `(tactic| first | (intro h; obtain ⟨_, e, _⟩ := h; rw [e]; rfl) | (intro h; obtain ⟨_, _, e, _⟩ := h; rw [e]; rfl) | (intro h; obtain ⟨_, _, _, e, _⟩ := h; rw [e]; rfl) | (intro h; obtain ⟨_, _, _, _, e, _⟩ := h; rw [e]; rfl) | (intro h; obtain ⟨_, _, _, _, _, e, _⟩ := h; rw [e]; rfl) | (intro h; obtain ⟨_, _, _, _, _, _, e, _⟩ := h; rw [e]; rfl) | (intro h; obtain ⟨_, _, _, _, _, _, _, e, _⟩ := h; rw [e]; rfl) | (intro h; exact h.elim))
section
variable {P : Program} {w : World} {K : PySem.W.Frag} {mg : Str → Option Value} {base : Heap} {ad : Ad}
theorem leastA_snoc (m : Nat) : ∀ (ms acc : List Nat), leastA acc (ms ++ [m]) = if HP (leastA acc ms) m then leastA acc ms else leastA acc ms ++ [m]
  | [], acc => rfl
  | y :: ms, acc => leastA_snoc m ms _
theorem leastA_len : ∀ (ms acc : List Nat), (leastA acc ms).length ≤ acc.length + ms.length
  | [], acc => Nat.le_refl _
  | y :: ms, acc => by
    have := leastA_len ms (if HP acc y then acc else acc ++ [y])
    show (leastA (if HP acc y then acc else acc ++ [y]) ms).length ≤ acc.length + (ms.length + 1)
    split at this
    · rename_i h; rw [if_pos h]; omega
    · rename_i h; rw [if_neg h]; rw [List.length_append, List.length_singleton] at this; omega
theorem bit_low (m : Nat) : Builtin.bitAnd (m : Int) (-(m : Int)) = ((lowB m : Nat) : Int) := by
  rcases Nat.eq_zero_or_pos m with e | e
  · subst e; exact and_neg0
  · rw [and_neg e, lowB_pos e]
theorem nats {ns : List Nat} {ns' : List Int} (hp : ns'.Perm (ns.map fun (n : Nat) => (n : Int))) (hs : ns'.Pairwise (· ≤ ·)) : ∃ ms : List Nat, ns'.map V.int = nV ms ∧ ms.Perm ns ∧ ms.Pairwise (· ≤ ·) := by
  have back : ∀ zs : List Nat, (zs.map fun (n : Nat) => (n : Int)).map Int.toNat = zs := fun zs => by
    rw [List.map_map]
    exact (List.map_congr_left fun n _ => Int.toNat_natCast n).trans (List.map_id _)
  have e : (ns'.map Int.toNat).map (fun (n : Nat) => (n : Int)) = ns' := by
    rw [List.map_map]
    refine (List.map_congr_left fun x hx => ?_).trans (List.map_id _)
    obtain ⟨n, _, rfl⟩ := List.mem_map.mp (hp.mem_iff.mp hx)
    exact congrArg _ (Int.toNat_natCast n)
  refine ⟨ns'.map Int.toNat, ?_, ?_, ?_⟩
  · show ns'.map V.int = (ns'.map Int.toNat).map fun (n : Nat) => V.int (n : Int)
    conv => lhs; rw [← e]
    rw [List.map_map]
    rfl
  · have := hp.map Int.toNat
    rw [back] at this
    exact this
  · exact hs.map Int.toNat fun a b hab => by omega
abbrev Off (H : Hp) (x : Addr) : Prop := ∀ u, H x = some u → ∃ ps, u = HO.tbl ps
theorem frT_upd {H H' : Hp} {x : Addr} {o : HO} (f : FrT H H') (h : Off H x) (ht : ∀ ps, H' x ≠ some (.tbl ps)) : FrT H (upd H' x o) := by
  refine ⟨fun b u e n => ?_, fun P t => ?_⟩
  · rw [upd_ne (fun (z : b = x) => by obtain ⟨ps, e2⟩ := h u (by rw [← z]; exact e); exact n ps e2)]
    exact f.keep b u e n
  · obtain ⟨ps, e, t⟩ := f.tabs P t
    refine ⟨ps, ?_, t⟩
    rw [upd_ne (fun (z : P = x) => ht ps (by rw [← z]; exact e))]
    exact e
/-- by_lowest, its lists apart from all else -/
structure ByS (H0 H : Hp) (d kp q : Addr) (kvs : List (Key × V)) (kept : List Nat) : Prop where
  by_ : ByL H d kvs kept
  sep : ∀ (l : Nat) (a : Addr), valV kvs (.inl (l : Int)) = some (.ref a) → Off H0 a ∧ a ≠ kp ∧ a ≠ q
  inj : ∀ (l l' : Nat) (a : Addr), valV kvs (.inl (l : Int)) = some (.ref a) → valV kvs (.inl (l' : Int)) = some (.ref a) → l = l'
  len : kvs.length ≤ kept.length
theorem ByS.fr {H0 H H' : Hp} {d kp q : Addr} {kvs : List (Key × V)} {kept : List Nat} (x : ByS H0 H d kp q kvs kept) (f : FrT H H') : ByS H0 H' d kp q kvs kept := ⟨x.by_.fr f, x.sep, x.inj, x.len⟩
theorem ByS.kept_upd {H0 H : Hp} {d kp q : Addr} {kvs : List (Key × V)} {kept : List Nat} {o : HO} (x : ByS H0 H d kp q kvs kept) (nd : d ≠ kp) : ByS H0 (upd H kp o) d kp q kvs kept := by
  refine ⟨⟨by rw [upd_ne nd]; exact x.by_.d_, fun l => ?_⟩, x.sep, x.inj, x.len⟩
  have h := x.by_.at_ l
  rcases e : valV kvs (.inl (l : Int)) with _ | v
  · rw [e] at h; exact h
  · rw [e] at h
    obtain ⟨h1, a, rfl, h3⟩ := h
    exact ⟨h1, a, rfl, by rw [upd_ne (x.sep l a e).2.1]; exact h3⟩
theorem ByS.push {H0 H H' : Hp} {d kp q L : Addr} {kvs kvs' : List (Key × V)} {kept : List Nat} {m : Nat} (x : ByS H0 H d kp q kvs kept) (hkv : ∀ l : Nat, valV kvs' (.inl (l : Int)) = if l = lowB m then some (.ref L) else valV kvs (.inl (l : Int)))
    (hd : H' d = some (.dK kvs')) (hL : H' L = some (.lst (nV ((kept.filter fun k => decide (lowB k = lowB m)) ++ [m])))) (keep : ∀ a xs, a ≠ L → H a = some (.lst xs) → H' a = some (.lst xs)) (new : Off H0 L ∧ L ≠ kp ∧ L ≠ q)
    (own : ∀ (l : Nat) (a : Addr), valV kvs (.inl (l : Int)) = some (.ref a) → a = L → l = lowB m) (len : kvs'.length ≤ kept.length + 1) : ByS H0 H' d kp q kvs' (kept ++ [m]) := by
  refine ⟨⟨hd, fun l => ?_⟩, fun l a h => ?_, fun l l' a h h' => ?_, by rw [List.length_append]; exact len⟩
  · rw [hkv l]
    by_cases c : l = lowB m
    · subst c
      rw [if_pos rfl]
      refine ⟨⟨m, List.mem_append_right _ (List.mem_singleton_self _), rfl⟩, L, rfl, ?_⟩
      have e1 : [m].filter (fun k => decide (lowB k = lowB m)) = [m] := by simp
      rw [List.filter_append, e1]
      exact hL
    · rw [if_neg c]
      have h := x.by_.at_ l
      rcases e : valV kvs (.inl (l : Int)) with _ | v
      · rw [e] at h
        intro k hk
        rcases List.mem_append.mp hk with z | z
        · exact h k z
        · rw [List.mem_singleton.mp z]; exact fun z => c z.symm
      · rw [e] at h
        obtain ⟨⟨k0, hk0, e0⟩, a, rfl, h3⟩ := h
        refine ⟨⟨k0, List.mem_append_left _ hk0, e0⟩, a, rfl, ?_⟩
        have e1 : [m].filter (fun k => decide (lowB k = l)) = [] := by simp [show ¬ lowB m = l from fun z => c z.symm]
        rw [List.filter_append, e1, List.append_nil]
        exact keep a _ (fun z => c (own l a e z)) h3
  · rw [hkv l] at h
    by_cases c : l = lowB m
    · rw [if_pos c] at h
      cases h
      exact new
    · rw [if_neg c] at h
      exact x.sep l a h
  · rw [hkv l] at h
    rw [hkv l'] at h'
    by_cases c : l = lowB m
    · by_cases c' : l' = lowB m
      · rw [c, c']
      · rw [if_pos c] at h
        rw [if_neg c'] at h'
        cases h
        exact absurd (own l' _ h' rfl) c'
    · by_cases c' : l' = lowB m
      · rw [if_neg c] at h
        rw [if_pos c'] at h'
        cases h'
        exact absurd (own l _ h rfl) c
      · rw [if_neg c] at h
        rw [if_neg c'] at h'
        exact x.inj l l' a h h'
theorem nV_app (ns : List Nat) (m : Nat) : nV ns ++ [V.int (m : Nat)] = nV (ns ++ [m]) := by unfold nV; rw [List.map_append]; rfl
def spLeast (K : PySem.W.Frag) (PP : Addr) : Sp := fun vs H Q _ => ∃ (a : Addr) (e : Nat) (ms0 : List Nat), vs = [.ref a, .int (e : Int)] ∧ SqL K H a (nV ms0) ∧ ms0.length ≤ e ∧ ms0.length ≤ 1000 ∧ TabG H PP ∧
  ∀ H' l ms, FrT H H' → H l = none → ms.Perm ms0 → ms.Pairwise (· ≤ ·) → H' l = some (.lst (nV (leastA [] ms))) → Q (.ref l) H'
theorem ok_least_masks {PP : Addr} (c_has_part : CalX P w K mg base 2 "_has_part" (spHas PP)) {f : Addr} {fd : FuncData} (F : Fun K "least_masks" "least_masks" s_least_masks f fd) (T : Txt K mg ad) : FnOk P w K mg base (L2.CX P w) 3 f fd ["masks", "enough"] (spLeast K PP) := by
  refine F.okX sc_least_masks (fun vs H Q E => ?_) (fun cdv A outer s H vs Q E hr h => ?_)
  · walk_at "len"
  ·
    obtain ⟨a, e, ms0, rfl, hS, he, hl, tg, k⟩ := h
    refine ⟨_, (pss_cons (ps_set (i := 2) sc_least_masks.nd rfl (by first | exact Or.inl rfl | exact Or.inr rfl) (pe_lst pa_nil))
      (pss_cons (ps_set (i := 3) sc_least_masks.nd rfl (by first | exact Or.inl rfl | exact Or.inr rfl) pe_dnewK)
      (pss_cons (ps_for (passes_of rfl) rfl (pi_list (pe_callB cr_sortedI (by rfl) T.z_sorted (by decide +kernel) (pa_cons (pv 0) pa_nil))) (pg_name (i := 4) sc_least_masks.nd rfl (by first | exact Or.inl rfl | exact Or.inr rfl)) (pss_cons (ps_if (pt_cmpR op_eq (pe_callB call_len (by rfl) T.z_len (by decide +kernel) (pa_cons (pv 2) pa_nil)) (pv 1) (nomark _)) (pss_one ps_break) pss_nil)
      (pss_one (ps_if (pt_not (pt_val (pc_call c_has_part hr (by first | decide | omega) (takes_of rfl rfl rfl rfl) (by rfl) (pa_cons (pv 4) (pa_cons (pv 3) pa_nil))))) (pss_cons (ps_expr (pe_bm PySem.F.plainAttrs_list PySem.F.slot_list_append PySem.F.type_list_append mt_append (pv 2) (pa_cons (pv 4) pa_nil)))
      (pss_one (ps_expr (pe_bm PySem.F.plainAttrs_list PySem.F.slot_list_append PySem.F.type_list_append mt_append (pe_dsetd (pv 3) (pe_op op_and (pv 4) (pe_un un_neg (pv 4))) (pe_lst pa_nil) ⟨rfl, rfl, rfl, rfl⟩) (pa_cons (pv 4) pa_nil))))) pss_nil))))
      (pss_one (ps_ret (pv 2)))))), ?_⟩
    refine go_seq ⟨(show 0 ≤ sizeLine by decide), fun kp hkp => go_name rfl ?_⟩
    have s1 : Same H (upd H kp (.lst [])) := same_new (Same.refl _) hkp
    refine go_seq (fun d hd => go_name rfl ?_)
    have s2 : Same H (upd (upd H kp (.lst [])) d (.dK [])) := fun b u z => same_new (o := .dK []) (Same.refl _) hd _ _ (s1 _ _ z)
    have hS2 : SqL K (upd (upd H kp (.lst [])) d (.dK [])) a (nV ms0) := by
      rcases hS with (h | ⟨o, h⟩) | h
      · exact .inl (.inl (s2 _ _ h))
      · exact .inl (.inr ⟨o, s2 _ _ h⟩)
      · exact .inr h
    refine go_sq ⟨_, rfl, a, ms0.map (fun (n : Nat) => (n : Int)), rfl, (by rw [List.map_map]; exact hS2), fun ns' q hp hs hq => ?_⟩
    obtain ⟨ms, em, pm, sm⟩ := nats hp hs
    rw [em]
    have nkd : kp ≠ d := ne_of_none upd_same hd
    have s3 : Same H (upd (upd (upd H kp (.lst [])) d (.dK [])) q (.lst (nV ms))) := fun b u z => same_new (o := .lst (nV ms)) (Same.refl _) hq _ _ (s2 _ _ z)
    have ekp0 : (upd (upd H kp (.lst [])) d (.dK [])) kp = some (.lst []) := by rw [upd_ne nkd]; exact upd_same
    have nkq : kp ≠ q := ne_of_none ekp0 hq
    have ndq : d ≠ q := ne_of_none upd_same hq
    have hd0 : H d = none := by cases z : H d with | none => rfl | some u => rw [s1 _ _ z] at hd; cases hd
    have hq0 : H q = none := by cases z : H q with | none => rfl | some u => rw [s2 _ _ z] at hq; cases hq
    have mlen : ms.length = ms0.length := pm.length_eq
    refine ⟨q, rfl, ⟨_, SqL.of upd_same⟩, ?_⟩
    refine for_list (K := K) (a := q) (xs := nV ms) (fun i σ H' => ∃ (vm : Option V) (kvs : List (Key × V)), σ = [some (.ref a), some (.int (e : Int)), some (.ref kp), some (.ref d), vm] ∧ FrT H H' ∧ H' q = some (.lst (nV ms)) ∧ H' kp = some (.lst (nV (leastA [] (ms.take i)))) ∧ ByS H H' d kp q kvs (leastA [] (ms.take i)))
      ⟨none, [], rfl, FrT.of s3, upd_same, ?_, ?_⟩ (fun i σ H' _ ⟨_, _, _, _, z, _⟩ => SqL.of z) ?_ ?_
    · rw [upd_ne nkq]; exact ekp0
    · refine ⟨⟨by rw [upd_ne ndq]; exact upd_same, fun l k hk => (by simp [leastA] at hk)⟩, fun l a h => (by cases h), fun l l' a h => (by cases h), Nat.zero_le _⟩
    · rintro i y σ H1 hy ⟨vm, kvs, rfl, f1, eq1, ek1, bs⟩
      obtain ⟨m, hm, rfl⟩ := nV_in hy
      have hil : i < ms.length := (List.getElem?_eq_some_iff.mp hm).1
      refine go_name rfl ?_
      have klen : (leastA [] (ms.take i)).length ≤ i := by
        have h1 := leastA_len (ms.take i) []
        have h2 := List.length_take_le i ms
        rw [List.length_nil] at h1
        omega
      have nxt : leastA [] (ms.take (i + 1)) = if HP (leastA [] (ms.take i)) m then leastA [] (ms.take i) else leastA [] (ms.take i) ++ [m] := by
        rw [List.take_add_one, hm]
        exact leastA_snoc m _ _
      rw [nxt]
      generalize leastA [] (ms.take i) = kept at klen ek1 bs
      refine go_sq ⟨_, rfl, .ref kp, _, rfl, .inl ⟨_, SqL.of ek1, rfl⟩, _, rfl, rfl, _, rfl, ?_⟩
      rw [decide_eq_false (show ¬ V.int (((nV kept).length : Nat) : Int) = V.int (e : Int) from fun z => by injection z with z; rw [nV_length] at z; omega)]
      refine iteF (go_next ?_)
      refine ⟨_, rfl, _, rfl, m, d, kvs, kept, rfl, bs.by_, f1.tabs _ tg, fun H2 f2 => ⟨_, rfl, ?_⟩⟩
      by_cases c : HP kept m
      · rw [decide_eq_true c, if_pos c]
        exact iteF (go_nx ⟨_, kvs, rfl, f1.trans f2, f2.lst eq1, f2.lst ek1, bs.fr f2⟩)
      · rw [decide_eq_false c, if_neg c]
        refine iteT ?_
        have ek2 := f2.lst ek1
        have bs2 := bs.fr f2
        have f12 := f1.trans f2
        have big : ∀ n : Nat, n ≤ 1000 → n < sizeLine := fun n h => Nat.lt_of_le_of_lt h (by decide)
        refine go_sq ⟨_, rfl, .inl ⟨rfl, _, SqL.of ek2⟩, _, rfl, kp, _, _, rfl, rfl, ek2, big _ (by rw [nV_length]; omega), ?_⟩
        rw [nV_app]
        have f3 : FrT H (upd H2 kp (.lst (nV (kept ++ [m])))) := frT_upd f12 (fun u z => by rw [hkp] at z; cases z) (fun ps z => by rw [ek2] at z; cases z)
        have ek3 : (upd H2 kp (.lst (nV (kept ++ [m])))) kp = some (.lst (nV (kept ++ [m]))) := upd_same
        have eq3 : (upd H2 kp (.lst (nV (kept ++ [m])))) q = some (.lst (nV ms)) := by rw [upd_ne (Ne.symm nkq)]; exact f2.lst eq1
        have bs3 := bs2.kept_upd (o := .lst (nV (kept ++ [m]))) (Ne.symm nkd)
        generalize upd H2 kp (.lst (nV (kept ++ [m]))) = H3 at f3 ek3 eq3 bs3
        refine ⟨_, rfl, d, rfl, .inl ⟨kvs, .inl bs3.by_.d_⟩, _, rfl, _, rfl, _, rfl, _, _, rfl, rfl, (show 0 ≤ sizeLine by decide), fun L hL => ?_⟩
        have s4 : Same H3 (upd H3 L (.lst [])) := same_new (Same.refl _) hL
        have bs4 := bs3.fr (FrT.of s4)
        have f4 := f3.trans (FrT.of s4)
        have eq4 := s4 _ _ eq3
        have ek4 := s4 _ _ ek3
        have hL4 : (upd H3 L (.lst [])) L = some (.lst []) := upd_same
        have offL : Off H L := fun u z => by
          cases u with
          | tbl ps => exact ⟨ps, rfl⟩
          | _ => (have := f3.keep _ _ z (fun ps zz => by cases zz); rw [hL] at this; cases this)
        have nLk : L ≠ kp := (ne_of_none ek3 hL).symm
        have nLq : L ≠ q := (ne_of_none eq3 hL).symm
        have nLd : L ≠ d := (ne_of_none bs3.by_.d_ hL).symm
        generalize upd H3 L (.lst []) = H4 at s4 bs4 f4 eq4 ek4 hL4
        have at4 := bs4.by_.at_ (lowB m)
        have klen2 := bs4.len
        refine ⟨kvs, .inl ((lowB m : Nat) : Int), bs4.by_.d_, congrArg V.int (bit_low m), big _ (by omega), fun v hv => ?_, fun hn => ?_⟩
        · rw [hv] at at4
          obtain ⟨_, L0, rfl, hL0⟩ := at4
          obtain ⟨o1, o2, o3⟩ := bs4.sep _ _ hv
          have fl : (kept.filter fun k => decide (lowB k = lowB m)).length ≤ kept.length := List.length_filter_le _ _
          refine ⟨.inl ⟨rfl, _, SqL.of hL0⟩, _, rfl, L0, _, _, rfl, rfl, hL0, big _ (by rw [nV_length]; omega), ?_⟩
          rw [nV_app]
          refine go_nx ⟨_, kvs, rfl, frT_upd f4 o1 (fun ps z => by rw [hL0] at z; cases z), by rw [upd_ne (Ne.symm o3)]; exact eq4, by rw [upd_ne (Ne.symm o2)]; exact ek4, ?_⟩
          refine bs4.push (L := L0) (fun l => ?_) (by rw [upd_ne (ne_of bs4.by_.d_ hL0 (fun z => nomatch z))]; exact bs4.by_.d_) upd_same (fun a xs na e => by rw [upd_ne na]; exact e) ⟨o1, o2, o3⟩ (fun l a h z => bs4.inj l (lowB m) a h (z ▸ hv)) (Nat.le_succ_of_le klen2)
          by_cases cl : l = lowB m
          · subst cl; rw [if_pos rfl]; exact hv
          · rw [if_neg cl]
        · rw [hn] at at4
          have hL5 : (upd H4 d (.dK (putK kvs (.inl ((lowB m : Nat) : Int)) (.ref L)))) L = some (.lst []) := by rw [upd_ne nLd]; exact hL4
          refine ⟨.inl ⟨rfl, _, SqL.of hL5⟩, _, rfl, L, _, _, rfl, rfl, hL5, (show 0 < sizeLine by decide), ?_⟩
          have fe : (kept.filter fun k => decide (lowB k = lowB m)) = [] := List.filter_eq_nil_iff.mpr fun k hk z => at4 k hk (of_decide_eq_true z)
          have f5 : FrT H (upd H4 d (.dK (putK kvs (.inl ((lowB m : Nat) : Int)) (.ref L)))) := frT_upd f4 (fun u z => by rw [hd0] at z; cases z) (fun ps z => by rw [bs4.by_.d_] at z; cases z)
          refine go_nx ⟨_, putK kvs (.inl ((lowB m : Nat) : Int)) (.ref L), rfl, frT_upd f5 offL (fun ps z => by rw [hL5] at z; cases z), by rw [upd_ne (Ne.symm nLq), upd_ne (Ne.symm ndq)]; exact eq4, by rw [upd_ne (Ne.symm nLk), upd_ne nkd]; exact ek4, ?_⟩
          refine bs4.push (L := L) (fun l => ?_) (by rw [upd_ne (Ne.symm nLd)]; exact upd_same) (by rw [fe]; exact upd_same) (fun a xs na e => by rw [upd_ne na, upd_ne (ne_of e bs4.by_.d_ (fun z => nomatch z))]; exact e) ⟨offL, nLk, nLq⟩ (fun l a h z => ?_) ?_
          · rw [valV_put]
            by_cases cl : l = lowB m
            · subst cl; rw [if_pos rfl, if_pos rfl]
            · rw [if_neg (fun z => cl (by injection z with z; omega)), if_neg cl]
          · subst z
            have h1 := bs3.by_.at_ l
            rw [h] at h1
            obtain ⟨_, b, e1, e2⟩ := h1
            cases e1
            rw [hL] at e2
            cases e2
          · rw [putK_new _ hn, List.length_append]
            exact Nat.succ_le_succ klen2
    · rintro σ H1 ⟨vm, kvs, rfl, f1, eq1, ek1, bs⟩
      rw [nV_length, List.take_length] at ek1
      refine go_nx (go_ret ?_)
      exact ⟨_, rfl, k H1 kp ms f1 hkp pm sm ek1⟩
end
end K25

set_option Elab.async false
set_option linter.all false
set_option maxRecDepth 100000
set_option maxHeartbeats 4000000
namespace K25
open PySem L2 Ew Tb GxR WM WS
local macro_rules | `(tactic| walk_at "len") => `(tactic| first | (intro h; obtain ⟨_, e, _⟩ := h; rw [e]; rfl) | (intro h; obtain ⟨_, _, e, _⟩ := h; rw [e]; rfl) | (intro h; obtain ⟨_, _, _, e, _⟩ := h; rw [e]; rfl) | (intro h; obtain ⟨_, _, _, _, e, _⟩ := h; rw [e]; rfl) | (intro h; obtain ⟨_, _, _, _, _, e, _⟩ := h; rw [e]; rfl) | (intro h; obtain ⟨_, _, _, _, _, _, e, _⟩ := h; rw [e]; rfl) | (intro h; obtain ⟨_, _, _, _, _, _, _, e, _⟩ := h; rw [e]; rfl) | (intro h; exact h.elim))
section
variable {P : Program} {w : World} {K : PySem.W.Frag} {mg : Str → Option Value} {base : Heap} {ad : Ad}
theorem kcr_sum {X : Cx} {K : PySem.W.Frag} (hc : X.calm = true) (hK : X.K = K := by rfl) : CallR X (.builtin "sum") (rSum K) := hK ▸ cr_sum hc
theorem dc_rng {n : Nat} {g : TG} {tt : TT} {tk tv : TE} {vs : List Nat} {σ : L2.St} {H1 : Hp} {D : Addr} {Qd : Hp → Prop} (Pv : Nat → Hp → Prop) (h0 : Pv 0 (upd H1 D (.dK [])))
    (hs : ∀ i H, i < n → Pv i H → g (.int (i : Int)) (wipe σ vs) H fun σ2 H2 => wipe σ2 vs = wipe σ vs ∧ tt σ2 H2 fun b H3 =>
      if b = true then tk σ2 H3 fun y H4 => tv σ2 H4 fun z H5 => ∃ kvs k, y = kV k ∧ H5 D = some (.dK kvs) ∧ kvs.length < sizeLine ∧ Pv (i + 1) (upd H5 D (.dK (putK kvs k z))) else Pv (i + 1) H3) (hd : ∀ H, Pv n H → Qd H) :
    ∃ W : Nat → Nat → Hp → Prop, (∃ m, W 0 m (upd H1 D (.dK []))) ∧ ∀ i m H, W i m H →
      ((Itr 0 n).stop i H ∧ Qd H) ∨ ((Itr 0 n).go i H ∧ ∃ Nx : Hp → Prop, (∀ H', Nx H' → ∃ m', m' < m ∧ W (i + 1) m' H') ∧ ∀ x H', (Itr 0 n).yld i H x H' → g x (wipe σ vs) H' fun σ2 H2 => wipe σ2 vs = wipe σ vs ∧ tt σ2 H2 fun b H3 =>
        if b = true then tk σ2 H3 fun y H4 => tv σ2 H4 fun z H5 => ∃ kvs k, y = kV k ∧ H5 D = some (.dK kvs) ∧ kvs.length < sizeLine ∧ Nx (upd H5 D (.dK (putK kvs k z))) else Nx H3) := by
  refine ⟨fun i m H => m = n - i ∧ i ≤ n ∧ Pv i H, ⟨n, by simp, Nat.zero_le _, h0⟩, ?_⟩
  rintro i m H ⟨rfl, hi, p⟩
  by_cases hlt : i < n
  · refine .inr ⟨hlt, Pv (i + 1), fun H' p' => ⟨n - (i + 1), by omega, rfl, hlt, p'⟩, ?_⟩
    rintro x H' ⟨e1, e2⟩
    subst e1
    subst e2
    rw [Int.zero_add]
    exact hs i _ hlt p
  · have e : i = n := by omega
    subst e
    exact .inl ⟨Nat.le_refl _, hd H p⟩
/-- the tuples at ts are these sets -/
abbrev Sets (K : PySem.W.Frag) (H : Hp) (ts : List Addr) (ss : List (List Nat)) : Prop := ts.length = ss.length ∧ ∀ (i : Nat) (t : Addr) (s : List Nat), ts[i]? = some t → ss[i]? = some s → H t = some (.tup (nV s))
def spMasks (K : PySem.W.Frag) : Sp := fun vs H Q _ => ∃ (a b : Addr) (ts : List Addr) (ss : List (List Nat)) (F : List Nat), vs = [.ref a, .ref b] ∧ SqT K H a (ts.map V.ref) ∧ Sets K H ts ss ∧ SqL K H b (nV F) ∧ F.Nodup ∧ F.length < 64 ∧ ss.length ≤ 1000 ∧ (∀ s ∈ ss, s.length ≤ 64 ∧ ∀ x ∈ s, x ∈ F) ∧
  ∀ H' l, Same H H' → H l = none → H' l = some (.lst (nV (ss.map (mask F)))) → Q (.ref l) H'
theorem ok_masks_of  {f : Addr} {fd : FuncData} (F : Fun K "masks_of" "masks_of" s_masks_of f fd) (T : Txt K mg ad) : FnOk P w K mg base (L2.CX P w) 1 f fd ["sets", "facts"] (spMasks K) := by
  refine F.okX sc_masks_of (fun vs H Q E => ?_) (fun cdv A outer s H vs Q E hr h => ?_)
  · walk_at "len"
  ·
    obtain ⟨a, b, ts, ss, F, rfl, hS, hs, hF, nd, fl, sl, hin, k⟩ := h
    refine ⟨_, (pss_cons (ps_set (i := 2) sc_masks_of.nd rfl (by first | exact Or.inl rfl | exact Or.inr rfl) (pe_dc (own := [("k", 3)]) (tt := tYes) rfl sc_masks_of.nd (pi_range1 (by rfl) T.z_range (pa_cons (pe_callB call_len (by rfl) T.z_len (by decide +kernel) (pa_cons (pv 1) pa_nil)) pa_nil)) (blkOk_by (by kernel_rfl)) (fun _ _ _ _ _ => (pg_name (i := 3) sc_masks_of.nd rfl (by first | exact Or.inl rfl | exact Or.inr rfl))) (fun _ _ _ _ _ => pts_nil) (fun _ _ _ _ _ => (pe_ix (kix_list (K := K)) (pv 1) (pv 3) (fun _ _ => rfl))) (fun _ _ _ _ _ => (pe_op op_oneShl pe_int (pv 3)))))
      (pss_one (ps_ret (pe_lc (own := [("one", 4)]) (tt := tYes) rfl sc_masks_of.nd (ND.pi_seq (pv 0)) (blkOk_by (by kernel_rfl)) (fun _ _ _ _ _ => (pg_name (i := 4) sc_masks_of.nd rfl (by first | exact Or.inl rfl | exact Or.inr rfl))) (fun _ _ _ _ _ => pts_nil) (fun _ _ _ _ _ => (pe_callB (kcr_sum (K := K) rfl) (by rfl) T.z_sum (by decide +kernel) (pa_cons (pe_lc (own := [("fact", 5)]) (tt := tYes) rfl sc_masks_of.nd (kpi_tup (K := K) (pv 4)) (blkOk_by (by kernel_rfl)) (fun _ _ _ _ _ => (pg_name (i := 5) sc_masks_of.nd rfl (by first | exact Or.inl rfl | exact Or.inr rfl))) (fun _ _ _ _ _ => pts_nil) (fun _ _ _ _ _ => (pe_dget (hu_of hr) (pv 2) (pv 5) (fun _ _ => rfl)))) pa_nil))))))), ?_⟩
    have len_ : (nV F).length = F.length := nV_length F
    refine go_seq ⟨_, rfl, .ref b, _, rfl, .inl ⟨_, hF, rfl⟩, _, rfl, by omega, by omega, fun D hD => ?_⟩
    rw [len_, Int.toNat_natCast]
    refine dc_rng (fun i H' => Same H H' ∧ ∃ kvs, H' D = some (.dK kvs) ∧ kvs.length ≤ i ∧ ∀ x : Nat, valV kvs (.inl (x : Int)) = if x ∈ F.take i then some (.int ((2 ^ F.idxOf x : Nat) : Int)) else none) ⟨same_new (Same.refl _) hD, [], upd_same, Nat.le_refl _, fun x => (by simp [valV_nil])⟩ (fun i H' hi ⟨s', kvs, e', l', v'⟩ => ?_) (fun H1 ⟨s1, kvs, e1, l1, v1⟩ => go_name rfl ?_)
    · have hS' : SqL K H' b (nV F) := by
        rcases hF with (h | ⟨o, h⟩) | h
        · exact .inl (.inl (s' _ _ h))
        · exact .inl (.inr ⟨o, s' _ _ h⟩)
        · exact .inr h
      have hget : F[i]? = some F[i] := List.getElem?_eq_getElem hi
      have lx := List.idxOf_lt_length_of_mem (List.getElem_mem hi)
      have hidx : F.idxOf F[i] = i := (List.getElem?_inj lx nd).mp (by rw [List.getElem?_eq_getElem lx, List.getElem_idxOf lx, hget])
      have hnt : ¬ F[i] ∈ F.take i := fun z => by
        obtain ⟨j, hj, e⟩ := List.mem_iff_getElem.mp z
        rw [List.length_take] at hj
        rw [List.getElem_take] at e
        have := (List.getElem?_inj hi nd).mp (by rw [hget, List.getElem?_eq_getElem (by omega : j < F.length), e] : F[i]? = F[j]?)
        omega
      refine ⟨rfl, yes_then (iteT ⟨_, rfl, _, rfl, b, _, _, .int (F[i] : Nat), rfl, rfl, hS', at_of (j := i) rfl (by rw [List.getElem?_map, hget]; rfl), _, rfl, i, rfl, rfl, by omega, kvs, .inl (F[i] : Int), rfl, e', Nat.lt_of_le_of_lt (by omega : _ ≤ 1000) (by decide), same_but hD s' (fun c u nc z => by rw [upd_ne nc]; exact z), _, upd_same, ?_, fun x => ?_⟩)⟩
      · rw [putK_new _ (by rw [v' F[i], if_neg hnt]), List.length_append]
        exact Nat.succ_le_succ l'
      · rw [valV_put, List.take_add_one, hget, show (some F[i]).toList = [F[i]] from rfl]
        by_cases c : x = F[i]
        · rw [c, if_pos rfl, if_pos (List.mem_append_right _ (List.mem_singleton_self _)), hidx]
          exact congrArg (fun z => some (V.int z)) (by simp)
        · rw [if_neg (fun z => c (by injection z with z; omega)), v' x]
          by_cases cx : x ∈ F.take i
          · rw [if_pos cx, if_pos (List.mem_append_left _ cx)]
          · rw [if_neg cx, if_neg (fun z => by
              rcases List.mem_append.mp z with z | z
              · exact cx z
              · exact c (List.mem_singleton.mp z))]
    · rw [List.take_length] at v1
      have T1 : ∀ {H'} {b : Addr} {xs : List V}, Same H H' → SqT K H b xs → SqT K H' b xs := fun {H' b xs} s' h => by
        rcases h with (h | ⟨o, h⟩) | h
        · exact .inl (.inl (s' _ _ h))
        · exact .inl (.inr ⟨o, s' _ _ h⟩)
        · exact .inr h
      refine ⟨_, rfl, a, _, rfl, .inr ⟨T1 s1 hS, fun D2 hD2 => ?_⟩⟩
      refine lc_tup (K := K) (xs := ts.map V.ref) (fun i H' => Same H1 H' ∧ H' D2 = some (.lst (nV ((ss.take i).map (mask F))))) ⟨same_new (Same.refl _) hD2, upd_same⟩ (fun i H' _ ⟨s', _⟩ => T1 (fun b o z => s' _ _ (s1 _ _ z)) hS) (fun i x H' hx ⟨s', e'⟩ => ?_) (fun H3 ⟨s3, e3⟩ => ?_)
      · rw [List.getElem?_map] at hx
        obtain ⟨t, ht, rfl⟩ := Option.map_eq_some_iff.mp hx
        have hi : i < ss.length := by rw [← hs.1]; exact (List.getElem?_eq_some_iff.mp ht).1
        have hget : ss[i]? = some ss[i] := List.getElem?_eq_getElem hi
        have hst : SqT K H t _ := SqT.of (hs.2 i t _ ht hget)
        obtain ⟨sl_, sF⟩ := hin _ (List.getElem_mem hi)
        generalize ss[i] = sx at hget hst sl_ sF
        refine ⟨rfl, yes_then (iteT ⟨_, rfl, t, rfl, ⟨_, T1 (fun b o z => s' _ _ (s1 _ _ z)) hst⟩, fun D3 hD3 => ?_⟩)⟩
        refine lc_tup (K := K) (xs := nV sx) (fun j H'' => Same H' H'' ∧ H'' D3 = some (.lst (nV ((sx.take j).map fun f => 2 ^ F.idxOf f)))) ⟨same_new (Same.refl _) hD3, upd_same⟩ (fun j H'' _ ⟨s'', _⟩ => T1 (fun b o z => s'' _ _ (s' _ _ (s1 _ _ z))) hst) (fun j y H'' hy ⟨s'', e''⟩ => ?_) (fun H3 ⟨s3, e3⟩ => ?_)
        · obtain ⟨x, hxj, rfl⟩ := nV_in hy
          have g := DGet.k (k := .inl (x : Int)) (s'' _ _ (s' _ _ e1))
          rw [v1 x, if_pos (sF x (List.mem_of_getElem? hxj))] at g
          refine ⟨rfl, yes_then (iteT ⟨_, rfl, _, rfl, D, _, rfl, g, _, e'', ?_, same_but hD3 s'' but_app, ?_⟩)⟩
          · rw [nV_length, List.length_map, List.length_take]
            exact Nat.lt_of_le_of_lt (by omega : _ ≤ 1000) (by decide)
          · rw [upd_same, nV_app, List.take_add_one, hxj, List.map_append]
            rfl
        · rw [nV_length, List.take_length] at e3
          have es : ((sx.map fun f => 2 ^ F.idxOf f).map fun (n : Nat) => (n : Int)).sum = ((mask F sx : Nat) : Int) := by
            unfold mask
            generalize (sx.map fun f => 2 ^ F.idxOf f) = zs
            induction zs with
            | nil => rfl
            | cons z zs ih => rw [List.map_cons, List.sum_cons, List.sum_cons, ih, Int.natCast_add]
          refine ⟨D3, (sx.map fun f => 2 ^ F.idxOf f).map fun (n : Nat) => (n : Int), rfl, SqL.of (by rw [e3, List.map_map]; rfl), ?_⟩
          rw [es]
          refine ⟨_, s3 _ _ e', ?_, same_but hD2 (fun b o z => s3 _ _ (s' _ _ z)) but_app, ?_⟩
          · rw [nV_length, List.length_map, List.length_take]
            exact Nat.lt_of_le_of_lt (by omega : _ ≤ 1000) (by decide)
          · rw [upd_same, nV_app, List.take_add_one, hget, List.map_append]
            rfl
      · rw [List.length_map, hs.1, List.take_length] at e3
        refine k H3 D2 (fun b o z => s3 _ _ (s1 _ _ z)) ?_ e3
        cases z : H D2 with
        | none => rfl
        | some u => rw [s1 _ _ z] at hD2; cases hD2
end
end K25

set_option Elab.async false
set_option linter.all false
set_option maxRecDepth 100000
set_option maxHeartbeats 4000000
namespace K25
open PySem L2 Ew Tb GxR WM WS
local macro_rules | `(tactic| walk_at "len") => `(tactic| first | (intro h; obtain ⟨_, e, _⟩ := h; rw [e]; rfl) | (intro h; obtain ⟨_, _, e, _⟩ := h; rw [e]; rfl) | (intro h; obtain ⟨_, _, _, e, _⟩ := h; rw [e]; rfl) | (intro h; obtain ⟨_, _, _, _, e, _⟩ := h; rw [e]; rfl) | (intro h; obtain ⟨_, _, _, _, _, e, _⟩ := h; rw [e]; rfl) | (intro h; obtain ⟨_, _, _, _, _, _, e, _⟩ := h; rw [e]; rfl) | (intro h; obtain ⟨_, _, _, _, _, _, _, e, _⟩ := h; rw [e]; rfl) | (intro h; exact h.elim))
section
variable {P : Program} {w : World} {K : PySem.W.Frag} {mg : Str → Option Value} {base : Heap} {ad : Ad}
/-! ### the keys of a dict of Trues -/
abbrev kvF (fs : List Nat) : List (Key × V) := fs.map fun (m : Nat) => (.inl (m : Int), .bl true)
theorem valV_F (m : Nat) : ∀ fs : List Nat, valV (kvF fs) (.inl (m : Int)) = if m ∈ fs then some (.bl true) else none
  | [] => by simp [kvF, valV_nil]
  | f :: fs => by
    have ih := valV_F m fs
    show valV ((Sum.inl (f : Int), V.bl true) :: kvF fs) (.inl (m : Int)) = _
    by_cases c : f = m
    · subst c
      rw [valV_pos rfl, if_pos (List.mem_cons_self ..)]
    · rw [valV_neg (fun z => c (by injection z with z; omega)), ih]
      by_cases d : m ∈ fs
      · rw [if_pos d, if_pos (List.mem_cons_of_mem _ d)]
      · rw [if_neg d, if_neg (fun z => by
          rcases List.mem_cons.mp z with z | z
          · exact c z.symm
          · exact d z)]
/-- a dict's keys, one more -/
def insM (fs : List Nat) (m : Nat) : List Nat := if m ∈ fs then fs else fs ++ [m]
theorem putF_insM (fs : List Nat) (m : Nat) : putK (kvF fs) (.inl (m : Int)) (.bl true) = kvF (insM fs m) := by
  unfold insM
  by_cases h : m ∈ fs
  · rw [if_pos h]
    unfold putK
    have e : ((kvF fs).any fun kv => decide (kv.1 = (.inl (m : Int) : Key))) = true := by
      refine List.any_eq_true.mpr ⟨(.inl (m : Int), .bl true), List.mem_map.mpr ⟨m, h, rfl⟩, by simp⟩
    rw [if_pos e]
    refine (List.map_congr_left fun kv hk => ?_).trans (List.map_id _)
    obtain ⟨x, _, rfl⟩ := List.mem_map.mp hk
    show (if _ then _ else _) = _
    split <;> rfl
  · rw [if_neg h, putK_new _ (by rw [valV_F, if_neg h]), kvF, kvF, List.map_append]
    rfl
theorem mem_insM {fs : List Nat} {m x : Nat} : x ∈ insM fs m ↔ x ∈ fs ∨ x = m := by
  unfold insM
  split
  · rename_i h
    exact ⟨.inl, fun z => z.elim id fun e => by rw [e]; exact h⟩
  · simp
theorem nd_insM {fs : List Nat} {m : Nat} (h : fs.Nodup) : (insM fs m).Nodup := by
  unfold insM
  split
  · exact h
  · rename_i c
    refine List.nodup_append.mpr ⟨h, by simp, fun a ha b hb => ?_⟩
    rw [List.mem_singleton.mp hb]
    exact fun e => c (e ▸ ha)
theorem nd_len : ∀ (n : Nat) (fs : List Nat), fs.Nodup → (∀ x ∈ fs, x < n) → fs.length ≤ n
  | 0, [], _, _ => Nat.le_refl _
  | 0, x :: _, _, h => absurd (h x (List.mem_cons_self ..)) (Nat.not_lt_zero _)
  | n + 1, fs, nd, h => by
    have ih := nd_len n (fs.erase n) (nd.erase n) fun x hx => by
      obtain ⟨h1, h2⟩ := (List.Nodup.mem_erase_iff nd).mp hx
      have := h x h2
      omega
    by_cases c : n ∈ fs
    · rw [List.length_erase_of_mem c] at ih
      omega
    · rw [List.erase_of_not_mem c] at ih
      omega
theorem asc_of {ms ns : List Nat} (p : ms.Perm ns) (nd : ns.Nodup) (s : ms.Pairwise (· ≤ ·)) : Asc ms :=
  (List.Pairwise.and s (p.nodup_iff.mpr nd)).imp fun ⟨h1, h2⟩ => Nat.lt_of_le_of_ne h1 h2
def spFacts (K : PySem.W.Frag) : Sp := fun vs H Q _ => ∃ (a : Addr) (ts : List Addr) (ss : List (List Nat)), vs = [.ref a] ∧ SqT K H a (ts.map V.ref) ∧ Sets K H ts ss ∧ (∀ s ∈ ss, ∀ x ∈ s, x < 60) ∧
  ∀ H' l F, Same H H' → H l = none → H' l = some (.lst (nV F)) → Asc F → (∀ x, x ∈ F ↔ ∃ s ∈ ss, x ∈ s) → Q (.ref l) H'
theorem sqTm {K : PySem.W.Frag} {H H' : Hp} {b : Addr} {xs : List V} (s' : Same H H') (h : SqT K H b xs) : SqT K H' b xs := by
  rcases h with (h | ⟨o, h⟩) | h
  · exact .inl (.inl (s' _ _ h))
  · exact .inl (.inr ⟨o, s' _ _ h⟩)
  · exact .inr h
theorem sqTf {K : PySem.W.Frag} {H H' : Hp} {b : Addr} {xs : List V} (f : FrT H H') (h : SqT K H b xs) : SqT K H' b xs := by
  rcases h with (h | ⟨o, h⟩) | h
  · exact .inl (.inl (f.tup h))
  · exact .inl (.inr ⟨o, f.keep _ _ h (fun ps z => by cases z)⟩)
  · exact .inr h
theorem ok_facts_of  {f : Addr} {fd : FuncData} (F : Fun K "facts_of" "facts_of" s_facts_of f fd) (T : Txt K mg ad) : FnOk P w K mg base (L2.CX P w) 1 f fd ["sets"] (spFacts K) := by
  refine F.okX sc_facts_of (fun vs H Q E => ?_) (fun cdv A outer s H vs Q E hr h => ?_)
  · walk_at "len"
  ·
    obtain ⟨a, ts, ss, rfl, hS, hs, hb, k⟩ := h
    refine ⟨_, (pss_one (ps_ret (pe_callB (call_sortedDI rfl) (by rfl) T.z_sorted (by decide +kernel) (pa_cons (DC2.pe_dc2 (own := [("facts", 1), ("fact", 2)]) (vs1 := [2]) rfl sc_facts_of.nd (pi_tup (pv 0)) (blkOk_by (by kernel_rfl)) (by decide) (fun _ _ _ _ _ => (pg_name (i := 1) sc_facts_of.nd rfl (by first | exact Or.inl rfl | exact Or.inr rfl))) (fun _ _ _ _ _ => (kpi_tup (K := K) (pv 1))) (fun _ _ _ _ _ => (pg_name (i := 2) sc_facts_of.nd rfl (by first | exact Or.inl rfl | exact Or.inr rfl))) (fun _ _ _ _ _ => (pv 2)) (fun _ _ _ _ _ => pe_bl)) pa_nil)))), ?_⟩
    have lenB : ∀ {fs : List Nat}, fs.Nodup → (∀ x ∈ fs, x < 60) → (kvF fs).length < sizeLine := fun nd lt => by
      rw [List.length_map]
      exact Nat.lt_of_le_of_lt (nd_len 60 _ nd lt) (by decide)
    refine ⟨_, rfl, a, rfl, ⟨_, hS⟩, fun D hD => ?_⟩
    refine DC2.walk_t (K := K) (xs := ts.map V.ref) (fun i H' => Same H H' ∧ ∃ fs : List Nat, H' D = some (.dK (kvF fs)) ∧ fs.Nodup ∧ ∀ x, x ∈ fs ↔ ∃ s ∈ ss.take i, x ∈ s)
      ⟨same_new (Same.refl _) hD, [], upd_same, List.nodup_nil, fun x => (by simp)⟩ (fun i H' _ ⟨s', _⟩ => (sqTm s' hS)) (fun i y H1 hy ⟨s1, fs, e1, nd1, m1⟩ => ?_) (fun H2 ⟨s2, fs, e2, nd2, m2⟩ => ?_)
    · rw [List.getElem?_map] at hy
      obtain ⟨t, ht, rfl⟩ := Option.map_eq_some_iff.mp hy
      have hi : i < ss.length := by rw [← hs.1]; exact (List.getElem?_eq_some_iff.mp ht).1
      have hget : ss[i]? = some ss[i] := List.getElem?_eq_getElem hi
      have hst : SqT K H t _ := SqT.of (hs.2 i t _ ht hget)
      have sb := hb _ (List.getElem_mem hi)
      have seen : ∀ j x, (∃ s ∈ ss.take i, x ∈ s) ∨ x ∈ ss[i].take j → x < 60 := fun j x h => by
        rcases h with ⟨s, h1, h2⟩ | h
        · exact hb s (List.mem_of_mem_take h1) x h2
        · exact sb x (List.mem_of_mem_take h)
      generalize hsx : ss[i] = sx at hget hst sb seen
      refine ⟨rfl, _, rfl, t, rfl, ⟨_, (sqTm s1 hst)⟩, ?_⟩
      refine DC2.walk_t (K := K) (xs := nV sx) (fun j H' => Same H H' ∧ ∃ fs : List Nat, H' D = some (.dK (kvF fs)) ∧ fs.Nodup ∧ ∀ x, x ∈ fs ↔ (∃ s ∈ ss.take i, x ∈ s) ∨ x ∈ sx.take j)
        ⟨s1, fs, e1, nd1, fun x => by rw [m1]; simp⟩ (fun j H' _ ⟨s', _⟩ => (sqTm s' hst)) (fun j y H3 hy ⟨s3, fs, e3, nd3, m3⟩ => ?_) (fun H3 ⟨s3, fs, e3, nd3, m3⟩ => ?_)
      · obtain ⟨x, hxj, rfl⟩ := nV_in hy
        refine ⟨rfl, _, rfl, kvF fs, .inl (x : Int), rfl, e3, lenB nd3 (fun z hz => seen j z ((m3 z).mp hz)), same_but hD s3 (fun c u nc z => by rw [upd_ne nc]; exact z), insM fs x, by rw [upd_same, putF_insM], nd_insM nd3, fun z => ?_⟩
        rw [mem_insM, m3, List.take_add_one, hxj, List.mem_append, show (some x).toList = [x] from rfl, List.mem_singleton, or_assoc]
      · rw [nV_length, List.take_length] at m3
        refine ⟨s3, fs, e3, nd3, fun x => ?_⟩
        rw [m3, List.take_add_one, hget, show (some sx).toList = [sx] from rfl]
        constructor
        · rintro (⟨s, h1, h2⟩ | h)
          · exact ⟨s, List.mem_append_left _ h1, h2⟩
          · exact ⟨sx, List.mem_append_right _ (List.mem_singleton_self _), h⟩
        · rintro ⟨s, h1, h2⟩
          rcases List.mem_append.mp h1 with h1 | h1
          · exact .inl ⟨s, h1, h2⟩
          · rw [List.mem_singleton.mp h1] at h2
            exact .inr h2
    · rw [List.length_map, hs.1, List.take_length] at m2
      have lt : ∀ x ∈ fs, x < 60 := fun x hx => let ⟨s, h1, h2⟩ := (m2 x).mp hx; hb s h1 x h2
      refine ⟨D, kvF fs, fs.map fun (n : Nat) => (n : Int), rfl, .inl e2, by rw [List.map_map, List.map_map]; rfl, by rw [List.length_map]; exact Nat.lt_of_le_of_lt (nd_len 60 _ nd2 lt) (by decide), fun ys p hp hs' hn => ?_⟩
      obtain ⟨F, eF, pF, sF⟩ := nats hp hs'
      rw [eF]
      refine k _ p F (fun c o z => same_new (Same.refl _) hn _ _ (s2 _ _ z)) ?_ upd_same (asc_of pF nd2 sF) fun x => by rw [pF.mem_iff, m2]
      cases z : H p with
      | none => rfl
      | some u => rw [s2 _ _ z] at hn; cases hn
end
end K25

set_option Elab.async false
set_option linter.all false
set_option maxRecDepth 100000
set_option maxHeartbeats 4000000
/-! Chances: sums over subsets of bits. -/
namespace CH
open WM WS
/-- bit k taken out -/
def ck (k m : Nat) : Nat := m - (m &&& 2 ^ k)
theorem and_pow (m k : Nat) : m &&& 2 ^ k = if m.testBit k then 2 ^ k else 0 := by
  refine Nat.eq_of_testBit_eq fun i => ?_
  rw [Nat.testBit_and, Nat.testBit_two_pow]
  by_cases e : k = i
  · subst e
    cases h : m.testBit k
    · simp
    · rw [if_pos rfl, Nat.testBit_two_pow]; simp
  · cases h : m.testBit k
    · simp [e]
    · rw [if_pos rfl, Nat.testBit_two_pow]; simp [e]
theorem tb_ck (k m i : Nat) : (ck k m).testBit i = (m.testBit i && decide (i ≠ k)) := by
  unfold ck
  rw [and_pow]
  cases h : m.testBit k
  · rw [if_neg (by simp), Nat.sub_zero]
    by_cases e : i = k
    · subst e; rw [h]; rfl
    · simp [e]
  · rw [if_pos rfl]
    have hn : (m ^^^ 2 ^ k).testBit k = false := by rw [Nat.testBit_xor, h, Nat.testBit_two_pow]; simp
    have e : 2 ^ k + (m ^^^ 2 ^ k) = m := by
      refine Nat.eq_of_testBit_eq fun j => ?_
      rw [tb_add k _ hn, Nat.testBit_xor, Nat.testBit_two_pow]
      by_cases c : j = k
      · subst c; rw [h]; simp
      · have c' : ¬ k = j := fun z => c z.symm
        simp [c, c']
    have e2 : m - 2 ^ k = m ^^^ 2 ^ k := by omega
    rw [e2, Nat.testBit_xor, Nat.testBit_two_pow]
    by_cases c : i = k
    · subst c; rw [h]; simp
    · have c' : ¬ k = i := fun z => c z.symm
      simp [c, c']
theorem sub_ck (k m t : Nat) : Sub (ck k m) t ↔ Sub m (t ||| 2 ^ k) := by
  rw [sub_iff, sub_iff]
  refine forall_congr' fun i => ?_
  rw [tb_ck, Nat.testBit_or, Nat.testBit_two_pow]
  by_cases e : i = k
  · subst e; simp
  · have e' : ¬ k = i := fun z => e z.symm
    simp [e, e']
theorem sub_ck2 (k m t : Nat) : Sub m (ck k t) ↔ Sub m t ∧ m = ck k m := by
  rw [sub_iff, sub_iff]
  constructor
  · intro h
    refine ⟨fun i hi => ?_, Nat.eq_of_testBit_eq fun i => ?_⟩
    · have := h i hi
      rw [tb_ck, Bool.and_eq_true] at this
      exact this.1
    · rw [tb_ck]
      cases hm : m.testBit i
      · rfl
      · have := h i hm
        rw [tb_ck, Bool.and_eq_true] at this
        rw [this.2]; rfl
  · rintro ⟨h1, h2⟩ i hi
    rw [tb_ck, h1 i hi]
    rw [h2, tb_ck, Bool.and_eq_true] at hi
    rw [hi.2]; rfl
def met (k : Nat) (ms : List Nat) : List Nat := ms.map (ck k)
def unmet (k : Nat) (ms : List Nat) : List Nat := ms.filter fun m => decide (m = ck k m)
theorem hp_met (k : Nat) (ms : List Nat) (u : Nat) : HP (met k ms) u ↔ HP ms (u ||| 2 ^ k) := by
  constructor
  · rintro ⟨m, hm, s⟩
    obtain ⟨x, hx, rfl⟩ := List.mem_map.mp hm
    exact ⟨x, hx, (sub_ck _ _ _).mp s⟩
  · rintro ⟨x, hx, s⟩
    exact ⟨ck k x, List.mem_map.mpr ⟨x, hx, rfl⟩, (sub_ck _ _ _).mpr s⟩
theorem hp_unmet (k : Nat) (ms : List Nat) (u : Nat) : HP (unmet k ms) u ↔ HP ms (ck k u) := by
  constructor
  · rintro ⟨m, hm, s⟩
    obtain ⟨h1, h2⟩ := List.mem_filter.mp hm
    exact ⟨m, h1, (sub_ck2 _ _ _).mpr ⟨s, of_decide_eq_true h2⟩⟩
  · rintro ⟨m, hm, s⟩
    obtain ⟨h1, h2⟩ := (sub_ck2 _ _ _).mp s
    exact ⟨m, List.mem_filter.mpr ⟨hm, decide_eq_true h2⟩, h1⟩
section
variable (nn dd : Nat → Nat)
open Classical in
/-- the sum over the subsets of the r bits from k on -/
noncomputable def Pw : Nat → Nat → (Nat → Prop) → Nat
  | 0, _, h => if h 0 then 1 else 0
  | r + 1, k, h => nn k * Pw r (k + 1) (fun u => h (u ||| 2 ^ k)) + (dd k - nn k) * Pw r (k + 1) (fun u => h (ck k u))
/-- the product of r of them from k on -/
def pr : Nat → Nat → Nat
  | 0, _ => 1
  | r + 1, k => dd k * pr r (k + 1)
end
section
variable {nn dd : Nat → Nat}
theorem pw0_t {k : Nat} {h : Nat → Prop} (a : h 0) : Pw nn dd 0 k h = 1 := if_pos a
theorem pw0_f {k : Nat} {h : Nat → Prop} (a : ¬ h 0) : Pw nn dd 0 k h = 0 := if_neg a
theorem pw_true (hle : ∀ k, nn k ≤ dd k) : ∀ (r k : Nat) {h : Nat → Prop}, (∀ u, h u) → Pw nn dd r k h = pr dd r k
  | 0, k, h, a => pw0_t (a 0)
  | r + 1, k, h, a => by
    rw [Pw, pw_true hle r (k + 1) fun u => a _, pw_true hle r (k + 1) fun u => a _, ← Nat.add_mul, Nat.add_sub_cancel' (hle k)]
    rfl
theorem pw_false : ∀ (r k : Nat) {h : Nat → Prop}, (∀ u, ¬ h u) → Pw nn dd r k h = 0
  | 0, k, h, a => pw0_f (a 0)
  | r + 1, k, h, a => by rw [Pw, pw_false r (k + 1) fun u => a _, pw_false r (k + 1) fun u => a _, Nat.mul_zero, Nat.mul_zero]
theorem pw_step (r k : Nat) (ms : List Nat) : Pw nn dd (r + 1) k (HP ms) = nn k * Pw nn dd r (k + 1) (HP (met k ms)) + (dd k - nn k) * Pw nn dd r (k + 1) (HP (unmet k ms)) := by
  rw [Pw, show (HP (met k ms)) = fun u => HP ms (u ||| 2 ^ k) from funext fun u => propext (hp_met k ms u), show (HP (unmet k ms)) = fun u => HP ms (ck k u) from funext fun u => propext (hp_unmet k ms u)]
theorem pw_ext {r k : Nat} {ms ms' : List Nat} (h : ∀ u, HP ms u ↔ HP ms' u) : Pw nn dd r k (HP ms) = Pw nn dd r k (HP ms') := by
  rw [show HP ms = HP ms' from funext fun u => propext (h u)]
/-- the sum over what is still open -/
noncomputable def So (nn dd : Nat → Nat) (r k : Nat) : List (List Nat × Nat) → Nat
  | [] => 0
  | x :: L => x.2 * Pw nn dd r k (HP x.1) + So nn dd r k L
theorem so_app (r k : Nat) : ∀ L M : List (List Nat × Nat), So nn dd r k (L ++ M) = So nn dd r k L + So nn dd r k M
  | [], M => (Nat.zero_add _).symm
  | x :: L, M => by
    show x.2 * _ + So nn dd r k (L ++ M) = x.2 * _ + So nn dd r k L + So nn dd r k M
    rw [so_app r k L M, Nat.add_assoc]
theorem so_end (k : Nat) {L : List (List Nat × Nat)} (h : ∀ x ∈ L, 0 ∉ x.1) : So nn dd 0 k L = 0 := by
  induction L with
  | nil => rfl
  | cons x L ih =>
    have h0 : ¬ HP x.1 0 := fun ⟨m, hm, s⟩ => by
      rw [sub_zero] at s
      subst s
      exact h x (List.mem_cons_self ..) hm
    have e : Pw nn dd 0 k (HP x.1) = 0 := pw0_f h0
    show x.2 * _ + So nn dd 0 k L = 0
    rw [ih fun y hy => h y (List.mem_cons_of_mem _ hy), e, Nat.mul_zero]
/-- more weight for these masks -/
def upL (L : List (List Nat × Nat)) (ms : List Nat) (w : Nat) : List (List Nat × Nat) :=
  if (L.any fun x => decide (x.1 = ms)) = true then L.map fun x => if x.1 = ms then (x.1, x.2 + w) else x else L ++ [(ms, w)]
theorem so_map (r k : Nat) (ms : List Nat) (w : Nat) : ∀ {L : List (List Nat × Nat)}, (L.map (·.1)).Nodup → ms ∈ L.map (·.1) → So nn dd r k (L.map fun x => if x.1 = ms then (x.1, x.2 + w) else x) = So nn dd r k L + w * Pw nn dd r k (HP ms)
  | [], _, h => by cases h
  | x :: L, nd, h => by
    rw [List.map_cons] at nd h
    have nd' := List.nodup_cons.mp nd
    rw [List.map_cons]
    by_cases e : x.1 = ms
    · have hm : L.map (fun x => if x.1 = ms then (x.1, x.2 + w) else x) = L := by
        refine (List.map_congr_left fun y hy => ?_).trans (List.map_id _)
        rw [if_neg (fun z => nd'.1 (by rw [e, ← z]; exact List.mem_map.mpr ⟨y, hy, rfl⟩))]
        rfl
      rw [hm, if_pos e]
      show (x.2 + w) * Pw nn dd r k (HP x.1) + So nn dd r k L = x.2 * Pw nn dd r k (HP x.1) + So nn dd r k L + w * _
      rw [Nat.add_mul, e]
      omega
    · rw [if_neg e]
      have ih := so_map r k ms w nd'.2 ((List.mem_cons.mp h).resolve_left fun z => e z.symm)
      show x.2 * _ + So nn dd r k (L.map _) = x.2 * _ + So nn dd r k L + _
      rw [ih, Nat.add_assoc]
theorem any_key {L : List (List Nat × Nat)} {ms : List Nat} : (L.any fun x => decide (x.1 = ms)) = true ↔ ms ∈ L.map (·.1) := by
  rw [List.any_eq_true, List.mem_map]
  exact ⟨fun ⟨x, hx, e⟩ => ⟨x, hx, of_decide_eq_true e⟩, fun ⟨x, hx, e⟩ => ⟨x, hx, decide_eq_true e⟩⟩
theorem so_up (r k : Nat) {L : List (List Nat × Nat)} (nd : (L.map (·.1)).Nodup) (ms : List Nat) (w : Nat) : So nn dd r k (upL L ms w) = So nn dd r k L + w * Pw nn dd r k (HP ms) := by
  unfold upL
  split
  · rename_i h
    exact so_map r k ms w nd (any_key.mp h)
  · rw [so_app]; rfl
theorem up_nd {L : List (List Nat × Nat)} (nd : (L.map (·.1)).Nodup) (ms : List Nat) (w : Nat) : ((upL L ms w).map (·.1)).Nodup := by
  unfold upL
  split
  · rw [List.map_map, show (L.map ((fun x : List Nat × Nat => x.1) ∘ fun x => if x.1 = ms then (x.1, x.2 + w) else x)) = L.map (·.1) from List.map_congr_left fun x _ => by
      show (if x.1 = ms then (x.1, x.2 + w) else x).1 = x.1
      split <;> rfl]
    exact nd
  · rename_i h
    rw [List.map_append]
    refine List.nodup_append.mpr ⟨nd, by simp, fun a ha b hb e => ?_⟩
    rw [List.map_cons, List.map_nil, List.mem_singleton] at hb
    exact h (any_key.mpr (by rw [e, hb] at ha; exact ha))
theorem up_len (L : List (List Nat × Nat)) (ms : List Nat) (w : Nat) : (upL L ms w).length ≤ L.length + 1 := by
  unfold upL
  split
  · rw [List.length_map]; omega
  · rw [List.length_append]; exact Nat.le_refl _
theorem up_mem {L : List (List Nat × Nat)} {ms : List Nat} {w : Nat} {x : List Nat × Nat} (h : x ∈ upL L ms w) : (∃ y ∈ L, x.1 = y.1) ∨ x.1 = ms := by
  unfold upL at h
  split at h
  · obtain ⟨y, hy, rfl⟩ := List.mem_map.mp h
    refine .inl ⟨y, hy, ?_⟩
    split <;> rfl
  · rcases List.mem_append.mp h with h | h
    · exact .inl ⟨x, h, rfl⟩
    · rw [List.mem_singleton.mp h]; exact .inr rfl
/-! ### the ways, one after the other -/
/-- the bits from k on -/
def hi (k u : Nat) : Nat := u / 2 ^ k * 2 ^ k
theorem tb_hi (k u i : Nat) : (hi k u).testBit i = (decide (k ≤ i) && u.testBit i) := by
  unfold hi
  rw [Nat.testBit_mul_two_pow]
  by_cases c : k ≤ i
  · rw [Nat.testBit_div_two_pow, Nat.sub_add_cancel c]
  · simp [c]
theorem hi_met (t k u : Nat) : t ||| hi k (u ||| 2 ^ k) = (t ||| 2 ^ k) ||| hi (k + 1) u := by
  refine Nat.eq_of_testBit_eq fun i => ?_
  rw [Nat.testBit_or, tb_hi, Nat.testBit_or, Nat.testBit_or, Nat.testBit_or, tb_hi, Nat.testBit_two_pow]
  by_cases c : k = i
  · subst c; simp
  · by_cases c2 : k ≤ i
    · have : k + 1 ≤ i := by omega
      simp [c, c2, this]
    · have : ¬ k + 1 ≤ i := by omega
      simp [c, c2, this]
theorem hi_unmet (t k u : Nat) : t ||| hi k (ck k u) = t ||| hi (k + 1) u := by
  refine Nat.eq_of_testBit_eq fun i => ?_
  rw [Nat.testBit_or, tb_hi, Nat.testBit_or, tb_hi, tb_ck]
  by_cases c : i = k
  · subst c
    have : ¬ i + 1 ≤ i := by omega
    simp [this]
  · by_cases c2 : k ≤ i
    · have : k + 1 ≤ i := by omega
      simp [c, c2, this]
    · have : ¬ k + 1 ≤ i := by omega
      simp [c2, this]
noncomputable def Wy (nn dd : Nat → Nat) (h : Nat → Prop) (r k : Nat) : List (Nat × Nat) → Nat
  | [] => 0
  | x :: L => x.2 * Pw nn dd r k (fun u => h (x.1 ||| hi k u)) + Wy nn dd h r k L
def ext (nn dd : Nat → Nat) (k : Nat) (L : List (Nat × Nat)) : List (Nat × Nat) := L.flatMap fun x => [(x.1 ||| 2 ^ k, x.2 * nn k), (x.1, x.2 * (dd k - nn k))]
theorem wy_step (h : Nat → Prop) (r k : Nat) : ∀ L : List (Nat × Nat), Wy nn dd h r (k + 1) (ext nn dd k L) = Wy nn dd h (r + 1) k L
  | [] => rfl
  | x :: L => by
    show (x.2 * nn k) * _ + ((x.2 * (dd k - nn k)) * _ + Wy nn dd h r (k + 1) (ext nn dd k L)) = x.2 * Pw nn dd (r + 1) k _ + Wy nn dd h (r + 1) k L
    rw [wy_step h r k L, Pw]
    simp only [hi_met, hi_unmet]
    rw [Nat.mul_add, Nat.mul_assoc, Nat.mul_assoc]
    omega
theorem wy_one (h : Nat → Prop) (r : Nat) : Wy nn dd h r 0 [(0, 1)] = Pw nn dd r 0 h := by
  show 1 * Pw nn dd r 0 (fun u => h (0 ||| hi 0 u)) + 0 = _
  rw [Nat.one_mul, Nat.add_zero]
  congr 1
  funext u
  unfold hi
  rw [Nat.pow_zero, Nat.div_one, Nat.mul_one, Nat.zero_or]
open Classical in
theorem wy_end (h : Nat → Prop) (k : Nat) : ∀ L : List (Nat × Nat), Wy nn dd h 0 k L = (L.map fun x => if h x.1 then x.2 else 0).sum
  | [] => rfl
  | x :: L => by
    show x.2 * (if h (x.1 ||| hi k 0) then 1 else 0) + Wy nn dd h 0 k L = _
    rw [wy_end h k L, List.map_cons, List.sum_cons, show hi k 0 = 0 by unfold hi; rw [Nat.zero_div, Nat.zero_mul], Nat.or_zero]
    split <;> simp
theorem pr_snoc (dd : Nat → Nat) : ∀ r k : Nat, pr dd (r + 1) k = pr dd r k * dd (k + r)
  | 0, k => by show dd k * 1 = 1 * dd (k + 0); rw [Nat.mul_one, Nat.one_mul]; rfl
  | r + 1, k => by
    show dd k * pr dd (r + 1) (k + 1) = dd k * pr dd r (k + 1) * dd (k + (r + 1))
    rw [pr_snoc dd r (k + 1), ← Nat.mul_assoc, show k + 1 + r = k + (r + 1) by omega]
theorem pr_le {dd : Nat → Nat} {c : Nat} (h : ∀ k, dd k ≤ c) : ∀ r k : Nat, pr dd r k ≤ c ^ r
  | 0, _ => Nat.le_refl _
  | r + 1, k => by
    rw [pr, Nat.pow_succ, Nat.mul_comm]
    exact Nat.mul_le_mul (pr_le h r (k + 1)) (h k)
theorem pr_pos {dd : Nat → Nat} (h : ∀ k, 1 ≤ dd k) : ∀ r k : Nat, 1 ≤ pr dd r k
  | 0, _ => Nat.le_refl _
  | r + 1, k => Nat.mul_le_mul (h k) (pr_pos h r (k + 1))
theorem pw_le (hle : ∀ k, nn k ≤ dd k) : ∀ (r k : Nat) (h : Nat → Prop), Pw nn dd r k h ≤ pr dd r k
  | 0, k, h => by
    show Pw nn dd 0 k h ≤ 1
    by_cases a : h 0
    · rw [pw0_t a]; exact Nat.le_refl 1
    · rw [pw0_f a]; omega
  | r + 1, k, h => by
    rw [Pw, pr]
    have h1 := Nat.mul_le_mul_left (nn k) (pw_le hle r (k + 1) fun u => h (u ||| 2 ^ k))
    have h2 := Nat.mul_le_mul_left (dd k - nn k) (pw_le hle r (k + 1) fun u => h (ck k u))
    have h3 : nn k * pr dd r (k + 1) + (dd k - nn k) * pr dd r (k + 1) = dd k * pr dd r (k + 1) := by rw [← Nat.add_mul, Nat.add_sub_cancel' (hle k)]
    omega
end
/-- two fractions that are the same, one in lowest terms -/
theorem frac {x y S W : Nat} (hy : 1 ≤ y) (hW : 1 ≤ W) (co : Nat.gcd x y = 1) (e : x * W = y * S) : x = S / Nat.gcd S W ∧ y = W / Nat.gcd S W := by
  have d : y ∣ W := by
    have : y ∣ W * x := ⟨S, by rw [Nat.mul_comm, e]⟩
    exact (Nat.Coprime.dvd_of_dvd_mul_right (by rw [Nat.Coprime, Nat.gcd_comm]; exact co) this)
  obtain ⟨c, rfl⟩ := d
  have hS : S = x * c := by
    have : y * (x * c) = y * S := by rw [← e, Nat.mul_left_comm]
    exact (Nat.eq_of_mul_eq_mul_left hy this).symm
  subst hS
  have hc : 0 < c := Nat.pos_of_ne_zero fun z => by subst z; omega
  rw [Nat.gcd_mul_right, co, Nat.one_mul, Nat.mul_div_cancel _ hc, Nat.mul_div_cancel _ hc]
  exact ⟨rfl, rfl⟩
end CH

set_option Elab.async false
set_option linter.all false
set_option maxRecDepth 100000
set_option maxHeartbeats 4000000
/-! for k, v in d.items(), d a dict with nested keys: it is read only from then on. -/
namespace L2
open PySem PySem.W PySem.Spec PyProof.Rows
open NI
section
variable {X : Cx} {pins : List (Addr × Obj)} {σ : St} {H : Hp} {s : Shared} {d : Addr} {o : Obj}
theorem Inv.frzN {es : List (NestedKey × Addr × V)} (I : Inv X pins σ H s) (h : H d = some (.frz o (ND.nD X.prog X.w d es))) :
    (d == sysModules) = false ∧ s.heap.get? d = some o ∧ o.ExactDict ∧ ∃ (ds : Array DictEntry) (ep : Nat), o.data = .dict ds ep ∧ ds.size = es.length ∧ es.length ≤ sizeLine ∧
      ∀ (i : Nat) (e : NestedKey × Addr × V), es[i]? = some e → ∃ en, ds[i]? = some en ∧ en.key = .ref e.2.1 ∧ RelV e.2.2 en.val := by
  have hg : s.heap.get? d = some o := (I.hok d _ h).1
  obtain ⟨ds, ep, ⟨o', ho, hx, hdt⟩, hs, sz, le, at_⟩ := DictV.raw I.hok (.inl ⟨es, .inr ⟨o, h⟩, rfl⟩)
  rw [hg] at ho
  cases ho
  rw [List.length_map] at sz le
  refine ⟨hs, hg, hx, ds, ep, hdt, sz, le, fun i e he => ?_⟩
  obtain ⟨en, h1, h2, h3⟩ := at_ i (V.ref e.2.1, e.2.2) (by rw [List.getElem?_map, he]; rfl)
  exact ⟨en, h1, h2, h3⟩
end
/-- the pairs of the locked dict at d, each a new tuple -/
def Itin (P : Program) (w : World) (d : Addr) (o : Obj) (es : List (NestedKey × Addr × V)) : It :=
  ⟨fun i H => H d = some (.frz o (ND.nD P w d es)) ∧ i < es.length, fun i H x H' => ∃ T e, es[i]? = some e ∧ x = .ref T ∧ H T = none ∧ H' = upd H T (.tup [.ref e.2.1, e.2.2]), fun i H => H d = some (.frz o (ND.nD P w d es)) ∧ es.length ≤ i⟩
section
variable {P : Program} {w : World} {K : PySem.W.Frag} {d : Addr} {o : Obj} {ds : Array DictEntry} {ep : Nat}
theorem turn_itemsN {es : List (NestedKey × Addr × V)} {elts : List Expr} {kk : Nat} {tpos : Pos} (it : Addr) (hod : o.data = .dict ds ep) :
    Turn P w K (.Tuple elts kk tpos) (Itin P w d o es) [it] it (fun i h => ∃ ok ov, IsItemIter h it d i es.length ep ok ov) where
  mem := by simp
  obj := fun i h st b hb => by
    have e : b = it := by simpa using hb
    subst e
    obtain ⟨ok, ov, e⟩ := st
    exact ⟨_, e, fun v z => nomatch z⟩
  keep := fun i h h' st k => let ⟨ok, ov, e⟩ := st; ⟨ok, ov, k it (by simp) _ e⟩
  item := by
    intro X hP hw hK hc i pins s σ H E I hf st hg
    subst hP hw hK
    obtain ⟨hd, hi⟩ := hg
    obtain ⟨hs, hgd, hx, ds', ep', hdt, hsz, hle, at_⟩ := I.frzN hd
    obtain ⟨rfl, rfl⟩ := dict_ep hod hdt
    have he0 : es[i]? = some es[i] := List.getElem?_eq_getElem hi
    obtain ⟨en, h1, h2, h3⟩ := at_ i _ he0
    obtain ⟨ok, ov, he⟩ := st
    rw [← hsz] at he
    have hlt : it < s.heap.objs.size := Heap.lt_size he
    have hi' : i < ds'.size := by rw [hsz]; exact hi
    have een : ds'[i] = en := by rw [Array.getElem?_eq_getElem hi'] at h1; exact Option.some.inj h1
    refine wpAny_pyNext_items_item_raw he ⟨o, hgd, hx, hdt⟩ hi' fun h' ho hT hz hk => ?_
    rw [een] at ho hT
    refine ⟨_, rfl, wpAny_letOwnedTupleGo_items (s := { s with heap := h' }) ho fun h'' he' sb => ?_⟩
    have hT2 : h''.get? s.heap.objs.size = some { cls := .type "tuple", data := .seq #[en.key, en.val] } := (sb.2 _ (Nat.ne_of_gt hlt)).trans hT
    have new : ObjOk X.prog X.w (upd H s.heap.objs.size (.tup [.ref es[i].2.1, es[i].2.2])) h'' s.heap.objs.size (.tup [.ref es[i].2.1, es[i].2.2]) :=
      ⟨by show 2 ≤ sizeLine; decide, [en.key, en.val], .cons h2 (.cons h3 .nil), ⟨_, hT2, rfl, _, rfl⟩⟩
    have I1 : Inv X pins σ (upd H s.heap.objs.size (.tup [.ref es[i].2.1, es[i].2.2])) { s with heap := h'' } :=
      I.turnedNew (t' := s.toks) (ch := [it]) (fun b ob hb e => (sb.2 b (by simpa using hb)).trans (hk b ob (by simpa using hb) e)) hf (Nat.le_refl _) new
    refine ⟨.ref s.heap.objs.size, _, I1, rfl, ⟨_, _, he0, rfl, I.hok.fresh (Nat.le_refl _), rfl⟩, ⟨en.key, en.val, ?_⟩, fun b hb => ?_⟩
    · rw [← hsz]; exact he'
    · have e : b = it := by simpa using hb
      rw [e, upd_ne (Nat.ne_of_lt hlt)]
      exact (hf it (by simp)).1
  done := by
    intro X hP hw hK hc i pins s σ H E I hf st hg
    subst hP hw hK
    obtain ⟨hd, hi⟩ := hg
    obtain ⟨f0, f1, f2, f3, f4, f5⟩ := hf it (by simp)
    obtain ⟨hs, hgd, hx, ds', ep', hdt, hsz, hle, at_⟩ := I.frzN hd
    obtain ⟨rfl, rfl⟩ := dict_ep hod hdt
    obtain ⟨ok, ov, he⟩ := st
    rw [← hsz] at he
    exact wpAny_pyNext_items_end_raw (I.ok.hd hc) he ⟨o, hgd, hx, hdt⟩ (by omega) fun h' eb => ⟨rfl, I.turned (t' := s.toks) (fun b ob hb e => eb b ob hb e) f0 f1 f3 f4 f5⟩
  self := fun A i s Q E st h => let ⟨_, _, e⟩ := st; PySem.W.kcp_self e h
end
/-- the dict is locked by the walk -/
def iItemsN (P : Program) (w : World) (td : TE) : TI := fun σ H R => td σ H fun x H1 => ∃ d es, x = .ref d ∧ H1 d = some (ND.nD P w d es) ∧ ∀ o, R (Itin P w d o es) (upd H1 d (.frz o (ND.nD P w d es)))
section
variable {X : Cx} {e : Expr} {td : TE} {apos cpos : Pos}
theorem pi_itemsN {elts : List Expr} {kk : Nat} {tpos : Pos} (he : PE X e td) (hbase : attributeBase e "items" X.env (eval e X.env) = eval e X.env := by rfl) (hline : (apos.endLine == cpos.line) = true := by rfl) :
    PI X (.Tuple elts kk tpos) (.Call (.Attribute e "items" apos) [] [] cpos) (iItemsN X.prog X.w td) := by
  refine ⟨fun pins s σ H R I h => ?_⟩
  refine wpAny_Call_method (T := "dict") (id := "dict.items") hbase rfl hline F.plainAttrs_dict F.slot_dict_items F.type_dict_items (thn (he.run pins s σ H _ I h) fun u s1 ⟨x, H1, I1, rx, d, es, ex, hd, q⟩ => ?_)
  subst ex
  obtain rfl : u = Value.ref d := rx
  obtain ⟨od, I2⟩ := I1.lock hd trivial
  have q := q od
  have hd2 : upd H1 d (.frz od (ND.nD X.prog X.w d es)) d = some (.frz od (ND.nD X.prog X.w d es)) := upd_same
  generalize upd H1 d (.frz od (ND.nD X.prog X.w d es)) = H2 at I2 q hd2
  obtain ⟨hs, hgd, hx, ds, ep, hdt, hsz, hle, at_⟩ := I2.frzN hd2
  have hm : s1.heap.DictRaw d ds ep := ⟨od, hgd, hx, hdt⟩
  refine ⟨hm.typeIs, ?_, ?_⟩
  · intro a e
    cases e
    exact ⟨od, hgd, hx.2.1⟩
  have I3 : Inv X pins σ H2 { s1 with heap := s1.heap.push { cls := .type "dict_items", data := .fields #[.ref d] } } := I2.kept (t' := s1.toks) fun b ob q => Heap.get?_push_of_some _ q
  have fin : wpAny (model X.prog X.w) X.A (pyIter (.ref s1.heap.objs.size)) (PIE X pins σ (.Tuple elts kk tpos) R) X.xe { s1 with heap := s1.heap.push { cls := .type "dict_items", data := .fields #[.ref d] } } := by
    refine wpAny_pyIter_items_raw (d := d) ⟨_, Heap.get?_push_size _ rfl, rfl, rfl⟩ (hm.at fun o z => Heap.get?_push_of_some _ z) (pi_one (tk := s1.toks) I3 _ (turn_itemsN _ hdt) ⟨.none, .none, ?_⟩ q)
    rw [← hsz]
    exact Heap.get?_push_size _ rfl
  show wpAny _ _ (callWith cpos (.builtin "dict.items") [.ref d] [] []) _ X.xe s1
  exact method_meetsIn F.slot_dict_items F.entry_dict_items rfl (PySem.evalArgs_none ⟨rfl, hm.typeIs, F.args_dict_items_1 _, _, meets_dict_items_raw d hs, ⟨⟨ds, ep, hm⟩, fin⟩⟩)
end
theorem for_itemsN {P : Program} {w : World} {d : Addr} {o : Obj} {es : List (NestedKey × Addr × V)} {g : TG} {tb : TS} {D : Ends} {σ : L2.St} {H : Hp} (Pv : Nat → L2.St → Hp → Prop) (h0 : Pv 0 σ H) (hl : ∀ i σ H, i ≤ es.length → Pv i σ H → H d = some (.frz o (ND.nD P w d es)))
    (hs : ∀ i e T σ H, es[i]? = some e → Pv i σ H → H T = none → g (.ref T) σ (upd H T (.tup [.ref e.2.1, e.2.2])) fun σ2 H2 => tb { D with nx := Pv (i + 1), ct := Pv (i + 1), bk := D.nx } σ2 H2) (hd : ∀ σ H, Pv es.length σ H → D.nx σ H) :
    ∃ W : Nat → Nat → L2.St → Hp → Prop, (∃ m, W 0 m σ H) ∧ ∀ i m σ H, W i m σ H →
      ((Itin P w d o es).stop i H ∧ D.nx σ H) ∨ ((Itin P w d o es).go i H ∧ ∃ N : L2.St → Hp → Prop, (∀ σ' H', N σ' H' → ∃ m', m' < m ∧ W (i + 1) m' σ' H') ∧ ∀ x H', (Itin P w d o es).yld i H x H' → g x σ H' fun σ2 H2 => tb { D with nx := N, ct := N, bk := D.nx } σ2 H2) := by
  refine ⟨fun i m σ H => m = es.length - i ∧ i ≤ es.length ∧ Pv i σ H, ⟨es.length, by simp, Nat.zero_le _, h0⟩, ?_⟩
  rintro i m σ H ⟨rfl, hi, p⟩
  have q := hl i σ H hi p
  by_cases hlt : i < es.length
  · refine .inr ⟨⟨q, hlt⟩, Pv (i + 1), fun σ' H' p' => ⟨es.length - (i + 1), by omega, rfl, hlt, p'⟩, ?_⟩
    rintro x H' ⟨T, e, h1, rfl, h2, rfl⟩
    exact hs i e T σ _ h1 p h2
  · have e : i = es.length := by omega
    subst e
    exact .inl ⟨⟨q, Nat.le_refl _⟩, hd σ H p⟩
end L2

set_option Elab.async false
set_option linter.all false
set_option maxRecDepth 100000
set_option maxHeartbeats 4000000
/-! dict(a list of pairs), the first of each a tuple. -/
namespace ND
open PySem PySem.W PySem.Spec PyProof.Rows L2
theorem pairs_at {X : Cx} {pins : List (Addr × Obj)} {σ : L2.St} {H : Hp} {s : Shared} (I : Inv X pins σ H s) : ∀ (ts : List Addr) (ps : List (V × V)), ts.length = ps.length → (∀ (i : Nat) t p, ts[i]? = some t → ps[i]? = some p → SqT X.K H t [p.1, p.2]) →
    ∃ ws : List (Value × Value), VV ps ws ∧ ∀ (j : Nat) t k v, ts[j]? = some t → ws[j]? = some (k, v) → s.heap.IsTuple t #[k, v]
  | [], [], _, _ => ⟨[], .nil, fun j t k v h => (by simp at h)⟩
  | [], _ :: _, h, _ => by simp at h
  | _ :: _, [], h, _ => by simp at h
  | t :: ts, p :: ps, hl, h => by
    obtain ⟨ws, h1, h2⟩ := pairs_at I ts ps (by simpa using hl) fun i t' p' a b => h (i + 1) t' p' a b
    obtain ⟨its, rv, pl, _⟩ := I.tuple (h 0 t p rfl rfl)
    cases rv with
    | cons r1 rv =>
      cases rv with
      | cons r2 rv =>
        cases rv
        refine ⟨(_, _) :: ws, .cons ⟨r1, r2⟩ h1, fun j t' k v hj hk => ?_⟩
        rcases j with _ | j
        · cases hj
          cases hk
          exact pl
        · exact h2 j t' k v hj hk
theorem ch_at {P : Program} {w : World} {h : Heap} : ∀ {ws : List (Value × Value)} {zs : List (NestedKey × Addr × Value)}, CarriesH (nestedKind P w) h ws zs → (∀ (i : Nat) key v, ws[i]? = some (key, v) → ∃ k b, zs[i]? = some (k, b, v) ∧ key = .ref b) ∧ ∀ x ∈ zs, (nestedKind P w).is h x.1 x.2.1
  | [], [], _ => ⟨fun i key v h => (by simp at h), fun _ h => nomatch h⟩
  | (key, v) :: ws, (k, a, v') :: zs, c => by
    obtain ⟨h1, h2⟩ := ch_at c.2.2.2
    refine ⟨fun i key' u hi => ?_, fun x hx => ?_⟩
    · rcases i with _ | i
      · cases hi
        refine ⟨k, a, ?_, c.1⟩
        rw [c.2.1]; rfl
      · exact h1 i key' u hi
    · rcases List.mem_cons.mp hx with rfl | hx
      · exact c.2.2.1
      · exact h2 x hx
def rDictPN (P : Program) (w : World) (K : PySem.W.Frag) : List V → Hp → VK → Prop := fun vs H Q => ∃ (a : Addr) (ts : List Addr) (ps : List (V × V)) (es : List (NestedKey × Addr × V)), vs = [.ref a] ∧ SqL K H a (ts.map V.ref) ∧ ts.length = ps.length ∧ (∀ (i : Nat) t p, ts[i]? = some t → ps[i]? = some p → SqT K H t [p.1, p.2]) ∧ CK H ps es ∧
  ∀ d φ, H d = none → At P w (upd H d (.ext φ)) d (kvOf (mergeE [] es)) → Q (.ref d) (upd H d (.ext φ))
section
variable {X : Cx}
theorem cr_dictPN (hc : X.calm = true) (hu : X.A.units + 16 < cLine) : CallR X (.type "dict") (rDictPN X.prog X.w X.K) := by
  intro pins s σ H xs us Q I r h
  obtain ⟨a, ts, ps, es, rfl, hq, hl, hp, ck, q⟩ := h
  obtain rfl := Vals.ref1 r
  obtain ⟨its, rv, pl, hz⟩ := I.list hq
  have ei := refs_at rv
  subst ei
  rw [List.length_map] at hz
  obtain ⟨ws, vv, pt⟩ := pairs_at I ts ps hl hp
  obtain ⟨zs, ch, re⟩ := ck_carries I.hok ck vv
  have lw : ws.length = ps.length := (Paired.length vv).symm
  have lz := ch.length
  obtain ⟨c1, c2⟩ := ch_at ch
  have pk : PlainSeq "list" s.heap a (ts.map Value.ref).toArray := let ⟨o, n, h1, h2, h3, h4⟩ := pl; ⟨o, n, h1, h2, h3, h4⟩
  have pi_ : PairItems s.heap (ts.map Value.ref).toArray (fun j => ts.getD j 0) ws := by
    refine ⟨by rw [List.size_toArray, List.length_map, lw, hl], fun j k v e => ?_⟩
    have hj : j < ts.length := by rw [hl, ← lw]; exact (List.getElem?_eq_some_iff.mp e).1
    have ht := List.getElem?_eq_getElem hj
    have eg : ts.getD j 0 = ts[j] := by rw [List.getD_eq_getElem?_getD, ht]; rfl
    refine ⟨?_, .inl ?_⟩
    · rw [List.getElem?_toArray, List.getElem?_map, ht]
      show some (Value.ref ts[j]) = some (Value.ref (ts.getD j 0))
      rw [eg]
    · show s.heap.IsTuple (ts.getD j 0) #[k, v]
      rw [eg]
      exact pt j _ k v ht e
  refine call_dict_pairsH (knd := nestedKind X.prog X.w) (ps := zs) (PairArg.list a _ _ ws) (I.ok.hd hc) (by show X.A.units + 1 + 1 + 8 < cLine; omega) ⟨pk, pi_⟩ ⟨lz, c1⟩ (fun h' hk x hx => ?_) (by rw [lw, ← hl]; exact hz) fun h' tk hd' k => ?_
  · refine nestedKind_stays.stays (fun b o vs n e _ => hk b o (Nat.ne_of_lt (Heap.lt_size e)) (by simp) e) (c2 x hx)
  · have hm : (s.heap.objs.size == sysModules) = false := beq_eq_false_iff_ne.mpr (Nat.ne_of_gt I.big)
    obtain ⟨o', ds', ep', g1, g2, g3, g4, _, g5⟩ := hd'
    have hn := I.hok.fresh (Nat.le_refl s.heap.objs.size)
    have hlen : (mergeE [] es).length ≤ sizeLine := by
      refine Nat.le_trans (mergeE_len es []) ?_
      rw [List.length_nil, Nat.zero_add, Paired.length re, lz, lw, ← hl]
      exact hz
    exact ⟨.ref s.heap.objs.size, upd H s.heap.objs.size (nD X.prog X.w s.heap.objs.size (mergeE [] es)), I.laid (t' := tk) (fun b o e => k b o (by simp) e) (Nat.le_refl _) (nD_ok hlen hm (re_merge re .nil) ⟨o', ds', ep', g1, g2, g3, g4, g5⟩), rfl,
      q _ _ hn ⟨mergeE [] es, upd_same, (keyed_merge (acc := []) ck.keyed (fun _ h => nomatch h)).keeps (fun b ys e => by rw [upd_ne (ne_of_none e hn)]; exact e), rfl⟩⟩
end
end ND

set_option Elab.async false
set_option linter.all false
set_option maxRecDepth 100000
set_option maxHeartbeats 4000000
namespace K25
open PySem L2 Ew Tb GxR WM WS ND NI CH
local macro_rules | `(tactic| walk_at "len") => `(tactic| first | (intro h; obtain ⟨_, e, _⟩ := h; rw [e]; rfl) | (intro h; obtain ⟨_, _, e, _⟩ := h; rw [e]; rfl) | (intro h; obtain ⟨_, _, _, e, _⟩ := h; rw [e]; rfl) | (intro h; obtain ⟨_, _, _, _, e, _⟩ := h; rw [e]; rfl) | (intro h; obtain ⟨_, _, _, _, _, e, _⟩ := h; rw [e]; rfl) | (intro h; obtain ⟨_, _, _, _, _, _, e, _⟩ := h; rw [e]; rfl) | (intro h; obtain ⟨_, _, _, _, _, _, _, e, _⟩ := h; rw [e]; rfl) | (intro h; exact h.elim))
section
variable {P : Program} {w : World} {K : PySem.W.Frag} {mg : Str → Option Value} {base : Heap} {ad : Ad}

/-! ### keys of masks -/
def kS (s : List Nat) : NestedKey := .tup (s.map fun (n : Nat) => .num (n : Int))
theorem kS_inj {s t : List Nat} (h : kS s = kS t) : s = t := by
  injection h with h
  have : ∀ {s t : List Nat}, (s.map fun (n : Nat) => NestedKey.num (n : Int)) = (t.map fun (n : Nat) => NestedKey.num (n : Int)) → s = t := by
    intro s
    induction s with
    | nil => intro t h; cases t with
      | nil => rfl
      | cons _ _ => cases h
    | cons x s ih => intro t h; cases t with
      | nil => cases h
      | cons y t =>
        rw [List.map_cons, List.map_cons] at h
        injection h with h1 h2
        injection h1 with h1
        rw [ih h2, show x = y by omega]
  exact this h
theorem ky_nums {H : Hp} : ∀ s : List Nat, ND.Kys H (s.map fun (n : Nat) => NestedKey.num (n : Int)) (nV s)
  | [] => .nil
  | n :: s => .cons (.int _) (ky_nums s)
theorem ky_set {H : Hp} {t : Addr} {s : List Nat} (e : H t = some (.tup (nV s))) : ND.Ky H (kS s) (.ref t) := .tup e (ky_nums s)
theorem dep_kS (s : List Nat) : (kS s).depth ≤ 8 := by
  have : ∀ s : List Nat, NestedKey.depthAll (s.map fun (n : Nat) => NestedKey.num (n : Int)) = 0 := by
    intro s
    induction s with
    | nil => rfl
    | cons n s ih => show max 0 _ = 0; rw [ih]; rfl
  show NestedKey.depthAll _ + 1 ≤ 8
  rw [this]
  decide
theorem kys_nums {H : Hp} : ∀ {s : List Nat} {xs : List V}, ND.Kys H (s.map fun (n : Nat) => NestedKey.num (n : Int)) xs → xs = nV s
  | [], _, h => by cases h; rfl
  | n :: s, _, h => by
    cases h with
    | cons a r =>
      cases a
      rw [kys_nums r]; rfl
theorem set_ky {H : Hp} {v : V} {s : List Nat} (h : ND.Ky H (kS s) v) : ∃ t, v = .ref t ∧ H t = some (.tup (nV s)) := by
  cases h with
  | tup e r => exact ⟨_, rfl, by rw [e, kys_nums r]⟩
/-! ### the dict of what is still open -/
def kvL (L : List (List Nat × Nat)) : List (NestedKey × V) := L.map fun x => (kS x.1, V.int (x.2 : Nat))
def lk (L : List (List Nat × Nat)) (ms : List Nat) : Nat := ((L.find? fun x => decide (x.1 = ms)).map (·.2)).getD 0
theorem kvL_any (L : List (List Nat × Nat)) (ms : List Nat) : ((kvL L).any fun kv => decide (kv.1 = kS ms)) = L.any fun x => decide (x.1 = ms) := by
  unfold kvL
  rw [List.any_map]
  congr 1
  funext x
  show decide (kS x.1 = kS ms) = decide (x.1 = ms)
  exact decide_eq_decide.mpr ⟨kS_inj, fun e => by rw [e]⟩
theorem kvL_val (ms : List Nat) : ∀ L : List (List Nat × Nat), (valV (kvL L) (kS ms)).getD (.int 0) = .int ((lk L ms : Nat) : Int)
  | [] => rfl
  | x :: L => by
    by_cases e : x.1 = ms
    · have h1 : valV (kvL (x :: L)) (kS ms) = some (.int (x.2 : Nat)) := valV_pos (p := (kS x.1, V.int (x.2 : Nat))) (by rw [e])
      have h2 : lk (x :: L) ms = x.2 := by unfold lk; rw [List.find?_cons_of_pos (by simp [e])]; rfl
      rw [h1, h2]; rfl
    · have h1 : valV (kvL (x :: L)) (kS ms) = valV (kvL L) (kS ms) := valV_neg (p := (kS x.1, V.int (x.2 : Nat))) (fun z => e (kS_inj z))
      have h2 : lk (x :: L) ms = lk L ms := by unfold lk; rw [List.find?_cons_of_neg (by simp [e])]
      rw [h1, h2, kvL_val ms L]
theorem lk_at {ms : List Nat} : ∀ {L : List (List Nat × Nat)}, (L.map (·.1)).Nodup → ∀ x ∈ L, x.1 = ms → lk L ms = x.2
  | [], _, x, h, _ => by cases h
  | y :: L, nd, x, h, e => by
    rw [List.map_cons] at nd
    have nd' := List.nodup_cons.mp nd
    by_cases c : y.1 = ms
    · have h2 : lk (y :: L) ms = y.2 := by unfold lk; rw [List.find?_cons_of_pos (by simp [c])]; rfl
      rcases List.mem_cons.mp h with rfl | h
      · exact h2
      · exact absurd (List.mem_map.mpr ⟨x, h, e.trans c.symm⟩) nd'.1
    · have h2 : lk (y :: L) ms = lk L ms := by unfold lk; rw [List.find?_cons_of_neg (by simp [c])]
      rcases List.mem_cons.mp h with rfl | h
      · exact absurd e c
      · rw [h2]; exact lk_at nd'.2 x h e
theorem kvL_put {L : List (List Nat × Nat)} (nd : (L.map (·.1)).Nodup) (ms : List Nat) (wt : Nat) : putK (kvL L) (kS ms) (.int ((lk L ms + wt : Nat) : Int)) = kvL (upL L ms wt) := by
  unfold putK upL
  rw [kvL_any]
  split
  · unfold kvL
    rw [List.map_map, List.map_map]
    refine List.map_congr_left fun x hx => ?_
    show (if kS x.1 = kS ms then (kS x.1, V.int ((lk L ms + wt : Nat) : Int)) else (kS x.1, V.int (x.2 : Nat))) = (kS (if x.1 = ms then (x.1, x.2 + wt) else x).1, V.int ((if x.1 = ms then (x.1, x.2 + wt) else x).2 : Nat))
    by_cases e : x.1 = ms
    · rw [if_pos e, if_pos (by rw [e]), lk_at nd x hx e]
    · rw [if_neg e, if_neg (fun z => e (kS_inj z))]
  · rename_i h
    unfold kvL
    rw [List.map_append]
    have h0 : lk L ms = 0 := by
      unfold lk
      rw [List.find?_eq_none.mpr fun x hx => ?_]
      · rfl
      · intro z
        exact h (List.any_eq_true.mpr ⟨x, hx, z⟩)
    rw [h0, Nat.zero_add]
    rfl
structure OD (P : Program) (w : World) (H : Hp) (d : Addr) (L : List (List Nat × Nat)) : Prop where
  at_ : ND.At P w H d (kvL L)
  nd : (L.map (·.1)).Nodup
theorem OD.keeps {H H' : Hp} {d : Addr} {L : List (List Nat × Nat)} (x : OD P w H d L) (ha : ∀ u, H d = some u → H' d = some u) (ht : ∀ b ys, H b = some (.tup ys) → H' b = some (.tup ys)) : OD P w H' d L := ⟨x.at_.keeps ha ht, x.nd⟩
/-- what stands elsewhere stays, tables stay tables -/
structure Fd (d : Addr) (H H' : Hp) : Prop where
  keep : ∀ b o, b ≠ d → H b = some o → (∀ ps, o ≠ .tbl ps) → H' b = some o
  tabs : ∀ P', TabG H P' → TabG H' P'
theorem Fd.refl (d : Addr) (H : Hp) : Fd d H H := ⟨fun _ _ _ e _ => e, fun _ h => h⟩
theorem Fd.trans {d : Addr} {H H1 H2 : Hp} (x : Fd d H H1) (y : Fd d H1 H2) : Fd d H H2 := ⟨fun b o n e t => y.keep b o n (x.keep b o n e t) t, fun P' h => y.tabs P' (x.tabs P' h)⟩
theorem Fd.of {d : Addr} {H H' : Hp} (f : FrT H H') : Fd d H H' := ⟨fun b o _ e t => f.keep b o e t, f.tabs⟩
theorem Fd.put {d : Addr} {H : Hp} {o : HO} (h : ∀ ps, H d ≠ some (.tbl ps)) : Fd d H (upd H d o) := ⟨fun b u n e _ => by rw [upd_ne n]; exact e, fun P' ⟨ps, e, t⟩ => ⟨ps, by rw [upd_ne (fun z => h ps (by rw [← z]; exact e))]; exact e, t⟩⟩
theorem Fd.off {d : Addr} {H H1 H2 : Hp} (hd : H d = none) (f : Same H H1) (g : Fd d H1 H2) : FrT H H2 := ⟨fun b o e t => g.keep b o (ne_of_none e hd) (f _ _ e) t, fun P' h => g.tabs P' ((FrT.of f).tabs P' h)⟩
def spSettled (P : Program) (w : World) (PP : Addr) : Sp := fun vs H Q _ => ∃ (a d : Addr) (wt : Nat) (ms : List Nat) (L : List (List Nat × Nat)), vs = [.ref a, .int (wt : Int), .ref d] ∧ H a = some (.lst (nV ms)) ∧ ms.length ≤ 400 ∧ OD P w H d L ∧ L.length ≤ 1000 ∧ TabG H PP ∧
  ∀ H' (r : Nat) L', Fd d H H' → OD P w H' d L' → (∀ nn dd R k, (∀ i, nn i ≤ dd i) → r * pr dd R k + So nn dd R k L' = So nn dd R k L + wt * Pw nn dd R k (HP ms)) → L'.length ≤ L.length + 1 → (∀ x ∈ L', (∃ y ∈ L, x.1 = y.1) ∨ (x.1.length ≤ ms.length ∧ 0 ∉ x.1)) → Q (.int (r : Int)) H'
theorem ref_of {H : Hp} {t : Addr} (h : ∀ ps, H t ≠ some (.tbl ps)) : True := trivial
theorem ok_settled {PP : Addr} (c_least_masks : CalX P w K mg base 3 "least_masks" (spLeast K PP)) {f : Addr} {fd : FuncData} (F : Fun K "_settled" "_settled" s_settled f fd) (T : Txt K mg ad) : FnOk P w K mg base (L2.CX P w) 4 f fd ["masks", "weight", "still_open"] (spSettled P w PP) := by
  refine F.okX sc_settled (fun vs H Q E => ?_) (fun cdv A outer s H vs Q E hr h => ?_)
  · walk_at "len"
  ·
    obtain ⟨a, d, wt, ms0, L, rfl, ha, lm, od, ll, tg, k⟩ := h
    refine ⟨_, (pss_cons (ps_set (i := 3) sc_settled.nd rfl (by first | exact Or.inl rfl | exact Or.inr rfl) (pe_callTy call_tuple_of (by rfl) T.z_tuple (by decide +kernel) (pa_cons (pc_call c_least_masks hr (by first | decide | omega) (takes_of rfl rfl rfl rfl) (by rfl) (pa_cons (pv 0) (pa_cons (pe_callB call_len (by rfl) T.z_len (by decide +kernel) (pa_cons (pv 0) pa_nil)) pa_nil))) pa_nil)))
      (pss_cons (ps_if (pt_cmpR op_in_seq pe_int (pv 3) (by rfl)) (pss_one (ps_ret (pv 1))) pss_nil)
      (pss_cons (ps_if (PW.pt (pw_and (pt_truth (pv 3) (by intro _; rfl)) (pw_and1 (pt_cmpR op_gt (pv 1) pe_int (nomark _))))) (pss_one (ND.ps_nput (ND.hu9 hr) (pv 2) (pv 3) (pe_op op_add (ND.pe_nget2 (ND.hu9 hr) (pv 2) (pv 3) pe_int ⟨rfl, rfl, rfl, rfl⟩) (pv 1)) rfl)) pss_nil)
      (pss_one (ps_ret pe_int))))), ?_⟩
    refine go_seq ⟨_, rfl, _, rfl, .ref a, _, rfl, .inl ⟨_, SqL.of ha, rfl⟩, a, ms0.length, ms0, by rw [nV_length], SqL.of ha, Nat.le_refl _, by omega, tg, fun H1 l ms f1 l0 pm sm el => ?_⟩
    refine ⟨l, _, rfl, .inl ⟨SqL.of el, fun t ht => go_name rfl ?_⟩⟩
    have s2 := same_new (o := .tup (nV (leastA [] ms))) (Same.refl H1) ht
    have et : (upd H1 t (.tup (nV (leastA [] ms)))) t = some (.tup (nV (leastA [] ms))) := upd_same
    have f2 : FrT H (upd H1 t (.tup (nV (leastA [] ms)))) := f1.trans (FrT.of s2)
    generalize upd H1 t (.tup (nV (leastA [] ms))) = H2 at et f2
    have up : ∀ u, HP (leastA [] ms) u ↔ HP ms0 u := fun u => by
      rw [(least_of sm).upIff u]
      exact ⟨fun ⟨m, h, s⟩ => ⟨m, pm.mem_iff.mp h, s⟩, fun ⟨m, h, s⟩ => ⟨m, pm.mem_iff.mpr h, s⟩⟩
    have ln : (leastA [] ms).length ≤ ms0.length := by
      have := leastA_len ms []
      rw [List.length_nil, pm.length_eq] at this
      omega
    generalize leastA [] ms = ls at et up ln
    obtain ⟨φ, ed⟩ := od.at_.ext
    have od2 : OD P w H2 d L := od.keeps (fun u h => f2.keep _ _ h (fun ps z => by rw [ed] at h; cases h; cases z)) fun b ys h => f2.tup h
    refine go_sq ?_
    refine ⟨_, rfl, t, nV ls, rfl, .inr (SqT.of et), rfl, KM.nV_flat ls, _, rfl, ?_⟩
    rw [show (if false = true then !inV (.int 0) (nV ls) else inV (.int 0) (nV ls)) = decide (0 ∈ ls) from KM.inV_nV 0 ls]
    by_cases c0 : 0 ∈ ls
    · rw [decide_eq_true c0]
      refine iteT ⟨_, rfl, ?_⟩
      refine k H2 wt L (Fd.of f2) od2 (fun nn dd R k hle => ?_) (Nat.le_succ _) (fun x hx => .inl ⟨x, hx, rfl⟩)
      rw [pw_true hle R k fun u => (up u).mp ⟨0, c0, zero_sub u⟩, Nat.add_comm]
    rw [decide_eq_false c0]
    refine iteF (go_next ?_)
    have done0 : (∀ nn dd R k, (∀ i, nn i ≤ dd i) → 0 * pr dd R k + So nn dd R k L = So nn dd R k L + wt * Pw nn dd R k (HP ms0)) → Q (.int ((0 : Nat) : Int)) H2 := fun e => k H2 0 L (Fd.of f2) od2 e (Nat.le_succ _) (fun x hx => .inl ⟨x, hx, rfl⟩)
    refine go_sq ?_
    refine ⟨_, rfl, !ls.isEmpty, ?_, ?_⟩
    · refine .inr (.inl ⟨nV ls, SqT.of et, ?_⟩)
      cases ls <;> rfl
    by_cases c1 : ls = []
    · subst c1
      refine iteF (go_next (done0 fun nn dd R k _ => ?_))
      rw [pw_false R k fun u z => (by obtain ⟨m, hm, _⟩ := (up u).mpr z; cases hm)]
      omega
    have e1 : (!ls.isEmpty) = true := by cases ls; exact absurd rfl c1; rfl
    rw [e1]
    refine iteT ?_
    refine ⟨_, rfl, _, _, rfl, rfl, _, rfl, ?_⟩
    by_cases c2 : 0 < wt
    · rw [decide_eq_true (show (0 : Int) < (wt : Int) by omega)]
      refine iteT ?_
      refine ⟨_, rfl, d, kvL L, rfl, od2.at_.rd, _, rfl, _, ⟨kvL L, kS ls, t, od2.at_.rd, rfl, ky_set et, dep_kS ls, rfl⟩, _, rfl, _, _, kvL_val ls L, rfl, _, rfl, _, rfl, d, rfl, kvL L, kS ls, t, od2.at_, rfl, ky_set et, dep_kS ls, ?_, fun φ2 hφ2 => ?_⟩
      · unfold kvL
        rw [List.length_map]
        exact Nat.lt_of_le_of_lt ll (by decide)
      · have hd2 : ∀ ps, H2 d ≠ some (.tbl ps) := fun ps z => by
          obtain ⟨φ', e'⟩ := od2.at_.ext
          rw [z] at e'; cases e'
        have hφ3 : ND.At P w (upd H2 d (.ext φ2)) d (kvL (upL L ls wt)) := by
          rw [← kvL_put od.nd ls wt, Int.natCast_add]; exact hφ2
        refine go_nx (go_ret ?_)
        refine k _ 0 (upL L ls wt) ((Fd.of f2).trans (Fd.put hd2)) ⟨hφ3, up_nd od.nd ls wt⟩ (fun nn dd R k _ => ?_) (up_len L ls wt) (fun x hx => ?_)
        · rw [so_up R k od.nd, pw_ext up]
          omega
        · rcases up_mem hx with h | h
          · exact .inl h
          · exact .inr ⟨by rw [h]; exact ln, by rw [h]; exact c0⟩
    · rw [decide_eq_false (show ¬ (0 : Int) < (wt : Int) by omega)]
      refine iteF (go_next (done0 fun nn dd R k _ => ?_))
      rw [show wt = 0 by omega]
      omega
end
end K25

set_option Elab.async false
set_option linter.all false
set_option maxRecDepth 100000
set_option maxHeartbeats 4000000
namespace K25
open PySem L2 Ew Tb GxR WM WS ND NI CH
local macro_rules | `(tactic| walk_at "len") => `(tactic| first | (intro h; obtain ⟨_, e, _⟩ := h; rw [e]; rfl) | (intro h; obtain ⟨_, _, e, _⟩ := h; rw [e]; rfl) | (intro h; obtain ⟨_, _, _, e, _⟩ := h; rw [e]; rfl) | (intro h; obtain ⟨_, _, _, _, e, _⟩ := h; rw [e]; rfl) | (intro h; obtain ⟨_, _, _, _, _, e, _⟩ := h; rw [e]; rfl) | (intro h; obtain ⟨_, _, _, _, _, _, e, _⟩ := h; rw [e]; rfl) | (intro h; obtain ⟨_, _, _, _, _, _, _, e, _⟩ := h; rw [e]; rfl) | (intro h; exact h.elim))
section
variable {P : Program} {w : World} {K : PySem.W.Frag} {mg : Str → Option Value} {base : Heap} {ad : Ad}

theorem Sets.mono {K : PySem.W.Frag} {H H' : Hp} {ts : List Addr} {ss : List (List Nat)} (x : Sets K H ts ss) (f : FrT H H') : Sets K H' ts ss := ⟨x.1, fun i t s a b => f.tup (x.2 i t s a b)⟩
theorem bck (m k : Nat) : Builtin.bitAnd (m : Int) (Builtin.bitNot ((1 : Int) * 2 ^ ((k : Int).toNat))) = ((ck k m : Nat) : Int) := by
  rw [Int.toNat_natCast, Int.one_mul]
  have e : ((2 : Int) ^ k) = ((2 ^ k : Nat) : Int) := (Int.natCast_pow 2 k).symm
  have hp : 0 < 2 ^ k := Nat.two_pow_pos k
  rw [e, PyProof.Rows.bitAnd_pn (Int.natCast_nonneg m) (by unfold Builtin.bitNot; omega)]
  have e2 : (Builtin.bitNot (Builtin.bitNot ((2 ^ k : Nat) : Int))).toNat = 2 ^ k := by unfold Builtin.bitNot; omega
  rw [e2, Int.toNat_natCast]
  unfold ck
  have : m &&& 2 ^ k ≤ m := Nat.and_le_left
  omega
def spChance (K : PySem.W.Frag) (PP TL : Addr) : Sp := fun vs H Q E => ∃ (a c : Addr) (ts : List Addr) (ss : List (List Nat)), vs = [.ref a, .ref c] ∧ SqT K H a (ts.map V.ref) ∧ Sets K H ts ss ∧ (∀ s ∈ ss, Asc s) ∧ (∀ s ∈ ss, ∀ x ∈ s, x < 60) ∧ ss.length ≤ 400 ∧ TabG H PP ∧
  ∀ F, Asc F → (∀ x, x ∈ F ↔ ∃ s ∈ ss, x ∈ s) → (20 < F.length ∧ ∀ H', FrT H H' → E (.ref TL) none H') ∨
    (F.length ≤ 7 ∧ ∃ (kvs : List (L2.Key × V)) (q : Nat → Addr) (N D : Nat → Nat), H c = some (.dK kvs) ∧ (∀ x ∈ F, valV kvs (.inl (x : Int)) = some (.ref (q x)) ∧ H (q x) = some (.tup [.int (N x : Nat), .int (D x : Nat)])) ∧ (∀ x, N x ≤ D x ∧ 1 ≤ D x ∧ D x ≤ 12) ∧
      ∀ H' t S W, S = Pw (fun k => N (F.getD k 0)) (fun k => D (F.getD k 0)) F.length 0 (HP (ss.map (mask F))) → W = pr (fun k => D (F.getD k 0)) F.length 0 → FrT H H' → H' t = some (.tup [.int ((S / Nat.gcd S W : Nat) : Int), .int ((W / Nat.gcd S W : Nat) : Int)]) → Q (.ref t) H')
theorem ok_chance {PP : Addr} (c_facts_of : CalX P w K mg base 1 "facts_of" (spFacts K)) (c_masks_of : CalX P w K mg base 1 "masks_of" (spMasks K)) (c_settled : CalX P w K mg base 4 "_settled" (spSettled P w PP)) {f : Addr} {fd : FuncData} (F : Fun K "chance" "chance" s_chance f fd) (T : Txt K mg ad) : FnOk P w K mg base (L2.CX P w) 5 f fd ["whys", "chances"] (spChance K PP ad.TooLarge) := by
  refine F.okX sc_chance (fun vs H Q E => ?_) (fun cdv A outer s H vs Q E hr h => ?_)
  · walk_at "len"
  ·
    obtain ⟨a, c, ts, ss, rfl, hS, hs, asc, lt, sl, tg, k⟩ := h
    refine ⟨_, (pss_cons (ps_set (i := 2) sc_chance.nd rfl (by first | exact Or.inl rfl | exact Or.inr rfl) (pc_call c_facts_of hr (by first | decide | omega) (takes_of rfl rfl rfl rfl) (by rfl) (pa_cons (pv 0) pa_nil)))
      (pss_cons (ps_if (pt_cmpR op_gt (pe_callB call_len (by rfl) T.z_len (by decide +kernel) (pa_cons (pv 2) pa_nil)) (pe_gint (by rfl) T.g_MOST_FACTS) (nomark _)) (pss_one (ps_raise rfl (takes_of rfl rfl rfl rfl) (pmk_own PySem.F.excBase_ValueError T.x_TooLarge T.g_TooLarge T.k_TooLarge (raises_own T.b_TooLarge T.t_TooLarge) (by rfl)))) pss_nil)
      (pss_cons (ps_set (i := 3) sc_chance.nd rfl (by first | exact Or.inl rfl | exact Or.inr rfl) ND.pe_nnew)
      (pss_cons (ps_set (i := 4) sc_chance.nd rfl (by first | exact Or.inl rfl | exact Or.inr rfl) (pc_call c_settled hr (by first | decide | omega) (takes_of rfl rfl rfl rfl) (by rfl) (pa_cons (pc_call c_masks_of hr (by first | decide | omega) (takes_of rfl rfl rfl rfl) (by rfl) (pa_cons (pv 0) (pa_cons (pv 2) pa_nil))) (pa_cons pe_int (pa_cons (pv 3) pa_nil)))))
      (pss_cons (ps_set (i := 5) sc_chance.nd rfl (by first | exact Or.inl rfl | exact Or.inr rfl) pe_int)
      (pss_cons (ps_for (passes_of rfl) rfl (pi_enum (by rfl) T.z_enumerate (pa_cons (pv 2) pa_nil)) (pg_tup rfl (pgs_cons (pg_name (i := 6) sc_chance.nd rfl (by first | exact Or.inl rfl | exact Or.inr rfl)) (pgs_cons (pg_name (i := 7) sc_chance.nd rfl (by first | exact Or.inl rfl | exact Or.inr rfl)) pgs_nil))) (pss_cons (ps_asg (pe_dget (hu_of hr) (pv 1) (pv 7) (fun _ _ => rfl)) (pg_tup rfl (pgs_cons (pg_name (i := 8) sc_chance.nd rfl (by first | exact Or.inl rfl | exact Or.inr rfl)) (pgs_cons (pg_name (i := 9) sc_chance.nd rfl (by first | exact Or.inl rfl | exact Or.inr rfl)) pgs_nil))))
      (pss_cons (ps_set (i := 10) sc_chance.nd rfl (by first | exact Or.inl rfl | exact Or.inr rfl) ND.pe_nnew)
      (pss_cons (ps_set (i := 4) sc_chance.nd rfl (by first | exact Or.inl rfl | exact Or.inr rfl) (pe_op op_mul (pv 4) (pv 9)))
      (pss_cons (ps_set (i := 5) sc_chance.nd rfl (by first | exact Or.inl rfl | exact Or.inr rfl) (pe_op op_mul (pv 5) (pv 9)))
      (pss_cons (ps_for (passes_of rfl) rfl (pi_itemsN (pv 3)) (pg_tup rfl (pgs_cons (pg_name (i := 11) sc_chance.nd rfl (by first | exact Or.inl rfl | exact Or.inr rfl)) (pgs_cons (pg_name (i := 12) sc_chance.nd rfl (by first | exact Or.inl rfl | exact Or.inr rfl)) pgs_nil))) (pss_cons (ps_setLc (i := 13) (own := [("mask", 16)]) (tt := tYes) rfl sc_chance.nd rfl rfl (sw_true rfl rfl rfl (by decide +kernel)) (pi_tup (pv 11)) (blkOk_by (by kernel_rfl)) (fun _ _ _ _ _ => (pg_name (i := 16) sc_chance.nd rfl (by first | exact Or.inl rfl | exact Or.inr rfl))) (fun _ _ _ _ _ => pts_nil) (fun _ _ _ _ _ => (pe_op op_and (pv 16) (pe_un un_inv (pe_op op_shl pe_int (pv 6))))))
      (pss_cons (ps_setLc (i := 14) (own := [("mask", 16)]) rfl sc_chance.nd rfl rfl (sw_true rfl rfl rfl (by decide +kernel)) (pi_tup (pv 11)) (blkOk_by (by kernel_rfl)) (fun _ _ _ _ _ => (pg_name (i := 16) sc_chance.nd rfl (by first | exact Or.inl rfl | exact Or.inr rfl))) (fun _ _ _ _ _ => (pts_one (pt_cmpR op_eq (pv 16) (pe_op op_and (pv 16) (pe_un un_inv (pe_op op_shl pe_int (pv 6)))) (nomark _)))) (fun _ _ _ _ _ => (pv 16)))
      (pss_cons (ps_set (i := 4) sc_chance.nd rfl (by first | exact Or.inl rfl | exact Or.inr rfl) (pe_op op_add (pv 4) (pc_call c_settled hr (by first | decide | omega) (takes_of rfl rfl rfl rfl) (by rfl) (pa_cons (pv 13) (pa_cons (pe_op op_mul (pv 12) (pv 8)) (pa_cons (pv 10) pa_nil))))))
      (pss_one (ps_set (i := 4) sc_chance.nd rfl (by first | exact Or.inl rfl | exact Or.inr rfl) (pe_op op_add (pv 4) (pc_call c_settled hr (by first | decide | omega) (takes_of rfl rfl rfl rfl) (by rfl) (pa_cons (pv 14) (pa_cons (pe_op op_mul (pv 12) (pe_op op_sub (pv 9) (pv 8))) (pa_cons (pv 10) pa_nil)))))))))))
      (pss_one (ps_set (i := 3) sc_chance.nd rfl (by first | exact Or.inl rfl | exact Or.inr rfl) (pv 10)))))))))
      (pss_cons (ps_set (i := 15) sc_chance.nd rfl (by first | exact Or.inl rfl | exact Or.inr rfl) (pe_callBfun cr_gcd (by rfl) T.g_gcd (pa_cons (pv 4) (pa_cons (pv 5) pa_nil))))
      (pss_one (ps_ret (pe_tup (pa_cons (pe_op op_fdiv (pv 4) (pv 15)) (pa_cons (pe_op op_fdiv (pv 5) (pv 15)) pa_nil)))))))))))), ?_⟩
    refine go_seq ⟨_, rfl, a, ts, ss, rfl, hS, hs, lt, fun H1 l F s1 l0 eF ascF memF => go_name rfl ?_⟩
    have k := k F ascF memF
    refine go_sq ?_
    refine ⟨_, rfl, .ref l, _, rfl, .inl ⟨_, SqL.of eF, rfl⟩, ?_⟩
    rcases k with ⟨h20, k⟩ | ⟨h7, kvs, q, N, Dn, ec, hq, hN, k⟩
    · refine ⟨_, _, rfl, rfl, _, rfl, ?_⟩
      rw [decide_eq_true (show (20 : Int) < ((nV F).length : Nat) by rw [nV_length]; omega)]
      exact iteT (k H1 (FrT.of s1))
    refine ⟨_, _, rfl, rfl, _, rfl, ?_⟩
    rw [decide_eq_false (show ¬ (20 : Int) < ((nV F).length : Nat) by rw [nV_length]; omega)]
    refine iteF (go_next ?_)
    have hsF : ∀ s ∈ ss, s.length ≤ 64 ∧ ∀ x ∈ s, x ∈ F := fun s hs' => ⟨Nat.le_trans (nd_len 60 s (asc s hs').nd (lt s hs')) (by decide), fun x hx => (memF x).mpr ⟨s, hs', hx⟩⟩
    have ec1 := s1 _ _ ec
    have hq1 : ∀ x ∈ F, valV kvs (.inl (x : Int)) = some (.ref (q x)) ∧ H1 (q x) = some (.tup [.int (N x : Nat), .int (Dn x : Nat)]) := fun x hx => ⟨(hq x hx).1, s1 _ _ (hq x hx).2⟩
    have f01 := FrT.of s1
    have hS1 := sqTm s1 hS
    have hs1 := hs.mono f01
    have tg1 := f01.tabs _ tg
    obtain ⟨nn, hnn⟩ : ∃ nn : Nat → Nat, nn = fun k => N (F.getD k 0) := ⟨_, rfl⟩
    obtain ⟨dd, hdd⟩ : ∃ dd : Nat → Nat, dd = fun k => Dn (F.getD k 0) := ⟨_, rfl⟩
    have hle : ∀ k, nn k ≤ dd k := fun k => by rw [hnn, hdd]; exact (hN _).1
    have h1d : ∀ k, 1 ≤ dd k := fun k => by rw [hdd]; exact (hN _).2.1
    have hd12 : ∀ k, dd k ≤ 12 := fun k => by rw [hdd]; exact (hN _).2.2
    rw [← hnn, ← hdd] at k
    refine go_seq fun o φ ho at_ => go_name rfl ?_
    have s2 : Same H1 (upd H1 o (.ext φ)) := same_new (Same.refl _) ho
    have od2 : OD P w (upd H1 o (.ext φ)) o [] := ⟨at_, List.nodup_nil⟩
    generalize upd H1 o (.ext φ) = H2 at s2 od2
    obtain ⟨ms, hms⟩ : ∃ ms, ms = ss.map (mask F) := ⟨_, rfl⟩
    have lms : ms.length ≤ 400 := by rw [hms, List.length_map]; exact sl
    refine go_seq ⟨_, rfl, _, rfl, a, l, ts, ss, F, rfl, sqTm s2 hS1, hs1.mono (FrT.of s2), SqL.of (s2 _ _ eF), ascF.nd, by omega, by omega, hsF, fun H3 lm s3 lm0 em => ?_⟩
    rw [← hms] at em k
    have s13 : Same H1 H3 := fun b o z => s3 _ _ (s2 _ _ z)
    have od3 := od2.keeps (fun u h => s3 _ _ h) fun b ys h => s3 _ _ h
    refine ⟨_, rfl, lm, o, 1, ms, [], rfl, em, lms, od3, Nat.zero_le _, (FrT.of s13).tabs _ tg1, fun H4 r0 L0 fd4 od4 eq4 ll4 mem4 => go_name rfl ?_⟩
    have f14 := Fd.off ho s13 fd4
    have eq4 := eq4 nn dd F.length 0 hle
    rw [show So nn dd F.length 0 [] = 0 from rfl, Nat.zero_add, Nat.one_mul] at eq4
    generalize hS0 : Pw nn dd F.length 0 (HP ms) = S0 at eq4 k
    refine go_seq (go_name rfl ?_)
    refine go_sq ?_
    refine ⟨_, rfl, l, _, rfl, SqL.of (f14.lst eF), ?_⟩
    refine for_it walk_enum (fun i σ H' => ∃ (o : Addr) (s : Nat) (L : List (List Nat × Nat)) (v6 v7 v8 v9 v10 v11 v12 v13 v14 : Option V), σ = [some (.ref a), some (.ref c), some (.ref l), some (.ref o), some (.int (s : Int)), some (.int (pr dd i 0 : Nat)), v6, v7, v8, v9, v10, v11, v12, v13, v14, none, none] ∧ FrT H1 H' ∧ (∀ b u, H1 b = some u → (∀ ps, u ≠ .tbl ps) → b ≠ o) ∧ OD P w H' o L ∧ s * pr dd (F.length - i) i + So nn dd (F.length - i) i L = S0 ∧ L.length ≤ 2 ^ i ∧ ∀ x ∈ L, x.1.length ≤ 400 ∧ 0 ∉ x.1)
      ⟨o, r0, L0, none, none, none, none, none, none, none, none, none, rfl, f14, (fun b u e _ => ne_of_none e ho), od4, eq4, ll4, fun x hx => (mem4 x hx).elim (fun ⟨y, hy, _⟩ => (nomatch hy)) fun ⟨h1, h2⟩ => ⟨by omega, h2⟩⟩ (fun i σ H' _ ⟨_, _, _, _, _, _, _, _, _, _, _, _, _, f', _⟩ => SqL.of (f'.lst eF)) ?_ ?_
    · rintro i z σ H5 H6 hi ⟨o, s, L, v6, v7, v8, v9, v10, v11, v12, v13, v14, rfl, f5, ho, od5, eq5, ll5, mem5⟩ ⟨T, x, y, rfl, hT, rfl, hx, hy⟩
      cases hx
      obtain ⟨x, hxF, rfl⟩ := nV_in hy
      have xm := List.mem_of_getElem? hxF
      have egx : F.getD i 0 = x := by rw [List.getD_eq_getElem?_getD, hxF]; rfl
      have hiF : i < F.length := by rw [nV_length] at hi; exact hi
      have enn : nn i = N x := by rw [hnn, ← egx]
      have edd : dd i = Dn x := by rw [hdd, ← egx]
      obtain ⟨hv, hqx⟩ := hq1 x xm
      obtain ⟨hNx, h1x, h12x⟩ := hN x
      have s56 := same_new (o := .tup [.int (i : Nat), .int (x : Nat)]) (Same.refl H5) hT
      have e6 : (upd H5 T (.tup [.int (i : Nat), .int (x : Nat)])) T = some (.tup [.int (i : Nat), .int (x : Nat)]) := upd_same
      generalize upd H5 T (.tup [.int (i : Nat), .int (x : Nat)]) = H6 at s56 e6
      have f6 := f5.trans (FrT.of s56)
      have ec6 : H6 c = some (.dK kvs) := f6.keep _ _ ec1 (fun ps z => nomatch z)
      have od6 := od5.keeps (fun u h => s56 _ _ h) fun b ys h => s56 _ _ h
      refine ⟨T, _, rfl, SqT.of e6, rfl, _, _, rfl, go_name rfl ⟨_, _, rfl, go_name rfl ⟨rfl, ?_⟩⟩⟩
      refine go_sq ?_
      refine ⟨_, rfl, _, rfl, c, _, rfl, hv ▸ DGet.k (k := .inl (x : Int)) ec6, q x, _, rfl, SqT.of (f6.tup hqx), rfl, _, _, rfl, go_name rfl ⟨_, _, rfl, go_name rfl ⟨rfl, go_nx (go_sq ?_)⟩⟩⟩
      refine fun g φg hg atg => go_name rfl (go_nx (go_sq ?_))
      have s67 : Same H6 (upd H6 g (.ext φg)) := same_new (Same.refl _) hg
      have odg : OD P w (upd H6 g (.ext φg)) g [] := ⟨atg, List.nodup_nil⟩
      generalize upd H6 g (.ext φg) = H7 at s67 odg
      have f7 := f6.trans (FrT.of s67)
      have od7 := od6.keeps (fun u h => s67 _ _ h) fun b ys h => s67 _ _ h
      refine ⟨_, rfl, _, rfl, _, _, rfl, rfl, .inr ⟨by omega, by omega⟩, go_name rfl (go_nx (go_sq ?_))⟩
      refine ⟨_, rfl, _, rfl, _, _, rfl, rfl, .inr ⟨by omega, by omega⟩, go_name rfl (go_nx (go_sq ?_))⟩
      obtain ⟨es, eo, kd, ekv⟩ := od7.at_
      refine ⟨_, rfl, o, es, rfl, eo, fun ob => ?_⟩
      have nog : o ≠ g := by
        obtain ⟨φ', e'⟩ := od6.at_.ext
        exact ne_of_none e' hg
      have hg7 : ∃ φ', H7 g = some (.ext φ') := odg.at_.ext
      have at_es : ∀ (j : Nat) (e : NestedKey × Addr × V), es[j]? = some e → ∃ (ml : List Nat) (wt : Nat), L[j]? = some (ml, wt) ∧ e.2.2 = .int ((wt : Nat) : Int) ∧ H7 e.2.1 = some (.tup (nV ml)) := fun j e he => by
        have h1 : (ND.kvOf es)[j]? = some (e.1, e.2.2) := by unfold ND.kvOf; rw [List.getElem?_map, he]; rfl
        rw [← ekv] at h1
        unfold kvL at h1
        rw [List.getElem?_map] at h1
        obtain ⟨y, hy, ey⟩ := Option.map_eq_some_iff.mp h1
        injection ey with e1 e2
        have hk := (kd e (List.mem_of_getElem? he)).1
        rw [← e1] at hk
        obtain ⟨t, et, htt⟩ := set_ky hk
        cases et
        exact ⟨y.1, y.2, hy, e2.symm, htt⟩
      have les : es.length = L.length := by
        have := congrArg List.length ekv
        unfold kvL ND.kvOf at this
        rw [List.length_map, List.length_map] at this
        exact this.symm
      have f8 : FrT H1 (upd H7 o (.frz ob (ND.nD P w o es))) := ⟨fun b u e n => by rw [upd_ne (ho b u e n)]; exact f7.keep b u e n, fun P' h => by
        obtain ⟨ps, e, ok⟩ := f7.tabs P' h
        have : P' ≠ o := fun z => by rw [z, eo] at e; cases e
        exact ⟨ps, by rw [upd_ne this]; exact e, ok⟩⟩
      have t8 : ∀ b ys, H7 b = some (.tup ys) → (upd H7 o (.frz ob (ND.nD P w o es))) b = some (.tup ys) := fun b ys e => by
        rw [upd_ne (fun z => by rw [z, eo] at e; cases e)]; exact e
      have od8 : OD P w (upd H7 o (.frz ob (ND.nD P w o es))) g [] := odg.keeps (fun u h => by rw [upd_ne (Ne.symm nog)]; exact h) t8
      have eo8 : (upd H7 o (.frz ob (ND.nD P w o es))) o = some (.frz ob (ND.nD P w o es)) := upd_same
      have at8 : ∀ (j : Nat) (e : NestedKey × Addr × V), es[j]? = some e → ∃ (ml : List Nat) (wt : Nat), L[j]? = some (ml, wt) ∧ e.2.2 = .int ((wt : Nat) : Int) ∧ (upd H7 o (.frz ob (ND.nD P w o es))) e.2.1 = some (.tup (nV ml)) := fun j e he => let ⟨ml, wt, h1, h2, h3⟩ := at_es j e he; ⟨ml, wt, h1, h2, t8 _ _ h3⟩
      have hg8 : ∃ φ', (upd H7 o (.frz ob (ND.nD P w o es))) g = some (.ext φ') := od8.at_.ext
      obtain ⟨H8, e8⟩ : ∃ G, G = upd H7 o (.frz ob (ND.nD P w o es)) := ⟨_, rfl⟩
      rw [← e8] at f8 od8 eo8 hg8
      simp only [← e8] at at8
      obtain ⟨φ8, hg8⟩ := hg8
      obtain ⟨R, hR⟩ : ∃ R, F.length - i = R + 1 := ⟨F.length - i - 1, by omega⟩
      have hR' : F.length - (i + 1) = R := by omega
      have tup8 : ∀ {b ys}, H8 b = some (.tup ys) → b ≠ g := fun e z => by rw [z, hg8] at e; cases e
      refine for_itemsN (fun j σ H' => ∃ (s' : Nat) (M : List (List Nat × Nat)) (v11 v12 v13 v14 : Option V), σ = [some (.ref a), some (.ref c), some (.ref l), some (.ref o), some (.int (s' : Int)), some (.int ((pr dd i 0 * Dn x : Nat) : Int)), some (.int (i : Int)), some (.int (x : Int)), some (.int (N x : Nat)), some (.int (Dn x : Nat)), some (.ref g), v11, v12, v13, v14, none, none] ∧ Fd g H8 H' ∧ OD P w H' g M ∧ s' * pr dd R (i + 1) + So nn dd R (i + 1) M = s * Dn x * pr dd R (i + 1) + So nn dd (R + 1) i (L.take j) ∧ M.length ≤ 2 * j ∧ ∀ x ∈ M, x.1.length ≤ 400 ∧ 0 ∉ x.1)
        ⟨s * Dn x, [], v11, v12, v13, v14, rfl, (by rw [e8]; exact Fd.refl _ _), (by rw [e8] at od8; exact od8), rfl, Nat.le_refl _, fun _ h => (nomatch h)⟩ (fun j σ H' _ ⟨_, _, _, _, _, _, _, fd, _⟩ => fd.keep _ _ nog eo8 (fun ps z => nomatch z)) ?_ ?_
      · rintro j e T2 σ H9 he ⟨s', M, v11, v12, v13, v14, rfl, fd9, odM, eqM, llM, memM⟩ hT2
        obtain ⟨ml, wt, hL, ew, et⟩ := at8 j e he
        obtain ⟨ek, ea, ev⟩ := e
        have ew : ev = .int ((wt : Nat) : Int) := ew
        subst ew
        have et : H8 ea = some (.tup (nV ml)) := et
        have s910 := same_new (o := .tup [.ref ea, .int ((wt : Nat) : Int)]) (Same.refl H9) hT2
        have e10 : (upd H9 T2 (.tup [.ref ea, .int ((wt : Nat) : Int)])) T2 = some (.tup [.ref ea, .int ((wt : Nat) : Int)]) := upd_same
        have fd10 := fd9.trans (Fd.of (FrT.of s910))
        have odM := odM.keeps (fun u h => s910 _ _ h) fun b ys h => s910 _ _ h
        show gTup _ _ _ _ _ (upd H9 T2 (.tup [.ref ea, .int ((wt : Nat) : Int)])) _
        generalize upd H9 T2 (.tup [.ref ea, .int ((wt : Nat) : Int)]) = H10 at s910 e10 fd10 odM
        have et10 := fd10.keep _ _ (tup8 et) et (fun ps z => nomatch z)
        have mlL := mem5 (ml, wt) (List.mem_of_getElem? hL)
        have ml400 : ml.length ≤ 400 := mlL.1
        refine ⟨T2, _, rfl, SqT.of e10, rfl, _, _, rfl, go_name rfl ⟨_, _, rfl, go_name rfl ⟨rfl, ?_⟩⟩⟩
        refine go_sq ⟨_, rfl, ea, rfl, ⟨_, SqT.of et10⟩, fun D1 hD1 => ?_⟩
        refine DC2.walk_t (K := K) (xs := nV ml) (fun t H' => Same H10 H' ∧ H' D1 = some (.lst (nV (met i (ml.take t))))) ⟨same_new (Same.refl _) hD1, upd_same⟩ (fun t H' _ ⟨s', _⟩ => SqT.of (s' _ _ et10)) (fun t z H11 hz ⟨s11, e11⟩ => ?_) (fun H11 ⟨s11, e11⟩ => go_name rfl (go_nx (go_sq ?_)))
        · obtain ⟨m, hm, rfl⟩ := nV_in hz
          refine ⟨rfl, yes_then (iteT ⟨_, rfl, _, rfl, _, _, rfl, rfl, ⟨by omega, by omega, by decide⟩, _, rfl, _, _, rfl, rfl, _, e11, ?_, same_but hD1 s11 but_app, ?_⟩)⟩
          · rw [nV_length]
            unfold met
            rw [List.length_map, List.length_take]
            exact Nat.lt_of_le_of_lt (by omega : _ ≤ 1000) (by decide)
          · rw [upd_same, List.take_add_one, hm, show (some m).toList = [m] from rfl]
            unfold met
            rw [List.map_append, show (List.map (ck i) [m]) = [ck i m] from rfl, ← nV_app]
            show _ = some (HO.lst (_ ++ [V.int ((ck i m : Nat) : Int)]))
            rw [← bck m i]
        · rw [nV_length, List.take_length] at e11
          refine ⟨_, rfl, ea, rfl, ⟨_, SqT.of (s11 _ _ et10)⟩, fun D2 hD2 => ?_⟩
          refine DC2.walk_t (K := K) (xs := nV ml) (fun t H' => Same H11 H' ∧ H' D2 = some (.lst (nV (unmet i (ml.take t))))) ⟨same_new (Same.refl _) hD2, upd_same⟩ (fun t H' _ ⟨s', _⟩ => SqT.of (s' _ _ (s11 _ _ et10))) (fun t z H12 hz ⟨s12, e12⟩ => ?_) (fun H12 ⟨s12, e12⟩ => go_name rfl (go_nx (go_sq ?_)))
          · obtain ⟨m, hm, rfl⟩ := nV_in hz
            refine ⟨rfl, _, rfl, _, rfl, _, rfl, _, _, rfl, rfl, ⟨by omega, by omega, by decide⟩, _, rfl, _, _, rfl, rfl, rfl, _, rfl, ?_⟩
            have ed : decide (V.int (m : Int) = V.int (Builtin.bitAnd (m : Int) (Builtin.bitNot ((1 : Int) * 2 ^ ((i : Int).toNat))))) = decide (m = ck i m) := by
              rw [bck]
              exact decide_eq_decide.mpr ⟨fun z => by injection z with z; omega, fun z => congrArg V.int (congrArg Int.ofNat z)⟩
            have tk : unmet i (ml.take (t + 1)) = unmet i (ml.take t) ++ unmet i [m] := by
              unfold unmet
              rw [List.take_add_one, hm, show (some m).toList = [m] from rfl, List.filter_append]
            have tl : (unmet i (ml.take t)).length ≤ 400 := by
              have h1 : (unmet i (ml.take t)).length ≤ (ml.take t).length := List.length_filter_le _ _
              rw [List.length_take] at h1
              omega
            refine ite2 (fun c => ?_) (fun c => ⟨s12, ?_⟩)
            · have c' : decide (m = ck i m) = true := by rw [← ed]; exact c
              refine ⟨_, rfl, _, e12, ?_, same_but hD2 s12 but_app, ?_⟩
              · rw [nV_length]
                exact Nat.lt_of_le_of_lt (by omega : _ ≤ 1000) (by decide)
              · rw [upd_same, nV_app, tk, show unmet i [m] = [m] from List.filter_cons_of_pos c']
            · have c' : ¬ decide (m = ck i m) = true := by rw [← ed]; exact c
              rw [tk, show unmet i [m] = [] from List.filter_cons_of_neg c', List.append_nil]
              exact e12
          · rw [nV_length, List.take_length] at e12
            have s1012 : Same H10 H12 := fun b o z => s12 _ _ (s11 _ _ z)
            have odM2 := odM.keeps (fun u h => s1012 _ _ h) fun b ys h => s1012 _ _ h
            have jl : j < L.length := by rw [← les]; exact (List.getElem?_eq_some_iff.mp he).1
            have pw7 : 2 ^ i ≤ 128 := Nat.le_trans (Nat.pow_le_pow_right (by decide) (show i ≤ 7 by omega)) (by decide)
            have fd12 := fd10.trans (Fd.of (FrT.of s1012))
            have lmet : (met i ml).length ≤ 400 := by unfold met; rw [List.length_map]; exact ml400
            have lun : (unmet i ml).length ≤ 400 := Nat.le_trans (List.length_filter_le _ _) ml400
            have tg12 := fd12.tabs _ (f8.tabs _ tg1)
            refine ⟨_, rfl, _, rfl, _, rfl, _, rfl, _, _, rfl, rfl, .inr ⟨by omega, by omega⟩, _, rfl, D1, g, wt * N x, met i ml, M, rfl, s12 _ _ e11, lmet, odM2, by omega, tg12, fun H13 r1 M1 fd13 od13 eq13 ll13 mem13 => ?_⟩
            refine ⟨_, _, rfl, rfl, go_name rfl (go_nx ?_)⟩
            have nD2 : D2 ≠ g := fun z => by
              obtain ⟨φ', e'⟩ := odM2.at_.ext
              rw [z, e'] at e12; cases e12
            refine ⟨_, rfl, _, rfl, _, rfl, _, rfl, _, rfl, _, _, rfl, rfl, _, _, rfl, rfl, .inr ⟨by omega, by omega⟩, _, rfl, D2, g, wt * (Dn x - N x), unmet i ml, M1, ?_, fd13.keep _ _ nD2 e12 (fun ps z => nomatch z), lun, od13, by omega, fd13.tabs _ tg12, fun H14 r2 M2 fd14 od14 eq14 ll14 mem14 => ?_⟩
            · rw [Int.natCast_mul, Int.natCast_sub hNx]
            refine ⟨_, _, rfl, rfl, go_name rfl ⟨s' + r1 + r2, M2, _, _, _, _, rfl, (fd12.trans fd13).trans fd14, od14, ?_, by omega, fun x hx => ?_⟩⟩
            · have q13 := eq13 nn dd R (i + 1) hle
              have q14 := eq14 nn dd R (i + 1) hle
              have ps := pw_step (nn := nn) (dd := dd) R i ml
              rw [enn, edd] at ps
              rw [List.take_add_one, hL, so_app, show So nn dd (R + 1) i (some (ml, wt)).toList = wt * Pw nn dd (R + 1) i (HP ml) + 0 from rfl, Nat.add_zero, ps, Nat.mul_add, Nat.add_mul, Nat.add_mul, ← Nat.mul_assoc, ← Nat.mul_assoc]
              omega
            · rcases mem14 x hx with ⟨y, hy, e⟩ | ⟨h1, h2⟩
              · rw [e]
                rcases mem13 y hy with ⟨z, hz, e⟩ | ⟨h1, h2⟩
                · rw [e]; exact memM z hz
                · exact ⟨by omega, h2⟩
              · exact ⟨by omega, h2⟩
      · rintro σ H9 ⟨s', M, v11, v12, v13, v14, rfl, fd9, odM, eqM, llM, memM⟩
        rw [les, List.take_length] at eqM
        refine go_nx ⟨_, rfl, go_name rfl ⟨g, s', M, some (.int (i : Int)), some (.int (x : Int)), some (.int (N x : Nat)), some (.int (Dn x : Nat)), some (.ref g), v11, v12, v13, v14, ?_, ⟨fun b u e n => fd9.keep b u (ne_of_none (f6.keep b u e n) hg) (f8.keep b u e n) n, fun P' h => fd9.tabs P' (f8.tabs P' h)⟩, fun b u e n => ne_of_none (f6.keep b u e n) hg, odM, ?_, ?_, memM⟩⟩
        · rw [pr_snoc, Nat.zero_add, edd]
          rfl
        · rw [hR']
          rw [hR] at eq5
          have e : pr dd (R + 1) i = dd i * pr dd R (i + 1) := rfl
          rw [e, edd, ← Nat.mul_assoc] at eq5
          omega
        · rw [Nat.pow_succ]; omega
    · rintro σ H5 ⟨o, s, L, v6, v7, v8, v9, v10, v11, v12, v13, v14, rfl, f5, ho, od5, eq5, ll5, mem5⟩
      rw [nV_length] at eq5 ⊢
      rw [Nat.sub_self, so_end _ fun x hx => (mem5 x hx).2, show pr dd 0 F.length = 1 from rfl, Nat.mul_one, Nat.add_zero] at eq5
      subst eq5
      have W7 : pr dd F.length 0 ≤ 12 ^ 7 := Nat.le_trans (pr_le hd12 _ _) (Nat.pow_le_pow_right (by decide) h7)
      have Wp := pr_pos h1d F.length 0
      generalize pr dd F.length 0 = W at k W7 Wp
      have gp : 0 < Nat.gcd s W := Nat.gcd_pos_of_pos_right _ Wp
      have gl : Nat.gcd s W ≤ W := Nat.le_of_dvd Wp (Nat.gcd_dvd_right _ _)
      refine go_nx (go_sq ⟨_, rfl, _, rfl, _, _, rfl, go_name rfl (go_nx ?_)⟩)
      refine ⟨_, rfl, _, rfl, _, _, rfl, rfl, ⟨?_, ?_⟩, _, rfl, _, rfl, _, _, rfl, rfl, ⟨?_, ?_⟩, (show 2 ≤ sizeLine by decide), fun t ht => ?_⟩
      · show (0 : Int) < ((Nat.gcd s W : Nat) : Int); omega
      · show ((Nat.gcd s W : Nat) : Int) < 1073741824; omega
      · show (0 : Int) < ((Nat.gcd s W : Nat) : Int); omega
      · show ((Nat.gcd s W : Nat) : Int) < 1073741824; omega
      · have s9 := same_new (o := .tup [.int ((s / Nat.gcd s W : Nat) : Int), .int ((W / Nat.gcd s W : Nat) : Int)]) (Same.refl H5) ht
        exact k _ t s W rfl rfl (f01.trans (f5.trans (FrT.of s9))) upd_same
end
end K25

set_option Elab.async false
set_option linter.all false
set_option maxRecDepth 100000
set_option maxHeartbeats 4000000
namespace K25
open PySem L2 Ew Tb GxR WM WS ND NI CH
local macro_rules | `(tactic| walk_at "len") => `(tactic| first | (intro h; obtain ⟨_, e, _⟩ := h; rw [e]; rfl) | (intro h; obtain ⟨_, _, e, _⟩ := h; rw [e]; rfl) | (intro h; obtain ⟨_, _, _, e, _⟩ := h; rw [e]; rfl) | (intro h; obtain ⟨_, _, _, _, e, _⟩ := h; rw [e]; rfl) | (intro h; obtain ⟨_, _, _, _, _, e, _⟩ := h; rw [e]; rfl) | (intro h; obtain ⟨_, _, _, _, _, _, e, _⟩ := h; rw [e]; rfl) | (intro h; obtain ⟨_, _, _, _, _, _, _, e, _⟩ := h; rw [e]; rfl) | (intro h; exact h.elim))
section
variable {P : Program} {w : World} {K : PySem.W.Frag} {mg : Str → Option Value} {base : Heap} {ad : Ad}

end
/-! ### the law's own draws -/
/-- all but what stands at a is as it was -/
def Fr1 (a : Addr) (H H' : Hp) : Prop := ∀ b o, b ≠ a → H b = some o → H' b = some o
theorem Fr1.refl (a : Addr) (H : Hp) : Fr1 a H H := fun _ _ _ h => h
theorem Fr1.trans {a : Addr} {H H1 H2 : Hp} (x : Fr1 a H H1) (y : Fr1 a H1 H2) : Fr1 a H H2 := fun b o n h => y b o n (x b o n h)
theorem Fr1.upd {a : Addr} {H H1 : Hp} {o : HO} (x : Fr1 a H H1) : Fr1 a H (upd H1 a o) := fun b u n h => by rw [upd_ne n]; exact x b u n h
theorem Fr1.of {a : Addr} {H H1 : Hp} (x : Same H H1) : Fr1 a H H1 := fun b o _ h => x b o h
theorem Fr1.new {a p : Addr} {H H1 : Hp} {o : HO} (x : Fr1 a H H1) (h : H p = none) : Fr1 a H (L2.upd H1 p o) := fun b u n e => by rw [upd_ne (ne_of_none e h)]; exact x b u n e
theorem same_new {p : Addr} {H H1 : Hp} {o : HO} (x : Same H H1) (h : H p = none) : Same H (L2.upd H1 p o) := fun b u e => by rw [upd_ne (ne_of_none e h)]; exact x b u e
/-- the pot: what is drawn from -/
def PotAt (H : Hp) (a : Addr) : Prop := ∃ (b : Addr) (ns : List Int) (i c sd : Int), H a = some (.lst [.ref b, .int i, .int c, .int sd]) ∧ H b = some (.lst (ns.map V.int)) ∧ b ≠ a ∧ 0 ≤ i ∧ 0 ≤ c ∧ 0 ≤ sd
theorem PotAt.same {H H' : Hp} {a : Addr} (p : PotAt H a) (s : Same H H') : PotAt H' a := by
  obtain ⟨b, ns, i, c, sd, h1, h2, h3, h4⟩ := p
  exact ⟨b, ns, i, c, sd, s _ _ h1, s _ _ h2, h3, h4⟩
/-- the same, its list at b -/
def PotB (H : Hp) (a b : Addr) : Prop := ∃ (ns : List Int) (i c sd : Int), H a = some (.lst [.ref b, .int i, .int c, .int sd]) ∧ H b = some (.lst (ns.map V.int)) ∧ b ≠ a ∧ 0 ≤ i ∧ 0 ≤ c ∧ 0 ≤ sd
theorem PotB.at_ {H : Hp} {a b : Addr} (p : PotB H a b) : PotAt H a := let ⟨ns, i, c, sd, h⟩ := p; ⟨b, ns, i, c, sd, h⟩
theorem PotAt.b_ {H : Hp} {a : Addr} (p : PotAt H a) : ∃ b, PotB H a b := let ⟨b, ns, i, c, sd, h⟩ := p; ⟨b, ns, i, c, sd, h⟩
theorem PotB.same {H H' : Hp} {a b : Addr} (p : PotB H a b) (s : Same H H') : PotB H' a b := by
  obtain ⟨ns, i, c, sd, h1, h2, h3⟩ := p
  exact ⟨ns, i, c, sd, s _ _ h1, s _ _ h2, h3⟩
theorem PotB.but {H H' : Hp} {a b : Addr} (p : PotB H a b) (h1 : H' a = H a) (h2 : H' b = H b) : PotB H' a b := by
  obtain ⟨ns, i, c, sd, e1, e2, h3⟩ := p
  exact ⟨ns, i, c, sd, h1.trans e1, h2.trans e2, h3⟩
theorem PotAt.some {H : Hp} {a : Addr} (p : PotAt H a) : ∃ o, H a = some o := by
  obtain ⟨b, ns, i, c, sd, h1, _⟩ := p
  exact ⟨_, h1⟩
def spPot (K : PySem.W.Frag) : Sp := fun vs H Q _ => ∃ (a : Addr) (ns : List Int), vs = [.ref a] ∧ SqL K H a (ns.map V.int) ∧ ns.length ≤ 63 ∧ ∀ H' p, Same H H' → H p = none → PotAt H' p → Q (.ref p) H'
def spNext : Sp := fun vs H Q _ => ∃ a lim, vs = [.ref a, .int lim] ∧ PotAt H a ∧ 0 < lim ∧ lim.natAbs < 2 ^ 250 ∧ ∀ H' r, Fr1 a H H' → PotAt H' a → 0 ≤ r → r < lim → (∀ b, PotB H a b → PotB H' a b) → Q (.int r) H'
section
variable {P : Program} {w : World} {K : PySem.W.Frag} {mg : Str → Option Value} {base : Heap} {ad : Ad}
theorem ok_law_pot  {f : Addr} {fd : FuncData} (F : Fun K "_law_pot" "_law_pot" s_law_pot f fd) (T : Txt K mg ad) : FnOk P w K mg base (L2.CX P w) 1 f fd ["script"] (spPot K) := by
  refine F.okX sc_law_pot (fun vs H Q E => ?_) (fun cdv A outer s H vs Q E hr h => ?_)
  · walk_at "len"
  ·
    obtain ⟨a, ns, rfl, hS, hl, k⟩ := h
    refine ⟨_, (pss_cons (ps_set (i := 1) sc_law_pot.nd rfl (by first | exact Or.inl rfl | exact Or.inr rfl) pe_int)
      (pss_cons (ps_for (passes_of rfl) rfl (pi_list (pv 0)) (pg_name (i := 2) sc_law_pot.nd rfl (by first | exact Or.inl rfl | exact Or.inr rfl)) (pss_one (ps_set (i := 1) sc_law_pot.nd rfl (by first | exact Or.inl rfl | exact Or.inr rfl) (pe_op op_mod (pe_callTy call_int1 (by rfl) T.z_int (by decide +kernel) (pa_cons (pe_op op_add (pe_op op_mul (pv 1) pe_int) (pv 2)) pa_nil)) pe_int))))
      (pss_one (ps_ret (pe_lst (pa_cons (pe_callTy call_list_of (by rfl) T.z_list (by decide +kernel) (pa_cons (pv 0) pa_nil)) (pa_cons pe_int (pa_cons pe_int (pa_cons (pv 1) pa_nil))))))))), ?_⟩
    refine ⟨_, rfl, a, rfl, ⟨_, hS⟩, for_list (K := K) (a := a) (xs := ns.map V.int) (fun i σ H2 => ∃ (sd : Int) (v : Option V), σ = [some (.ref a), some (.int sd), v] ∧ 0 ≤ sd ∧ H2 = H)
      ⟨1, none, rfl, by decide, rfl⟩ (fun i σ H2 _ ⟨_, _, _, _, e⟩ => by rw [e]; exact hS) ?_ ?_⟩
    · rintro i y σ H2 hi ⟨sd, v, rfl, hsd, rfl⟩
      obtain ⟨z, rfl⟩ : ∃ z, y = V.int z := by
        rw [List.getElem?_map] at hi
        cases e : ns[i]? with
        | none =>
          rw [e] at hi
          cases hi
        | some z =>
          rw [e] at hi
          exact ⟨z, (Option.some.inj hi).symm⟩
      refine ⟨_, rfl, _, _, rfl, rfl, .inr ⟨by decide, by decide⟩, _, rfl, _, _, rfl, rfl, .inl ⟨_, rfl, _, _, rfl, rfl, (by show (0 : Int) < 2147483647; decide), ?_⟩⟩
      exact ⟨_, _, rfl, Int.emod_nonneg _ (by decide), rfl⟩
    · rintro σ H2 ⟨sd, v, rfl, hsd, rfl⟩
      refine ⟨_, rfl, a, _, rfl, .inl hS, fun l hl1 => ⟨_, rfl, (by show 4 ≤ sizeLine; decide), fun p hp => ?_⟩⟩
      have npl : p ≠ l := by
        intro z
        subst z
        rw [upd_same] at hp
        cases hp
      have hp0 : H2 p = none := by rw [upd_ne npl] at hp; exact hp
      exact k _ p (same_new (same_new (Same.refl _) hl1) hp0) hp0 ⟨l, ns, 0, 0, sd, upd_same, by rw [upd_ne (Ne.symm npl), upd_same], Ne.symm npl, by decide, by decide, hsd⟩
theorem ok_law_next  {f : Addr} {fd : FuncData} (F : Fun K "_law_next" "_law_next" s_law_next f fd) (T : Txt K mg ad) : FnOk P w K mg base (L2.CX P w) 1 f fd ["pot", "limit"] (spNext) := by
  refine F.okX sc_law_next (fun vs H Q E => ?_) (fun cdv A outer s H vs Q E hr h => ?_)
  · walk_at "len"
  ·
    obtain ⟨a, lim, rfl, ⟨b, ns, i, c, sd, h1, h2, h3, h4, h5, h6⟩, hl0, hl1, k⟩ := h
    have k2 : ∀ H' r, Fr1 a H H' → PotB H' a b → 0 ≤ r → r < lim → Q (.int r) H' := fun H' r fr hpb r0 r1 => k H' r fr hpb.at_ r0 r1 fun b' hb' => by
      obtain ⟨ns', i', c', sd', e1, _⟩ := hb'
      rw [h1] at e1
      injection e1 with e1
      injection e1 with e1
      injection e1 with e1 _
      injection e1 with e1
      subst e1
      exact hpb
    have hr1 : ∀ x : Int, 0 ≤ x % lim ∧ x % lim < lim := fun x => ⟨Int.emod_nonneg _ (by omega), Int.emod_lt_of_pos _ hl0⟩
    refine ⟨_, (C8.pss_cut (ps_if (PW.pt (pw_and (pt_cmpR op_eq (pe_ix ix_list (pv 0) pe_int (fun _ _ => rfl)) pe_int (nomark _)) (pw_and1 (pt_cmpR op_lt (pe_ix ix_list (pv 0) pe_int (fun _ _ => rfl)) (pe_callB call_len (by rfl) T.z_len (by decide +kernel) (pa_cons (pe_ix ix_list (pv 0) pe_int (fun _ _ => rfl)) pa_nil)) (nomark _))))) (pss_cons (ps_set (i := 2) sc_law_next.nd rfl (by first | exact Or.inl rfl | exact Or.inr rfl) (pe_callB call_abs (by rfl) T.z_abs (by decide +kernel) (pa_cons (pe_callTy call_int1 (by rfl) T.z_int (by decide +kernel) (pa_cons (pe_ix ix_list (pe_ix ix_list (pv 0) pe_int (fun _ _ => rfl)) (pe_ix ix_list (pv 0) pe_int (fun _ _ => rfl)) (fun _ _ => rfl)) pa_nil)) pa_nil)))
      (pss_cons (ps_asg (pe_op op_add (pe_ix ix_list (pv 0) pe_int (fun _ _ => rfl)) pe_int) (pg_sub (pv 0) pe_int set_list))
      (pss_cons (ps_if (pt_cmpR op_lt (pv 2) (pe_op op_pow pe_int pe_int) (nomark _)) (pss_one (ps_ret (pe_op op_mod (pe_callTy call_int1 (by rfl) T.z_int (by decide +kernel) (pa_cons (pv 2) pa_nil)) (pv 1)))) pss_nil)
      (pss_one (ps_asg (pv 2) (pg_sub (pv 0) pe_int set_list)))))) pss_nil)
      (C8.pss_cut (ps_if (pt_cmpR op_gt (pe_ix ix_list (pv 0) pe_int (fun _ _ => rfl)) pe_int (nomark _)) (pss_cons (ps_set (i := 3) sc_law_next.nd rfl (by first | exact Or.inl rfl | exact Or.inr rfl) (pe_op op_mod (pe_callTy call_int1 (by rfl) T.z_int (by decide +kernel) (pa_cons (pe_ix ix_list (pv 0) pe_int (fun _ _ => rfl)) pa_nil)) (pv 1)))
      (pss_cons (ps_asg (pe_op op_fdivW (pe_ix ix_list (pv 0) pe_int (fun _ _ => rfl)) (pv 1)) (pg_sub (pv 0) pe_int set_list))
      (pss_one (ps_ret (pv 3))))) pss_nil)
      (pss_cons (ps_asg (pe_op op_mod (pe_callTy call_int1 (by rfl) T.z_int (by decide +kernel) (pa_cons (pe_op op_add (pe_op op_mul (pe_ix ix_list (pv 0) pe_int (fun _ _ => rfl)) pe_int) pe_int) pa_nil)) pe_int) (pg_sub (pv 0) pe_int set_list))
      (pss_cons (ps_set (i := 4) sc_law_next.nd rfl (by first | exact Or.inl rfl | exact Or.inr rfl) (pe_op op_mod (pe_callTy call_int1 (by rfl) T.z_int (by decide +kernel) (pa_cons (pe_op op_add (pe_op op_mul (pe_ix ix_list (pv 0) pe_int (fun _ _ => rfl)) pe_int) (pe_op op_fdiv (pe_ix ix_list (pv 0) pe_int (fun _ _ => rfl)) pe_int)) pa_nil)) pe_int))
      (pss_one (ps_ret (pe_op op_mod (pe_callTy call_int1 (by rfl) T.z_int (by decide +kernel) (pa_cons (pv 4) pa_nil)) (pv 1)))))))), ?_⟩
    refine ⟨fun σ H' => ∃ (i' c' : Int) (v : Option V), σ = [some (.ref a), some (.int lim), v, none, none] ∧ H' a = some (.lst [.ref b, .int i', .int c', .int sd]) ∧ Fr1 a H H' ∧ 0 ≤ i' ∧ 0 ≤ c', ?_, ?_⟩
    · -- if pot[2] == 0 and pot[1] < len(pot[0])
      refine ⟨_, rfl, a, _, _, _, rfl, rfl, SqL.of h1, (by rfl), rfl, _, rfl, ?_⟩
      by_cases c0 : ¬ c = 0
      · have e : decide (V.int c = V.int 0) = false := by simp [c0]
        rw [e]
        refine iteF (iteF ?_)
        exact ⟨i, c, none, rfl, h1, Fr1.refl _ _, h4, h5⟩
      · have c0' : c = 0 := by omega
        subst c0'
        refine iteT ?_
        refine ⟨_, rfl, a, _, _, _, rfl, rfl, SqL.of h1, (by rfl), _, rfl, a, _, _, _, rfl, rfl, SqL.of h1, (by rfl), .ref b, ns.length, rfl, Or.inl ⟨_, SqL.of h2, by rw [List.length_map]⟩, _, _, rfl, rfl, _, rfl, ?_⟩
        by_cases c1 : ¬ i < (ns.length : Int)
        · rw [decide_eq_false c1]
          exact iteF ⟨i, 0, none, rfl, h1, Fr1.refl _ _, h4, h5⟩
        · have c1 : i < (ns.length : Int) := by omega
          rw [decide_eq_true c1]
          refine iteT ?_
          -- cell
          obtain ⟨z, hz⟩ : ∃ z, ns[i.toNat]? = some z := ⟨ns[i.toNat]'(by omega), List.getElem?_eq_getElem _⟩
          have hz' : (ns.map V.int)[i.toNat]? = some (.int z) := by rw [List.getElem?_map, hz]; rfl
          refine ⟨_, rfl, a, _, _, _, rfl, rfl, SqL.of h1, (by rfl), _, rfl, a, _, _, _, rfl, rfl, SqL.of h1, (by rfl), b, _, _, _, rfl, rfl, SqL.of h2, at_of (by omega) hz', .inl ⟨_, rfl, _, rfl, ?_⟩⟩
          have hcell : 0 ≤ (if z < 0 then -z else z) := by split <;> omega
          generalize (if z < 0 then -z else z) = cell at hcell ⊢
          -- pot[1] = pot[1] + 1
          refine ⟨_, rfl, a, _, _, _, rfl, rfl, SqL.of h1, (by rfl), _, _, rfl, rfl, _, rfl, a, _, _, 1, rfl, rfl, h1, (by rfl), ?_⟩
          -- if cell < 10 ** 18
          refine ⟨_, rfl, _, _, rfl, rfl, ⟨by decide, by decide, by decide⟩, _, _, rfl, rfl, _, rfl, ?_⟩
          refine ite2 (fun _ => ?_) (fun _ => ?_)
          · refine ⟨_, rfl, .inl ⟨_, rfl, _, rfl, _, _, rfl, rfl, hl0, ?_⟩⟩
            exact k2 _ _ (Fr1.refl _ _).upd ⟨ns, i + 1, 0, sd, upd_same, by rw [upd_ne h3]; exact h2, h3, by omega, by decide, h6⟩ (hr1 _).1 (hr1 _).2
          · refine ⟨_, rfl, _, rfl, a, _, _, 2, rfl, rfl, upd_same, (by rfl), ?_⟩
            exact ⟨i + 1, cell, _, rfl, upd_same, (Fr1.refl _ _).upd.upd, by omega, hcell⟩
    · rintro σ H1 ⟨i', c', v, rfl, g1, fr, hi', hc'⟩
      have g2 : H1 b = some (.lst (ns.map V.int)) := fr b _ h3 h2
      refine ⟨fun σ H' => ∃ (v v' : Option V), σ = [some (.ref a), some (.int lim), v, v', none] ∧ H' = H1, ?_, ?_⟩
      · -- if pot[2] > 0
        refine ⟨_, rfl, a, _, _, _, rfl, rfl, SqL.of g1, (by rfl), _, _, rfl, rfl, _, rfl, ?_⟩
        refine ite2 (fun _ => ?_) (fun _ => ?_)
        · refine ⟨_, rfl, a, _, _, _, rfl, rfl, SqL.of g1, (by rfl), .inl ⟨_, rfl, _, rfl, _, _, rfl, rfl, hl0, ?_⟩⟩
          refine ⟨_, rfl, a, _, _, _, rfl, rfl, SqL.of g1, (by rfl), _, rfl, _, _, rfl, rfl, wide_div hl0 hl1 (by decide) (by decide), _, rfl, a, _, _, 2, rfl, rfl, g1, (by rfl), _, rfl, ?_⟩
          exact k2 _ _ fr.upd ⟨ns, i', c' / lim, sd, upd_same, by rw [upd_ne h3]; exact g2, h3, hi', Int.ediv_nonneg hc' (by omega), h6⟩ (hr1 _).1 (hr1 _).2
        · exact ⟨v, none, rfl, rfl⟩
      · rintro σ H2 ⟨v, v', rfl, rfl⟩
        refine ⟨_, rfl, a, _, _, _, rfl, rfl, SqL.of g1, (by rfl), _, _, rfl, rfl, .inr ⟨by decide, by decide⟩, _, _, rfl, rfl, .inl ⟨_, rfl, _, _, rfl, rfl, (by show (0 : Int) < 2147483647; decide), _, rfl, a, _, _, 3, rfl, rfl, g1, (by rfl), ?_⟩⟩
        refine ⟨_, rfl, a, _, _, _, rfl, rfl, SqL.of upd_same, (by rfl), _, _, rfl, rfl, .inr ⟨by decide, by decide⟩, _, rfl, a, _, _, _, rfl, rfl, SqL.of upd_same, (by rfl), _, _, rfl, rfl, ⟨by decide, by decide⟩, _, _, rfl, rfl, .inl ⟨_, rfl, _, _, rfl, rfl, (by show (0 : Int) < 2147483629; decide), ?_⟩⟩
        refine ⟨_, rfl, .inl ⟨_, rfl, _, rfl, _, _, rfl, rfl, hl0, ?_⟩⟩
        exact k2 _ _ fr.upd ⟨ns, i', c', _, upd_same, by rw [upd_ne h3]; exact g2, h3, hi', hc', Int.emod_nonneg _ (by decide)⟩ (hr1 _).1 (hr1 _).2
end
section
variable {P : Program} {w : World} {K : PySem.W.Frag} {mg : Str → Option Value} {base : Heap} {ad : Ad}
theorem gcd_step (x y : Nat) : Nat.gcd y (x % y) = Nat.gcd x y := by
  rw [Nat.gcd_comm y, ← Nat.gcd_rec, Nat.gcd_comm]
def spGcd : Sp := fun vs H Q _ => ∃ a b : Nat, vs = [.int (a : Int), .int (b : Int)] ∧ b < 2 ^ 60 ∧ ∀ H', Same H H' → Q (.int (Nat.gcd a b : Nat)) H'
theorem ok_law_gcd  {f : Addr} {fd : FuncData} (F : Fun K "_law_gcd" "_law_gcd" s_law_gcd f fd) (T : Txt K mg ad) : FnOk P w K mg base (L2.CX P w) 1 f fd ["a", "b"] (spGcd) := by
  refine F.okX sc_law_gcd (fun vs H Q E => ?_) (fun cdv A outer s H vs Q E hr h => ?_)
  · walk_at "len"
  ·
    obtain ⟨a, b, rfl, hb, k⟩ := h
    refine ⟨_, (pss_cons (ps_for (passes_of rfl) rfl (pi_range1 (by rfl) T.z_range (pa_cons pe_int pa_nil)) (pg_name (i := 2) sc_law_gcd.nd rfl (by first | exact Or.inl rfl | exact Or.inr rfl)) (pss_cons (ps_if (pt_cmpR op_eq (pv 1) pe_int (nomark _)) (pss_one (ps_ret (pv 0))) pss_nil)
      (pss_one (ps_par (i := 0) (j := 1) rfl sc_law_gcd.nd rfl rfl (by decide) (by rfl) (by rfl) (pa_cons (pv 1) (pa_cons (pe_op op_mod (pe_callTy call_int1 (by rfl) T.z_int (by decide +kernel) (pa_cons (pv 0) pa_nil)) (pv 1)) pa_nil)) (by rfl)))))
      (pss_one (ps_ret (pv 0)))), ?_⟩
    refine go_sq ?_
    refine ⟨_, rfl, by decide, by decide, ?_⟩
    refine for_range (lo := 0) (n := 2000) (fun i σ H' => ∃ (x y : Nat) (v2 : Option V), σ = [some (.int (x : Int)), some (.int (y : Int)), v2] ∧ Same H H' ∧ Nat.gcd x y = Nat.gcd a b ∧ ((i = 0 ∧ y = b) ∨ (1 ≤ i ∧ y < x ∧ x * y * 2 ^ (i - 1) ≤ b * b))) ⟨a, b, none, rfl, Same.refl _, rfl, .inl ⟨rfl, rfl⟩⟩ ?_ ?_
    · rintro i σ H1 hi ⟨x, y, v2, rfl, s1, hg, hc⟩
      refine go_name rfl (go_sq ?_)
      refine ⟨_, rfl, rfl, _, rfl, ?_⟩
      by_cases c : y = 0
      · subst c
        rw [Nat.gcd_zero_right] at hg
        refine iteT ⟨_, rfl, ?_⟩
        rw [hg]
        exact k H1 s1
      · rw [decide_eq_false (show ¬ V.int (y : Int) = V.int 0 from fun z => c (by injection z with z; omega))]
        refine iteF (go_next ?_)
        have yp : 0 < y := Nat.pos_of_ne_zero c
        refine ⟨_, rfl, _, rfl, .inl ⟨_, rfl, _, rfl, _, _, rfl, rfl, (show (0 : Int) < (y : Int) by omega), _, _, rfl, ?_⟩⟩
        refine ⟨y, x % y, some (.int (0 + (i : Int))), rfl, s1, by rw [gcd_step, hg], .inr ⟨Nat.succ_le_succ (Nat.zero_le _), Nat.mod_lt _ yp, ?_⟩⟩
        rw [Nat.add_sub_cancel]
        have ml := Nat.mod_lt x yp
        rcases hc with ⟨h0, h1⟩ | ⟨h0, h1, h2⟩
        · subst h0 h1
          rw [Nat.pow_zero, Nat.mul_one]
          exact Nat.mul_le_mul_left _ (Nat.le_of_lt ml)
        · have e : 2 ^ i = 2 * 2 ^ (i - 1) := by rw [← Nat.pow_succ', show (i - 1).succ = i by omega]
          have m1 : 2 * (x % y) ≤ x := by
            have h3 := Nat.div_add_mod x y
            have h4 : y * 1 ≤ y * (x / y) := Nat.mul_le_mul_left _ (Nat.div_pos (Nat.le_of_lt h1) yp)
            omega
          rw [e]
          have m2 := Nat.mul_le_mul_right (2 ^ (i - 1)) (Nat.mul_le_mul_left y m1)
          rw [Nat.mul_comm y x] at m2
          have e2 : y * (x % y) * (2 * 2 ^ (i - 1)) = y * (2 * (x % y)) * 2 ^ (i - 1) := by
            rw [← Nat.mul_assoc, Nat.mul_assoc y, Nat.mul_comm (x % y) 2]
          rw [e2]
          exact Nat.le_trans m2 h2
    · rintro σ H1 ⟨x, y, v2, rfl, s1, hg, hc⟩
      have y0 : y = 0 := by
        rcases hc with ⟨h, _⟩ | ⟨_, h1, h2⟩
        · cases h
        · refine Classical.byContradiction fun z => ?_
          have hb2 : b * b < 2 ^ 120 := by
            have := Nat.mul_lt_mul'' hb hb
            rw [← Nat.pow_add] at this
            exact this
          have p1 : 2 ^ 120 ≤ 2 ^ (2000 - 1) := Nat.pow_le_pow_right (by decide) (by decide)
          have p2 : 1 * 2 ^ (2000 - 1) ≤ x * y * 2 ^ (2000 - 1) := Nat.mul_le_mul_right _ (Nat.mul_le_mul (show 1 ≤ x by omega) (show 1 ≤ y by omega))
          rw [Nat.one_mul] at p2
          exact absurd (Nat.le_trans p1 (Nat.le_trans p2 h2)) (Nat.not_le.mpr hb2)
      subst y0
      rw [Nat.gcd_zero_right] at hg
      refine go_nx ⟨_, rfl, ?_⟩
      rw [hg]
      exact k H1 s1
def spLow : Sp := fun vs H Q _ => ∃ n d : Nat, vs = [.int (n : Int), .int (d : Int)] ∧ 1 ≤ d ∧ d < 2 ^ 60 ∧ ∀ H' t, Same H H' → H t = none → H' t = some (.tup [.int ((n / Nat.gcd n d : Nat) : Int), .int ((d / Nat.gcd n d : Nat) : Int)]) → Q (.ref t) H'
theorem none_of {H H' : Hp} {t : Addr} (s : Same H H') (h : H' t = none) : H t = none := by
  cases z : H t with
  | none => rfl
  | some u => rw [s _ _ z] at h; cases h
theorem ok_law_low (c_law_gcd : CalX P w K mg base 1 "_law_gcd" spGcd) {f : Addr} {fd : FuncData} (F : Fun K "_law_low" "_law_low" s_law_low f fd) (T : Txt K mg ad) : FnOk P w K mg base (L2.CX P w) 2 f fd ["n", "d"] (spLow) := by
  refine F.okX sc_law_low (fun vs H Q E => ?_) (fun cdv A outer s H vs Q E hr h => ?_)
  · walk_at "len"
  ·
    obtain ⟨n, d, rfl, h1, hd, k⟩ := h
    refine ⟨_, (pss_cons (ps_set (i := 2) sc_law_low.nd rfl (by first | exact Or.inl rfl | exact Or.inr rfl) (pc_call c_law_gcd hr (by first | decide | omega) (takes_of rfl rfl rfl rfl) (by rfl) (pa_cons (pv 0) (pa_cons (pv 1) pa_nil))))
      (pss_one (ps_ret (pe_tup (pa_cons (pe_op op_fdivW (pv 0) (pv 2)) (pa_cons (pe_op op_fdivW (pv 1) (pv 2)) pa_nil)))))), ?_⟩
    have gp : 0 < Nat.gcd n d := Nat.gcd_pos_of_pos_right _ h1
    have gl : Nat.gcd n d ≤ d := Nat.le_of_dvd h1 (Nat.gcd_dvd_right _ _)
    have cd : ∀ z : Int, CDivW z ((Nat.gcd n d : Nat) : Int) := fun z => wide_div (b := 60) (by omega) (by rw [Int.natAbs_natCast]; omega) (by decide) (by decide)
    refine go_seq ⟨_, rfl, _, rfl, n, d, rfl, hd, fun H1 s1 => go_name rfl ?_⟩
    refine ⟨_, rfl, _, rfl, _, _, rfl, rfl, cd _, _, rfl, _, rfl, _, _, rfl, rfl, cd _, (show 2 ≤ sizeLine by decide), fun t ht => ?_⟩
    have s2 := same_new (o := .tup [.int ((n / Nat.gcd n d : Nat) : Int), .int ((d / Nat.gcd n d : Nat) : Int)]) (Same.refl H1) ht
    exact k _ t (fun b o z => s2 _ _ (s1 _ _ z)) (none_of s1 ht) upd_same
end
end K25

set_option Elab.async false
set_option linter.all false
set_option maxRecDepth 100000
set_option maxHeartbeats 4000000
namespace K25
open PySem L2 Ew Tb GxR WM WS ND NI CH
local macro_rules | `(tactic| walk_at "len") => `(tactic| first | (intro h; obtain ⟨_, e, _⟩ := h; rw [e]; rfl) | (intro h; obtain ⟨_, _, e, _⟩ := h; rw [e]; rfl) | (intro h; obtain ⟨_, _, _, e, _⟩ := h; rw [e]; rfl) | (intro h; obtain ⟨_, _, _, _, e, _⟩ := h; rw [e]; rfl) | (intro h; obtain ⟨_, _, _, _, _, e, _⟩ := h; rw [e]; rfl) | (intro h; obtain ⟨_, _, _, _, _, _, e, _⟩ := h; rw [e]; rfl) | (intro h; obtain ⟨_, _, _, _, _, _, _, e, _⟩ := h; rw [e]; rfl) | (intro h; exact h.elim))
section
variable {P : Program} {w : World} {K : PySem.W.Frag} {mg : Str → Option Value} {base : Heap} {ad : Ad}

theorem catT {K : PySem.W.Frag} {H : Hp} {a b : Addr} {xs ys : List V} {Q : VK} (h1 : H a = some (.tup xs)) (h2 : H b = some (.tup ys)) (hl : xs.length + ys.length ≤ 100000) (q : ∀ x H', Same H H' → H' x = some (.tup (xs ++ ys)) → Q (.ref x) H') : rCatA K (.ref a) (.ref b) H Q :=
  ⟨a, b, xs, ys, rfl, rfl, SqT.of h1, SqT.of h2, Nat.le_trans hl (by decide), fun e => q b H (Same.refl _) (by rw [e]; exact h2), fun _ e => q a H (Same.refl _) (by rw [e, List.append_nil]; exact h1), fun _ _ x hx => q x _ (same_new (Same.refl _) hx) upd_same⟩
/-- the ways stand in the list -/
def Wv (H : Hp) (zs : List V) (L : List (List Nat × Nat)) (Wd : Nat) : Prop := zs.length = L.length ∧ ∀ (i : Nat) z x, zs[i]? = some z → L[i]? = some x → ∃ t u, z = .ref t ∧ H t = some (.tup [.ref u, .int (x.2 : Nat), .int (Wd : Nat)]) ∧ H u = some (.tup (nV x.1))
theorem Wv.keeps {H H' : Hp} {zs : List V} {L : List (List Nat × Nat)} {Wd : Nat} (x : Wv H zs L Wd) (f : ∀ b ys, H b = some (.tup ys) → H' b = some (.tup ys)) : Wv H' zs L Wd := ⟨x.1, fun i z y a b => let ⟨t, u, e1, e2, e3⟩ := x.2 i z y a b; ⟨t, u, e1, f _ _ e2, f _ _ e3⟩⟩
theorem Wv.snoc {H : Hp} {zs : List V} {L : List (List Nat × Nat)} {Wd : Nat} {t u : Addr} {y : List Nat × Nat} (x : Wv H zs L Wd) (h1 : H t = some (.tup [.ref u, .int (y.2 : Nat), .int (Wd : Nat)])) (h2 : H u = some (.tup (nV y.1))) : Wv H (zs ++ [.ref t]) (L ++ [y]) Wd := by
  refine ⟨by rw [List.length_append, List.length_append, x.1]; rfl, fun i z v a b => ?_⟩
  by_cases c : i < zs.length
  · rw [List.getElem?_append_left c] at a
    rw [List.getElem?_append_left (by rw [← x.1]; exact c)] at b
    exact x.2 i z v a b
  · have hi : i = zs.length := by
      have := (List.getElem?_eq_some_iff.mp a).1
      rw [List.length_append, List.length_singleton] at this
      omega
    subst hi
    rw [List.getElem?_append_right (Nat.le_refl _), Nat.sub_self] at a
    rw [x.1, List.getElem?_append_right (Nat.le_refl _), Nat.sub_self] at b
    cases a
    cases b
    exact ⟨t, u, rfl, h1, h2⟩
def extS (n m x : Nat) (L : List (List Nat × Nat)) : List (List Nat × Nat) := L.flatMap fun y => [(y.1 ++ [x], y.2 * n), (y.1, y.2 * m)]
theorem extS_app (n m x : Nat) (L M : List (List Nat × Nat)) : extS n m x (L ++ M) = extS n m x L ++ extS n m x M := List.flatMap_append
theorem extS_len (n m x : Nat) : ∀ L : List (List Nat × Nat), (extS n m x L).length = 2 * L.length
  | [] => rfl
  | y :: L => by
    show (extS n m x L).length + 1 + 1 = 2 * (L.length + 1)
    rw [extS_len n m x L]; omega
/-- the facts of a way -/
def Sb (F : List Nat) (k : Nat) (s : List Nat) : Prop := s.Nodup ∧ ∀ x ∈ s, x ∈ F.take k
theorem idx_take {F : List Nat} (hF : F.Nodup) {k x : Nat} (h : F[k]? = some x) : F.idxOf x = k ∧ x ∉ F.take k := by
  obtain ⟨hk, e⟩ := List.getElem?_eq_some_iff.mp h
  have h1 : F.idxOf x = k := by rw [← e]; exact List.Nodup.idxOf_getElem hF k hk
  refine ⟨h1, fun hm => ?_⟩
  obtain ⟨j, hj⟩ := List.mem_iff_getElem?.mp hm
  rw [List.getElem?_take] at hj
  split at hj
  · rename_i c
    obtain ⟨hj', ej⟩ := List.getElem?_eq_some_iff.mp hj
    have h2 : F.idxOf x = j := by rw [← ej]; exact List.Nodup.idxOf_getElem hF j hj'
    omega
  · cases hj
theorem mask_snoc {F : List Nat} (hF : F.Nodup) {k x : Nat} (h : F[k]? = some x) {s : List Nat} (hs : Sb F k s) : Sb F (k + 1) (s ++ [x]) ∧ mask F (s ++ [x]) = mask F s ||| 2 ^ k := by
  obtain ⟨i1, i2⟩ := idx_take hF h
  have nd : (s ++ [x]).Nodup := List.nodup_append.mpr ⟨hs.1, by simp, fun a ha b hb e => by
    rw [List.mem_singleton.mp hb] at e
    subst e
    exact i2 (hs.2 _ ha)⟩
  have inF : ∀ y ∈ s ++ [x], y ∈ F := fun y hy => (List.mem_append.mp hy).elim (fun h' => List.mem_of_mem_take (hs.2 y h')) fun h' => by rw [List.mem_singleton.mp h']; exact List.mem_of_getElem? h
  refine ⟨⟨nd, fun y hy => ?_⟩, Nat.eq_of_testBit_eq fun i => ?_⟩
  · rw [List.take_add_one, h]
    rcases List.mem_append.mp hy with h' | h'
    · exact List.mem_append_left _ (hs.2 y h')
    · rw [List.mem_singleton.mp h']; exact List.mem_append_right _ (by simp)
  · rw [Nat.testBit_or, Nat.testBit_two_pow, Bool.eq_iff_iff, tb_mask nd inF, Bool.or_eq_true, tb_mask hs.1 fun y hy => inF y (List.mem_append_left _ hy), decide_eq_true_eq]
    constructor
    · rintro ⟨y, hy, e⟩
      rcases List.mem_append.mp hy with h' | h'
      · exact .inl ⟨y, h', e⟩
      · rw [List.mem_singleton.mp h', i1] at e; exact .inr e
    · rintro (⟨y, hy, e⟩ | e)
      · exact ⟨y, List.mem_append_left _ hy, e⟩
      · exact ⟨x, List.mem_append_right _ (by simp), by rw [i1, e]⟩
theorem Sb.up {F : List Nat} {k : Nat} {s : List Nat} (h : Sb F k s) : Sb F (k + 1) s := ⟨h.1, fun x hx => by rw [List.take_add_one]; exact List.mem_append_left _ (h.2 x hx)⟩
/-- the same as masks -/
def mkW (F : List Nat) (L : List (List Nat × Nat)) : List (Nat × Nat) := L.map fun y => (mask F y.1, y.2)
theorem mkW_ext {F : List Nat} (hF : F.Nodup) {nn dd : Nat → Nat} {k x : Nat} (h : F[k]? = some x) : ∀ {L : List (List Nat × Nat)}, (∀ y ∈ L, Sb F k y.1) → mkW F (extS (nn k) (dd k - nn k) x L) = ext nn dd k (mkW F L)
  | [], _ => rfl
  | y :: L, hL => by
    have ih := mkW_ext hF (nn := nn) (dd := dd) h (L := L) fun y hy => hL y (List.mem_cons_of_mem _ hy)
    show (mask F (y.1 ++ [x]), y.2 * nn k) :: (mask F y.1, y.2 * (dd k - nn k)) :: mkW F (extS (nn k) (dd k - nn k) x L) = (mask F y.1 ||| 2 ^ k, y.2 * nn k) :: (mask F y.1, y.2 * (dd k - nn k)) :: ext nn dd k (mkW F L)
    rw [ih, (mask_snoc hF h (hL y (List.mem_cons_self ..))).2]
theorem sb_ext {F : List Nat} (hF : F.Nodup) {n m k x : Nat} (h : F[k]? = some x) {L : List (List Nat × Nat)} (hL : ∀ y ∈ L, Sb F k y.1) : ∀ y ∈ extS n m x L, Sb F (k + 1) y.1 := fun y hy => by
  obtain ⟨z, hz, hy⟩ := List.mem_flatMap.mp hy
  rcases List.mem_cons.mp hy with rfl | hy
  · exact (mask_snoc hF h (hL z hz)).1
  · rw [List.mem_singleton.mp hy]; exact (hL z hz).up
/-- one of the sets lies in the way -/
def hitB (ss : List (List Nat)) (s : List Nat) : Bool := ss.any fun one => one.all fun x => decide (x ∈ s)
theorem hit_mask {F : List Nat} {ss : List (List Nat)} (asc : ∀ s ∈ ss, Asc s) (hsF : ∀ s ∈ ss, ∀ x ∈ s, x ∈ F) {k : Nat} {s : List Nat} (hs : Sb F k s) : HP (ss.map (mask F)) (mask F s) ↔ hitB ss s = true := by
  have sF : ∀ x ∈ s, x ∈ F := fun x hx => List.mem_of_mem_take (hs.2 x hx)
  unfold hitB
  rw [List.any_eq_true]
  constructor
  · rintro ⟨m, hm, h⟩
    obtain ⟨t, ht, rfl⟩ := List.mem_map.mp hm
    exact ⟨t, ht, List.all_eq_true.mpr fun x hx => decide_eq_true ((sub_mask (asc t ht).nd hs.1 (hsF t ht) sF).mp h x hx)⟩
  · rintro ⟨t, ht, h⟩
    exact ⟨mask F t, List.mem_map.mpr ⟨t, ht, rfl⟩, (sub_mask (asc t ht).nd hs.1 (hsF t ht) sF).mpr fun x hx => of_decide_eq_true (List.all_eq_true.mp h x hx)⟩
/-- what the ways that are hit weigh -/
def hitS (ss : List (List Nat)) (L : List (List Nat × Nat)) : Nat := (L.map fun y => if hitB ss y.1 = true then y.2 else 0).sum
theorem hit_end {F : List Nat} {ss : List (List Nat)} (asc : ∀ s ∈ ss, Asc s) (hsF : ∀ s ∈ ss, ∀ x ∈ s, x ∈ F) {nn dd : Nat → Nat} {k : Nat} : ∀ {L : List (List Nat × Nat)}, (∀ y ∈ L, Sb F k y.1) → Wy nn dd (HP (ss.map (mask F))) 0 k (mkW F L) = hitS ss L
  | [], _ => rfl
  | y :: L, h => by
    have ih := hit_end asc hsF (nn := nn) (dd := dd) (k := k) (L := L) fun y hy => h y (List.mem_cons_of_mem _ hy)
    have hy := hit_mask asc hsF (h y (List.mem_cons_self ..))
    show y.2 * Pw nn dd 0 k (fun u => HP (ss.map (mask F)) (mask F y.1 ||| hi k u)) + Wy nn dd _ 0 k (mkW F L) = (if hitB ss y.1 = true then y.2 else 0) + hitS ss L
    rw [ih]
    have e0 : mask F y.1 ||| hi k 0 = mask F y.1 := by rw [show hi k 0 = 0 by unfold hi; rw [Nat.zero_div, Nat.zero_mul], Nat.or_zero]
    by_cases c : hitB ss y.1 = true
    · rw [if_pos c, pw0_t (by show HP _ (mask F y.1 ||| hi k 0); rw [e0]; exact hy.mpr c), Nat.mul_one]
    · rw [if_neg c, pw0_f (by show ¬ HP _ (mask F y.1 ||| hi k 0); rw [e0]; exact fun z => c (hy.mp z)), Nat.mul_zero]
end
end K25

set_option Elab.async false
set_option linter.all false
set_option maxRecDepth 100000
set_option maxHeartbeats 4000000
namespace K25
open PySem L2 Ew Tb GxR WM WS ND NI CH
local macro_rules | `(tactic| walk_at "len") => `(tactic| first | (intro h; obtain ⟨_, e, _⟩ := h; rw [e]; rfl) | (intro h; obtain ⟨_, _, e, _⟩ := h; rw [e]; rfl) | (intro h; obtain ⟨_, _, _, e, _⟩ := h; rw [e]; rfl) | (intro h; obtain ⟨_, _, _, _, e, _⟩ := h; rw [e]; rfl) | (intro h; obtain ⟨_, _, _, _, _, e, _⟩ := h; rw [e]; rfl) | (intro h; obtain ⟨_, _, _, _, _, _, e, _⟩ := h; rw [e]; rfl) | (intro h; obtain ⟨_, _, _, _, _, _, _, e, _⟩ := h; rw [e]; rfl) | (intro h; obtain ⟨_, _, _, _, _, _, _, _, e, _⟩ := h; rw [e]; rfl) | (intro h; obtain ⟨_, _, _, _, _, _, _, _, _, e, _⟩ := h; rw [e]; rfl) | (intro h; obtain ⟨_, _, _, _, _, _, _, _, _, _, e, _⟩ := h; rw [e]; rfl) | (intro h; obtain ⟨_, _, _, _, _, _, _, _, _, _, _, e, _⟩ := h; rw [e]; rfl) | (intro h; obtain ⟨_, _, _, _, _, _, _, _, _, _, _, _, e, _⟩ := h; rw [e]; rfl) | (intro h; obtain ⟨_, _, _, _, _, _, _, _, _, _, _, _, _, e, _⟩ := h; rw [e]; rfl) | (intro h; exact h.elim))
section
variable {P : Program} {w : World} {K : PySem.W.Frag} {mg : Str → Option Value} {base : Heap} {ad : Ad}

theorem cop_div {m n : Nat} (h : 0 < Nat.gcd m n) : Nat.gcd (m / Nat.gcd m n) (n / Nat.gcd m n) = 1 := by
  rw [Nat.gcd_div (Nat.gcd_dvd_left m n) (Nat.gcd_dvd_right m n), Nat.div_self h]
theorem kcr_all {X : Cx} {K : PySem.W.Frag} (hc : X.calm = true) (hK : X.K = K := by rfl) : CallR X (.builtin "all") (rAll K) := hK ▸ cr_all hc
def spDue (K : PySem.W.Frag) : Sp := fun vs H Q _ => ∃ (a c : Addr) (ts : List Addr) (ss : List (List Nat)) (F : List Nat) (kvs : List (L2.Key × V)) (ks : List Int) (q : Nat → Addr) (N D : Nat → Nat), vs = [.ref a, .ref c] ∧ H a = some (.lst (ts.map V.ref)) ∧ Sets K H ts ss ∧ (∀ s ∈ ss, Asc s) ∧ (∀ s ∈ ss, ∀ x ∈ s, x < 60) ∧ ss.length ≤ 400 ∧ Asc F ∧ (∀ x, x ∈ F ↔ ∃ s ∈ ss, x ∈ s) ∧ F.length ≤ 7 ∧
  H c = some (.dK kvs) ∧ kvs.map (·.1) = ks.map Sum.inl ∧ ks.Perm (F.map fun (n : Nat) => (n : Int)) ∧ (∀ x ∈ F, valV kvs (.inl (x : Int)) = some (.ref (q x)) ∧ H (q x) = some (.tup [.int (N x : Nat), .int (D x : Nat)])) ∧ (∀ x, N x ≤ D x ∧ 1 ≤ D x ∧ D x ≤ 12) ∧
      ∀ H' t S W, S = Pw (fun k => N (F.getD k 0)) (fun k => D (F.getD k 0)) F.length 0 (HP (ss.map (mask F))) → W = pr (fun k => D (F.getD k 0)) F.length 0 → Same H H' → H' t = some (.tup [.int ((S / Nat.gcd S W : Nat) : Int), .int ((W / Nat.gcd S W : Nat) : Int)]) → Q (.ref t) H'
theorem ok_law_due (c_law_low : CalX P w K mg base 2 "_law_low" spLow) {f : Addr} {fd : FuncData} (F : Fun K "_law_due" "_law_due" s_law_due f fd) (T : Txt K mg ad) : FnOk P w K mg base (L2.CX P w) 4 f fd ["sets", "chances"] (spDue K) := by
  refine F.okX sc_law_due (fun vs H Q E => ?_) (fun cdv A outer s H vs Q E hr h => ?_)
  · walk_at "len"
  ·
    obtain ⟨a, c, ts, ss, F, kvs, ks, q, N, Dn, rfl, ha, hs, asc, lt, sl, ascF, memF, h7, ec, ek, pk, hq, hN, k⟩ := h
    refine ⟨_, (pss_cons (ps_set (i := 2) sc_law_due.nd rfl (by first | exact Or.inl rfl | exact Or.inr rfl) (pe_callB (call_sortedDI rfl) (by rfl) T.z_sorted (by decide +kernel) (pa_cons (pv 1) pa_nil)))
      (pss_cons (ps_set (i := 3) sc_law_due.nd rfl (by first | exact Or.inl rfl | exact Or.inr rfl) (pe_tup (pa_cons pe_int (pa_cons pe_int pa_nil))))
      (pss_cons (ps_set (i := 4) sc_law_due.nd rfl (by first | exact Or.inl rfl | exact Or.inr rfl) (pe_lst (pa_cons (pe_tup (pa_cons (pe_tup pa_nil) (pa_cons pe_int (pa_cons pe_int pa_nil)))) pa_nil)))
      (pss_cons (ps_for (passes_of rfl) rfl (pi_list (pv 2)) (pg_name (i := 5) sc_law_due.nd rfl (by first | exact Or.inl rfl | exact Or.inr rfl)) (pss_cons (ps_asg (pe_dget (hu_of hr) (pv 1) (pv 5) (fun _ _ => rfl)) (pg_tup rfl (pgs_cons (pg_name (i := 6) sc_law_due.nd rfl (by first | exact Or.inl rfl | exact Or.inr rfl)) (pgs_cons (pg_name (i := 7) sc_law_due.nd rfl (by first | exact Or.inl rfl | exact Or.inr rfl)) pgs_nil))))
      (pss_cons (ps_set (i := 8) sc_law_due.nd rfl (by first | exact Or.inl rfl | exact Or.inr rfl) (pe_lst pa_nil))
      (pss_cons (ps_for (passes_of rfl) rfl (pi_list (pv 4)) (pg_name (i := 9) sc_law_due.nd rfl (by first | exact Or.inl rfl | exact Or.inr rfl)) (pss_cons (ps_expr (pe_bm PySem.F.plainAttrs_list PySem.F.slot_list_append PySem.F.type_list_append mt_append (pv 8) (pa_cons (pe_tup (pa_cons (pe_op op_catA (pe_ix ix_tup (pv 9) pe_int (fun _ _ => rfl)) (pe_tup (pa_cons (pv 5) pa_nil))) (pa_cons (pe_op op_mul (pe_ix ix_tup (pv 9) pe_int (fun _ _ => rfl)) (pv 6)) (pa_cons (pe_op op_mul (pe_ix ix_tup (pv 9) pe_int (fun _ _ => rfl)) (pv 7)) pa_nil)))) pa_nil)))
      (pss_one (ps_expr (pe_bm PySem.F.plainAttrs_list PySem.F.slot_list_append PySem.F.type_list_append mt_append (pv 8) (pa_cons (pe_tup (pa_cons (pe_ix ix_tup (pv 9) pe_int (fun _ _ => rfl)) (pa_cons (pe_op op_mul (pe_ix ix_tup (pv 9) pe_int (fun _ _ => rfl)) (pe_op op_sub (pv 7) (pv 6))) (pa_cons (pe_op op_mul (pe_ix ix_tup (pv 9) pe_int (fun _ _ => rfl)) (pv 7)) pa_nil)))) pa_nil))))))
      (pss_one (ps_set (i := 4) sc_law_due.nd rfl (by first | exact Or.inl rfl | exact Or.inr rfl) (pv 8)))))))
      (pss_cons (ps_for (passes_of rfl) rfl (pi_list (pv 4)) (pg_name (i := 9) sc_law_due.nd rfl (by first | exact Or.inl rfl | exact Or.inr rfl)) (pss_one (ps_if (pt_val (pe_callB (cr_any rfl) (by rfl) T.z_any (by decide +kernel) (pa_cons (pe_lc (own := [("one", 10)]) (tt := tYes) rfl sc_law_due.nd (pi_list (pv 0)) (blkOk_by (by kernel_rfl)) (fun _ _ _ _ _ => (pg_name (i := 10) sc_law_due.nd rfl (by first | exact Or.inl rfl | exact Or.inr rfl))) (fun _ _ _ _ _ => pts_nil) (fun _ _ _ _ _ => (pe_callB (kcr_all (K := K) rfl) (by rfl) T.z_all (by decide +kernel) (pa_cons (pe_lc (own := [("fact", 5)]) (tt := tYes) rfl sc_law_due.nd (kpi_tup (K := K) (pv 10)) (blkOk_by (by kernel_rfl)) (fun _ _ _ _ _ => (pg_name (i := 5) sc_law_due.nd rfl (by first | exact Or.inl rfl | exact Or.inr rfl))) (fun _ _ _ _ _ => pts_nil) (fun _ _ _ _ _ => (pe_cmpR (kin_seq (K := K)) (pv 5) (pe_ix (kix_tup (K := K)) (pv 9) pe_int (fun _ _ => rfl)) (by rfl)))) pa_nil)))) pa_nil))) (pss_cons (ps_set (i := 3) sc_law_due.nd rfl (by first | exact Or.inl rfl | exact Or.inr rfl) (pe_tup (pa_cons (pe_op op_add (pe_op op_mul (pe_ix ix_tup (pv 3) pe_int (fun _ _ => rfl)) (pe_ix ix_tup (pv 9) pe_int (fun _ _ => rfl))) (pe_op op_mul (pe_ix ix_tup (pv 9) pe_int (fun _ _ => rfl)) (pe_ix ix_tup (pv 3) pe_int (fun _ _ => rfl)))) (pa_cons (pe_op op_mul (pe_ix ix_tup (pv 3) pe_int (fun _ _ => rfl)) (pe_ix ix_tup (pv 9) pe_int (fun _ _ => rfl))) pa_nil))))
      (pss_one (ps_set (i := 3) sc_law_due.nd rfl (by first | exact Or.inl rfl | exact Or.inr rfl) (pc_call c_law_low hr (by first | decide | omega) (takes_of rfl rfl rfl rfl) (by rfl) (pa_cons (pe_ix ix_tup (pv 3) pe_int (fun _ _ => rfl)) (pa_cons (pe_ix ix_tup (pv 3) pe_int (fun _ _ => rfl)) pa_nil)))))) pss_nil)))
      (pss_one (ps_ret (pv 3)))))))), ?_⟩
    have lks : ks.length ≤ 7 := by rw [pk.length_eq, List.length_map]; exact h7
    refine go_seq ⟨_, rfl, c, kvs, ks, rfl, .inl ec, ek, by omega, fun ys l hp hsr hl => go_name rfl ?_⟩
    obtain ⟨F', eF', pF', sF'⟩ := nats (hp.trans pk) hsr
    have eFF : F' = F := asc_ext (asc_of pF' ascF.nd sF') ascF fun x => pF'.mem_iff
    subst eFF
    rw [eF']
    have s1 := same_new (o := .lst (nV F')) (Same.refl H) hl
    have el : (upd H l (.lst (nV F'))) l = some (.lst (nV F')) := upd_same
    generalize upd H l (.lst (nV F')) = H1 at s1 el
    -- total, ways
    refine go_seq ⟨(show 2 ≤ sizeLine by decide), fun t0 h0 => go_name rfl ?_⟩
    have s2 := same_new (o := .tup [.int 0, .int 1]) (Same.refl H1) h0
    have et0 : (upd H1 t0 (.tup [.int 0, .int 1])) t0 = some (.tup [.int 0, .int 1]) := upd_same
    generalize upd H1 t0 (.tup [.int 0, .int 1]) = H2 at s2 et0
    refine go_seq ⟨(show 0 ≤ sizeLine by decide), fun u0 hu0 => ⟨(show 3 ≤ sizeLine by decide), fun w0 hw0 => ⟨(show 1 ≤ sizeLine by decide), fun wl hwl => go_name rfl ?_⟩⟩⟩
    have s3 := same_new (o := .tup []) (Same.refl H2) hu0
    have s4 := same_new (o := .tup [.ref u0, .int 1, .int 1]) (Same.refl _) hw0
    have s5 := same_new (o := .lst [.ref w0]) (Same.refl _) hwl
    have wv0 : Wv (upd (upd (upd H2 u0 (.tup [])) w0 (.tup [.ref u0, .int 1, .int 1])) wl (.lst [.ref w0])) [.ref w0] [([], 1)] 1 := Wv.snoc (zs := []) (L := []) ⟨rfl, fun i z x h => (by simp at h)⟩ (s5 _ _ upd_same) (s5 _ _ (s4 _ _ upd_same))
    have ew0 : (upd (upd (upd H2 u0 (.tup [])) w0 (.tup [.ref u0, .int 1, .int 1])) wl (.lst [.ref w0])) wl = some (.lst [.ref w0]) := upd_same
    have s23 : Same H2 (upd (upd (upd H2 u0 (.tup [])) w0 (.tup [.ref u0, .int 1, .int 1])) wl (.lst [.ref w0])) := fun b o z => s5 _ _ (s4 _ _ (s3 _ _ z))
    generalize upd (upd (upd H2 u0 (.tup [])) w0 (.tup [.ref u0, .int 1, .int 1])) wl (.lst [.ref w0]) = H3 at s23 wv0 ew0
    have s03 : Same H H3 := fun b o z => s23 _ _ (s2 _ _ (s1 _ _ z))
    obtain ⟨nn, hnn⟩ : ∃ nn : Nat → Nat, nn = fun k => N (F'.getD k 0) := ⟨_, rfl⟩
    obtain ⟨dd, hdd⟩ : ∃ dd : Nat → Nat, dd = fun k => Dn (F'.getD k 0) := ⟨_, rfl⟩
    have hle : ∀ k, nn k ≤ dd k := fun k => by rw [hnn, hdd]; exact (hN _).1
    have h1d : ∀ k, 1 ≤ dd k := fun k => by rw [hdd]; exact (hN _).2.1
    have hd12 : ∀ k, dd k ≤ 12 := fun k => by rw [hdd]; exact (hN _).2.2
    rw [← hnn, ← hdd] at k
    have hsF : ∀ s ∈ ss, ∀ x ∈ s, x ∈ F' := fun s hs' x hx => (memF x).mpr ⟨s, hs', hx⟩
    have q0 : Wy nn dd (HP (ss.map (mask F'))) F'.length 0 (mkW F' [([], 1)]) = Pw nn dd F'.length 0 (HP (ss.map (mask F'))) := wy_one _ _
    generalize hS0 : Pw nn dd F'.length 0 (HP (ss.map (mask F'))) = S0 at k q0
    refine go_sq ?_
    refine ⟨_, rfl, l, rfl, ⟨_, SqL.of (s23 _ _ (s2 _ _ el))⟩, ?_⟩
    have el3 := s23 _ _ (s2 _ _ el)
    refine for_list (K := K) (a := l) (xs := nV F') (fun i σ H' => ∃ (wl : Addr) (zs : List V) (L : List (List Nat × Nat)) (v5 v6 v7 v8 v9 : Option V), σ = [some (.ref a), some (.ref c), some (.ref l), some (.ref t0), some (.ref wl), v5, v6, v7, v8, v9, none] ∧ Same H3 H' ∧ H' wl = some (.lst zs) ∧ Wv H' zs L (pr dd i 0) ∧ L.length = 2 ^ i ∧ (∀ y ∈ L, Sb F' i y.1) ∧ Wy nn dd (HP (ss.map (mask F'))) (F'.length - i) i (mkW F' L) = S0)
      ⟨wl, [.ref w0], [([], 1)], none, none, none, none, none, rfl, Same.refl _, ew0, wv0, rfl, fun y hy => by rw [List.mem_singleton.mp hy]; exact ⟨List.nodup_nil, fun _ h => nomatch h⟩, q0⟩ (fun i σ H' _ ⟨_, _, _, _, _, _, _, _, _, s', _⟩ => SqL.of (s' _ _ el3)) ?_ ?_
    · rintro i z σ H4 hz ⟨wl, zs, L, v5, v6, v7, v8, v9, rfl, s34, ewl, wv, lL, sb, wy⟩
      obtain ⟨x, hxF, rfl⟩ := nV_in hz
      have xm := List.mem_of_getElem? hxF
      have hiF := (List.getElem?_eq_some_iff.mp hxF).1
      have egx : F'.getD i 0 = x := by rw [List.getD_eq_getElem?_getD, hxF]; rfl
      have enn : nn i = N x := by rw [hnn, ← egx]
      have edd : dd i = Dn x := by rw [hdd, ← egx]
      obtain ⟨hv, hqx⟩ := hq x xm
      obtain ⟨hNx, h1x, h12x⟩ := hN x
      have ec4 := s34 _ _ (s03 _ _ ec)
      refine go_name rfl (go_sq ?_)
      refine ⟨_, rfl, _, rfl, c, _, rfl, hv ▸ DGet.k (k := .inl (x : Int)) ec4, q x, _, rfl, SqT.of (s34 _ _ (s03 _ _ hqx)), rfl, _, _, rfl, go_name rfl ⟨_, _, rfl, go_name rfl ⟨rfl, go_nx (go_sq ?_)⟩⟩⟩
      refine ⟨(show 0 ≤ sizeLine by decide), fun nl hnl => go_name rfl (go_nx (go_sq ?_))⟩
      have s45 := same_new (o := .lst []) (Same.refl H4) hnl
      have enl : (upd H4 nl (.lst [])) nl = some (.lst []) := upd_same
      generalize upd H4 nl (.lst []) = H5 at s45 enl
      have ewl5 := s45 _ _ ewl
      have wv5 := wv.keeps fun b ys e => s45 _ _ e
      have nwl : wl ≠ nl := ne_of_none ewl hnl
      refine ⟨_, rfl, wl, rfl, ⟨_, SqL.of ewl5⟩, ?_⟩
      refine for_list (K := K) (a := wl) (xs := zs) (fun j σ H' => ∃ (zs' : List V) (v9 : Option V), σ = [some (.ref a), some (.ref c), some (.ref l), some (.ref t0), some (.ref wl), some (.int (x : Int)), some (.int (N x : Nat)), some (.int (Dn x : Nat)), some (.ref nl), v9, none] ∧ (∀ b o, b ≠ nl → H5 b = some o → H' b = some o) ∧ H' nl = some (.lst zs') ∧ Wv H' zs' (extS (N x) (Dn x - N x) x (L.take j)) (pr dd i 0 * Dn x))
        ⟨[], v9, rfl, fun _ _ _ e => e, enl, rfl, fun i z x h => (by simp at h)⟩ (fun j σ H' _ ⟨_, _, _, f', _⟩ => SqL.of (f' _ _ nwl ewl5)) ?_ ?_
      · rintro j z σ H6 hz ⟨zs', v9, rfl, f6, e6, wv6⟩
        have hjL : j < L.length := by rw [← wv5.1]; exact (List.getElem?_eq_some_iff.mp hz).1
        have hLj : L[j]? = some L[j] := List.getElem?_eq_getElem hjL
        obtain ⟨tw, u, rfl, etw, eu⟩ := wv5.2 j z _ hz hLj
        have sbj := sb _ (List.getElem_mem hjL)
        generalize L[j] = y at hLj etw eu sbj
        obtain ⟨sub, pp⟩ := y
        have etw : H5 tw = some (.tup [.ref u, .int (pp : Nat), .int (pr dd i 0 : Nat)]) := etw
        have eu : H5 u = some (.tup (nV sub)) := eu
        have ntup : ∀ {b ys}, H5 b = some (.tup ys) → b ≠ nl := fun e z => by rw [z, enl] at e; cases e
        have etw6 := f6 _ _ (ntup etw) etw
        have eu6 := f6 _ _ (ntup eu) eu
        have lsub : sub.length ≤ 60 := nd_len 60 _ sbj.1 fun x hx => by
          obtain ⟨s, h1, h2⟩ := (memF x).mp (List.mem_of_mem_take (sbj.2 x hx))
          exact lt s h1 x h2
        have l128 : 2 ^ i ≤ 128 := Nat.le_trans (Nat.pow_le_pow_right (by decide) (show i ≤ 7 by omega)) (by decide)
        have lz6 : zs'.length = 2 * (L.take j).length := by rw [wv6.1, extS_len]
        rw [List.length_take] at lz6
        refine go_name rfl (go_sq ?_)
        refine ⟨_, rfl, .inl ⟨rfl, _, SqL.of e6⟩, _, rfl, tw, _, _, .ref u, rfl, rfl, SqT.of etw6, at_of (j := 0) rfl rfl, _, rfl, (show 1 ≤ sizeLine by decide), fun t1 ht1 => ?_⟩
        have s7 := same_new (o := .tup [.int (x : Int)]) (Same.refl H6) ht1
        refine catT (s7 _ _ eu6) upd_same (by rw [nV_length]; show sub.length + 1 ≤ 100000; omega) fun u2 H7 s8 eu2 => ?_
        have s67 : Same H6 H7 := fun b o z => s8 _ _ (s7 _ _ z)
        have etw7 := s67 _ _ etw6
        refine ⟨_, rfl, tw, _, _, .int (pp : Nat), rfl, rfl, SqT.of etw7, at_of (j := 1) rfl rfl, _, rfl, _, _, rfl, rfl, .inr ⟨by omega, by omega⟩, _, rfl, tw, _, _, .int (pr dd i 0 : Nat), rfl, rfl, SqT.of etw7, at_of (j := 2) rfl rfl, _, rfl, _, _, rfl, rfl, .inr ⟨by omega, by omega⟩, (show 3 ≤ sizeLine by decide), fun t2 ht2 => ?_⟩
        have s78 := same_new (o := .tup [.ref u2, .int ((pp * N x : Nat) : Int), .int ((pr dd i 0 * Dn x : Nat) : Int)]) (Same.refl H7) ht2
        have e8t : (upd H7 t2 (.tup [.ref u2, .int ((pp * N x : Nat) : Int), .int ((pr dd i 0 * Dn x : Nat) : Int)])) t2 = some (.tup [.ref u2, .int ((pp * N x : Nat) : Int), .int ((pr dd i 0 * Dn x : Nat) : Int)]) := upd_same
        have s68 : Same H6 (upd H7 t2 (.tup [.ref u2, .int ((pp * N x : Nat) : Int), .int ((pr dd i 0 * Dn x : Nat) : Int)])) := fun b o z => s78 _ _ (s67 _ _ z)
        have eu28 := s78 _ _ eu2
        refine ⟨nl, zs', _, rfl, rfl, s68 _ _ e6, ?_, go_nx ?_⟩
        · rw [lz6]
          exact Nat.lt_of_le_of_lt (by omega : _ ≤ 1000) (by decide)
        obtain ⟨H8, h8⟩ : ∃ G, G = upd H7 t2 (.tup [.ref u2, .int ((pp * N x : Nat) : Int), .int ((pr dd i 0 * Dn x : Nat) : Int)]) := ⟨_, rfl⟩
        have h8' : (upd H7 t2 (.tup [.ref u2, (fun i j => V.int (i * j)) (pp : Int) (N x : Int), (fun i j => V.int (i * j)) (pr dd i 0 : Int) (Dn x : Int)])) = H8 := h8.symm
        rw [h8']
        rw [← h8] at e8t s68 eu28
        have nn8 : ∀ {b ys}, H8 b = some (.tup ys) → b ≠ nl := fun e z => by rw [z, s68 _ _ e6] at e; cases e
        have e9 : (upd H8 nl (.lst (zs' ++ [.ref t2]))) nl = some (.lst (zs' ++ [.ref t2])) := upd_same
        have t89 : ∀ b ys, H8 b = some (.tup ys) → (upd H8 nl (.lst (zs' ++ [.ref t2]))) b = some (.tup ys) := fun b ys e => by rw [upd_ne (nn8 e)]; exact e
        have f9 : ∀ b o, b ≠ nl → H5 b = some o → (upd H8 nl (.lst (zs' ++ [.ref t2]))) b = some o := fun b o n e => by rw [upd_ne n]; exact s68 _ _ (f6 _ _ n e)
        have wv9 : Wv (upd H8 nl (.lst (zs' ++ [.ref t2]))) (zs' ++ [.ref t2]) (extS (N x) (Dn x - N x) x (L.take j) ++ [(sub ++ [x], pp * N x)]) (pr dd i 0 * Dn x) := Wv.snoc (y := (sub ++ [x], pp * N x)) (wv6.keeps fun b ys e => t89 _ _ (s68 _ _ e)) (t89 _ _ e8t) (by rw [← nV_app]; exact t89 _ _ eu28)
        have etw9 := t89 _ _ (s68 _ _ etw6)
        have eu9 := t89 _ _ (s68 _ _ eu6)
        generalize upd H8 nl (.lst (zs' ++ [.ref t2])) = H9 at e9 f9 wv9 etw9 eu9
        refine ⟨_, rfl, .inl ⟨rfl, _, SqL.of e9⟩, _, rfl, tw, _, _, .ref u, rfl, rfl, SqT.of etw9, at_of (j := 0) rfl rfl, _, rfl, tw, _, _, .int (pp : Nat), rfl, rfl, SqT.of etw9, at_of (j := 1) rfl rfl, _, rfl, _, rfl, _, _, rfl, rfl, _, _, rfl, rfl, .inr ⟨by omega, by omega⟩, _, rfl, tw, _, _, .int (pr dd i 0 : Nat), rfl, rfl, SqT.of etw9, at_of (j := 2) rfl rfl, _, rfl, _, _, rfl, rfl, .inr ⟨by omega, by omega⟩, (show 3 ≤ sizeLine by decide), fun t3 ht3 => ?_⟩
        have ev : V.int ((pp : Int) * ((Dn x : Int) - (N x : Int))) = .int ((pp * (Dn x - N x) : Nat) : Int) := by rw [Int.natCast_mul, Int.natCast_sub hNx]
        have s10 := same_new (o := .tup [.ref u, .int ((pp : Int) * ((Dn x : Int) - (N x : Int))), .int ((pr dd i 0 * Dn x : Nat) : Int)]) (Same.refl H9) ht3
        have e10t : (upd H9 t3 (.tup [.ref u, .int ((pp : Int) * ((Dn x : Int) - (N x : Int))), .int ((pr dd i 0 * Dn x : Nat) : Int)])) t3 = some (.tup [.ref u, .int ((pp * (Dn x - N x) : Nat) : Int), .int ((pr dd i 0 * Dn x : Nat) : Int)]) := by rw [← ev]; exact upd_same
        refine ⟨nl, _, _, rfl, rfl, s10 _ _ e9, ?_, go_nx ?_⟩
        · rw [List.length_append, List.length_singleton, lz6]
          exact Nat.lt_of_le_of_lt (by omega : _ ≤ 1000) (by decide)
        have nn10 : ∀ {b ys}, (upd H9 t3 (.tup [.ref u, .int ((pp : Int) * ((Dn x : Int) - (N x : Int))), .int ((pr dd i 0 * Dn x : Nat) : Int)])) b = some (.tup ys) → b ≠ nl := fun e z => by rw [z, s10 _ _ e9] at e; cases e
        have tk : extS (N x) (Dn x - N x) x (L.take (j + 1)) = extS (N x) (Dn x - N x) x (L.take j) ++ [(sub ++ [x], pp * N x)] ++ [(sub, pp * (Dn x - N x))] := by
          rw [List.take_add_one, hLj, extS_app, List.append_assoc]; rfl
        refine ⟨_, _, rfl, fun b o n e => ?_, upd_same, ?_⟩
        · show upd _ nl _ b = _
          rw [upd_ne n]
          exact s10 _ _ (f9 _ _ n e)
        · rw [tk]
          exact Wv.snoc (y := (sub, pp * (Dn x - N x))) (wv9.keeps fun b ys e => by show upd _ nl _ b = _; rw [upd_ne (nn10 (s10 _ _ e))]; exact s10 _ _ e) (by show upd _ nl _ t3 = _; rw [upd_ne (nn10 e10t)]; exact e10t) (by show upd _ nl _ u = _; rw [upd_ne (nn10 (s10 _ _ eu9))]; exact s10 _ _ eu9)
      · rintro σ H6 ⟨zs', v9, rfl, f6, e6, wv6⟩
        rw [wv5.1, List.take_length] at wv6
        refine go_nx ⟨_, rfl, go_name rfl ⟨nl, zs', extS (N x) (Dn x - N x) x L, some (.int (x : Int)), some (.int (N x : Nat)), some (.int (Dn x : Nat)), some (.ref nl), v9, rfl, fun b o e => f6 _ _ (ne_of_none (s34 _ _ e) hnl) (s45 _ _ (s34 _ _ e)), e6, ?_, by rw [extS_len, lL, Nat.pow_succ, Nat.mul_comm], sb_ext ascF.nd hxF sb, ?_⟩⟩
        · rw [pr_snoc, Nat.zero_add, edd]; exact wv6
        · have e1 := mkW_ext ascF.nd (nn := nn) (dd := dd) hxF sb
          rw [enn, edd] at e1
          obtain ⟨R, hR⟩ : ∃ R, F'.length - i = R + 1 := ⟨F'.length - i - 1, by omega⟩
          rw [e1, show F'.length - (i + 1) = R by omega, wy_step, ← hR]
          exact wy
    · rintro σ H4 ⟨wl, zs, L, v5, v6, v7, v8, v9, rfl, s34, ewl, wv, lL, sb, wy⟩
      rw [nV_length] at wv lL sb wy
      rw [Nat.sub_self, hit_end asc hsF sb] at wy
      have W7 : pr dd F'.length 0 ≤ 12 ^ 7 := Nat.le_trans (pr_le hd12 _ _) (Nat.pow_le_pow_right (by decide) h7)
      have Wp := pr_pos h1d F'.length 0
      generalize pr dd F'.length 0 = W at k W7 Wp wv
      have W26 : W ≤ 35831808 := Nat.le_trans W7 (by decide)
      have et4 := s34 _ _ (s23 _ _ et0)
      have s04 : Same H H4 := fun b o z => s34 _ _ (s03 _ _ z)
      refine go_nx (go_sq ?_)
      refine ⟨_, rfl, wl, rfl, ⟨_, SqL.of ewl⟩, ?_⟩
      refine for_list (K := K) (a := wl) (xs := zs) (fun j σ H' => ∃ (t : Addr) (x y : Nat) (v9 : Option V), σ = [some (.ref a), some (.ref c), some (.ref l), some (.ref t), some (.ref wl), v5, v6, v7, v8, v9, none] ∧ Same H4 H' ∧ H' t = some (.tup [.int (x : Nat), .int (y : Nat)]) ∧ Nat.gcd x y = 1 ∧ 1 ≤ y ∧ x * W = y * hitS ss (L.take j))
        ⟨t0, 0, 1, v9, rfl, Same.refl _, et4, rfl, Nat.le_refl _, by rw [List.take_zero]; show 0 * W = 1 * 0; omega⟩ (fun j σ H' _ ⟨_, _, _, _, _, s', _⟩ => SqL.of (s' _ _ ewl)) ?_ ?_
      · rintro j z σ H5 hz ⟨t, x, y, v9, rfl, s45, et, co, yp, hxy⟩
        have hjL : j < L.length := by rw [← wv.1]; exact (List.getElem?_eq_some_iff.mp hz).1
        have hLj : L[j]? = some L[j] := List.getElem?_eq_getElem hjL
        obtain ⟨tw, u, rfl, etw, eu⟩ := wv.2 j z _ hz hLj
        have hS1 : hitS ss (L.take (j + 1)) = hitS ss (L.take j) + (if hitB ss L[j].1 = true then L[j].2 else 0) := by
          unfold hitS
          rw [List.take_add_one, hLj, show (some L[j]).toList = [L[j]] from rfl, List.map_append, List.sum_append]
          rfl
        generalize L[j] = yy at hLj etw eu hS1
        obtain ⟨sub, pp⟩ := yy
        have etw : H4 tw = some (.tup [.ref u, .int (pp : Nat), .int (W : Nat)]) := etw
        have eu : H4 u = some (.tup (nV sub)) := eu
        have hS1 : hitS ss (L.take (j + 1)) = hitS ss (L.take j) + (if hitB ss sub = true then pp else 0) := hS1
        have yW : y ≤ W := by
          have := (frac yp Wp co hxy).2
          rw [this]
          exact Nat.div_le_self _ _
        refine go_name rfl ?_
        refine ⟨_, rfl, a, rfl, ⟨_, SqL.of (s45 _ _ (s04 _ _ ha))⟩, fun D hD => ?_⟩
        refine DC2.walk_l (K := K) (xs := ts.map V.ref) (fun t H' => Same H5 H' ∧ H' D = some (.lst (((ss.take t).map fun one => one.all fun x => decide (x ∈ sub)).map V.bl))) ⟨same_new (Same.refl _) hD, upd_same⟩ (fun t H' _ ⟨s', _⟩ => SqL.of (s' _ _ (s45 _ _ (s04 _ _ ha)))) (fun t z H6 hz ⟨s6, e6⟩ => ?_) (fun H6 ⟨s6, e6⟩ => ?_)
        · rw [List.getElem?_map] at hz
          obtain ⟨q1, hq1, rfl⟩ := Option.map_eq_some_iff.mp hz
          have hts : t < ss.length := by rw [← hs.1]; exact (List.getElem?_eq_some_iff.mp hq1).1
          have hss : ss[t]? = some ss[t] := List.getElem?_eq_getElem hts
          have eq1 := s6 _ _ (s45 _ _ (s04 _ _ (hs.2 t q1 _ hq1 hss)))
          have one60 : ss[t].length ≤ 60 := nd_len 60 _ (asc _ (List.getElem_mem hts)).nd (lt _ (List.getElem_mem hts))
          generalize ss[t] = one at hss eq1 one60
          have eu6 := s6 _ _ (s45 _ _ eu)
          have etw6 := s6 _ _ (s45 _ _ etw)
          refine ⟨rfl, yes_then (iteT ⟨_, rfl, q1, rfl, ⟨_, SqT.of eq1⟩, fun D2 hD2 => ?_⟩)⟩
          refine DC2.walk_t (K := K) (xs := nV one) (fun m H' => Same H6 H' ∧ H' D2 = some (.lst (((one.take m).map fun x => decide (x ∈ sub)).map V.bl))) ⟨same_new (Same.refl _) hD2, upd_same⟩ (fun m H' _ ⟨s', _⟩ => SqT.of (s' _ _ eq1)) (fun m z H7 hz ⟨s7, e7⟩ => ?_) (fun H7 ⟨s7, e7⟩ => ?_)
          · obtain ⟨n, hn, rfl⟩ := nV_in hz
            refine ⟨rfl, yes_then (iteT ⟨_, rfl, _, rfl, tw, _, _, .ref u, rfl, rfl, SqT.of (s7 _ _ etw6), at_of (j := 0) rfl rfl, u, nV sub, rfl, .inr (SqT.of (s7 _ _ eu6)), rfl, KM.nV_flat sub, _, e7, ?_, same_but hD2 s7 but_app, ?_⟩)⟩
            · rw [List.length_map, List.length_map, List.length_take]
              exact Nat.lt_of_le_of_lt (by omega : _ ≤ 1000) (by decide)
            · rw [upd_same, List.take_add_one, hn, List.map_append, List.map_append]
              show _ = some (HO.lst (_ ++ [V.bl (decide (n ∈ sub))]))
              rw [← KM.inV_nV n sub]
              rfl
          · rw [nV_length, List.take_length] at e7
            refine ⟨D2, _, rfl, SqL.of e7, _, s7 _ _ e6, ?_, same_but hD (fun b o z => s7 _ _ (s6 _ _ z)) but_app, ?_⟩
            · rw [List.length_map, List.length_map, List.length_take]
              exact Nat.lt_of_le_of_lt (by omega : _ ≤ 1000) (by decide)
            · rw [upd_same, List.take_add_one, hss, show (some one).toList = [one] from rfl, List.map_append, List.map_append, List.all_map]
              rfl
        · rw [List.length_map, hs.1, List.take_length] at e6
          have s06 : Same H4 H6 := fun b o z => s6 _ _ (s45 _ _ z)
          have et6 := s6 _ _ et
          have etw6 := s06 _ _ etw
          refine ⟨D, _, rfl, SqL.of e6, _, rfl, ?_⟩
          have eh : (ss.map fun one => one.all fun x => decide (x ∈ sub)).any id = hitB ss sub := by rw [List.any_map]; rfl
          rw [eh]
          by_cases c : hitB ss sub = true
          · rw [c]
            rw [if_pos c] at hS1
            have yWW : y * W ≤ 35831808 * 35831808 := Nat.mul_le_mul (Nat.le_trans yW W26) W26
            have yW1 : 1 ≤ y * W := Nat.mul_le_mul yp Wp
            refine iteT (go_sq ?_)
            refine ⟨_, rfl, t, _, _, .int (x : Nat), rfl, rfl, SqT.of et6, at_of (j := 0) rfl rfl, _, rfl, tw, _, _, .int (W : Nat), rfl, rfl, SqT.of etw6, at_of (j := 2) rfl rfl, _, _, rfl, rfl, .inr ⟨by omega, by omega⟩, _, rfl, tw, _, _, .int (pp : Nat), rfl, rfl, SqT.of etw6, at_of (j := 1) rfl rfl, _, rfl, t, _, _, .int (y : Nat), rfl, rfl, SqT.of et6, at_of (j := 1) rfl rfl, _, _, rfl, rfl, .inr ⟨by omega, by omega⟩, _, _, rfl, rfl, _, rfl, t, _, _, .int (y : Nat), rfl, rfl, SqT.of et6, at_of (j := 1) rfl rfl, _, rfl, tw, _, _, .int (W : Nat), rfl, rfl, SqT.of etw6, at_of (j := 2) rfl rfl, _, _, rfl, rfl, .inr ⟨by omega, by omega⟩, (show 2 ≤ sizeLine by decide), fun t1 ht1 => go_name rfl (go_nx ?_)⟩
            have s7 := same_new (o := .tup [.int ((x * W + pp * y : Nat) : Int), .int ((y * W : Nat) : Int)]) (Same.refl H6) ht1
            have et1 : (upd H6 t1 (.tup [.int ((x * W + pp * y : Nat) : Int), .int ((y * W : Nat) : Int)])) t1 = some (.tup [.int ((x * W + pp * y : Nat) : Int), .int ((y * W : Nat) : Int)]) := upd_same
            obtain ⟨H7, h7e⟩ : ∃ G, G = upd H6 t1 (.tup [.int ((x * W + pp * y : Nat) : Int), .int ((y * W : Nat) : Int)]) := ⟨_, rfl⟩
            have h7' : (upd H6 t1 (.tup [(fun i j => V.int (i + j)) ((x : Int) * (W : Int)) ((pp : Int) * (y : Int)), (fun i j => V.int (i * j)) (y : Int) (W : Int)])) = H7 := h7e.symm
            rw [← h7e] at s7 et1
            rw [h7']
            refine ⟨_, rfl, t1, _, _, .int ((x * W + pp * y : Nat) : Int), rfl, rfl, SqT.of et1, at_of (j := 0) rfl rfl, _, rfl, t1, _, _, .int ((y * W : Nat) : Int), rfl, rfl, SqT.of et1, at_of (j := 1) rfl rfl, x * W + pp * y, y * W, rfl, yW1, Nat.lt_of_le_of_lt yWW (by decide), fun H8 t2 s8 t20 et2 => go_name rfl ⟨t2, _, _, some (.ref tw), rfl, fun b o z => s8 _ _ (s7 _ _ (s06 _ _ z)), et2, cop_div (Nat.gcd_pos_of_pos_right _ yW1), Nat.div_pos (Nat.le_of_dvd yW1 (Nat.gcd_dvd_right _ _)) (Nat.gcd_pos_of_pos_right _ yW1), ?_⟩⟩
            rw [hS1]
            have gp : 0 < Nat.gcd (x * W + pp * y) (y * W) := Nat.gcd_pos_of_pos_right _ yW1
            have d1 := Nat.div_mul_cancel (Nat.gcd_dvd_left (x * W + pp * y) (y * W))
            have d2 := Nat.div_mul_cancel (Nat.gcd_dvd_right (x * W + pp * y) (y * W))
            generalize Nat.gcd (x * W + pp * y) (y * W) = g at gp d1 d2 ⊢
            generalize (x * W + pp * y) / g = x' at d1 ⊢
            generalize y * W / g = y' at d2 ⊢
            have e1 : x' * g = y * (hitS ss (L.take j) + pp) := by rw [d1, hxy, Nat.mul_add, Nat.mul_comm pp]
            refine Nat.eq_of_mul_eq_mul_right (show 0 < g * y from Nat.mul_pos gp yp) ?_
            have l1 : x' * W * (g * y) = x' * g * (W * y) := by
              rw [Nat.mul_assoc, Nat.mul_assoc, Nat.mul_left_comm W g y]
            have l2 : y' * (hitS ss (L.take j) + pp) * (g * y) = y' * g * (y * (hitS ss (L.take j) + pp)) := by
              rw [Nat.mul_assoc, Nat.mul_assoc, Nat.mul_left_comm (hitS ss (L.take j) + pp) g y, Nat.mul_comm (hitS ss (L.take j) + pp) y]
            rw [l1, l2, e1, d2, Nat.mul_comm W y, Nat.mul_comm]
          · rw [Bool.not_eq_true] at c
            rw [c]
            rw [c, if_neg Bool.false_ne_true, Nat.add_zero] at hS1
            exact iteF ⟨t, x, y, some (.ref tw), rfl, s06, et6, co, yp, by rw [hS1]; exact hxy⟩
      · rintro σ H5 ⟨t, x, y, v9, rfl, s45, et, co, yp, hxy⟩
        rw [wv.1, List.take_length, wy] at hxy
        obtain ⟨ex, ey⟩ := frac yp Wp co hxy
        rw [ex, ey] at et
        exact go_nx (go_ret ⟨_, rfl, k H5 t S0 W rfl rfl (fun b o z => s45 _ _ (s04 _ _ z)) et⟩)
end
end K25

set_option Elab.async false
set_option linter.all false
set_option maxRecDepth 100000
set_option maxHeartbeats 4000000
namespace K25
open PySem L2 Ew Tb GxR WM WS ND NI CH
local macro_rules | `(tactic| walk_at "len") => `(tactic| first | (intro h; obtain ⟨e, _⟩ := h; rw [e]; rfl) | (intro h; obtain ⟨_, e, _⟩ := h; rw [e]; rfl) | (intro h; obtain ⟨_, _, e, _⟩ := h; rw [e]; rfl) | (intro h; obtain ⟨_, _, _, e, _⟩ := h; rw [e]; rfl) | (intro h; obtain ⟨_, _, _, _, e, _⟩ := h; rw [e]; rfl) | (intro h; obtain ⟨_, _, _, _, _, e, _⟩ := h; rw [e]; rfl) | (intro h; obtain ⟨_, _, _, _, _, _, e, _⟩ := h; rw [e]; rfl) | (intro h; obtain ⟨_, _, _, _, _, _, _, e, _⟩ := h; rw [e]; rfl) | (intro h; obtain ⟨_, _, _, _, _, _, _, _, e, _⟩ := h; rw [e]; rfl) | (intro h; obtain ⟨_, _, _, _, _, _, _, _, _, e, _⟩ := h; rw [e]; rfl) | (intro h; obtain ⟨_, _, _, _, _, _, _, _, _, _, e, _⟩ := h; rw [e]; rfl) | (intro h; obtain ⟨_, _, _, _, _, _, _, _, _, _, _, e, _⟩ := h; rw [e]; rfl) | (intro h; obtain ⟨_, _, _, _, _, _, _, _, _, _, _, _, e, _⟩ := h; rw [e]; rfl) | (intro h; obtain ⟨_, _, _, _, _, _, _, _, _, _, _, _, _, e, _⟩ := h; rw [e]; rfl) | (intro h; exact h.elim))
section
variable {P : Program} {w : World} {K : PySem.W.Frag} {mg : Str → Option Value} {base : Heap} {ad : Ad}

theorem Sets.snoc {K : PySem.W.Frag} {H : Hp} {ts : List Addr} {ss : List (List Nat)} {t : Addr} {s : List Nat} (x : Sets K H ts ss) (h : H t = some (.tup (nV s))) : Sets K H (ts ++ [t]) (ss ++ [s]) := by
  refine ⟨by rw [List.length_append, List.length_append, x.1]; rfl, fun j u s' a b => ?_⟩
  by_cases c : j < ts.length
  · rw [List.getElem?_append_left c] at a
    rw [List.getElem?_append_left (by rw [← x.1]; exact c)] at b
    exact x.2 j u s' a b
  · have hj : j = ts.length := by
      have := (List.getElem?_eq_some_iff.mp a).1
      rw [List.length_append, List.length_singleton] at this
      omega
    subst hj
    rw [List.getElem?_append_right (Nat.le_refl _), Nat.sub_self] at a
    rw [x.1, List.getElem?_append_right (Nat.le_refl _), Nat.sub_self] at b
    cases a
    cases b
    exact h
theorem Sets.keepT {K : PySem.W.Frag} {H H' : Hp} {ts : List Addr} {ss : List (List Nat)} (x : Sets K H ts ss) (f : ∀ b ys, H b = some (.tup ys) → H' b = some (.tup ys)) : Sets K H' ts ss := ⟨x.1, fun i t s a b => f _ _ (x.2 i t s a b)⟩
theorem ck_sets {K : PySem.W.Frag} {H : Hp} : ∀ {ts : List Addr} {ss : List (List Nat)}, Sets K H ts ss → CK H (ts.map fun t => (V.ref t, V.bl true)) ((ts.zip ss).map fun p => (kS p.2, p.1, V.bl true))
  | [], [], _ => .nil
  | [], _ :: _, h => by cases h.1
  | _ :: _, [], h => by cases h.1
  | t :: ts, s :: ss, h => .cons (ky_set (h.2 0 t s rfl rfl)) (dep_kS s) (ck_sets (K := K) ⟨by have := h.1; simpa using this, fun i t s a b => h.2 (i + 1) t s a b⟩)
theorem keys_putK {κ : Type} [DecidableEq κ] {kvs : List (κ × V)} {k : κ} {v : V} {x : κ} (h : x ∈ (putK kvs k v).map (·.1)) : x ∈ kvs.map (·.1) ∨ x = k := by
  unfold putK at h
  split at h
  · rw [List.map_map] at h
    obtain ⟨kv, hk, e⟩ := List.mem_map.mp h
    have e : (if kv.1 = k then (kv.1, v) else kv).1 = x := e
    refine .inl (List.mem_map.mpr ⟨kv, hk, ?_⟩)
    rw [← e]
    split <;> rfl
  · rw [List.map_append] at h
    rcases List.mem_append.mp h with h | h
    · exact .inl h
    · exact .inr (List.mem_singleton.mp h)
theorem fold_keys : ∀ (es : List (NestedKey × Addr × V)) (acc : List (NestedKey × V)) {x : NestedKey}, x ∈ (es.foldl (fun acc e => putK acc e.1 e.2.2) acc).map (·.1) → x ∈ acc.map (·.1) ∨ ∃ e ∈ es, e.1 = x
  | [], acc, x, h => .inl h
  | e :: es, acc, x, h => by
    rcases fold_keys es (putK acc e.1 e.2.2) h with h | ⟨e', he, ex⟩
    · rcases keys_putK h with h | h
      · exact .inl h
      · exact .inr ⟨e, List.mem_cons_self .., h.symm⟩
    · exact .inr ⟨e', List.mem_cons_of_mem _ he, ex⟩
theorem alike_ints : ∀ s t : List Nat, PySem.W.alikeAll (s.map fun (n : Nat) => PyData.int (n : Int)) (t.map fun (n : Nat) => PyData.int (n : Int)) = true
  | [], _ => by simp [PySem.W.alikeAll]
  | _ :: _, [] => by simp [PySem.W.alikeAll]
  | a :: s, b :: t => by
    rw [List.map_cons, List.map_cons, PySem.W.alikeAll, alike_ints s t]
    simp [PySem.W.alike]
theorem dp_ints {K : PySem.W.Frag} {H : Hp} : ∀ s : List Nat, DpAll K H (nV s) (s.map fun (n : Nat) => PyData.int (n : Int))
  | [] => .nil
  | n :: s => .cons (.int _) (dp_ints s)
theorem dep_ints : ∀ s : List Nat, PyData.depthAll (s.map fun (n : Nat) => PyData.int (n : Int)) = 0
  | [] => rfl
  | n :: s => by
    rw [List.map_cons, PyData.depthAll, dep_ints s]; rfl
theorem val_at {κ : Type} [DecidableEq κ] : ∀ {kvs : List (κ × V)} {kv : κ × V}, (kvs.map (·.1)).Nodup → kv ∈ kvs → valV kvs kv.1 = some kv.2
  | [], _, _, h => by cases h
  | x :: kvs, kv, nd, h => by
    rw [List.map_cons] at nd
    have nd' := List.nodup_cons.mp nd
    rcases List.mem_cons.mp h with rfl | h
    · exact valV_pos rfl
    · rw [valV_neg (fun z => nd'.1 (by rw [z]; exact List.mem_map.mpr ⟨kv, h, rfl⟩)), val_at nd'.2 h]
theorem pd_snoc {α β : Type} {R : α → β → Prop} : ∀ {as : List α} {bs : List β} {a : α} {b : β}, Paired R as bs → R a b → Paired R (as ++ [a]) (bs ++ [b])
  | _, _, _, _, .nil, h => .cons h .nil
  | _, _, _, _, .cons x r, h => .cons x (pd_snoc r h)
theorem pd_mono {α β : Type} {R S : α → β → Prop} (f : ∀ a b, R a b → S a b) : ∀ {as : List α} {bs : List β}, Paired R as bs → Paired S as bs
  | _, _, .nil => .nil
  | _, _, .cons x r => .cons (f _ _ x) (pd_mono f r)
theorem sqTo {K : PySem.W.Frag} {H H' : Hp} {b : Addr} {xs : List V} (h : SqT K H b xs) (f : ∀ o, H b = some o → H' b = some o) : SqT K H' b xs := by
  rcases h with (h | ⟨o, h⟩) | h
  · exact .inl (.inl (f _ h))
  · exact .inl (.inr ⟨o, f _ h⟩)
  · exact .inr h
def spRefused (PP : Addr) : Sp := fun vs H Q _ => vs = [] ∧ TabG H PP ∧ ∀ H', FrT H H' → Q (.bl true) H'
theorem ok_law_refused {PP : Addr} (c_chance : CalX P w K mg base 5 "chance" (spChance K PP ad.TooLarge)) {f : Addr} {fd : FuncData} (F : Fun K "_law_refused" "_law_refused" s_law_refused f fd) (T : Txt K mg ad) : FnOk P w K mg base (L2.CX P w) 9 f fd [] (spRefused PP) := by
  refine F.okX sc_law_refused (fun vs H Q E => ?_) (fun cdv A outer s H vs Q E hr h => ?_)
  · walk_at "len"
  ·
    obtain ⟨rfl, tg, k⟩ := h
    refine ⟨_, (pss_cons (ps_set (i := 0) sc_law_refused.nd rfl (by first | exact Or.inl rfl | exact Or.inr rfl) (pe_callTy call_tuple_of (by rfl) T.z_tuple (by decide +kernel) (pa_cons (pe_lc (own := [("k", 2)]) (tt := tYes) rfl sc_law_refused.nd (pi_range1 (by rfl) T.z_range (pa_cons pe_int pa_nil)) (blkOk_by (by kernel_rfl)) (fun _ _ _ _ _ => (pg_name (i := 2) sc_law_refused.nd rfl (by first | exact Or.inl rfl | exact Or.inr rfl))) (fun _ _ _ _ _ => pts_nil) (fun _ _ _ _ _ => (pe_tup (pa_cons (pv 2) pa_nil)))) pa_nil)))
      (pss_cons (ps_tryD (i := 1) rfl rfl sc_law_refused.nd rfl rfl ⟨rfl, by decide, .inl T.g_WorthError⟩ (takes_of rfl rfl rfl rfl))
      (pss_one (ps_ret pe_bl)))), ?_⟩
    refine go_sq ?_
    refine ⟨_, rfl, by decide, by decide, fun D hD => ?_⟩
    refine lc_range (lo := 0) (n := 21) (fun i H' => Same H H' ∧ ∃ qs : List Addr, H' D = some (.lst (qs.map V.ref)) ∧ Sets K H' qs ((List.range i).map fun k => [k])) ⟨same_new (Same.refl _) hD, [], upd_same, rfl, fun i t s h => (by simp at h)⟩ (fun i H' hi ⟨s', qs, e', w'⟩ => ?_) (fun H1 ⟨s1, qs, e1, w1⟩ => ?_)
    · rw [Int.zero_add]
      refine ⟨rfl, yes_then (iteT ⟨_, rfl, (show 1 ≤ sizeLine by decide), fun t ht => ?_⟩)⟩
      have s2 := same_new (o := .tup [.int (i : Int)]) (Same.refl H') ht
      have ntD : t ≠ D := (ne_of_none e' ht).symm
      have lq := w'.1
      rw [List.length_map, List.length_range] at lq
      refine ⟨_, s2 _ _ e', ?_, same_but hD (fun b o z => s2 _ _ (s' _ _ z)) but_app, qs ++ [t], by rw [upd_same, List.map_append]; rfl, ?_⟩
      · rw [List.length_map, lq]
        exact Nat.lt_of_le_of_lt (by omega : _ ≤ 1000) (by decide)
      · have keep : ∀ b ys, H' b = some (.tup ys) → (upd (upd H' t (.tup [.int (i : Int)])) D (.lst (qs.map V.ref ++ [.ref t]))) b = some (.tup ys) := fun b ys e => by
          rw [upd_ne (ne_of e e' (fun z => nomatch z)), upd_ne (ne_of_none e ht)]; exact e
        rw [List.range_succ, List.map_append]
        refine ⟨by rw [List.length_append, List.length_append, List.length_map, List.length_range, lq]; rfl, fun j u s a b => ?_⟩
        by_cases c : j < qs.length
        · rw [List.getElem?_append_left c] at a
          rw [List.getElem?_append_left (by rw [List.length_map, List.length_range, ← lq]; exact c)] at b
          exact keep _ _ (w'.2 j u s a b)
        · have hj : j = qs.length := by
            have := (List.getElem?_eq_some_iff.mp a).1
            rw [List.length_append, List.length_singleton] at this
            omega
          subst hj
          rw [List.getElem?_append_right (Nat.le_refl _), Nat.sub_self] at a
          rw [List.getElem?_append_right (by rw [List.length_map, List.length_range, lq]; exact Nat.le_refl _), List.length_map, List.length_range, lq, Nat.sub_self] at b
          cases a
          cases b
          rw [upd_ne ntD]
          exact upd_same
    refine ⟨D, _, rfl, .inl ⟨SqL.of e1, fun t ht => go_name rfl (go_nx (go_sq ?_))⟩⟩
    have s2 := same_new (o := .tup (qs.map V.ref)) (Same.refl H1) ht
    have et : (upd H1 t (.tup (qs.map V.ref))) t = some (.tup (qs.map V.ref)) := upd_same
    have w2 := w1.mono (FrT.of s2)
    have f2 : FrT H (upd H1 t (.tup (qs.map V.ref))) := (FrT.of s1).trans (FrT.of s2)
    generalize upd H1 t (.tup (qs.map V.ref)) = H2 at s2 et w2 f2
    intro pn1 xe1 tk1 po1
    refine ⟨_, (pss_one (ps_expr (pc_call c_chance hr (by first | decide | omega) tk1 (by rfl) (pa_cons (pv 0) (pa_cons (pe_callTy (call_dictP rfl) (by rfl) T.z_dict (by decide +kernel) (pa_cons (pe_lc (own := [("k", 2)]) (tt := tYes) rfl sc_law_refused.nd (pi_range1 (by rfl) T.z_range (pa_cons pe_int pa_nil)) (blkOk_by (by kernel_rfl)) (fun _ _ _ _ _ => (pg_name (i := 2) sc_law_refused.nd rfl (by first | exact Or.inl rfl | exact Or.inr rfl))) (fun _ _ _ _ _ => pts_nil) (fun _ _ _ _ _ => (pe_tup (pa_cons (pv 2) (pa_cons (pe_tup (pa_cons pe_int (pa_cons pe_int pa_nil))) pa_nil))))) pa_nil)) pa_nil))))), ?_⟩
    refine ⟨_, rfl, _, rfl, by decide, by decide, fun D2 hD2 => ?_⟩
    refine lc_range (lo := 0) (n := 21) (fun i H' => Same H2 H' ∧ ∃ (ps : List Addr) (kvs : List (L2.Key × V)), H' D2 = some (.lst (ps.map V.ref)) ∧ ps.length = i ∧ Paired (fun p kv => H' p = some (.tup [kV kv.1, kv.2])) ps kvs) ⟨same_new (Same.refl _) hD2, [], [], upd_same, rfl, .nil⟩ (fun i H' hi ⟨s', ps, kvs, e', l', w'⟩ => ?_) (fun H3 ⟨s3, ps, kvs, e3, l3, w3⟩ => ?_)
    · rw [Int.zero_add]
      refine ⟨rfl, yes_then (iteT ⟨_, rfl, (show 2 ≤ sizeLine by decide), fun t1 ht1 => ⟨(show 2 ≤ sizeLine by decide), fun t2 ht2 => ?_⟩⟩)⟩
      have s4 := same_new (o := .tup [.int 1, .int 2]) (Same.refl H') ht1
      have s5 := same_new (o := .tup [.int (i : Int), .ref t1]) (Same.refl _) ht2
      have s45 : Same H' (upd (upd H' t1 (.tup [.int 1, .int 2])) t2 (.tup [.int (i : Int), .ref t1])) := fun b o z => s5 _ _ (s4 _ _ z)
      have e5 := s45 _ _ e'
      have nt : t2 ≠ D2 := fun z => by rw [z, s4 _ _ e'] at ht2; cases ht2
      refine ⟨_, e5, ?_, same_but hD2 (fun b o z => s45 _ _ (s' _ _ z)) but_app, ps ++ [t2], kvs ++ [(.inl (i : Int), .ref t1)], by rw [upd_same, List.map_append]; rfl, by rw [List.length_append, l']; rfl, ?_⟩
      · rw [List.length_map, l']
        exact Nat.lt_of_le_of_lt (by omega : _ ≤ 1000) (by decide)
      · refine pd_snoc (pd_mono (fun p kv h => ?_) w') ?_
        · rw [upd_ne (ne_of h e' (fun z => nomatch z))]
          exact s45 _ _ h
        · rw [upd_ne nt]
          exact upd_same
    refine go_nil ?_
    refine ⟨D2, ps, kvs, rfl, SqL.of e3, pd_mono (fun p kv h => SqT.of h) w3, fun c hc => ?_⟩
    have s4 := same_new (o := .dK (mergeK [] kvs)) (Same.refl H3) hc
    have f24 : FrT H2 (upd H3 c (.dK (mergeK [] kvs))) := FrT.of fun b o z => s4 _ _ (s3 _ _ z)
    refine ⟨t, c, qs, _, rfl, SqT.of (f24.tup et), w2.mono f24, fun s hs => ?_, fun s hs x hx => ?_, by rw [List.length_map, List.length_range]; decide, (f2.trans f24).tabs _ tg, fun F ascF memF => .inl ⟨?_, fun H5 f5 => ?_⟩⟩
    · obtain ⟨k, _, rfl⟩ := List.mem_map.mp hs
      exact List.pairwise_singleton ..
    · obtain ⟨k, hk, rfl⟩ := List.mem_map.mp hs
      rw [List.mem_singleton.mp hx]
      have := List.mem_range.mp hk
      omega
    · have eF : F = List.range 21 := asc_ext ascF List.pairwise_lt_range fun x => by
        rw [memF, List.mem_range]
        constructor
        · rintro ⟨s, hs, hx⟩
          obtain ⟨k, hk, rfl⟩ := List.mem_map.mp hs
          rw [List.mem_singleton.mp hx]
          exact List.mem_range.mp hk
        · intro h
          exact ⟨[x], List.mem_map.mpr ⟨x, List.mem_range.mpr h, rfl⟩, List.mem_singleton_self _⟩
      rw [eF, List.length_range]
      decide
    · refine ⟨true, T.em_TooLarge, fun _ a ha => ?_, fun q => Bool.noConfusion q⟩
      intro oe pn hz hf
      refine ⟨_, (pss_one (ps_ret (pe_callB (call_isED hz hf) (by rfl) T.z_isinstance (by decide +kernel) (pa_cons (pv 1) (pa_cons (pe_gcls (by rfl) T.g_TooLarge) pa_nil))))), ?_⟩
      exact ⟨_, rfl, _, rfl, rfl, T.ec_TooLarge, _, _, true, rfl, fun u hu => hu, T.ki_TooLarge, k _ ((f2.trans f24).trans f5)⟩
theorem kop_neNums {X : Cx} {K : PySem.W.Frag} (hu : X.A.units + 64 < cLine) (hK : X.K = K := by rfl) : OpR X (compareOp .NotEq) (KM.rNums K true) := hK ▸ KM.op_neNums hu
def spLaw (K : PySem.W.Frag) (PP : Addr) : Sp := fun vs H Q _ => ∃ (a : Addr) (ns : List Int), vs = [.ref a] ∧ SqL K H a (ns.map V.int) ∧ ns.length ≤ 63 ∧ TabG H PP ∧ ∀ H', Q (.bl true) H'
theorem ok_law {PP : Addr} (c_law_pot : CalX P w K mg base 1 "_law_pot" (spPot K)) (c_law_next : CalX P w K mg base 1 "_law_next" spNext) (c_law_low : CalX P w K mg base 2 "_law_low" spLow) (c_law_due : CalX P w K mg base 4 "_law_due" (spDue K)) (c_chance : CalX P w K mg base 5 "chance" (spChance K PP ad.TooLarge)) (c_law_refused : CalX P w K mg base 9 "_law_refused" (spRefused PP)) {f : Addr} {fd : FuncData} (F : Fun K "law" "law" s_law f fd) (T : Txt K mg ad) : FnOk P w K mg base (L2.CX P w) 21 f fd ["script"] (spLaw K PP) := by
  refine F.okX sc_law (fun vs H Q E => ?_) (fun cdv A outer s H vs Q E hr h => ?_)
  · walk_at "len"
  ·
    obtain ⟨sa, ns, rfl, hS, hlen, tg, k⟩ := h
    have toN : ∀ {i : Int}, 0 ≤ i → ∃ n : Nat, i = (n : Int) := fun {i} h => ⟨i.toNat, by omega⟩
    refine ⟨_, (pss_cons (ps_set (i := 1) sc_law.nd rfl (by first | exact Or.inl rfl | exact Or.inr rfl) (pc_call c_law_pot hr (by first | decide | omega) (takes_of rfl rfl rfl rfl) (by rfl) (pa_cons (pv 0) pa_nil)))
      (pss_cons (ps_set (i := 2) sc_law.nd rfl (by first | exact Or.inl rfl | exact Or.inr rfl) (pe_lst pa_nil))
      (pss_cons (ps_for (passes_of rfl) rfl (pi_range1 (by rfl) T.z_range (pa_cons (pc_call c_law_next hr (by first | decide | omega) (takes_of rfl rfl rfl rfl) (by rfl) (pa_cons (pv 1) (pa_cons pe_int pa_nil))) pa_nil)) (pg_name (i := 3) sc_law.nd rfl (by first | exact Or.inl rfl | exact Or.inr rfl)) (pss_cons (ps_set (i := 4) sc_law.nd rfl (by first | exact Or.inl rfl | exact Or.inr rfl) (pe_lc (own := [("j", 13)]) (tt := tYes) rfl sc_law.nd (pi_range1 (by rfl) T.z_range (pa_cons (pc_call c_law_next hr (by first | decide | omega) (takes_of rfl rfl rfl rfl) (by rfl) (pa_cons (pv 1) (pa_cons pe_int pa_nil))) pa_nil)) (blkOk_by (by kernel_rfl)) (fun _ _ _ _ _ => (pg_name (i := 13) sc_law.nd rfl (by first | exact Or.inl rfl | exact Or.inr rfl))) (fun _ _ _ _ _ => pts_nil) (fun _ _ _ _ _ => (pc_call c_law_next hr (by first | decide | omega) takes0 (by rfl) (pa_cons (pv 1) (pa_cons pe_int pa_nil))))))
      (pss_one (ps_expr (pe_bm PySem.F.plainAttrs_list PySem.F.slot_list_append PySem.F.type_list_append mt_append (pv 2) (pa_cons (pe_callTy call_tuple_of (by rfl) T.z_tuple (by decide +kernel) (pa_cons (pe_lc (own := [("fact", 9)]) rfl sc_law.nd (pi_range1 (by rfl) T.z_range (pa_cons pe_int pa_nil)) (blkOk_by (by kernel_rfl)) (fun _ _ _ _ _ => (pg_name (i := 9) sc_law.nd rfl (by first | exact Or.inl rfl | exact Or.inr rfl))) (fun _ _ _ _ _ => (pts_one (pt_cmpR (kin_seq (K := K)) (pv 9) (pv 4) (by rfl)))) (fun _ _ _ _ _ => (pv 9))) pa_nil)) pa_nil))))))
      (pss_cons (ps_set (i := 5) sc_law.nd rfl (by first | exact Or.inl rfl | exact Or.inr rfl) (pe_lst pa_nil))
      (C8.pss_cut (ps_for (passes_of rfl) rfl (pi_list (pe_callB (cr_sortKeys rfl hr.units) (by rfl) T.z_sorted (by decide +kernel) (pa_cons (pe_callTy (cr_dictPN rfl (Nat.lt_of_le_of_lt (Nat.add_le_add_left (by decide) _) hr.units)) (by rfl) T.z_dict (by decide +kernel) (pa_cons (pe_lc (own := [("one", 6)]) (tt := tYes) rfl sc_law.nd (pi_list (pv 2)) (blkOk_by (by kernel_rfl)) (fun _ _ _ _ _ => (pg_name (i := 6) sc_law.nd rfl (by first | exact Or.inl rfl | exact Or.inr rfl))) (fun _ _ _ _ _ => pts_nil) (fun _ _ _ _ _ => (pe_tup (pa_cons (pv 6) (pa_cons pe_bl pa_nil))))) pa_nil)) pa_nil))) (pg_name (i := 6) sc_law.nd rfl (by first | exact Or.inl rfl | exact Or.inr rfl)) (pss_cons (ps_setLc (i := 7) (own := [("other", 14)]) rfl sc_law.nd rfl rfl (sw_true rfl rfl rfl (by decide +kernel)) (pi_list (pv 2)) (blkOk_by (by kernel_rfl)) (fun _ _ _ _ _ => (pg_name (i := 14) sc_law.nd rfl (by first | exact Or.inl rfl | exact Or.inr rfl))) (fun _ _ _ _ _ => (pts_one (PW.pt (pw_and (pt_cmpR (kop_neNums (K := K) hr.units) (pv 14) (pv 6) (nomark _)) (pw_and1 (pt_val (pe_callB (kcr_all (K := K) rfl) (by rfl) T.z_all (by decide +kernel) (pa_cons (pe_lc (own := [("fact", 9)]) (tt := tYes) rfl sc_law.nd (kpi_tup (K := K) (pv 14)) (blkOk_by (by kernel_rfl)) (fun _ _ _ _ _ => (pg_name (i := 9) sc_law.nd rfl (by first | exact Or.inl rfl | exact Or.inr rfl))) (fun _ _ _ _ _ => pts_nil) (fun _ _ _ _ _ => (pe_cmpR (kin_seq (K := K)) (pv 9) (pv 6) (by rfl)))) pa_nil)))))))) (fun _ _ _ _ _ => (pv 14)))
      (pss_one (ps_if (pt_cmpR op_eq (pe_callB call_len (by rfl) T.z_len (by decide +kernel) (pa_cons (pv 7) pa_nil)) pe_int (nomark _)) (pss_one (ps_expr (pe_bm PySem.F.plainAttrs_list PySem.F.slot_list_append PySem.F.type_list_append mt_append (pv 5) (pa_cons (pv 6) pa_nil)))) pss_nil))))
      (C8.pss_cut (ps_set (i := 8) sc_law.nd rfl (by first | exact Or.inl rfl | exact Or.inr rfl) pe_dnewK)
      (pss_cons (ps_for (passes_of rfl) rfl (pi_range1 (by rfl) T.z_range (pa_cons pe_int pa_nil)) (pg_name (i := 9) sc_law.nd rfl (by first | exact Or.inl rfl | exact Or.inr rfl)) (pss_one (ps_if (pt_val (pe_callB (cr_any rfl) (by rfl) T.z_any (by decide +kernel) (pa_cons (pe_lc (own := [("one", 6)]) (tt := tYes) rfl sc_law.nd (pi_list (pv 5)) (blkOk_by (by kernel_rfl)) (fun _ _ _ _ _ => (pg_name (i := 6) sc_law.nd rfl (by first | exact Or.inl rfl | exact Or.inr rfl))) (fun _ _ _ _ _ => pts_nil) (fun _ _ _ _ _ => (pe_cmpR (kin_seq (K := K)) (pv 9) (pv 6) (by rfl)))) pa_nil))) (pss_cons (ps_set (i := 10) sc_law.nd rfl (by first | exact Or.inl rfl | exact Or.inr rfl) (pe_op op_add pe_int (pc_call c_law_next hr (by first | decide | omega) (takes_of rfl rfl rfl rfl) (by rfl) (pa_cons (pv 1) (pa_cons (pe_ix ix_list (pe_lst (pa_cons pe_int (pa_cons pe_int pa_nil))) (pc_call c_law_next hr (by first | decide | omega) (takes_of rfl rfl rfl rfl) (by rfl) (pa_cons (pv 1) (pa_cons pe_int pa_nil))) (fun _ _ => rfl)) pa_nil)))))
      (pss_one (ps_dput (hu_of hr) (pv 8) (pv 9) (pc_call c_law_low hr (by first | decide | omega) (takes_of rfl rfl rfl rfl) (by rfl) (pa_cons (pc_call c_law_next hr (by first | decide | omega) (takes_of rfl rfl rfl rfl) (by rfl) (pa_cons (pv 1) (pa_cons (pe_op op_add (pv 10) pe_int) pa_nil))) (pa_cons (pv 10) pa_nil))) rfl))) pss_nil)))
      (C8.pss_cut (ps_set (i := 11) sc_law.nd rfl (by first | exact Or.inl rfl | exact Or.inr rfl) (pe_callTy call_dictD (by rfl) T.z_dict (by decide +kernel) (pa_cons (pv 8) pa_nil)))
      (pss_cons (ps_set (i := 12) sc_law.nd rfl (by first | exact Or.inl rfl | exact Or.inr rfl) (pc_call c_chance hr (by first | decide | omega) (takes_of rfl rfl rfl rfl) (by rfl) (pa_cons (pe_callTy call_tuple_of (by rfl) T.z_tuple (by decide +kernel) (pa_cons (pv 5) pa_nil)) (pa_cons (pv 8) pa_nil))))
      (pss_one (ps_ret (pe_and (pe_cmpR (KM.op_eqNums hr.units) (pv 12) (pc_call c_law_due hr (by first | decide | omega) (takes_of rfl rfl rfl rfl) (by rfl) (pa_cons (pv 5) (pa_cons (pv 8) pa_nil))) (nomark _)) (pe_and (pe_callB call_isi (by rfl) T.z_isinstance (by decide +kernel) (pa_cons (pv 12) (pa_cons (pe_bltn (v := .ty "tuple") (by rfl) T.z_tuple (by decide +kernel) rfl) pa_nil))) (pe_and (pe_cmpR (op_eqV hr.units) (pv 8) (pv 11) (nomark _)) (pe_one (pc_call0 c_law_refused hr (by first | decide | omega) (takes_of rfl rfl rfl rfl) (by rfl))))))))))))))))), ?_⟩
    refine go_seq ⟨_, rfl, sa, ns, rfl, hS, hlen, fun H1 p s1 np P1 => go_name rfl ?_⟩
    obtain ⟨pb, P1⟩ := P1.b_
    have lp : ∀ {H'}, PotB H' p pb → (∃ xs, H' p = some (.lst xs)) ∧ ∃ xs, H' pb = some (.lst xs) := fun x => let ⟨_, _, _, _, e1, e2, _⟩ := x; ⟨⟨_, e1⟩, ⟨_, e2⟩⟩
    refine go_seq ⟨(show 0 ≤ sizeLine by decide), fun sl hsl => go_name rfl ?_⟩
    have s12 := same_new (o := .lst []) (Same.refl H1) hsl
    have esl : (upd H1 sl (.lst [])) sl = some (.lst []) := upd_same
    have P2 := P1.same s12
    have tg2 : TabG (upd H1 sl (.lst [])) PP := (FrT.of fun b o z => s12 _ _ (s1 _ _ z)).tabs _ tg
    obtain ⟨⟨xp1, ep1⟩, ⟨xb1, eb1⟩⟩ := lp P1
    have nsp : sl ≠ p := (ne_of_none ep1 hsl).symm
    have nsb : sl ≠ pb := (ne_of_none eb1 hsl).symm
    generalize upd H1 sl (.lst []) = H2 at s12 esl P2 tg2
    refine go_sq ?_
    refine ⟨_, rfl, p, 7, rfl, P2.at_, by decide, by decide, fun H3 r3 f3 _ r30 r31 hb3 => ?_⟩
    obtain ⟨n7, rfl⟩ := toN r30
    have P3 := hb3 _ P2
    refine ⟨_, rfl, by omega, by omega, ?_⟩
    rw [Int.toNat_natCast]
    refine for_range (lo := 0) (n := n7) (fun i σ H' => ∃ (v3 v4 : Option V) (ts : List Addr) (ss : List (List Nat)), σ = [some (.ref sa), some (.ref p), some (.ref sl), v3, v4, none, none, none, none, none, none, none, none, none, none] ∧ (∀ b o, b ≠ p → b ≠ sl → H2 b = some o → H' b = some o) ∧ PotB H' p pb ∧ H' sl = some (.lst (ts.map V.ref)) ∧ Sets K H' ts ss ∧ ts.length = i ∧ ∀ s ∈ ss, Asc s ∧ ∀ x ∈ s, x < 7)
      ⟨none, none, [], [], rfl, fun b o n _ e => f3 _ _ n e, P3, f3 _ _ nsp esl, ⟨rfl, fun i t s h => (by simp at h)⟩, rfl, fun s h => nomatch h⟩ ?_ ?_
    · rintro i σ H4 hi ⟨v3, v4, ts, ss, rfl, f4, P4, e4, w4, l4, m4⟩
      refine go_name rfl (go_sq ?_)
      refine ⟨_, rfl, p, 5, rfl, P4.at_, by decide, by decide, fun H5 r5 f5 _ r50 r51 hb5 => ?_⟩
      obtain ⟨j5, rfl⟩ := toN r50
      refine ⟨_, rfl, by omega, by omega, fun D hD => ?_⟩
      rw [Int.toNat_natCast]
      have P5 := hb5 _ P4
      obtain ⟨⟨xp5, ep5⟩, ⟨xb5, eb5⟩⟩ := lp P5
      have nDp : D ≠ p := (ne_of_none ep5 hD).symm
      have nDb : D ≠ pb := (ne_of_none eb5 hD).symm
      have e5 := f5 _ _ nsp e4
      have nDs : D ≠ sl := (ne_of_none e5 hD).symm
      refine lc_range (lo := 0) (n := j5) (fun m H' => Fr1 p H5 H' ∧ PotB H' p pb ∧ ∃ qs : List Nat, H' D = some (.lst (nV qs)) ∧ qs.length = m) ⟨(Fr1.refl _ _).new hD, P5.same (same_new (Same.refl _) hD), [], upd_same, rfl⟩ (fun m H' hm ⟨f', p', qs, e', l'⟩ => ?_) (fun H6 ⟨f6, p6, qs, e6, l6⟩ => go_name rfl (go_nx ?_))
      · refine ⟨rfl, yes_then (iteT ⟨_, rfl, p, 7, rfl, p'.at_, by decide, by decide, fun H7 r fr7 _ r0 r1 hb7 => ?_⟩)⟩
        obtain ⟨x, rfl⟩ := toN r0
        have p7 := hb7 _ p'
        refine ⟨nV qs, fr7 _ _ nDp e', ?_, fun c o n e => ?_, p7.but (by rw [upd_ne (Ne.symm nDp)]) (by rw [upd_ne (Ne.symm nDb)]), qs ++ [x], by rw [upd_same, nV_app], by rw [List.length_append, l']; rfl⟩
        · rw [nV_length, l']
          exact Nat.lt_of_le_of_lt (by omega : _ ≤ 1000) (by decide)
        · rw [upd_ne (ne_of_none e hD)]
          exact fr7 _ _ n (f' _ _ n e)
      · have e6s := f6 _ _ nsp e5
        refine ⟨_, rfl, .inl ⟨rfl, _, SqL.of e6s⟩, _, rfl, by decide, by decide, fun D2 hD2 => ?_⟩
        refine lc_range (lo := 0) (n := 7) (fun m H' => Same H6 H' ∧ H' D2 = some (.lst (nV ((List.range m).filter fun (k : Nat) => inV (.int (k : Int)) (nV qs))))) ⟨same_new (Same.refl _) hD2, upd_same⟩ (fun m H' hm ⟨s', e'⟩ => ?_) (fun H7 ⟨s7, e7⟩ => ?_)
        · rw [Int.zero_add]
          have fl : ((List.range m).filter fun (k : Nat) => inV (.int (k : Int)) (nV qs)).length ≤ m := by
            have := List.length_filter_le (fun (k : Nat) => inV (.int (k : Int)) (nV qs)) (List.range m)
            rw [List.length_range] at this
            exact this
          refine ⟨rfl, _, rfl, _, rfl, D, nV qs, rfl, .inl (SqL.of (s' _ _ e6)), rfl, KM.nV_flat qs, _, rfl, ?_⟩
          refine ite2 (fun c => ?_) (fun c => ⟨s', ?_⟩)
          · refine ⟨_, rfl, _, e', ?_, same_but hD2 s' but_app, ?_⟩
            · rw [nV_length]
              exact Nat.lt_of_le_of_lt (by omega : _ ≤ 1000) (by decide)
            · have c' : inV (.int (m : Int)) (nV qs) = true := c
              rw [upd_same, nV_app, List.range_succ, List.filter_append, List.filter_cons_of_pos (by exact c'), List.filter_nil]
          · have c' : ¬ inV (.int (m : Int)) (nV qs) = true := c
            rw [List.range_succ, List.filter_append, List.filter_cons_of_neg (by exact c'), List.filter_nil, List.append_nil]
            exact e'
        · refine ⟨D2, _, rfl, .inl ⟨SqL.of e7, fun t ht => ?_⟩⟩
          have e7s := s7 _ _ e6s
          have s78 := same_new (o := .tup (nV ((List.range 7).filter fun (k : Nat) => inV (.int (k : Int)) (nV qs)))) (Same.refl H7) ht
          have e8 : (upd H7 t (.tup (nV ((List.range 7).filter fun (k : Nat) => inV (.int (k : Int)) (nV qs))))) t = some (.tup (nV ((List.range 7).filter fun (k : Nat) => inV (.int (k : Int)) (nV qs)))) := upd_same
          have asc0 : Asc ((List.range 7).filter fun (k : Nat) => inV (.int (k : Int)) (nV qs)) := List.pairwise_lt_range.filter _
          have lt0 : ∀ x ∈ ((List.range 7).filter fun (k : Nat) => inV (.int (k : Int)) (nV qs)), x < 7 := fun x hx => List.mem_range.mp (List.mem_filter.mp hx).1
          generalize ((List.range 7).filter fun (k : Nat) => inV (.int (k : Int)) (nV qs)) = s0 at s78 e8 asc0 lt0
          generalize upd H7 t (.tup (nV s0)) = H8 at s78 e8
          have e8s := s78 _ _ e7s
          have P8 := (p6.same s7).same s78
          have t48 : ∀ b ys, H4 b = some (.tup ys) → H8 b = some (.tup ys) := fun b ys e => by
            obtain ⟨⟨xp4, ep4⟩, _⟩ := lp P4
            have nb : b ≠ p := ne_of e ep4 (fun z => nomatch z)
            exact s78 _ _ (s7 _ _ (f6 _ _ nb (f5 _ _ nb e)))
          refine ⟨sl, _, _, rfl, rfl, e8s, ?_, go_nx ⟨_, _, ts ++ [t], ss ++ [s0], rfl, fun b o n1 n2 e => ?_, P8.but (by rw [upd_ne (Ne.symm nsp)]) (by rw [upd_ne (Ne.symm nsb)]), by rw [upd_same, List.map_append]; rfl, Sets.snoc (w4.keepT fun b ys e => ?_) ?_, by rw [List.length_append, l4]; rfl, fun s hs => ?_⟩⟩
          · rw [List.length_map, l4]
            exact Nat.lt_of_le_of_lt (by omega : _ ≤ 1000) (by decide)
          · rw [upd_ne n2]
            exact s78 _ _ (s7 _ _ (f6 _ _ n1 (f5 _ _ n1 (f4 _ _ n1 n2 e))))
          · rw [upd_ne (ne_of (t48 _ _ e) e8s (fun z => nomatch z))]
            exact t48 _ _ e
          · rw [upd_ne (ne_of e8 e8s (fun z => nomatch z))]
            exact e8
          · rcases List.mem_append.mp hs with h | h
            · exact m4 s h
            · rw [List.mem_singleton.mp h]; exact ⟨asc0, lt0⟩
    rintro σ H4 ⟨v3, v4, ts, ss, rfl, f4, P4, e4, w4, l4, m4⟩
    refine go_nx (go_sq ⟨(show 0 ≤ sizeLine by decide), fun wl hwl => go_name rfl (go_nx ?_)⟩)
    have s45 := same_new (o := .lst []) (Same.refl H4) hwl
    have ewl : (upd H4 wl (.lst [])) wl = some (.lst []) := upd_same
    obtain ⟨⟨xp4, ep4⟩, ⟨xb4, eb4⟩⟩ := lp P4
    have nwp : wl ≠ p := (ne_of_none ep4 hwl).symm
    have nwb : wl ≠ pb := (ne_of_none eb4 hwl).symm
    have tg5 : TabG (upd H4 wl (.lst [])) PP := by
      obtain ⟨ps, e, t⟩ := tg2
      obtain ⟨⟨xp2, ep2⟩, _⟩ := lp P2
      exact ⟨ps, s45 _ _ (f4 _ _ (ne_of e ep2 (fun z => nomatch z)) (ne_of e esl (fun z => nomatch z)) e), t⟩
    have e5 := s45 _ _ e4
    have w5 := w4.keepT fun b ys e => s45 _ _ e
    have P5 := P4.same s45
    generalize upd H4 wl (.lst []) = H5 at s45 ewl tg5 e5 w5 P5
    have nls : ts.length ≤ 6 := by omega
    -- whys
    refine ⟨fun σ H' => ∃ (v6 v7 : Option V) (us : List Addr) (rr : List (List Nat)), σ = [some (.ref sa), some (.ref p), some (.ref sl), v3, v4, some (.ref wl), v6, v7, none, none, none, none, none, none, none] ∧ (∀ b o, b ≠ wl → H5 b = some o → H' b = some o) ∧ H' wl = some (.lst (us.map V.ref)) ∧ Sets K H' us rr ∧ us.length ≤ 6 ∧ (∀ s ∈ rr, Asc s ∧ ∀ x ∈ s, x < 7), ?_, ?_⟩
    · refine ⟨_, rfl, sl, rfl, ⟨_, SqL.of e5⟩, fun D hD => ?_⟩
      refine DC2.walk_l (K := K) (xs := ts.map V.ref) (fun t H' => Same H5 H' ∧ ∃ qs : List Addr, H' D = some (.lst (qs.map V.ref)) ∧ qs.length = t ∧ ∀ (i : Nat) q u, qs[i]? = some q → ts[i]? = some u → H' q = some (.tup [.ref u, .bl true])) ⟨same_new (Same.refl _) hD, [], upd_same, rfl, fun i q u h => (by simp at h)⟩ (fun t H' _ ⟨s', _⟩ => SqL.of (s' _ _ e5)) (fun t z H6 hz ⟨s6, qs, e6, l6, q6⟩ => ?_) (fun H6 ⟨s6, qs, e6, l6, q6⟩ => ?_)
      · rw [List.getElem?_map] at hz
        obtain ⟨u, hu, rfl⟩ := Option.map_eq_some_iff.mp hz
        have htl := (List.getElem?_eq_some_iff.mp hu).1
        refine ⟨rfl, yes_then (iteT ⟨_, rfl, (show 2 ≤ sizeLine by decide), fun t1 ht1 => ?_⟩)⟩
        have s7 := same_new (o := .tup [.ref u, .bl true]) (Same.refl H6) ht1
        refine ⟨_, s7 _ _ e6, ?_, same_but hD (fun b o z => s7 _ _ (s6 _ _ z)) but_app, qs ++ [t1], by rw [upd_same, List.map_append]; rfl, by rw [List.length_append, l6]; rfl, fun i q v a b => ?_⟩
        · rw [List.length_map, l6]
          exact Nat.lt_of_le_of_lt (by omega : _ ≤ 1000) (by decide)
        · by_cases c : i < qs.length
          · rw [List.getElem?_append_left c] at a
            have h := q6 i q v a b
            rw [upd_ne (ne_of h e6 (fun z => nomatch z))]
            exact s7 _ _ h
          · have hi : i = qs.length := by
              have := (List.getElem?_eq_some_iff.mp a).1
              rw [List.length_append, List.length_singleton] at this
              omega
            subst hi
            rw [List.getElem?_append_right (Nat.le_refl _), Nat.sub_self] at a
            rw [l6, hu] at b
            cases a
            cases b
            rw [upd_ne (ne_of_none e6 ht1).symm]
            exact upd_same
      rw [List.length_map] at l6
      have w6 := w5.keepT fun b ys e => s6 _ _ e
      refine go_nil ?_
      refine ⟨D, qs, ts.map fun t => (V.ref t, V.bl true), (ts.zip ss).map fun p => (kS p.2, p.1, V.bl true), rfl, SqL.of e6, by rw [List.length_map]; exact l6, fun i q v a b => ?_, ck_sets w6, fun d φd hd atd => ?_⟩
      · rw [List.getElem?_map] at b
        obtain ⟨u, hu, rfl⟩ := Option.map_eq_some_iff.mp b
        exact SqT.of (q6 i q u a hu)
      have s67 : Same H6 (upd H6 d (.ext φd)) := same_new (Same.refl _) hd
      have w7 := w6.keepT fun b ys e => s67 _ _ e
      generalize upd H6 d (.ext φd) = H7 at s67 atd w7
      obtain ⟨es, eD, kd, ekv⟩ := atd
      have keyS : ∀ e ∈ es, ∃ s ∈ ss, H7 e.2.1 = some (.tup (nV s)) := fun e he => by
        have h1 : e.1 ∈ (ND.kvOf es).map (·.1) := List.mem_map.mpr ⟨(e.1, e.2.2), List.mem_map.mpr ⟨e, he, rfl⟩, rfl⟩
        rw [← ekv, kv_merge] at h1
        rcases fold_keys _ _ h1 with h | ⟨e', he', ee⟩
        · cases h
        · obtain ⟨pq, hpq, rfl⟩ := List.mem_map.mp he'
          have hs' : pq.2 ∈ ss := (List.of_mem_zip hpq).2
          have hk := (kd e he).1
          rw [← ee] at hk
          obtain ⟨t, et, htt⟩ := set_ky hk
          cases et
          exact ⟨pq.2, hs', htt⟩
      have les : es.length ≤ 6 := by
        have h1 := congrArg List.length ekv
        unfold ND.kvOf at h1
        rw [List.length_map, List.length_map] at h1
        have h2 := mergeE_len ((ts.zip ss).map fun p => (kS p.2, p.1, V.bl true)) []
        rw [List.length_map, List.length_zip, List.length_nil] at h2
        omega
      have pick : ∀ e : NestedKey × Addr × V, ∃ s : List Nat, e ∈ es → s ∈ ss ∧ H7 e.2.1 = some (.tup (nV s)) := fun e => by
        by_cases c : e ∈ es
        · obtain ⟨s, h1, h2⟩ := keyS e c
          exact ⟨s, fun _ => ⟨h1, h2⟩⟩
        · exact ⟨[], fun h => absurd h c⟩
      obtain ⟨tm, htm⟩ := Classical.axiomOfChoice pick
      refine go_nil ?_
      refine ⟨d, es.map fun e => (V.ref e.2.1, e.2.2), es.map fun e => (V.ref e.2.1, PyData.tuple ((tm e).map fun (n : Nat) => PyData.int (n : Int))), rfl, .inl ⟨es, .inl eD, rfl⟩, by rw [List.map_map, List.map_map]; rfl, fun z hz => ?_, ⟨fun x hx y hy => ?_, .inl fun x hx => ?_⟩, fun ys l pt _ hl => ?_⟩
      · obtain ⟨e, he, rfl⟩ := List.mem_map.mp hz
        refine ⟨.tup (SqT.of (htm e he).2) (dp_ints _), ?_⟩
        show PyData.depthAll _ + 1 ≤ 60
        rw [dep_ints]; decide
      · rw [List.map_map] at hx hy
        obtain ⟨e, _, rfl⟩ := List.mem_map.mp hx
        obtain ⟨e', _, rfl⟩ := List.mem_map.mp hy
        show PySem.W.alike (.tuple _) (.tuple _) = true
        simp only [PySem.W.alike]
        exact alike_ints _ _
      · rw [List.map_map] at hx
        obtain ⟨e, _, rfl⟩ := List.mem_map.mp hx
        exact ⟨_, rfl⟩
      have s78 := same_new (o := .lst (ys.map (·.1))) (Same.refl H7) hl
      have el8 : (upd H7 l (.lst (ys.map (·.1)))) l = some (.lst (ys.map (·.1))) := upd_same
      have hx8 : ∀ v ∈ ys.map (·.1), ∃ t s, v = .ref t ∧ s ∈ ss ∧ (upd H7 l (.lst (ys.map (·.1)))) t = some (.tup (nV s)) := fun v hv => by
        obtain ⟨y, hy, rfl⟩ := List.mem_map.mp hv
        obtain ⟨e, he, rfl⟩ := List.mem_map.mp (pt.mem_iff.mp hy)
        exact ⟨e.2.1, tm e, rfl, (htm e he).1, s78 _ _ (htm e he).2⟩
      have l8 : (ys.map (·.1)).length ≤ 6 := by
        rw [List.length_map, pt.length_eq, List.length_map]; exact les
      generalize ys.map (·.1) = xs at s78 el8 hx8 l8
      have s58 : Same H5 (upd H7 l (.lst xs)) := fun b o z => s78 _ _ (s67 _ _ (s6 _ _ z))
      obtain ⟨H8, h8⟩ : ∃ G, G = upd H7 l (.lst xs) := ⟨_, rfl⟩
      rw [← h8] at s58 el8
      simp only [← h8] at hx8
      refine ⟨l, rfl, ⟨_, SqL.of (by rw [← h8]; exact el8)⟩, ?_⟩
      rw [← h8]
      have ewl8 := s58 _ _ ewl
      have e8 := s58 _ _ e5
      have w8 := w5.keepT fun b ys e => s58 _ _ e
      have nlw : l ≠ wl := (ne_of_none ((fun b o z => s67 _ _ (s6 _ _ z) : Same H5 H7) _ _ ewl) hl).symm
      have nsw : sl ≠ wl := fun z => by rw [← z] at hwl; rw [e4] at hwl; cases hwl
      have tupw : ∀ {b ys}, H8 b = some (.tup ys) → b ≠ wl := fun e z => by rw [z, ewl8] at e; cases e
      refine for_list (K := K) (a := l) (xs := xs) (fun i σ H' => ∃ (v6 v7 : Option V) (us : List Addr) (rr : List (List Nat)), σ = [some (.ref sa), some (.ref p), some (.ref sl), v3, v4, some (.ref wl), v6, v7, none, none, none, none, none, none, none] ∧ (∀ b o, b ≠ wl → H8 b = some o → H' b = some o) ∧ H' wl = some (.lst (us.map V.ref)) ∧ Sets K H' us rr ∧ us.length ≤ i ∧ (∀ s ∈ rr, Asc s ∧ ∀ x ∈ s, x < 7))
        ⟨none, none, [], [], rfl, fun _ _ _ e => e, ewl8, ⟨rfl, fun i t s h => (by simp at h)⟩, Nat.le_refl _, fun s h => nomatch h⟩ (fun i σ H' _ ⟨_, _, _, _, _, f', _⟩ => SqL.of (f' _ _ nlw el8)) ?_ ?_
      · rintro i z σ H9 hz ⟨v6, v7, us, rr, rfl, f9, ewl9, w9, l9, m9⟩
        obtain ⟨t, s, rfl, hss, et⟩ := hx8 z (List.mem_of_getElem? hz)
        have hi := (List.getElem?_eq_some_iff.mp hz).1
        have et9 := f9 _ _ (tupw et) et
        have e9 := f9 _ _ nsw e8
        have w9s : Sets K H9 ts ss := w8.keepT fun b ys e => f9 _ _ (tupw e) e
        refine go_name rfl (go_sq ?_)
        refine ⟨_, rfl, sl, rfl, ⟨_, SqL.of e9⟩, fun D hD => ?_⟩
        refine DC2.walk_l (K := K) (xs := ts.map V.ref) (fun j H' => Same H9 H' ∧ ∃ vs0 : List V, H' D = some (.lst vs0) ∧ vs0.length ≤ j) ⟨same_new (Same.refl _) hD, [], upd_same, Nat.le_refl _⟩ (fun j H' _ ⟨s', _⟩ => SqL.of (s' _ _ e9)) (fun j z H10 hz ⟨s10, vs0, e10, l10⟩ => ?_) (fun H10 ⟨s10, vs0, e10, l10⟩ => go_name rfl (go_nx ?_))
        · rw [List.getElem?_map] at hz
          obtain ⟨u, hu, rfl⟩ := Option.map_eq_some_iff.mp hz
          have hj := (List.getElem?_eq_some_iff.mp hu).1
          have hgj : ss[j]? = some (ss.getD j []) := by rw [List.getD_eq_getElem?_getD, List.getElem?_eq_getElem (show j < ss.length by rw [← w9s.1]; exact hj)]; rfl
          have hsu := w9s.2 j u _ hu hgj
          have hm := m4 _ (List.mem_of_getElem? hgj)
          generalize ss.getD j [] = x at hgj hsu hm
          have x7 : x.length ≤ 7 := nd_len 7 _ hm.1.nd hm.2
          have hx1 := s10 _ _ hsu
          have hs1 := s10 _ _ et9
          refine ⟨rfl, _, rfl, _, rfl, u, t, x, s, rfl, rfl, .inl ⟨SqT.of hx1, SqT.of hs1⟩, ?_⟩
          refine ⟨_, rfl, ite2 (fun c => ?_) (fun c => ?_)⟩
          · refine ⟨_, rfl, u, rfl, ⟨_, SqT.of hx1⟩, fun D2 hD2 => ?_⟩
            refine DC2.walk_t (K := K) (xs := nV x) (fun m H' => Same H10 H' ∧ H' D2 = some (.lst (((x.take m).map fun k => decide (k ∈ s)).map V.bl))) ⟨same_new (Same.refl _) hD2, upd_same⟩ (fun m H' _ ⟨s', _⟩ => SqT.of (s' _ _ hx1)) (fun m y H11 hy ⟨s11, e11⟩ => ?_) (fun H11 ⟨s11, e11⟩ => ?_)
            · obtain ⟨n, hn, rfl⟩ := nV_in hy
              refine ⟨rfl, yes_then (iteT ⟨_, rfl, _, rfl, t, nV s, rfl, .inr (SqT.of (s11 _ _ hs1)), rfl, KM.nV_flat _, _, e11, ?_, same_but hD2 s11 but_app, ?_⟩)⟩
              · rw [List.length_map, List.length_map, List.length_take]
                exact Nat.lt_of_le_of_lt (by omega : _ ≤ 1000) (by decide)
              · rw [upd_same, List.take_add_one, hn, List.map_append, List.map_append]
                show _ = some (HO.lst (_ ++ [V.bl (decide (n ∈ s))]))
                rw [← KM.inV_nV n s]
                rfl
            · refine ⟨D2, _, rfl, SqL.of e11, _, rfl, ite2 (fun c2 => ?_) (fun c2 => ?_)⟩
              · refine ⟨_, rfl, _, s11 _ _ e10, ?_, same_but hD (fun b o z => s11 _ _ (s10 _ _ z)) but_app, vs0 ++ [.ref u], upd_same, by rw [List.length_append, List.length_singleton]; omega⟩
                exact Nat.lt_of_le_of_lt (by omega : _ ≤ 1000) (by decide)
              · exact ⟨fun b o z => s11 _ _ (s10 _ _ z), vs0, s11 _ _ e10, Nat.le_succ_of_le l10⟩
          · exact iteF ⟨s10, vs0, e10, Nat.le_succ_of_le l10⟩
        · have ewl10 := s10 _ _ ewl9
          have w10 := w9.keepT fun b ys e => s10 _ _ e
          have f10 : ∀ b o, b ≠ wl → H8 b = some o → H10 b = some o := fun b o n e => s10 _ _ (f9 _ _ n e)
          refine ⟨_, rfl, .ref D, _, rfl, .inl ⟨_, SqL.of e10, rfl⟩, rfl, ?_⟩
          refine ⟨_, rfl, ite2 (fun c => ?_) (fun c => go_nx ⟨some (.ref t), some (.ref D), us, rr, rfl, f10, ewl10, w10, Nat.le_succ_of_le l9, m9⟩)⟩
          refine ⟨_, rfl, .inl ⟨rfl, _, SqL.of ewl10⟩, _, rfl, wl, _, _, rfl, rfl, ewl10, ?_, go_nx ⟨some (.ref t), some (.ref D), us ++ [t], rr ++ [s], rfl, fun b o n e => by rw [upd_ne n]; exact f10 _ _ n e, by rw [upd_same, List.map_append]; rfl, Sets.snoc (w10.keepT fun b ys e => ?_) ?_, by rw [List.length_append, List.length_singleton]; omega, fun x hx => ?_⟩⟩
          · rw [List.length_map]
            exact Nat.lt_of_le_of_lt (by omega : _ ≤ 1000) (by decide)
          · rw [upd_ne (ne_of e ewl10 (fun z => nomatch z))]; exact e
          · rw [upd_ne (ne_of (s10 _ _ et9) ewl10 (fun z => nomatch z))]; exact s10 _ _ et9
          · rcases List.mem_append.mp hx with h | h
            · exact m9 x h
            · rw [List.mem_singleton.mp h]; exact m4 s hss
      · rintro σ H9 ⟨v6, v7, us, rr, rfl, f9, ewl9, w9, l9, m9⟩
        exact go_nx ⟨v6, v7, us, rr, rfl, fun b o n e => f9 _ _ n (s58 _ _ e), ewl9, w9, by omega, m9⟩
    rintro σ H6 ⟨v6, v7, us, rr, rfl, f6, ewl6, w6, l6, m6⟩
    have P6 : PotB H6 p pb := P5.but (by
      obtain ⟨ns', i', c', sd', e1, e2, _⟩ := P5
      rw [f6 _ _ nwp.symm e1, e1]) (by
      obtain ⟨ns', i', c', sd', e1, e2, _⟩ := P5
      rw [f6 _ _ nwb.symm e2, e2])
    have tg6 : TabG H6 PP := by
      obtain ⟨ps, e, t⟩ := tg5
      exact ⟨ps, f6 _ _ (fun z => by rw [z, ewl] at e; cases e) e, t⟩
    clear f6 P5 tg5 w5 e5 ewl s45 tg2 w4 e4 f4 P4
    -- chances
    refine ⟨fun σ H' => ∃ ch, σ = [some (.ref sa), some (.ref p), some (.ref sl), v3, v4, some (.ref wl), v6, v7, some (.ref ch), none, none, none, none, none, none] ∧ H6 ch = none ∧ H' = upd H6 ch (.dK []), fun ch hch => go_name rfl ⟨ch, rfl, hch, rfl⟩, ?_⟩
    rintro σ H7 ⟨ch, rfl, hch, rfl⟩
    have s67 := same_new (o := .dK []) (Same.refl H6) hch
    have ech : (upd H6 ch (.dK [])) ch = some (.dK []) := upd_same
    have P7 := P6.same s67
    have w7 := w6.keepT fun b ys e => s67 _ _ e
    have ewl7 := s67 _ _ ewl6
    have tg7 := (FrT.of s67).tabs _ tg6
    generalize upd H6 ch (.dK []) = H7 at s67 ech P7 w7 ewl7 tg7
    obtain ⟨⟨xp7, ep7⟩, ⟨xb7, eb7⟩⟩ := lp P7
    have ncp : ch ≠ p := fun z => by rw [z, ep7] at ech; cases ech
    have ncb : ch ≠ pb := fun z => by rw [z, eb7] at ech; cases ech
    have nwc : wl ≠ ch := fun z => by rw [z, ech] at ewl7; cases ewl7
    obtain ⟨hit, hhit⟩ : ∃ hit : Nat → Bool, hit = fun x => rr.any fun one => decide (x ∈ one) := ⟨_, rfl⟩
    refine go_sq ?_
    refine ⟨_, rfl, by decide, by decide, ?_⟩
    refine for_range (lo := 0) (n := 7) (fun i σ H' => ∃ (v9 v10 : Option V) (kvs : List (L2.Key × V)) (q : Nat → Addr) (N Dn : Nat → Nat), σ = [some (.ref sa), some (.ref p), some (.ref sl), v3, v4, some (.ref wl), v6, v7, some (.ref ch), v9, v10, none, none, none, none] ∧ (∀ b o, b ≠ p → b ≠ ch → H7 b = some o → H' b = some o) ∧ PotB H' p pb ∧ H' ch = some (.dK kvs) ∧ kvs.map (·.1) = ((List.range i).filter hit).map (fun (n : Nat) => (.inl (n : Int) : L2.Key)) ∧ (∀ x ∈ (List.range i).filter hit, valV kvs (.inl (x : Int)) = some (.ref (q x)) ∧ H' (q x) = some (.tup [.int (N x : Nat), .int (Dn x : Nat)])) ∧ (∀ x, N x ≤ Dn x ∧ 1 ≤ Dn x ∧ Dn x ≤ 12) ∧ ∀ z ∈ kvs, ∃ b, z.2 = .ref b)
      ⟨none, none, [], fun _ => 0, fun _ => 0, fun _ => 1, rfl, fun _ _ _ _ e => e, P7, ech, rfl, (fun x h => by simp at h), (fun _ => ⟨Nat.zero_le _, Nat.le_refl 1, (show 1 ≤ 12 by decide)⟩), (fun z h => by simp at h)⟩ ?_ ?_
    · rintro i σ H8 hi ⟨v9, v10, kvs, q, N, Dn, rfl, f8, P8, e8, ek, hq, hN, hr⟩
      rw [Int.zero_add]
      obtain ⟨⟨xp8, ep8⟩, ⟨xb8, eb8⟩⟩ := lp P8
      have nt8 : ∀ {b ys}, H7 b = some (.tup ys) → b ≠ p ∧ b ≠ ch := fun e => ⟨ne_of e ep7 (fun z => nomatch z), ne_of e ech (fun z => nomatch z)⟩
      have ewl8 := f8 _ _ nwp nwc ewl7
      have w8 := w7.keepT fun b ys e => f8 _ _ (nt8 e).1 (nt8 e).2 e
      have rl : rr.length ≤ 6 := by rw [← w8.1]; exact l6
      refine go_name rfl ?_
      refine ⟨_, rfl, wl, rfl, ⟨_, SqL.of ewl8⟩, fun D hD => ?_⟩
      refine DC2.walk_l (K := K) (xs := us.map V.ref) (fun t H' => Same H8 H' ∧ H' D = some (.lst (((rr.take t).map fun one => decide (i ∈ one)).map V.bl))) ⟨same_new (Same.refl _) hD, upd_same⟩ (fun t H' _ ⟨s', _⟩ => SqL.of (s' _ _ ewl8)) (fun t z H9 hz ⟨s9, e9⟩ => ?_) (fun H9 ⟨s9, e9⟩ => ?_)
      · rw [List.getElem?_map] at hz
        obtain ⟨u, hu, rfl⟩ := Option.map_eq_some_iff.mp hz
        have ht := (List.getElem?_eq_some_iff.mp hu).1
        have hgj : rr[t]? = some (rr.getD t []) := by rw [List.getD_eq_getElem?_getD, List.getElem?_eq_getElem (show t < rr.length by rw [← w8.1]; exact ht)]; rfl
        have hsu := s9 _ _ (w8.2 t u _ hu hgj)
        generalize rr.getD t [] = one at hgj hsu
        refine ⟨rfl, yes_then (iteT ⟨_, rfl, _, rfl, u, nV one, rfl, .inr (SqT.of hsu), rfl, KM.nV_flat _, _, e9, ?_, same_but hD s9 but_app, ?_⟩)⟩
        · rw [List.length_map, List.length_map, List.length_take]
          exact Nat.lt_of_le_of_lt (by omega : _ ≤ 1000) (by decide)
        · rw [upd_same, List.take_add_one, hgj, List.map_append, List.map_append]
          show _ = some (HO.lst (_ ++ [V.bl (decide (i ∈ one))]))
          rw [← KM.inV_nV i one]
          rfl
      rw [List.length_map, w8.1, List.take_length] at e9
      refine go_nil ?_
      refine ⟨D, _, rfl, SqL.of e9, _, rfl, ?_⟩
      have eh : (rr.map fun one => decide (i ∈ one)).any id = hit i := by rw [hhit, List.any_map]; rfl
      rw [eh]
      have P9 := P8.same s9
      have f9 : ∀ b o, b ≠ p → b ≠ ch → H7 b = some o → H9 b = some o := fun b o n1 n2 e => s9 _ _ (f8 _ _ n1 n2 e)
      have e9c := s9 _ _ e8
      have hq9 : ∀ x ∈ (List.range i).filter hit, valV kvs (.inl (x : Int)) = some (.ref (q x)) ∧ H9 (q x) = some (.tup [.int (N x : Nat), .int (Dn x : Nat)]) := fun x hx => ⟨(hq x hx).1, s9 _ _ (hq x hx).2⟩
      by_cases c : hit i = true
      · rw [c]
        refine iteT (go_sq ?_)
        refine ⟨_, rfl, (show 2 ≤ sizeLine by decide), fun A2 hA2 => ?_⟩
        have s10 := same_new (o := .lst [.int 3, .int 12]) (Same.refl H9) hA2
        have eA : (upd H9 A2 (.lst [.int 3, .int 12])) A2 = some (.lst [.int 3, .int 12]) := upd_same
        have P10 := P9.same s10
        obtain ⟨⟨xp9, ep9⟩, ⟨xb9, eb9⟩⟩ := lp P9
        have nAp : A2 ≠ p := (ne_of_none ep9 hA2).symm
        refine ⟨_, rfl, p, 2, rfl, P10.at_, by decide, by decide, fun H11 r11 f11 _ r110 r111 hb11 => ?_⟩
        generalize upd H9 A2 (.lst [.int 3, .int 12]) = H10 at s10 eA P10 f11 hb11
        have P11 := hb11 _ P10
        have lim : ∃ l : Nat, 1 ≤ l ∧ l ≤ 12 ∧ ∃ n : Nat, r11 = (n : Int) ∧ ([.int 3, .int 12] : List V)[n]? = some (.int (l : Int)) := by
          obtain ⟨n, rfl⟩ := toN r110
          rcases n with _ | _ | n
          · exact ⟨3, by decide, by decide, 0, rfl, rfl⟩
          · exact ⟨12, by decide, by decide, 1, rfl, rfl⟩
          · omega
        obtain ⟨lm, l1, l2, n8, rfl, elm⟩ := lim
        refine ⟨A2, _, _, _, rfl, rfl, SqL.of (f11 _ _ nAp eA), at_of (j := n8) rfl elm, p, (lm : Int), rfl, P11.at_, by omega, Nat.lt_of_le_of_lt (by omega : _ ≤ 12) (by decide), fun H12 r12 f12 _ r120 r121 hb12 => ?_⟩
        obtain ⟨e12, rfl⟩ := toN r120
        have P12 := hb12 _ P11
        refine ⟨_, _, rfl, rfl, go_name rfl (go_nx ?_)⟩
        have ed : (fun i j => V.int (i + j)) (1 : Int) (e12 : Int) = V.int ((1 + e12 : Nat) : Int) := by
          show V.int (1 + (e12 : Int)) = _
          rw [Int.natCast_add]; rfl
        rw [ed]
        obtain ⟨dd, hdd⟩ : ∃ dd, dd = 1 + e12 := ⟨_, rfl⟩
        rw [← hdd]
        have d1 : 1 ≤ dd := by omega
        have d12 : dd ≤ 12 := by omega
        refine ⟨_, rfl, _, rfl, _, _, rfl, rfl, p, (dd : Int) + 1, rfl, P12.at_, by omega, Nat.lt_of_le_of_lt (by omega : _ ≤ 13) (by decide), fun H13 r13 f13 _ r130 r131 hb13 => ?_⟩
        obtain ⟨n13, rfl⟩ := toN r130
        have P13 := hb13 _ P12
        refine ⟨_, rfl, n13, dd, rfl, d1, Nat.lt_of_le_of_lt d12 (by decide), fun H14 t s14 t0 et => ?_⟩
        have P14 := P13.same s14
        have f914 : ∀ b o, b ≠ p → H9 b = some o → H14 b = some o := fun b o n e => s14 _ _ (f13 _ _ n (f12 _ _ n (f11 _ _ n (s10 _ _ e))))
        have e14c := f914 _ _ ncp e9c
        have lkv : kvs.length ≤ 7 := by
          have := congrArg List.length ek
          rw [List.length_map, List.length_map] at this
          have h2 := List.length_filter_le hit (List.range i)
          rw [List.length_range] at h2
          omega
        have gp : 0 < Nat.gcd n13 dd := Nat.gcd_pos_of_pos_right _ d1
        have hnd : n13 / Nat.gcd n13 dd ≤ dd / Nat.gcd n13 dd := Nat.div_le_div_right (by omega)
        have hd1 : 1 ≤ dd / Nat.gcd n13 dd := Nat.div_pos (Nat.le_of_dvd d1 (Nat.gcd_dvd_right _ _)) gp
        have hd12 : dd / Nat.gcd n13 dd ≤ 12 := Nat.le_trans (Nat.div_le_self _ _) d12
        generalize n13 / Nat.gcd n13 dd = nx at et hnd
        generalize dd / Nat.gcd n13 dd = dx at et hnd hd1 hd12
        refine ⟨_, rfl, _, rfl, ch, _, rfl, DPut.k (k := .inl (i : Int)) e14c (Nat.lt_of_le_of_lt (by omega : _ ≤ 1000) (by decide)), ?_⟩
        have knew : valV kvs (.inl (i : Int)) = none := by
          cases z : valV kvs (.inl (i : Int)) with
          | none => rfl
          | some u =>
            exfalso
            have h1 := valV_any (.inl (i : Int)) kvs
            rw [z] at h1
            obtain ⟨kv, hkv, h2⟩ := List.any_eq_true.mp h1
            have h3 : kv.1 ∈ kvs.map (·.1) := List.mem_map.mpr ⟨kv, hkv, rfl⟩
            rw [of_decide_eq_true h2, ek] at h3
            obtain ⟨n, hn, e⟩ := List.mem_map.mp h3
            have := List.mem_range.mp (List.mem_filter.mp hn).1
            injection e with e
            omega
        have eput : putK kvs (.inl (i : Int)) (.ref t) = kvs ++ [(.inl (i : Int), .ref t)] := by
          unfold putK
          rw [valV_any, knew, if_neg (by simp)]
        rw [eput]
        have fi : (List.range (i + 1)).filter hit = (List.range i).filter hit ++ [i] := by
          rw [List.range_succ, List.filter_append, List.filter_cons_of_pos c, List.filter_nil]
        refine go_nx ⟨some (.int (i : Int)), some (.int (dd : Int)), kvs ++ [(.inl (i : Int), .ref t)], fun z => if z = i then t else q z, fun z => if z = i then nx else N z, fun z => if z = i then dx else Dn z, rfl, fun b o n1 n2 e => by rw [upd_ne n2]; exact f914 _ _ n1 (f9 _ _ n1 n2 e), P14.but (by rw [upd_ne (Ne.symm ncp)]) (by rw [upd_ne (Ne.symm ncb)]), upd_same, by rw [fi, List.map_append, List.map_append, ek]; rfl, fun x hx => ?_, fun x => ?_, fun z hz => ?_⟩
        · rw [fi] at hx
          rw [valV_snoc _ _ _ _ knew]
          dsimp only
          rcases List.mem_append.mp hx with h | h
          · have hlt := List.mem_range.mp (List.mem_filter.mp h).1
            have ne : ¬ x = i := by omega
            rw [if_neg (fun z => ne (by injection z with z; omega)), if_neg ne, if_neg ne, if_neg ne]
            obtain ⟨h1, h2⟩ := hq9 x h
            refine ⟨h1, ?_⟩
            have h3 := f914 _ _ (ne_of h2 ep9 (fun z => nomatch z)) h2
            rw [upd_ne (ne_of h3 e14c (fun z => nomatch z))]
            exact h3
          · rw [List.mem_singleton.mp h, if_pos rfl, if_pos rfl, if_pos rfl, if_pos rfl]
            refine ⟨rfl, ?_⟩
            rw [upd_ne (ne_of et e14c (fun z => nomatch z))]
            exact et
        · show (if x = i then nx else N x) ≤ (if x = i then dx else Dn x) ∧ 1 ≤ (if x = i then dx else Dn x) ∧ (if x = i then dx else Dn x) ≤ 12
          split
          · exact ⟨hnd, hd1, hd12⟩
          · exact hN x
        · rcases List.mem_append.mp hz with h | h
          · exact hr z h
          · rw [List.mem_singleton.mp h]; exact ⟨t, rfl⟩
      · rw [Bool.not_eq_true] at c
        rw [c]
        refine iteF (go_next ⟨some (.int (i : Int)), v10, kvs, q, N, Dn, rfl, f9, P9, e9c, ?_, fun x hx => ?_, hN, hr⟩)
        · rw [List.range_succ, List.filter_append, List.filter_cons_of_neg (by rw [c]; exact Bool.false_ne_true), List.filter_nil, List.append_nil]
          exact ek
        · rw [List.range_succ, List.filter_append, List.filter_cons_of_neg (by rw [c]; exact Bool.false_ne_true), List.filter_nil, List.append_nil] at hx
          exact hq9 x hx
    rintro σ H8 ⟨v9, v10, kvs, q, N, Dn, rfl, f8, P8, e8, ek, hq, hN, hr⟩
    refine go_nx ?_
    have nt8 : ∀ {b ys}, H7 b = some (.tup ys) → b ≠ p ∧ b ≠ ch := fun e => ⟨ne_of e ep7 (fun z => nomatch z), ne_of e ech (fun z => nomatch z)⟩
    have ewl8 := f8 _ _ nwp nwc ewl7
    have w8 := w7.keepT fun b ys e => f8 _ _ (nt8 e).1 (nt8 e).2 e
    have tg8 : TabG H8 PP := by
      obtain ⟨ps, e, t⟩ := tg7
      exact ⟨ps, f8 _ _ (ne_of e ep7 (fun z => nomatch z)) (ne_of e ech (fun z => nomatch z)) e, t⟩
    clear f8 w7 ewl7 tg7 P7 ech s67
    have rl : rr.length ≤ 6 := by rw [← w8.1]; exact l6
    refine ⟨fun σ H' => ∃ kp, σ = [some (.ref sa), some (.ref p), some (.ref sl), v3, v4, some (.ref wl), v6, v7, some (.ref ch), v9, v10, some (.ref kp), none, none, none] ∧ Same H8 H' ∧ H' kp = some (.dK kvs), ⟨_, rfl, ch, kvs, rfl, .inl e8, fun kp hkp => go_name rfl ⟨kp, rfl, same_new (Same.refl _) hkp, upd_same⟩⟩, ?_⟩
    rintro σ H9 ⟨kp, rfl, s9, ekp⟩
    refine go_sq ?_
    refine ⟨_, rfl, wl, _, rfl, .inl ⟨SqL.of (s9 _ _ ewl8), fun t ht => ?_⟩⟩
    have s10 := same_new (o := .tup (us.map V.ref)) (Same.refl H9) ht
    have et : (upd H9 t (.tup (us.map V.ref))) t = some (.tup (us.map V.ref)) := upd_same
    generalize upd H9 t (.tup (us.map V.ref)) = H10 at s10 et
    have f10 : FrT H8 H10 := FrT.of fun b o z => s10 _ _ (s9 _ _ z)
    have asc6 : ∀ s ∈ rr, Asc s := fun s h => (m6 s h).1
    have lt6 : ∀ s ∈ rr, ∀ x ∈ s, x < 60 := fun s h x hx => by have := (m6 s h).2 x hx; omega
    refine ⟨_, rfl, t, ch, us, rr, rfl, SqT.of et, w8.mono f10, asc6, lt6, by omega, f10.tabs _ tg8, fun F ascF memF => ?_⟩
    have F7asc : Asc ((List.range 7).filter hit) := List.pairwise_lt_range.filter _
    have eF : F = (List.range 7).filter hit := asc_ext ascF F7asc fun x => by
      rw [memF, List.mem_filter, List.mem_range, hhit, List.any_eq_true]
      constructor
      · rintro ⟨s, hs, hx⟩
        exact ⟨(m6 s hs).2 x hx, s, hs, decide_eq_true hx⟩
      · rintro ⟨_, s, hs, hx⟩
        exact ⟨s, hs, of_decide_eq_true hx⟩
    rw [← eF] at ek hq F7asc
    have F7len : F.length ≤ 7 := by
      rw [eF]
      have := List.length_filter_le hit (List.range 7)
      rw [List.length_range] at this
      exact this
    have e10c := f10.keep _ _ e8 (fun ps z => nomatch z)
    have hq10 : ∀ x ∈ F, valV kvs (.inl (x : Int)) = some (.ref (q x)) ∧ H10 (q x) = some (.tup [.int (N x : Nat), .int (Dn x : Nat)]) := fun x hx => ⟨(hq x hx).1, f10.tup (hq x hx).2⟩
    refine .inr ⟨F7len, kvs, q, N, Dn, e10c, hq10, hN, fun H11 tf S W eS eW f11 ef => go_name rfl (go_nx ?_)⟩
    have f811 := f10.trans f11
    have ekp11 := f11.keep _ _ (s10 _ _ ekp) (fun ps z => nomatch z)
    refine ⟨_, rfl, _, rfl, _, rfl, wl, ch, us, rr, F, kvs, F.map (fun (n : Nat) => (n : Int)), q, N, Dn, rfl, f811.lst ewl8, w8.mono f811, asc6, lt6, by omega, ascF, memF, F7len, f811.keep _ _ e8 (fun ps z => nomatch z), by rw [ek, List.map_map]; rfl, List.Perm.refl _, fun x hx => ⟨(hq x hx).1, f811.tup (hq x hx).2⟩, hN, fun H12 td S' W' eS' eW' s12 ed => ?_⟩
    have e1 : S' = S := eS'.trans eS.symm
    have e2 : W' = W := eW'.trans eW.symm
    subst e1 e2
    refine ⟨tf, td, [S' / Nat.gcd S' W', W' / Nat.gcd S' W'], [S' / Nat.gcd S' W', W' / Nat.gcd S' W'], rfl, rfl, .inl ⟨SqT.of (s12 _ _ ef), SqT.of ed⟩, ?_⟩
    refine ⟨true, by rw [decide_eq_true rfl]; rfl, iteT ?_⟩
    refine ⟨_, rfl, _, _, _, _, true, rfl, .ty _, .base (.tup (s12 _ _ ef)), kit_ty (by decide +kernel), _, rfl, iteT ?_⟩
    have nd : (kvs.map (·.1)).Nodup := by
      rw [ek]
      exact List.Pairwise.map _ (fun a b h e => by injection e with e; omega) F7asc
    refine ⟨_, rfl, _, rfl, 1, by decide, .inr ⟨ch, kp, kvs, kvs, rfl, rfl, s12 _ _ (f811.keep _ _ e8 (fun ps z => nomatch z)), s12 _ _ ekp11, rfl, fun z hz => ⟨z.2, val_at nd hz, .inr (.inl (let ⟨b, hb⟩ := hr z hz; ⟨b, hb, hb⟩))⟩⟩, true, rfl, iteT ?_⟩
    exact ⟨rfl, (f811.trans (FrT.of s12)).tabs _ tg8, fun H13 f13 => k H13⟩
end
end K25

set_option Elab.async false
set_option linter.all false
set_option maxRecDepth 100000
set_option maxHeartbeats 8000000
namespace K25
open PySem PySem.Spec PyProof.Rows L2 Ew Tb GxR

theorem all_mk {l : PySem.W.OpenLaw} {w : World} {K : PySem.W.Frag} {h : Heap} {mg : Str → Option Value} {fa : Addr} (PP_has_part : Addr) (X : K.In h) (G : h.Ns mainGlobals mg) (hfa : mg "law" = some (.ref fa)) (TA_has_part : h.get? PP_has_part = some { cls := .none, data := .fields #[] })
    {C_TooLarge : Addr}
    {C_WorthError : Addr}
    {f_facts_of : Addr} {od_facts_of an_facts_of : Option Addr} {sl_facts_of : Array (Option Value)} {oc_facts_of kV_facts_of dc_facts_of pm_facts_of cd_facts_of ct_facts_of : Value}
    {f_masks_of : Addr} {od_masks_of an_masks_of : Option Addr} {sl_masks_of : Array (Option Value)} {oc_masks_of kV_masks_of dc_masks_of pm_masks_of cd_masks_of ct_masks_of : Value}
    {f_least_masks : Addr} {od_least_masks an_least_masks : Option Addr} {sl_least_masks : Array (Option Value)} {oc_least_masks kV_least_masks dc_least_masks pm_least_masks cd_least_masks ct_least_masks : Value}
    {f_has_part cc_has_part : Addr} {od_has_part an_has_part : Option Addr} {sl_has_part : Array (Option Value)} {oc_has_part kV_has_part dc_has_part pm_has_part ct_has_part : Value}
    {f_chance : Addr} {od_chance an_chance : Option Addr} {sl_chance : Array (Option Value)} {oc_chance kV_chance dc_chance pm_chance cd_chance ct_chance : Value}
    {f_settled : Addr} {od_settled an_settled : Option Addr} {sl_settled : Array (Option Value)} {oc_settled kV_settled dc_settled pm_settled cd_settled ct_settled : Value}
    {f_law_pot : Addr} {od_law_pot an_law_pot : Option Addr} {sl_law_pot : Array (Option Value)} {oc_law_pot kV_law_pot dc_law_pot pm_law_pot cd_law_pot ct_law_pot : Value}
    {f_law_next : Addr} {od_law_next an_law_next : Option Addr} {sl_law_next : Array (Option Value)} {oc_law_next kV_law_next dc_law_next pm_law_next cd_law_next ct_law_next : Value}
    {f_law_gcd : Addr} {od_law_gcd an_law_gcd : Option Addr} {sl_law_gcd : Array (Option Value)} {oc_law_gcd kV_law_gcd dc_law_gcd pm_law_gcd cd_law_gcd ct_law_gcd : Value}
    {f_law_low : Addr} {od_law_low an_law_low : Option Addr} {sl_law_low : Array (Option Value)} {oc_law_low kV_law_low dc_law_low pm_law_low cd_law_low ct_law_low : Value}
    {f_law_due : Addr} {od_law_due an_law_due : Option Addr} {sl_law_due : Array (Option Value)} {oc_law_due kV_law_due dc_law_due pm_law_due cd_law_due ct_law_due : Value}
    {f_law_refused : Addr} {od_law_refused an_law_refused : Option Addr} {sl_law_refused : Array (Option Value)} {oc_law_refused kV_law_refused dc_law_refused pm_law_refused cd_law_refused ct_law_refused : Value}
    {f_law : Addr} {od_law an_law : Option Addr} {sl_law : Array (Option Value)} {oc_law kV_law dc_law pm_law cd_law ct_law : Value}
    {tk_MOST_FACTS : Tok}
    (aC_WorthError : PySem.W.nsIn K mainGlobals "WorthError" = some (some (.ref C_WorthError)))
    (aC_TooLarge : PySem.W.nsIn K mainGlobals "TooLarge" = some (some (.ref C_TooLarge)))
    (a_facts_of : PySem.W.nsIn K mainGlobals "facts_of" = some (some (.ref f_facts_of)))
    (l_facts_of : K.lookup f_facts_of = some ⟨oc_facts_of, od_facts_of, .func (PySem.W.fnOf "facts_of" "facts_of" (defArgs s_facts_of) (defBody s_facts_of) (defScope s_facts_of) .none kV_facts_of dc_facts_of pm_facts_of an_facts_of cd_facts_of ct_facts_of), sl_facts_of⟩)
    (c_facts_of : PySem.W.codeIn K cd_facts_of "facts_of" = true)
    (k_facts_of : PySem.W.keepIn K (.ref f_facts_of) = true)
    (a_masks_of : PySem.W.nsIn K mainGlobals "masks_of" = some (some (.ref f_masks_of)))
    (l_masks_of : K.lookup f_masks_of = some ⟨oc_masks_of, od_masks_of, .func (PySem.W.fnOf "masks_of" "masks_of" (defArgs s_masks_of) (defBody s_masks_of) (defScope s_masks_of) .none kV_masks_of dc_masks_of pm_masks_of an_masks_of cd_masks_of ct_masks_of), sl_masks_of⟩)
    (c_masks_of : PySem.W.codeIn K cd_masks_of "masks_of" = true)
    (k_masks_of : PySem.W.keepIn K (.ref f_masks_of) = true)
    (a_least_masks : PySem.W.nsIn K mainGlobals "least_masks" = some (some (.ref f_least_masks)))
    (l_least_masks : K.lookup f_least_masks = some ⟨oc_least_masks, od_least_masks, .func (PySem.W.fnOf "least_masks" "least_masks" (defArgs s_least_masks) (defBody s_least_masks) (defScope s_least_masks) .none kV_least_masks dc_least_masks pm_least_masks an_least_masks cd_least_masks ct_least_masks), sl_least_masks⟩)
    (c_least_masks : PySem.W.codeIn K cd_least_masks "least_masks" = true)
    (k_least_masks : PySem.W.keepIn K (.ref f_least_masks) = true)
    (a_has_part : PySem.W.nsIn K mainGlobals "_has_part" = some (some (.ref f_has_part)))
    (l_has_part : K.lookup f_has_part = some ⟨oc_has_part, od_has_part, .func (PySem.W.fnOf "_has_part" "_has_part" (defArgs s_has_part) (defBody s_has_part) (defScope s_has_part) .none kV_has_part dc_has_part pm_has_part an_has_part (.ref cc_has_part) ct_has_part), sl_has_part⟩)
    (c_has_part : PySem.W.codeIn K (.ref cc_has_part) "_has_part" = true)
    (k_has_part : PySem.W.keepIn K (.ref f_has_part) = true)
    (a_chance : PySem.W.nsIn K mainGlobals "chance" = some (some (.ref f_chance)))
    (l_chance : K.lookup f_chance = some ⟨oc_chance, od_chance, .func (PySem.W.fnOf "chance" "chance" (defArgs s_chance) (defBody s_chance) (defScope s_chance) .none kV_chance dc_chance pm_chance an_chance cd_chance ct_chance), sl_chance⟩)
    (c_chance : PySem.W.codeIn K cd_chance "chance" = true)
    (k_chance : PySem.W.keepIn K (.ref f_chance) = true)
    (a_settled : PySem.W.nsIn K mainGlobals "_settled" = some (some (.ref f_settled)))
    (l_settled : K.lookup f_settled = some ⟨oc_settled, od_settled, .func (PySem.W.fnOf "_settled" "_settled" (defArgs s_settled) (defBody s_settled) (defScope s_settled) .none kV_settled dc_settled pm_settled an_settled cd_settled ct_settled), sl_settled⟩)
    (c_settled : PySem.W.codeIn K cd_settled "_settled" = true)
    (k_settled : PySem.W.keepIn K (.ref f_settled) = true)
    (a_law_pot : PySem.W.nsIn K mainGlobals "_law_pot" = some (some (.ref f_law_pot)))
    (l_law_pot : K.lookup f_law_pot = some ⟨oc_law_pot, od_law_pot, .func (PySem.W.fnOf "_law_pot" "_law_pot" (defArgs s_law_pot) (defBody s_law_pot) (defScope s_law_pot) .none kV_law_pot dc_law_pot pm_law_pot an_law_pot cd_law_pot ct_law_pot), sl_law_pot⟩)
    (c_law_pot : PySem.W.codeIn K cd_law_pot "_law_pot" = true)
    (k_law_pot : PySem.W.keepIn K (.ref f_law_pot) = true)
    (a_law_next : PySem.W.nsIn K mainGlobals "_law_next" = some (some (.ref f_law_next)))
    (l_law_next : K.lookup f_law_next = some ⟨oc_law_next, od_law_next, .func (PySem.W.fnOf "_law_next" "_law_next" (defArgs s_law_next) (defBody s_law_next) (defScope s_law_next) .none kV_law_next dc_law_next pm_law_next an_law_next cd_law_next ct_law_next), sl_law_next⟩)
    (c_law_next : PySem.W.codeIn K cd_law_next "_law_next" = true)
    (k_law_next : PySem.W.keepIn K (.ref f_law_next) = true)
    (a_law_gcd : PySem.W.nsIn K mainGlobals "_law_gcd" = some (some (.ref f_law_gcd)))
    (l_law_gcd : K.lookup f_law_gcd = some ⟨oc_law_gcd, od_law_gcd, .func (PySem.W.fnOf "_law_gcd" "_law_gcd" (defArgs s_law_gcd) (defBody s_law_gcd) (defScope s_law_gcd) .none kV_law_gcd dc_law_gcd pm_law_gcd an_law_gcd cd_law_gcd ct_law_gcd), sl_law_gcd⟩)
    (c_law_gcd : PySem.W.codeIn K cd_law_gcd "_law_gcd" = true)
    (k_law_gcd : PySem.W.keepIn K (.ref f_law_gcd) = true)
    (a_law_low : PySem.W.nsIn K mainGlobals "_law_low" = some (some (.ref f_law_low)))
    (l_law_low : K.lookup f_law_low = some ⟨oc_law_low, od_law_low, .func (PySem.W.fnOf "_law_low" "_law_low" (defArgs s_law_low) (defBody s_law_low) (defScope s_law_low) .none kV_law_low dc_law_low pm_law_low an_law_low cd_law_low ct_law_low), sl_law_low⟩)
    (c_law_low : PySem.W.codeIn K cd_law_low "_law_low" = true)
    (k_law_low : PySem.W.keepIn K (.ref f_law_low) = true)
    (a_law_due : PySem.W.nsIn K mainGlobals "_law_due" = some (some (.ref f_law_due)))
    (l_law_due : K.lookup f_law_due = some ⟨oc_law_due, od_law_due, .func (PySem.W.fnOf "_law_due" "_law_due" (defArgs s_law_due) (defBody s_law_due) (defScope s_law_due) .none kV_law_due dc_law_due pm_law_due an_law_due cd_law_due ct_law_due), sl_law_due⟩)
    (c_law_due : PySem.W.codeIn K cd_law_due "_law_due" = true)
    (k_law_due : PySem.W.keepIn K (.ref f_law_due) = true)
    (a_law_refused : PySem.W.nsIn K mainGlobals "_law_refused" = some (some (.ref f_law_refused)))
    (l_law_refused : K.lookup f_law_refused = some ⟨oc_law_refused, od_law_refused, .func (PySem.W.fnOf "_law_refused" "_law_refused" (defArgs s_law_refused) (defBody s_law_refused) (defScope s_law_refused) .none kV_law_refused dc_law_refused pm_law_refused an_law_refused cd_law_refused ct_law_refused), sl_law_refused⟩)
    (c_law_refused : PySem.W.codeIn K cd_law_refused "_law_refused" = true)
    (k_law_refused : PySem.W.keepIn K (.ref f_law_refused) = true)
    (a_law : PySem.W.nsIn K mainGlobals "law" = some (some (.ref f_law)))
    (l_law : K.lookup f_law = some ⟨oc_law, od_law, .func (PySem.W.fnOf "law" "law" (defArgs s_law) (defBody s_law) (defScope s_law) .none kV_law dc_law pm_law an_law cd_law ct_law), sl_law⟩)
    (c_law : PySem.W.codeIn K cd_law "law" = true)
    (k_law : PySem.W.keepIn K (.ref f_law) = true)
    (x_WorthError : PySem.W.excIn K C_WorthError [.type "ValueError", .type "Exception", .type "BaseException", .type "object"] "ValueError.__new__" = true)
    (kp_WorthError : PySem.W.keepIn K (.ref C_WorthError) = true)
    (b_WorthError : PySem.W.subIn K (.ref C_WorthError) (.type "BaseException") = some true)
    (t_WorthError : PySem.W.typeIn K (.ref C_WorthError) = some (.type "type"))
    (hd_WorthError : PySem.W.hasDictIn K C_WorthError = true)
    (ga_WorthError : PySem.W.findIn K (.ref C_WorthError) "__getattribute__" = some (some (.builtin "BaseException.__getattribute__")))
    (gg_WorthError : PySem.W.findIn K (.ref C_WorthError) "__getattr__" = some none)
    (cc_WorthError : PySem.W.findIn K (.ref C_WorthError) "__class__" = some (some (.builtin "object.__class__")))
    (mo_WorthError : PySem.W.mroIn K C_WorthError (.type "object") = some true)
    (x_TooLarge : PySem.W.excIn K C_TooLarge [.type "ValueError", .type "Exception", .type "BaseException", .type "object"] "ValueError.__new__" = true)
    (kp_TooLarge : PySem.W.keepIn K (.ref C_TooLarge) = true)
    (b_TooLarge : PySem.W.subIn K (.ref C_TooLarge) (.type "BaseException") = some true)
    (t_TooLarge : PySem.W.typeIn K (.ref C_TooLarge) = some (.type "type"))
    (hd_TooLarge : PySem.W.hasDictIn K C_TooLarge = true)
    (ga_TooLarge : PySem.W.findIn K (.ref C_TooLarge) "__getattribute__" = some (some (.builtin "BaseException.__getattribute__")))
    (gg_TooLarge : PySem.W.findIn K (.ref C_TooLarge) "__getattr__" = some none)
    (cc_TooLarge : PySem.W.findIn K (.ref C_TooLarge) "__class__" = some (some (.builtin "object.__class__")))
    (mo_TooLarge : PySem.W.mroIn K C_TooLarge (.type "object") = some true)
    (s_TooLarge_WorthError : PySem.W.subIn K (.ref C_TooLarge) (.ref C_WorthError) = some true)
    (g_gcd : PySem.W.nsIn K mainGlobals "gcd" = some (some (.builtin "math.gcd")))
    (spc : PySem.W.specialIn K (.builtin "object.__class__") "__get__" = some (some (.builtin "getset_descriptor.__get__")))
    (tki : PySem.W.takesIn K (.builtin "object.__class__") = some true)
    (g_MOST_FACTS : PySem.W.nsIn K mainGlobals "MOST_FACTS" = some (some (.int 20 tk_MOST_FACTS)))
    (z_isinstance : PySem.W.nsIn K mainGlobals "isinstance" = some none)
    (z_int : PySem.W.nsIn K mainGlobals "int" = some none)
    (z_list : PySem.W.nsIn K mainGlobals "list" = some none)
    (z_tuple : PySem.W.nsIn K mainGlobals "tuple" = some none)
    (z_dict : PySem.W.nsIn K mainGlobals "dict" = some none)
    (z_enumerate : PySem.W.nsIn K mainGlobals "enumerate" = some none)
    (z_abs : PySem.W.nsIn K mainGlobals "abs" = some none)
    (z_len : PySem.W.nsIn K mainGlobals "len" = some none)
    (z_range : PySem.W.nsIn K mainGlobals "range" = some none)
    (z_all : PySem.W.nsIn K mainGlobals "all" = some none)
    (z_any : PySem.W.nsIn K mainGlobals "any" = some none)
    (z_sorted : PySem.W.nsIn K mainGlobals "sorted" = some none)
    (z_sum : PySem.W.nsIn K mainGlobals "sum" = some none)
    (nt_has_part : K.lookup PP_has_part = none)
    (ch_has_part : PySem.W.codeHdIn K cc_has_part PP_has_part = true)
    : LamX.LawAtS l w K (L2.CX l.prog w) 21 63 "script" mg fa h := by
  have e := hfa.symm.trans (PySem.W.mg_of X G a_law)
  cases e
  have F_facts_of := fun_mk (st := s_facts_of) l_facts_of c_facts_of k_facts_of
  have b_facts_of := F_facts_of.binds (ps := ["sets"]) fun _ _ _ _ _ _ us hl => match us, hl with | [_], _ => rfl
  have F_masks_of := fun_mk (st := s_masks_of) l_masks_of c_masks_of k_masks_of
  have b_masks_of := F_masks_of.binds (ps := ["sets", "facts"]) fun _ _ _ _ _ _ us hl => match us, hl with | [_, _], _ => rfl
  have F_least_masks := fun_mk (st := s_least_masks) l_least_masks c_least_masks k_least_masks
  have b_least_masks := F_least_masks.binds (ps := ["masks", "enough"]) fun _ _ _ _ _ _ us hl => match us, hl with | [_, _], _ => rfl
  have FC_has_part := Tb.func_mk (st := s_has_part) l_has_part c_has_part k_has_part
  have F_has_part := FC_has_part.fun_
  have b_has_part := F_has_part.binds (ps := ["mask", "by_lowest"]) fun _ _ _ _ _ _ us hl => match us, hl with | [_, _], _ => rfl
  have F_chance := fun_mk (st := s_chance) l_chance c_chance k_chance
  have b_chance := F_chance.binds (ps := ["whys", "chances"]) fun _ _ _ _ _ _ us hl => match us, hl with | [_, _], _ => rfl
  have F_settled := fun_mk (st := s_settled) l_settled c_settled k_settled
  have b_settled := F_settled.binds (ps := ["masks", "weight", "still_open"]) fun _ _ _ _ _ _ us hl => match us, hl with | [_, _, _], _ => rfl
  have F_law_pot := fun_mk (st := s_law_pot) l_law_pot c_law_pot k_law_pot
  have b_law_pot := F_law_pot.binds (ps := ["script"]) fun _ _ _ _ _ _ us hl => match us, hl with | [_], _ => rfl
  have F_law_next := fun_mk (st := s_law_next) l_law_next c_law_next k_law_next
  have b_law_next := F_law_next.binds (ps := ["pot", "limit"]) fun _ _ _ _ _ _ us hl => match us, hl with | [_, _], _ => rfl
  have F_law_gcd := fun_mk (st := s_law_gcd) l_law_gcd c_law_gcd k_law_gcd
  have b_law_gcd := F_law_gcd.binds (ps := ["a", "b"]) fun _ _ _ _ _ _ us hl => match us, hl with | [_, _], _ => rfl
  have F_law_low := fun_mk (st := s_law_low) l_law_low c_law_low k_law_low
  have b_law_low := F_law_low.binds (ps := ["n", "d"]) fun _ _ _ _ _ _ us hl => match us, hl with | [_, _], _ => rfl
  have F_law_due := fun_mk (st := s_law_due) l_law_due c_law_due k_law_due
  have b_law_due := F_law_due.binds (ps := ["sets", "chances"]) fun _ _ _ _ _ _ us hl => match us, hl with | [_, _], _ => rfl
  have F_law_refused := fun_mk (st := s_law_refused) l_law_refused c_law_refused k_law_refused
  have b_law_refused := F_law_refused.binds (ps := []) fun _ _ _ _ _ _ us hl => match us, hl with | [], _ => rfl
  have F_law := fun_mk (st := s_law) l_law c_law k_law
  have b_law := F_law.binds (ps := ["script"]) fun _ _ _ _ _ _ us hl => match us, hl with | [_], _ => rfl
  have kself : ∀ c : Addr, PySem.W.kitOne K (.ref c) (.ref c) = some true := fun c => if_pos (beq_iff_eq.mpr rfl)
  let ad : Ad := ⟨C_WorthError, C_TooLarge⟩
  have T : Txt K mg ad :=
    { z_isinstance := PySem.W.mg_none_of X G z_isinstance, z_int := PySem.W.mg_none_of X G z_int, z_list := PySem.W.mg_none_of X G z_list, z_tuple := PySem.W.mg_none_of X G z_tuple, z_dict := PySem.W.mg_none_of X G z_dict, z_enumerate := PySem.W.mg_none_of X G z_enumerate,
      z_abs := PySem.W.mg_none_of X G z_abs, z_len := PySem.W.mg_none_of X G z_len, z_range := PySem.W.mg_none_of X G z_range, z_all := PySem.W.mg_none_of X G z_all, z_any := PySem.W.mg_none_of X G z_any, z_sorted := PySem.W.mg_none_of X G z_sorted, z_sum := PySem.W.mg_none_of X G z_sum,
      g_gcd := PySem.W.mg_of X G g_gcd,
      g_MOST_FACTS := ⟨_, PySem.W.mg_of X G g_MOST_FACTS⟩, g_WorthError := PySem.W.mg_of X G aC_WorthError, g_TooLarge := PySem.W.mg_of X G aC_TooLarge,
      x_TooLarge := x_TooLarge, k_TooLarge := kp_TooLarge, b_TooLarge := b_TooLarge, t_TooLarge := t_TooLarge,
      ec_TooLarge := ⟨ga_TooLarge, gg_TooLarge, b_TooLarge, hd_TooLarge, cc_TooLarge, spc, tki, mo_TooLarge⟩,
      em_TooLarge := PySem.W.exm_ref b_WorthError hd_WorthError t_WorthError s_TooLarge_WorthError, ki_TooLarge := kself _ }
  refine ⟨PySem.W.fnOf "law" "law" (defArgs s_law) (defBody s_law) (defScope s_law) .none kV_law dc_law pm_law an_law cd_law ct_law, [(cc_has_part, PP_has_part)], spLaw K PP_has_part, (List.forall_mem_cons.mpr ⟨TA_has_part, (fun _ z => nomatch z)⟩), (List.forall_mem_cons.mpr ⟨nt_has_part, (fun _ z => nomatch z)⟩), (List.forall_mem_cons.mpr ⟨PySem.W.codeHd_of_K X ch_has_part, (fun _ z => nomatch z)⟩), fun s v => .of_eq rfl, ?_, fun base _ _ TBa => ?_⟩
  · intro H a ns hl _ hT hS
    have tg : ∀ P, H P = some (.tbl #[]) → TabG H P := fun P e => ⟨#[], e, by first | trivial | decide | exact TriplesOk_nil | simp [TriplesOk]⟩
    exact ⟨a, ns, rfl, hS, hl, tg _ (hT (cc_has_part, PP_has_part) (by simp)), fun _ => rfl⟩
  have TB_has_part : GxR.TabB base mg cc_has_part PP_has_part := by
    have z := TBa (cc_has_part, PP_has_part) (by simp)
    exact ⟨z.code, z.bm, z.gP⟩
  have c_has_part := cal_mk (x := "_has_part") (ok_has_part (P := l.prog) (w := w) (K := K) (mg := mg) (base := base) (ad := ad) FC_has_part TB_has_part T) (PySem.W.mg_of X G a_has_part) k_has_part b_has_part
  have c_least_masks := cal_mk (x := "least_masks") (ok_least_masks (P := l.prog) (w := w) (K := K) (mg := mg) (base := base) (ad := ad) c_has_part F_least_masks T) (PySem.W.mg_of X G a_least_masks) k_least_masks b_least_masks
  have c_masks_of := cal_mk (x := "masks_of") (ok_masks_of (P := l.prog) (w := w) (K := K) (mg := mg) (base := base) (ad := ad) F_masks_of T) (PySem.W.mg_of X G a_masks_of) k_masks_of b_masks_of
  have c_facts_of := cal_mk (x := "facts_of") (ok_facts_of (P := l.prog) (w := w) (K := K) (mg := mg) (base := base) (ad := ad) F_facts_of T) (PySem.W.mg_of X G a_facts_of) k_facts_of b_facts_of
  have c_settled := cal_mk (x := "_settled") (ok_settled (P := l.prog) (w := w) (K := K) (mg := mg) (base := base) (ad := ad) c_least_masks F_settled T) (PySem.W.mg_of X G a_settled) k_settled b_settled
  have c_chance := cal_mk (x := "chance") (ok_chance (P := l.prog) (w := w) (K := K) (mg := mg) (base := base) (ad := ad) c_facts_of c_masks_of c_settled F_chance T) (PySem.W.mg_of X G a_chance) k_chance b_chance
  have c_law_pot := cal_mk (x := "_law_pot") (ok_law_pot (P := l.prog) (w := w) (K := K) (mg := mg) (base := base) (ad := ad) F_law_pot T) (PySem.W.mg_of X G a_law_pot) k_law_pot b_law_pot
  have c_law_next := cal_mk (x := "_law_next") (ok_law_next (P := l.prog) (w := w) (K := K) (mg := mg) (base := base) (ad := ad) F_law_next T) (PySem.W.mg_of X G a_law_next) k_law_next b_law_next
  have c_law_gcd := cal_mk (x := "_law_gcd") (ok_law_gcd (P := l.prog) (w := w) (K := K) (mg := mg) (base := base) (ad := ad) F_law_gcd T) (PySem.W.mg_of X G a_law_gcd) k_law_gcd b_law_gcd
  have c_law_low := cal_mk (x := "_law_low") (ok_law_low (P := l.prog) (w := w) (K := K) (mg := mg) (base := base) (ad := ad) c_law_gcd F_law_low T) (PySem.W.mg_of X G a_law_low) k_law_low b_law_low
  have c_law_due := cal_mk (x := "_law_due") (ok_law_due (P := l.prog) (w := w) (K := K) (mg := mg) (base := base) (ad := ad) c_law_low F_law_due T) (PySem.W.mg_of X G a_law_due) k_law_due b_law_due
  have c_law_refused := cal_mk (x := "_law_refused") (ok_law_refused (P := l.prog) (w := w) (K := K) (mg := mg) (base := base) (ad := ad) c_chance F_law_refused T) (PySem.W.mg_of X G a_law_refused) k_law_refused b_law_refused
  exact ok_law (P := l.prog) (w := w) (base := base) (ad := ad) c_law_pot c_law_next c_law_low c_law_due c_chance c_law_refused F_law T
theorem walk {l : PySem.W.OpenLaw} {q : Program} {loose : List Str} {XP : (Str → Option Value) → Heap → Prop} {YP : World → Heap → Prop} {d : DefRec} {K : Params → PySem.W.Frag} (hn : l.most = some 63) (hdf : d.params.defaults = [])
    (hY : ∀ (w : World) (h : Heap), YP w h → (K w.params).In h)
    (F : ∀ (w : World) (mg : Str → Option Value) (fa : Addr) (h : Heap), YP w h → (K w.params).In h → h.Ns mainGlobals mg → mg d.name = some (.ref fa) → LamX.LawAtS l w (K w.params) (L2.CX l.prog w) 21 63 "script" mg fa h) :
    PySem.W.WalkO q loose XP YP l.row.toRowW d [] (fun f vs => PySem.call f vs) :=
  LamX.walk_ofTs (n := 63) (k := 21) (x := "script") (CX := fun w => L2.CX l.prog w) hn (by decide) hdf ⟨rfl, by decide, by decide⟩ hY F fun _ _ _ _ _ h => by
    obtain ⟨_, _, _, _, _, _, _, _, _, _, _, _, z⟩ := h
    exact z
end K25
open PySem PySem.W PyProof.Rows
local macro_rules | `(tactic| o_head ($f:ident $a $b $c)) => `(tactic| o_head (PySem.W.kmHook $a $b $c [86]))
set_option maxRecDepth 100000 in
set_option maxHeartbeats 0 in
theorem PySem.Challenge.cw_everyworth_k25_chances_holds : PySem.Challenge.rw_everyworth_k25_chances.Holds := by
  w_on; o_law; k_head; (case hw => w_witness2)
  k_fill
  refine K25.walk (l := PySem.Challenge.rw_everyworth_k25_chances) rfl rfl (fun w h Y => PySem.W.km_in_of Y) ?F
  case F =>
    intro w mg fa h Y KX G hmg
    refine' K25.all_mk 86 KX G hmg (PySem.W.km_tabs_of Y _ (by simp)) ?aC_WorthError ?aC_TooLarge ?a_facts_of ?l_facts_of ?c_facts_of ?k_facts_of ?a_masks_of ?l_masks_of ?c_masks_of ?k_masks_of ?a_least_masks ?l_least_masks ?c_least_masks ?k_least_masks ?a_has_part ?l_has_part ?c_has_part ?k_has_part ?a_chance ?l_chance ?c_chance ?k_chance ?a_settled ?l_settled ?c_settled ?k_settled ?a_law_pot ?l_law_pot ?c_law_pot ?k_law_pot ?a_law_next ?l_law_next ?c_law_next ?k_law_next ?a_law_gcd ?l_law_gcd ?c_law_gcd ?k_law_gcd ?a_law_low ?l_law_low ?c_law_low ?k_law_low ?a_law_due ?l_law_due ?c_law_due ?k_law_due ?a_law_refused ?l_law_refused ?c_law_refused ?k_law_refused ?a_law ?l_law ?c_law ?k_law ?x_WorthError ?kp_WorthError ?b_WorthError ?t_WorthError ?hd_WorthError ?ga_WorthError ?gg_WorthError ?cc_WorthError ?mo_WorthError ?x_TooLarge ?kp_TooLarge ?b_TooLarge ?t_TooLarge ?hd_TooLarge ?ga_TooLarge ?gg_TooLarge ?cc_TooLarge ?mo_TooLarge ?s_TooLarge_WorthError ?g_gcd ?spc ?tki ?g_MOST_FACTS ?z_isinstance ?z_int ?z_list ?z_tuple ?z_dict ?z_enumerate ?z_abs ?z_len ?z_range ?z_all ?z_any ?z_sorted ?z_sum ?nt_has_part ?ch_has_part
    (case aC_WorthError => k_is)
    (case aC_TooLarge => k_is)
    (case a_facts_of => k_is)
    (case l_facts_of => k_is)
    (case c_facts_of => k_is)
    (case k_facts_of => k_is)
    (case a_masks_of => k_is)
    (case l_masks_of => k_is)
    (case c_masks_of => k_is)
    (case k_masks_of => k_is)
    (case a_least_masks => k_is)
    (case l_least_masks => k_is)
    (case c_least_masks => k_is)
    (case k_least_masks => k_is)
    (case a_has_part => k_is)
    (case l_has_part => k_is)
    (case c_has_part => k_is)
    (case k_has_part => k_is)
    (case a_chance => k_is)
    (case l_chance => k_is)
    (case c_chance => k_is)
    (case k_chance => k_is)
    (case a_settled => k_is)
    (case l_settled => k_is)
    (case c_settled => k_is)
    (case k_settled => k_is)
    (case a_law_pot => k_is)
    (case l_law_pot => k_is)
    (case c_law_pot => k_is)
    (case k_law_pot => k_is)
    (case a_law_next => k_is)
    (case l_law_next => k_is)
    (case c_law_next => k_is)
    (case k_law_next => k_is)
    (case a_law_gcd => k_is)
    (case l_law_gcd => k_is)
    (case c_law_gcd => k_is)
    (case k_law_gcd => k_is)
    (case a_law_low => k_is)
    (case l_law_low => k_is)
    (case c_law_low => k_is)
    (case k_law_low => k_is)
    (case a_law_due => k_is)
    (case l_law_due => k_is)
    (case c_law_due => k_is)
    (case k_law_due => k_is)
    (case a_law_refused => k_is)
    (case l_law_refused => k_is)
    (case c_law_refused => k_is)
    (case k_law_refused => k_is)
    (case a_law => k_is)
    (case l_law => k_is)
    (case c_law => k_is)
    (case k_law => k_is)
    (case x_WorthError => k_exc)
    (case kp_WorthError => k_is)
    (case b_WorthError => k_is)
    (case t_WorthError => k_is)
    (case hd_WorthError => k_is)
    (case ga_WorthError => k_is)
    (case gg_WorthError => k_is)
    (case cc_WorthError => k_is)
    (case mo_WorthError => k_is)
    (case x_TooLarge => k_exc)
    (case kp_TooLarge => k_is)
    (case b_TooLarge => k_is)
    (case t_TooLarge => k_is)
    (case hd_TooLarge => k_is)
    (case ga_TooLarge => k_is)
    (case gg_TooLarge => k_is)
    (case cc_TooLarge => k_is)
    (case mo_TooLarge => k_is)
    (case s_TooLarge_WorthError => k_is)
    (case g_gcd => k_is)
    (case spc => k_is)
    (case tki => k_is)
    (case g_MOST_FACTS => k_is)
    (case z_isinstance => k_is)
    (case z_int => k_is)
    (case z_list => k_is)
    (case z_tuple => k_is)
    (case z_dict => k_is)
    (case z_enumerate => k_is)
    (case z_abs => k_is)
    (case z_len => k_is)
    (case z_range => k_is)
    (case z_all => k_is)
    (case z_any => k_is)
    (case z_sorted => k_is)
    (case z_sum => k_is)
    (case nt_has_part => first | k_is | kernel_rfl)
    (case ch_has_part => first | k_is | kernel_rfl)
