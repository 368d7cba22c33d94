import PyProof.Rows.All
import Wide.All
import OpenK.AllK
import Wide.FinOn
import KE.SortData
import KE.DataCmp
import HandS.NamedTupSort
import HandS.Style
import HandS.ForMost
import HandS.ForExc
import HandS.IsInst
import HandS.ExcIs
import HandS.CallSlots
import HandS.Wide
import HandS.EndBits
import HandS.Flow
import HandS.AnyAll
import HandS.SortKw
import HandS.Dict
import KE.KeyNested
import KE.KDictKeyed
import KE.KDictDisplayH
import HandS.DictTup
import HandS.More
import HandS.TupLen
import KE.KDictWalk
import KE.KDictSum
import KE.BitLaws
import HandS.Text
import HandS.GenOver
import HandS.GenList
import PyProof.GenRules
import PyProof.GenQ
import HandS.Steps
import HandS.Codes
import HandS.TupAny
import HandS.TupMul
import HandS.List
import KE.KIndexOf
import HandS.DictComp
import HandS.SortInts
import PySem.Challenge.RW_everyworth_k01_facts
import HandS.SetKeys
import HandS.WideBits
import HandS.DeepEq
import HandS.ListItems
import HandS.Base
import HandS.Call
import HandS.Exc
import HandS.ExcOwn
import HandS.EndTab
import HandS.EndOwn
set_option Elab.async false
set_option linter.all false
set_option maxRecDepth 100000
set_option maxHeartbeats 4000000
/-! sorted(xs), xs a list of nested data: tuples of any lengths (empty ones too), or no tuples; < of nested data. -/
namespace SDx
open PySem PySem.W PySem.Calls PyProof.Rows SeqAt
section
variable {prog : Program} {w : World} {A : Around} {s : Shared}
/-- a tuple's own __lt__, as a sort calls it -/
theorem call_tup_lt {E Q : Value → Shared → Prop} {l b : Addr} {xs ys : Array Value} {e r : Nat → Bool} (hl : s.heap.IsTuple l xs) (hb : s.heap.IsTuple b ys)
    (he : ∀ j (h1 : j < xs.size) (h2 : j < ys.size), EqAt A.in1 s xs[j] ys[j] (e j)) (hr : ∀ j (h1 : j < xs.size) (h2 : j < ys.size), e j = false → RcLt A.in1 s xs[j] ys[j] (r j))
    (h : Q (.bool (firstLt e r (decide (xs.size < ys.size)) (List.range (min xs.size ys.size)))) s) : wpAny (model prog w) A (call (.builtin "tuple.__lt__") [.ref l, .ref b]) Q E s := by
  obtain ⟨⟨c1, d1, x1, s1⟩, o1, q1, n1, r1⟩ := id hl
  obtain ⟨⟨c2, d2, x2, s2⟩, o2, q2, n2, r2⟩ := id hb
  simp only at q1 r1 q2 r2
  subst q1 r1 q2 r2
  exact call_meets F.slot_tuple_lt ⟨_, o1, rfl⟩ F.entry_tuple_lt (F.args_tuple_lt_2 _ _) (tuple_ltAt l b xs ys n1 n2 d1 d2 s1 s2 e r) ⟨o1, o2, he, hr, h⟩
theorem oneLt_any {E : Value → Shared → Prop} {f : Bool} {da db : PyData} {a b : Value} {as bs : List Addr} {Q : Bool → Shared → Prop} (ra : Reads s.heap a da as) (rb : Reads s.heap b db bs) (h : alike da db = true) (hn : da ≠ .none) (hu : A.units + min da.depth db.depth < cLine)
    (hq : Q (dataLt da db) s) : wpAny (model prog w) A (oneLt' f a b) Q E s := by
  cases f with
  | false => exact oneLt_alike (fun z => nomatch z) ra rb h hn hu hq
  | true =>
    cases da with
    | tuple xs =>
      cases db with
      | tuple ys =>
        have hal : alikeAll xs ys = true := by simpa [alike] using h
        cases ra with
        | @tuple l o vs n _ as₁ h1 h2 h3 h4 =>
          cases rb with
          | @tuple l' o' vs' n' _ bs₁ k1 k2 k3 k4 =>
            have n1 : vs.size = xs.length := by simpa using SeqAt.ReadsAll.length _ _ _ h4
            have n2 : vs'.size = ys.length := by simpa using SeqAt.ReadsAll.length _ _ _ k4
            rw [dataLt_tuple, ← firstLt_toks xs ys hal, ← n1, ← n2] at hq
            rw [oneLt'_eq]
            simp only [if_true]
            refine wpAny_bind (wpAny_cRoomFor (SeqAt.room_here hu) ?_)
            refine wpAny_bind (wpAny_callSpecialIfBound?_slot (T := "tuple") ⟨_, h1, h2⟩ F.slot_tuple_lt (call_tup_lt (e := pairEq xs ys) (r := fun j => dataLt (xs.getD j .none) (ys.getD j .none)) ⟨_, h1, h2, _, h3⟩ ⟨_, k1, k2, _, k3⟩ (fun j j1 j2 => ?_) (fun j j1 j2 hj => ?_) (wpAny_truthy_bool hq)))
            · have := eqAt_alikeAll xs ys A.in1 s vs.toList vs'.toList _ _ h4 k4 hal (SeqAt.room_in hu) j (by simpa using j1) (by simpa using j2)
              simpa using this
            · have := rcLt_alikeAll xs ys A.in1 s vs.toList vs'.toList _ _ h4 k4 hal (SeqAt.room_in hu) j (by simpa using j1) (by simpa using j2) hj
              simpa using this
      | _ => exact absurd h (by simp [alike])
    | _ => exact oneLt_alike (fun _ xs z => by cases z) ra rb h hn hu hq
/-- the first items of tuples of which some are empty -/
theorem firsts_any : ∀ {vs : List Value} {ds : List PyData}, EachIs (fun v d => ∃ as, Reads s.heap v d as) vs ds → (∀ d ∈ ds, ∃ t, d = .tuple t) →
    ∃ fs : List (Option Value), (fs.all (·.isSome) = true → ∀ d ∈ ds, ∃ x r, d = .tuple (x :: r)) ∧ ∀ {E : Value → Shared → Prop} {Q : List (Option Value) → Shared → Prop}, Q fs s → wpAny (model prog w) A (vs.mapM firstOfTuple') Q E s
  | _, _, .nil, _ => ⟨[], fun _ d h => (nomatch h), fun {E Q} h => by rw [List.mapM_nil]; exact wpAny_pure h⟩
  | _, _, .cons (a := v) (b := d) (as := vs) (bs := ds) ⟨as, r⟩ q, ht => by
    obtain ⟨fs, h1, h2⟩ := firsts_any q fun d hd => ht d (List.mem_cons_of_mem _ hd)
    obtain ⟨t, rfl⟩ := ht d (List.mem_cons_self ..)
    cases r with
    | @tuple a o xs n _ _ ho hc hd hr =>
      refine ⟨xs[0]? :: fs, fun al e he => ?_, fun {E Q} h => ?_⟩
      · rw [List.all_cons, Bool.and_eq_true] at al
        rcases List.mem_cons.mp he with rfl | he
        · cases e1 : xs.toList with
          | nil =>
            have : xs[0]? = none := by rw [← Array.getElem?_toList, e1]; rfl
            rw [this] at al
            exact absurd al.1 (by decide)
          | cons f fr =>
            rw [e1] at hr
            cases hr with
            | cons r1 r2 => exact ⟨_, _, rfl⟩
        · exact h1 al.2 e he
      · rw [List.mapM_cons]
        refine wpAny_bind ?_
        rw [kas_first_eq]
        refine wpAny_bind (Looks.here (show Looks _ s.heap (typeOf (.ref a)) o.cls from (Looks.ld ho).andThen .now) ?_)
        rw [hc, if_neg (by decide)]
        refine wpAny_bind (listItems_at ho hd (wpAny_pure ?_))
        exact wpAny_bind (h2 (Q := fun bs s' => wpAny _ A (pure (xs[0]? :: bs)) Q E s') (wpAny_pure h))
/-- tuples of any lengths can be sorted -/
theorem sorts_tuples {vs : List Value} {ds : List PyData} (e : EachIs (fun v d => ∃ as, Reads s.heap v d as) vs ds) (hal : AllAlike ds) (ht : ∀ d ∈ ds, ∃ t, d = .tuple t) (hu : ∀ d, d ∈ ds → A.units + d.depth < cLine) : SortsAt prog w A s (dataKind s.heap ds) vs := by
  by_cases ne : ∀ d ∈ ds, ∃ x r, d = .tuple (x :: r)
  · exact SortsAt.data e hal (.inl ne) hu
  · have room : ∀ {d d' : PyData}, d ∈ ds → A.units + min d.depth d'.depth < cLine := fun {d d'} hd => Nat.lt_of_le_of_lt (Nat.add_le_add_left (Nat.min_le_left _ _) _) (hu d hd)
    have nn : ∀ {d}, d ∈ ds → d ≠ .none := fun hd z => by
      obtain ⟨t, e⟩ := ht _ hd
      rw [e] at z
      cases z
    refine ⟨fun v hv => ?_, ?_⟩
    · obtain ⟨d, hd, as, r⟩ := e.left v hv
      exact ⟨_, dataKind_some hal hd r⟩
    · have lt1 : H.LtAt prog w A s (dataKind s.heap ds) oneType' := by
        intro E x y a b Q ha hb hq
        obtain ⟨d, as, hd, ra, rfl⟩ := dataKind_inv ha
        obtain ⟨d', as', hd', rb, rfl⟩ := dataKind_inv hb
        rw [keyLt'_oneType]
        exact oneLt_any ra rb (hal d hd d' hd') (nn hd) (room hd) hq
      have lt2 : H.LtAt prog w A s (dataKind s.heap ds) general' := by
        intro E x y a b Q ha hb hq
        obtain ⟨d, as, hd, ra, rfl⟩ := dataKind_inv ha
        obtain ⟨d', as', hd', rb, rfl⟩ := dataKind_inv hb
        show wpAny _ _ (oneLt' false x y) _ _ _
        exact oneLt_any ra rb (hal d hd d' hd') (nn hd) (room hd) hq
      have one : ∀ (E : Value → Shared → Prop) {Q : Option Value → Shared → Prop}, 1 ≤ vs.length → Q (some (.type "tuple")) s → wpAny (model prog w) A (oneTypeOnly' vs.toArray) Q E s := fun E Q h1 hq => by
        rw [oneTypeOnly'_eq, List.mapM_toArray, map_eq_pure_bind]
        refine wpAny_bind (wpAny_bind (kas_mapM (r := Value.type "tuple") _ (fun v hv Q' hq' => ?_) (wpAny_pure ?_)))
        · obtain ⟨d, hd, as, r⟩ := e.left v hv
          obtain ⟨t, e⟩ := ht d hd
          subst e
          exact (looks_reads r).here hq'
        · match vs, h1 with
          | v :: rest, _ =>
            have hall : ((List.map (fun _ => Value.type "tuple") (v :: rest)).toArray.all fun x => x == Value.type "tuple") = true := by
              simp only [List.all_toArray, List.all_map, List.all_eq_true]
              intro _ _
              rfl
            have h0 : (List.map (fun _ => Value.type "tuple") (v :: rest)).toArray[0]? = some (Value.type "tuple") := by simp
            rw [h0]
            simp only [hall, if_true]
            exact wpAny_pure hq
      obtain ⟨fs, h1, h2⟩ := firsts_any (prog := prog) (w := w) (A := A) e ht
      have nall : ¬ fs.all (·.isSome) = true := fun z => ne (h1 z)
      have nall' : ¬ (fs.toArray.all fun x => x.isSome) = true := by simpa using nall
      by_cases c : (fs.toArray[0]?.bind id).isSome = true
      · refine ⟨general', lt2, fun h2' E Q hq => ?_⟩
        rw [kat_kind_eq, List.mapM_toArray, map_eq_pure_bind]
        refine wpAny_bind (wpAny_bind (h2 (wpAny_pure ?_)))
        rw [if_neg nall', if_pos c]
        exact wpAny_pure hq
      · refine ⟨oneType', lt1, fun h2' E Q hq => ?_⟩
        rw [kat_kind_eq, List.mapM_toArray, map_eq_pure_bind]
        refine wpAny_bind (wpAny_bind (h2 (wpAny_pure ?_)))
        rw [if_neg nall', if_neg c]
        refine wpAny_bind (one E (by omega) ?_)
        exact wpAny_pure hq
end
end SDx
namespace L2
open PySem PySem.Spec PyProof.Rows PySem.W
/-- data that a sort takes: alike, all tuples or none a tuple -/
def SortOk (ds : List PyData) : Prop := AllAlike ds ∧ ((∀ d ∈ ds, ∃ t, d = .tuple t) ∨ ∀ d, d ∈ ds → d ≠ .none ∧ ∀ xs, d ≠ .tuple xs)
/-- sorted(xs), xs a list of nested data: a new list of the same things in their order -/
def rSortedD (K : PySem.W.Frag) : List V → Hp → VK → Prop := fun vs H Q => ∃ (a : Addr) (zs : List (V × PyData)), vs = [V.ref a] ∧ SqL K H a (zs.map (·.1)) ∧ (∀ z ∈ zs, Dp K H z.1 z.2 ∧ z.2.depth ≤ 60) ∧ SortOk (zs.map (·.2)) ∧
  ∀ (ys : List (V × PyData)) (p : Addr), ys.Perm zs → ys.Pairwise (fun a b => dataLt b.2 a.2 = false) → H p = none → Q (.ref p) (upd H p (.lst (ys.map (·.1))))
theorem each_vals : ∀ {zs : List (V × PyData)} {us : List Value}, Vals (zs.map (·.1)) us → EachIs (fun u z => RelV z.1 u) us zs
  | [], _, r => by rw [List.map_nil] at r; cases r; exact .nil
  | z :: zs, _, r => by
    rw [List.map_cons] at r
    cases r with
    | cons h q => exact .cons h (each_vals q)
theorem vals_each : ∀ {zs : List (V × PyData)} {us : List Value}, EachIs (fun u z => RelV z.1 u) us zs → Vals (zs.map (·.1)) us
  | _, _, .nil => .nil
  | _, _, .cons h q => .cons h (vals_each q)
theorem each_and {α β : Type} {R : α → β → Prop} {S : β → Prop} {as : List α} {bs : List β} (e : EachIs R as bs) (h : ∀ b ∈ bs, S b) : EachIs (fun a b => R a b ∧ S b) as bs := by
  induction e with
  | nil => exact .nil
  | cons h1 t ih => exact .cons ⟨h1, h _ (List.mem_cons_self ..)⟩ (ih fun b hb => h b (List.mem_cons_of_mem _ hb))
section
variable {X : Cx}
theorem cr_sortedD (hu : X.A.units + 64 < cLine) : CallR X (.builtin "sorted") (rSortedD X.K) := by
  intro pins s σ H vs us Q I r h
  obtain ⟨a, zs, rfl, hs, hx, ⟨hal, hk⟩, q⟩ := h
  obtain ⟨its, rv, hl, hz⟩ := I.list hs
  rw [Vals.ref1 r]
  have e := each_vals rv
  have er : EachIs (fun v (z : V × PyData) => ∃ as, Reads s.heap v z.2 as) its zs := (each_and e hx).mono fun v z h => Dp.reads I z.2 z.1 v h.2.1 h.1
  have er' : EachIs (fun v (z : V × PyData) => ∃ as, Reads (sortingHeap (copyHeap s.heap its) (s.heap.objs.size + 1) its) v z.2 as) its zs := er.mono fun _ _ ⟨as, r⟩ => ⟨as, PyProof.Rows.Reads.keeps (fun _ _ => sorting_copy_old) r⟩
  have em := each_map (R := fun v d => ∃ as, Reads (sortingHeap (copyHeap s.heap its) (s.heap.objs.size + 1) its) v d as) (fun z : V × PyData => z.2) er'
  have hd : ∀ d, d ∈ zs.map (fun z => z.2) → X.A.in1.in1.units + d.depth < cLine := fun d h => by
    obtain ⟨z, hz, rfl⟩ := List.mem_map.mp h
    have := (hx z hz).2
    show X.A.units + 1 + 1 + _ < cLine
    omega
  have S : SortsAt X.prog X.w X.A.in1.in1 { s with heap := sortingHeap (copyHeap s.heap its) (s.heap.objs.size + 1) its } (dataKind (sortingHeap (copyHeap s.heap its) (s.heap.objs.size + 1) its) (zs.map fun z => z.2)) its := by
    rcases hk with ht | hn
    · exact SDx.sorts_tuples (s := { s with heap := sortingHeap (copyHeap s.heap its) (s.heap.objs.size + 1) its }) em hal ht hd
    · exact SortsAt.data (s := { s with heap := sortingHeap (copyHeap s.heap its) (s.heap.objs.size + 1) its }) em hal (.inr hn) hd
  refine sorted_vals hl.isList S (by rw [← rv.length]; exact hz) ?_
  have eo := sortVals_data false e er' hal
  have rvo := vals_each eo
  generalize sortVals (dataKind (sortingHeap (copyHeap s.heap its) (s.heap.objs.size + 1) its) (zs.map fun z => z.2)) false its its = out at rvo eo ⊢
  generalize hys : zs.mergeSort (dataLe false fun z => z.2) = ys at rvo eo
  have pp : ys.Perm zs := by rw [← hys]; exact List.mergeSort_perm ..
  have ps : ys.Pairwise (fun a b => dataLt b.2 a.2 = false) := by
    rw [← hys]
    refine (sort_pairwise (sortLe_total _ _ _) zs).imp fun {a b} h => ?_
    have h' : (!dataLt b.2 a.2) = true := h
    simpa using h'
  obtain ⟨n, hn⟩ := sortedAll_at s.heap its out.toArray
  refine ⟨.ref (s.heap.objs.size + 1), upd H (s.heap.objs.size + 1) (.lst (ys.map (·.1))), I.laid (t' := s.toks) (fun b o e => sortedAll_old e) (Nat.le_succ _) ⟨?_, out, n, rvo, hn⟩, rfl, q ys _ pp ps (I.hok.fresh (Nat.le_succ _))⟩
  rw [List.length_map, pp.length_eq]
  rw [List.length_map] at hz
  exact hz
/-- x < y of nested data -/
def rLtD (K : PySem.W.Frag) : R2 := fun x y H Q => ∃ d e, Dp K H x d ∧ Dp K H y e ∧ alike d e = true ∧ d ≠ .none ∧ d.depth ≤ 60 ∧ Q (.bl (dataLt d e)) H
theorem op_ltD (hu : X.A.units + 64 < cLine) : OpR X (compareOp .Lt) (rLtD X.K) := by
  intro pins s σ H x y v u Q I rx ry h
  obtain ⟨d, e, hd, he, al, nn, dp, q⟩ := h
  obtain ⟨as, r1⟩ := Dp.reads I d x v hd rx
  obtain ⟨bs, r2⟩ := Dp.reads I e y u he ry
  exact lt_data r1 r2 al nn (by have := Nat.min_le_left d.depth e.depth; omega) ⟨.bl _, H, I, rfl, q⟩
end
/-- of two alike things neither is less: they are the same -/
theorem data_tie {x y : PyData} (h : alike x y = true) (h1 : dataLt x y = false) (h2 : dataLt y x = false) : PyData.eqv x y = true := by
  rcases e : PyData.eqv x y with _ | _
  · have k := (toks_eqv x y h).2 e
    have et : keyToks x = keyToks y := lex_total (O := itemOrd) _ _ h1 h2
    have k1 := k [] [.inl 0]
    rw [List.append_nil, et] at k1
    have k2 := k [] []
    rw [et] at k2
    have l1 : PyProof.Rows.lexLt itemOrd (keyToks y) (keyToks y ++ [.inl 0]) = true := by
      have := lex_pre (keyToks y) [] [.inl 0]
      rw [List.append_nil] at this
      rw [this]
      rfl
    rw [l1, show PyProof.Rows.lexLt itemOrd (keyToks y) (keyToks y) = false from lex_irrefl _] at k1
    cases k1
  · rfl
end L2

set_option Elab.async false
set_option linter.all false
set_option maxRecDepth 100000
set_option maxHeartbeats 4000000
/-! Rules whose callee is told by the reading: calls of defs, methods, classes by what stands in the heap. -/
namespace Ew
open PySem PySem.Spec PyProof.Rows L2

/-- a def under its name keeps sp at level k -/
structure CalX (P : Program) (w : World) (K : PySem.W.Frag) (mg : Str → Option Value) (base : Heap) (k : Nat) (x : Str) (sp : Sp) : Prop where
  ex : ∃ (f : Addr) (fd : FuncData) (ps : List Str) (ds : List Value) (dvs : List V) (sp0 : Sp), FnOk P w K mg base (L2.CX P w) k f fd ps sp0 ∧ mg x = some (.ref f) ∧ PySem.W.keepIn K (.ref f) = true ∧ Binds K fd ps ds ∧ Vals dvs ds ∧
    ∀ vs H Q E, sp vs H Q E → sp0 (vs ++ dvs) H Q E
/-- a method m of the class at C keeps sp at level k -/
structure MetX (P : Program) (w : World) (K : PySem.W.Frag) (mg : Str → Option Value) (base : Heap) (k : Nat) (C : Addr) (m : Str) (sp : Sp) : Prop where
  ex : ∃ (f : Addr) (fd : FuncData) (ps : List Str) (ds : List Value) (dvs : List V) (sp0 : Sp), Cls K C ∧ Meth K C m f ∧ FnOk P w K mg base (L2.CX P w) k f fd ps sp0 ∧ Binds K fd ps ds ∧ Vals dvs ds ∧
    ∀ vs H Q E, sp vs H Q E → sp0 (vs ++ dvs) H Q E
/-- a class under its name, its __init__ keeps sp at level k -/
structure MakX (P : Program) (w : World) (K : PySem.W.Frag) (mg : Str → Option Value) (base : Heap) (k : Nat) (x : Str) (C : Addr) (sp : Sp) : Prop where
  ex : ∃ (f : Addr) (fd : FuncData) (ps : List Str) (ds : List Value) (dvs : List V) (sp0 : Sp), Mk K C f ∧ mg x = some (.ref C) ∧ FnOk P w K mg base (L2.CX P w) k f fd ps sp0 ∧ Binds K fd ps ds ∧ Vals dvs ds ∧
    ∀ vs H Q E, sp vs H Q E → sp0 (vs ++ dvs) H Q E

def tCallD (P : Program) (w : World) (K : PySem.W.Frag) (mg : Str → Option Value) (base : Heap) (j : Nat) (x : Str) (W : WX) (t : TA) : TE := fun σ H Q =>
  ∃ (k : Nat) (sp : Sp), k ≤ j ∧ CalX P w K mg base k x sp ∧ t σ H fun vs H1 => sp vs H1 Q (WE W σ)
def tMethD (P : Program) (w : World) (K : PySem.W.Frag) (mg : Str → Option Value) (base : Heap) (j : Nat) (m : Str) (W : WX) (ta : TE) (t : TA) : TE := fun σ H Q => ta σ H fun x H1 =>
  ∃ (a C dx : Addr) (fs : List (Str × V)) (k : Nat) (sp : Sp), x = .ref a ∧ H1 a = some (.ins C dx fs) ∧ fs.lookup m = none ∧ k ≤ j ∧ MetX P w K mg base k C m sp ∧ t σ H1 fun vs H2 => sp (x :: vs) H2 Q (WE W σ)
def tMakeD (P : Program) (w : World) (K : PySem.W.Frag) (mg : Str → Option Value) (base : Heap) (j : Nat) (x : Str) (W : WX) (t : TA) : TE := fun σ H Q =>
  ∃ (k : Nat) (C : Addr) (sp : Sp), k + 1 ≤ j ∧ MakX P w K mg base k x C sp ∧ t σ H fun vs H1 => ∀ y dy, H1 y = none → H1 dy = none → dy ≠ y →
    sp (.ref y :: vs) (upd (upd H1 dy (.own y)) y (.ins C dy [])) (fun v H2 => v = .non ∧ Q (.ref y) H2) (WE W σ)

section
variable {X : Cx} {j : Nat} {x m : Str} {p pos apos : Pos} {e o : Expr} {es : List Expr} {ta : TE} {t : TA} {W : WX}

theorem pd_call (hr : Room j X.A) (tk : Takes X W) (hg : Gl X x) (ha : PA X (e :: es) t)
    (hdb : (x == ("__debug__" : Str)) = false := by decide) (he : starEach (e :: es) X.env = (false, eval e X.env) :: starEach es X.env := by rfl) (hpl : (backTo pos (starEach es X.env)).any (·.1) = false := by rfl) :
    PE X (.Call (.Name x p) (e :: es) [] pos) (tCallD X.prog X.w X.K X.mg X.base j x W t) := by
  refine ⟨fun pins s σ H Q I h => ?_⟩
  obtain ⟨k, sp, hk, c, h⟩ := h
  obtain ⟨f, fd, ps, ds, dvs, sp0, F, hm, kp, b, d, imp⟩ := c.ex
  refine wpAny_Call_Name_kw (ld_glob I hg hm ?_ hdb)
  refine PySem.W.callWith_K (h₀ := X.base) I.ok.mod.kin kp (thn (ha.run pos pins s σ H _ I h) fun us s1 ⟨vs, H1, I1, r, q⟩ => ⟨I1.kIn, ?_⟩) he hpl
  exact run_fnSD (E := WE W) F (hr.mono hk) b d (passAt tk σ) I1 r (imp _ _ _ _ q)
theorem pd_call0 (hr : Room j X.A) (tk : Takes X W) (hg : Gl X x) (hdb : (x == ("__debug__" : Str)) = false := by decide) :
    PE X (.Call (.Name x p) [] [] pos) (tCallD X.prog X.w X.K X.mg X.base j x W tNil) := by
  refine ⟨fun pins s σ H Q I h => ?_⟩
  obtain ⟨k, sp, hk, c, h⟩ := h
  obtain ⟨f, fd, ps, ds, dvs, sp0, F, hm, kp, b, d, imp⟩ := c.ex
  refine wpAny_Call_Name_kw (ld_glob I hg hm ?_ hdb)
  exact PySem.W.callWith_K0 I.kIn kp (run_fnSD (us := []) (E := WE W) F (hr.mono hk) b d (passAt tk σ) I .nil (imp _ _ _ _ h))

theorem pd_meth {pl : Sem Bool} (hr : Room j X.A) (tk : Takes X W) (he : PE X o ta) (ha : PA X (e :: es) t)
    (hst : starEach (e :: es) X.env = (false, eval e X.env) :: starEach es X.env := by rfl) (hpl : (backTo pos (starEach es X.env)).any (·.1) = false := by rfl)
    (ht : eval (.Call (.Attribute o m apos) (e :: es) [] pos) X.env = (do
      let ov ← eval o X.env
      standAt apos.atName
      let (f, first) ← holding [ov] (getMethod ov m pl)
      callWith pos f first (backTo pos (starEach (e :: es) X.env)) (backToKw pos (keywordEach [] X.env))) := by rfl) :
    PE X (.Call (.Attribute o m apos) (e :: es) [] pos) (tMethD X.prog X.w X.K X.mg X.base j m W ta t) := by
  refine ⟨fun pins s σ H Q I h => ?_⟩
  refine PySem.W.methodCall_KW (pl := pl) (thn (he.run pins s σ H _ I h) fun u s1 hh => ?_) ht
  obtain ⟨x, H1, I1, rx, a, C, dx, fs, k, sp, ex, ea, l, hk, c, q⟩ := hh
  obtain ⟨f, fd, ps, ds, dvs, sp0, hc, hm, F, b, d, imp⟩ := c.ex
  subst ex
  obtain rfl : u = Value.ref a := rx
  refine getmeth_ok I1 ea hc hm l ?_
  refine PySem.W.callWith_K (first := [.ref a]) (h₀ := X.base) I.ok.mod.kin hm.kp (thn (ha.run pos pins s1 σ H1 _ I1 q) fun us s2 ⟨vs, H2, I2, r, q2⟩ => ⟨I2.kIn, ?_⟩) hst hpl
  exact run_fnSD (us := .ref a :: us) (vs := .ref a :: vs) (E := WE W) F (hr.mono hk) b d (passAt tk σ) I2 (.cons rfl r) (imp _ _ _ _ q2)
theorem pd_meth0 {pl : Sem Bool} (hr : Room j X.A) (tk : Takes X W) (he : PE X o ta)
    (ht : eval (.Call (.Attribute o m apos) [] [] pos) X.env = (do
      let ov ← eval o X.env
      standAt apos.atName
      let (f, first) ← holding [ov] (getMethod ov m pl)
      callWith pos f first (backTo pos (starEach [] X.env)) (backToKw pos (keywordEach [] X.env))) := by rfl) :
    PE X (.Call (.Attribute o m apos) [] [] pos) (tMethD X.prog X.w X.K X.mg X.base j m W ta tNil) := by
  refine ⟨fun pins s σ H Q I h => ?_⟩
  refine PySem.W.methodCall_KW (pl := pl) (thn (he.run pins s σ H _ I h) fun u s1 hh => ?_) ht
  obtain ⟨x, H1, I1, rx, a, C, dx, fs, k, sp, ex, ea, l, hk, c, q⟩ := hh
  obtain ⟨f, fd, ps, ds, dvs, sp0, hc, hm, F, b, d, imp⟩ := c.ex
  subst ex
  obtain rfl : u = Value.ref a := rx
  refine getmeth_ok I1 ea hc hm l ?_
  exact PySem.W.callWith_K0 (first := [.ref a]) I1.kIn hm.kp (run_fnSD (us := [.ref a]) (vs := [.ref a]) (E := WE W) F (hr.mono hk) b d (passAt tk σ) I1 (.cons rfl .nil) (imp _ _ _ _ q))

theorem run_makeD {pins : List (Addr × Obj)} {σ : L2.St} {H : Hp} {s : Shared} {Q : VK} {us : List Value} {vs : List V} {k : Nat} {C f : Addr} {fd : FuncData} {ps : List Str} {ds : List Value} {dvs : List V} {sp : Sp} {E : L2.St → XK}
    (M : Mk X.K C f) (F : FnOk X.prog X.w X.K X.mg X.base (L2.CX X.prog X.w) k f fd ps sp) (hr : Room (k + 1) X.A) (hb : Binds X.K fd ps ds) (hd : Vals dvs ds)
    (hx : PassesAt (L2.CX X.prog X.w) X σ (E σ)) (I : Inv X pins σ H s) (r : Vals vs us)
    (h : ∀ x dx, H x = none → H dx = none → dx ≠ x → sp (.ref x :: (vs ++ dvs)) (upd (upd H dx (.own x)) x (.ins C dx [])) (fun v H2 => v = .non ∧ Q (.ref x) H2) (E σ)) :
    wpAny (model X.prog X.w) X.A (call (.ref C) us) (EP X pins σ Q) X.xe s := by
  have hq := h (s.heap.objs.size + 1) s.heap.objs.size (I.hok.fresh (Nat.le_succ _)) (I.hok.fresh (Nat.le_refl _)) (Nat.ne_of_lt (Nat.lt_succ_self _))
  have I2 := Inv.made (C := C) I
  have r2 : Vals (V.ref (s.heap.objs.size + 1) :: (vs ++ dvs)) (Value.ref (s.heap.objs.size + 1) :: (us ++ ds)) := .cons rfl (r.append hd)
  have hl : (Value.ref (s.heap.objs.size + 1) :: us ++ ds).length = ps.length := by
    have e := r2.length
    rw [F.len _ _ _ _ hq] at e
    exact e.symm
  refine wpAny_call (make_map (f := f) I.kIn M.makes M.init (beq_iff_eq.mp M.fn) (codeAny_mono (F.run _ X.stack _ _ ⟨Value.ref (s.heap.objs.size + 1) :: us, []⟩ (Value.ref (s.heap.objs.size + 1) :: (us ++ ds)) _ _ (E σ) (hr.make C us [])
    (I2.env0.make C us []) (hb _ (Value.ref (s.heap.objs.size + 1) :: us) I2.kIn hl) r2 hq) fun r s' hq' => ?_))
  cases r with
  | error e => exact hx pins _ _ e s' I2 hq'
  | ok fl =>
    cases fl with
    | ret u =>
      obtain ⟨v, H', I3, rv, ev, q3⟩ := I2.after hq'
      subst ev
      exact ⟨rv, ⟨V.ref (s.heap.objs.size + 1), H', I3, rfl, q3⟩⟩
    | next => exact False.elim hq'
    | brk => exact False.elim hq'
    | cont => exact False.elim hq'
theorem pd_make (hr : Room j X.A) (tk : Takes X W) (hg : Gl X x) (ha : PA X (e :: es) t)
    (hdb : (x == ("__debug__" : Str)) = false := by decide) (he : starEach (e :: es) X.env = (false, eval e X.env) :: starEach es X.env := by rfl) (hpl : (backTo pos (starEach es X.env)).any (·.1) = false := by rfl) :
    PE X (.Call (.Name x p) (e :: es) [] pos) (tMakeD X.prog X.w X.K X.mg X.base j x W t) := by
  refine ⟨fun pins s σ H Q I h => ?_⟩
  obtain ⟨k, C, sp, hk, c, h⟩ := h
  obtain ⟨f, fd, ps, ds, dvs, sp0, M, hm, F, b, d, imp⟩ := c.ex
  refine wpAny_Call_Name_kw (ld_glob I hg hm ?_ hdb)
  refine PySem.W.callWith_K (h₀ := X.base) I.ok.mod.kin M.kp (thn (ha.run pos pins s σ H _ I h) fun us s1 ⟨vs, H1, I1, r, q⟩ => ⟨I1.kIn, ?_⟩) he hpl
  exact run_makeD (E := WE W) M F (hr.mono hk) b d (passAt tk σ) I1 r fun y dy h1 h2 h3 => imp _ _ _ _ (q y dy h1 h2 h3)
theorem pd_make0 (hr : Room j X.A) (tk : Takes X W) (hg : Gl X x)
    (hdb : (x == ("__debug__" : Str)) = false := by decide) :
    PE X (.Call (.Name x p) [] [] pos) (tMakeD X.prog X.w X.K X.mg X.base j x W tNil) := by
  refine ⟨fun pins s σ H Q I h => ?_⟩
  obtain ⟨k, C, sp, hk, c, h⟩ := h
  obtain ⟨f, fd, ps, ds, dvs, sp0, M, hm, F, b, d, imp⟩ := c.ex
  refine wpAny_Call_Name_kw (ld_glob I hg hm ?_ hdb)
  exact PySem.W.callWith_K0 I.kIn M.kp (run_makeD (us := []) (E := WE W) M F (hr.mono hk) b d (passAt tk σ) I .nil fun y dy h1 h2 h3 => imp _ _ _ _ (h y dy h1 h2 h3))

/-- a class that has no __init__ of its own -/
structure Mk0 (K : PySem.W.Frag) (mg : Str → Option Value) (x : Str) (C : Addr) : Prop where
  mgC : mg x = some (.ref C)
  makes : PySem.W.makesIn K C = true
  init : PySem.W.findIn K (.ref C) "__init__" = some (some (.builtin "object.__init__"))
  kp : PySem.W.keepIn K (.ref C) = true
def tNew0D (K : PySem.W.Frag) (mg : Str → Option Value) (x : Str) : TE := fun _ H Q =>
  ∃ C, Mk0 K mg x C ∧ ∀ y dy, H y = none → H dy = none → dy ≠ y → Q (.ref y) (upd (upd H dy (.own y)) y (.ins C dy []))
theorem pd_new0 (hg : Gl X x) (hdb : (x == ("__debug__" : Str)) = false := by decide) : PE X (.Call (.Name x p) [] [] pos) (tNew0D X.K X.mg x) := by
  refine ⟨fun pins s σ H Q I h => ?_⟩
  obtain ⟨C, M, h⟩ := h
  refine wpAny_Call_Name_kw (ld_glob I hg M.mgC ?_ hdb)
  have hq := h (s.heap.objs.size + 1) s.heap.objs.size (I.hok.fresh (Nat.le_succ _)) (I.hok.fresh (Nat.le_refl _)) (Nat.ne_of_lt (Nat.lt_succ_self _))
  have I2 := Inv.made (C := C) I
  refine PySem.W.callWith_K0 I.kIn M.kp ?_
  show wpAny (model X.prog X.w) X.A (call (.ref C) []) _ _ _
  have I0 := I
  obtain ⟨hh, g, d, tk, os⟩ := s
  have Y := PySem.W.makes_of (M := model X.prog X.w) I0.kIn M.makes
  refine wpAny_call (PySem.W.make_core Y (PySem.W.looks_findIn I0.kIn M.init) (fun self => PySem.W.Looks.of_pure (PySem.W.oi_bind self)) (.inr ⟨rfl, rfl⟩) ?_)
  have hx : ((hh.push PySem.W.emptyDict).push (PySem.W.instObj C hh.objs.size)).get? (hh.objs.size + 1) = some (PySem.W.instObj C hh.objs.size) := by heap_get
  have t1 : PySem.W.Looks (model X.prog X.w) ((hh.push PySem.W.emptyDict).push (PySem.W.instObj C hh.objs.size)) (typeOf (.ref (hh.objs.size + 1))) (.ref C) := (PySem.W.Looks.ld hx).andThen .now
  have t2 : PySem.W.Looks (model X.prog X.w) ((hh.push PySem.W.emptyDict).push (PySem.W.instObj C hh.objs.size)) (isInstance (.ref (hh.objs.size + 1)) (.type "object")) true := t1.andThen (Y.top.keeps fun b o e => Heap.get?_push_of_some _ (Heap.get?_push_of_some _ e))
  refine codeAny_call_builtin PySem.W.oi_plain PySem.W.entry_oi (@PySem.W.check_slot (model X.prog X.w) _ _ _ "object.__init__" "object" "__init__" (.ref (hh.objs.size + 1)) [] [] _ PySem.W.oi_kind PySem.W.oi_split t2 (PySem.W.oi_args (.ref (hh.objs.size + 1))) ?_)
  rw [PySem.W.oi_run]
  exact wpAny_pure (And.intro rfl ⟨V.ref (hh.objs.size + 1), _, I2, rfl, hq⟩)

/-- f(e, ..) by a known promise -/
def tCallF (sp : Sp) (W : WX) (t : TA) : TE := fun σ H Q => t σ H fun vs H1 => sp vs H1 Q (WE W σ)
theorem pc_call {k : Nat} {sp : Sp} (c : CalX X.prog X.w X.K X.mg X.base k x sp) (hr : Room j X.A) (hk : k ≤ j) (tk : Takes X W) (hg : Gl X x) (ha : PA X (e :: es) t)
    (hdb : (x == ("__debug__" : Str)) = false := by decide) (he : starEach (e :: es) X.env = (false, eval e X.env) :: starEach es X.env := by rfl) (hpl : (backTo pos (starEach es X.env)).any (·.1) = false := by rfl) :
    PE X (.Call (.Name x p) (e :: es) [] pos) (tCallF sp W t) :=
  ⟨fun pins s σ H Q I h => (pd_call (p := p) (pos := pos) hr tk hg ha hdb he hpl).run pins s σ H Q I ⟨k, sp, hk, c, h⟩⟩
theorem pc_call0 {k : Nat} {sp : Sp} (c : CalX X.prog X.w X.K X.mg X.base k x sp) (hr : Room j X.A) (hk : k ≤ j) (tk : Takes X W) (hg : Gl X x) (hdb : (x == ("__debug__" : Str)) = false := by decide) :
    PE X (.Call (.Name x p) [] [] pos) (tCallF sp W tNil) :=
  ⟨fun pins s σ H Q I h => (pd_call0 (p := p) (pos := pos) hr tk hg hdb).run pins s σ H Q I ⟨k, sp, hk, c, h⟩⟩
theorem pe_gint {n : Int} (hg : Gl X x) (h : ∃ t, X.mg x = some (.int n t)) (hdb : (x == ("__debug__" : Str)) = false := by decide) : PE X (.Name x pos) (tC (.int n)) := by
  obtain ⟨t, h⟩ := h
  exact pe_glob hg h ⟨t, rfl⟩ hdb
theorem pe_gcls {C : Addr} (hg : Gl X x) (h : X.mg x = some (.ref C)) (hdb : (x == ("__debug__" : Str)) = false := by decide) : PE X (.Name x pos) (tC (.ref C)) := pe_glob hg h rfl hdb

/-! ### the same rules, the written part named K (within a comprehension's block the reading must not speak of the block) -/
section
variable {K : PySem.W.Frag}
theorem kix_list (hK : X.K = K := by rfl) : IxR X (rIxL K) := hK ▸ ix_list
theorem kix_tup (hK : X.K = K := by rfl) : IxR X (rIxT K) := hK ▸ ix_tup
theorem kix_seq (hK : X.K = K := by rfl) : IxR X (rIx K) := hK ▸ ix_seq
theorem kcall_len (hK : X.K = K := by rfl) : CallR X (.builtin "len") (fun xs H Q => ∃ x n, xs = [x] ∧ LenV K x H n ∧ Q (.int n) H) := hK ▸ call_len
theorem kcall_isi (hK : X.K = K := by rfl) : CallR X (.builtin "isinstance") (rIsi K) := hK ▸ call_isi
theorem kin_seq (hK : X.K = K := by rfl) : OpR X (compareOp .In) (rIn K false) := hK ▸ op_in_seq
theorem knotIn_seq (hK : X.K = K := by rfl) : OpR X (compareOp .NotIn) (rIn K true) := hK ▸ op_notIn_seq
theorem kpe_fld {f : Str} (he : PE X e ta) (hb : attributeBase e f X.env (eval e X.env) = eval e X.env) (hK : X.K = K := by rfl) : PE X (.Attribute e f pos) (tFld K ta f) := hK ▸ pe_fld he hb
theorem kpi_list {tg l : Expr} {tl : TE} (hl : PE X l tl) (hK : X.K = K := by rfl) : PI X tg l (iList K tl) := hK ▸ pi_list hl
theorem kpi_tup {tg l : Expr} {tl : TE} (hl : PE X l tl) (hK : X.K = K := by rfl) : PI X tg l (iTup K tl) := hK ▸ pi_tup hl
end
theorem kpd_meth {P : Program} {w : World} {K : PySem.W.Frag} {mg : Str → Option Value} {base : Heap} {pl : Sem Bool} (hr : Room j X.A) (tk : Takes X W) (he : PE X o ta) (ha : PA X (e :: es) t)
    (hP : X.prog = P := by rfl) (hw : X.w = w := by rfl) (hK : X.K = K := by rfl) (hm : X.mg = mg := by rfl) (hB : X.base = base := by rfl)
    (hst : starEach (e :: es) X.env = (false, eval e X.env) :: starEach es X.env := by rfl) (hpl : (backTo pos (starEach es X.env)).any (·.1) = false := by rfl)
    (ht : eval (.Call (.Attribute o m apos) (e :: es) [] pos) X.env = (do
      let ov ← eval o X.env
      standAt apos.atName
      let (f, first) ← holding [ov] (getMethod ov m pl)
      callWith pos f first (backTo pos (starEach (e :: es) X.env)) (backToKw pos (keywordEach [] X.env))) := by rfl) :
    PE X (.Call (.Attribute o m apos) (e :: es) [] pos) (tMethD P w K mg base j m W ta t) := by
  subst hP hw hK hm hB
  exact pd_meth (pl := pl) hr tk he ha hst hpl ht
theorem kpd_meth0 {P : Program} {w : World} {K : PySem.W.Frag} {mg : Str → Option Value} {base : Heap} {pl : Sem Bool} (hr : Room j X.A) (tk : Takes X W) (he : PE X o ta)
    (hP : X.prog = P := by rfl) (hw : X.w = w := by rfl) (hK : X.K = K := by rfl) (hm : X.mg = mg := by rfl) (hB : X.base = base := by rfl)
    (ht : eval (.Call (.Attribute o m apos) [] [] pos) X.env = (do
      let ov ← eval o X.env
      standAt apos.atName
      let (f, first) ← holding [ov] (getMethod ov m pl)
      callWith pos f first (backTo pos (starEach [] X.env)) (backToKw pos (keywordEach [] X.env))) := by rfl) :
    PE X (.Call (.Attribute o m apos) [] [] pos) (tMethD P w K mg base j m W ta tNil) := by
  subst hP hw hK hm hB
  exact pd_meth0 (pl := pl) hr tk he ht

/-! ### both ways of a two-place rule -/
def rOr (r r' : R2) : R2 := fun x y H Q => r x y H Q ∨ r' x y H Q
theorem op_or2 {f : Value → Value → Sem Value} {r r' : R2} (h : OpR X f r) (h' : OpR X f r') : OpR X f (rOr r r') := OpR.or h h'
theorem call_or2 {f : Value} {r r' : List V → Hp → VK → Prop} (h : CallR X f r) (h' : CallR X f r') : CallR X f (fun xs H Q => r xs H Q ∨ r' xs H Q) := by
  intro pins s σ H xs us Q I v q
  rcases q with q | q
  · exact h pins s σ H xs us Q I v q
  · exact h' pins s σ H xs us Q I v q
/-- isinstance(e, c) of what a suite holds, its class told by the reading -/
def rIsED (K : PySem.W.Frag) (a : Addr) (cls : Value) (d : Option Addr) : List V → Hp → VK → Prop := fun xs H Q => ∃ D, cls = .ref D ∧ d = none ∧ ExcC K D ∧ rIsE K D a xs H Q
theorem call_isED {a : Addr} {oe : Obj} {pn : List (Addr × Obj)} {cls : Value} {d : Option Addr} (hz : Zc cls d oe) (hf : ∃ vs, oe.data = .fields vs) : CallR (X.suite a ((a, oe) :: pn)) (.builtin "isinstance") (rIsED X.K a cls d) := by
  intro pins s σ H xs us Q I r h
  obtain ⟨D, rfl, rfl, C, q⟩ := h
  exact call_isE C hz hf pins s σ H xs us Q I r q
/-- text * 0 or 1 -/
def rMulS : R2 := fun x y H Q => ∃ (a : Str) (b : Bool), x = .str a ∧ y = .int (if b then 1 else 0) ∧ Q (.str (if b then a else Str.empty)) H
theorem op_mulS : OpR X (binaryOp .Mult) rMulS := by
  intro pins s σ H x y v u Q I rx ry h
  obtain ⟨a, b, rfl, rfl, q⟩ := h
  obtain ⟨t, rfl⟩ := rx
  obtain ⟨t', rfl⟩ := ry
  cases b with
  | true =>
    refine SB.mul ⟨by decide, fun _ z => absurd z (by simp), fun _ z => absurd z (by simp)⟩ fun t' k => ?_
    refine ⟨.str a, H, I.tok _, ⟨t', ?_⟩, q⟩
    unfold Txt.mul
    rfl
  | false =>
    refine SB.mul ⟨by decide, fun z => absurd (show (0:Int) < 1 by decide) z, fun z => absurd (show (0:Int) < 1 by decide) z⟩ fun t' k => ?_
    refine ⟨.str Str.empty, H, I.tok _, ⟨t', ?_⟩, q⟩
    unfold Txt.mul
    rfl
end
/-! ### try: the body's and the suite's terms are given where the reading stands -/
section
variable {X : Cx} {x n : Str} {c : Value} {i : Nat} {body suite : List Stmt} {b0 : Stmt} {np pos pos' : Pos} {Wout : WX}
def tsD (X : Cx) (b0 : Stmt) (suite : List Stmt) (a : Addr) (cls : Value) (d : Option Addr) : TS := fun D σ H =>
  ∀ (oe : Obj) (pn : List (Addr × Obj)), Zc cls d oe → (∃ vs, oe.data = .fields vs) → ∃ t, PSs (X.suite a ((a, oe) :: pn)) (b0 :: suite) t ∧ t D σ H
def tbD (X : Cx) (body : List Stmt) (W : WX) : TS := fun D σ H =>
  ∀ (pn : List (Addr × Obj)) (xe : Value → Shared → Prop), Takes (X.tr pn xe) W → PassesOwn (model X.prog X.w) X.A X.env xe → ∃ t, PSs (X.tr pn xe) body t ∧ t D σ H
theorem ps_tryD (hs : X.stack = X.env :: X.outer) (hf : X.env.frame = some X.env.locals) (hN : X.N.Nodup) (hi : X.N[i]? = some n) (hln : X.env.kindOf n = some .local) (hc : Names X x c) (tk : Takes X Wout) :
    PS X (.Try body [.ExceptHandler (some (.Name x np)) (some n) (b0 :: suite) pos'] [] [] pos) (fun D σ H => tbD X body (wAs X.K c i (tsD X b0 suite) Wout D) D σ H) :=
  ps_try_as (tb := tbD X body) (ts := tsD X b0 suite) hs hf hN hi hln hc tk
    (fun _ pn xe tk1 po => ⟨fun pins s σ H D I h => let ⟨_, p, q⟩ := h pn xe tk1 po; p.run pins s σ H D I q⟩)
    (fun a oe cls d pn hz hv => ⟨fun pins s σ H D I h => let ⟨_, p, q⟩ := h oe pn hz hv; p.run pins s σ H D I q⟩)
end
/-! ### from a def's own promise -/
section
variable {P : Program} {w : World} {K : PySem.W.Frag} {mg : Str → Option Value} {base : Heap} {k : Nat} {f C : Addr} {fd : FuncData} {ps : List Str} {sp : Sp} {x m : Str}
theorem cal_mk (G : FnOk P w K mg base (L2.CX P w) k f fd ps sp) (hm : mg x = some (.ref f)) (kp : PySem.W.keepIn K (.ref f) = true) (b : Binds K fd ps []) : CalX P w K mg base k x sp :=
  ⟨f, fd, ps, [], [], sp, G, hm, kp, b, .nil, fun _ _ _ _ h => by rw [List.append_nil]; exact h⟩
theorem met_mk (c : Cls K C) (me : Meth K C m f) (G : FnOk P w K mg base (L2.CX P w) k f fd ps sp) (b : Binds K fd ps []) : MetX P w K mg base k C m sp :=
  ⟨f, fd, ps, [], [], sp, c, me, G, b, .nil, fun _ _ _ _ h => by rw [List.append_nil]; exact h⟩
theorem mak_mk (M : Mk K C f) (hm : mg x = some (.ref C)) (G : FnOk P w K mg base (L2.CX P w) k f fd ps sp) (b : Binds K fd ps []) : MakX P w K mg base k x C sp :=
  ⟨f, fd, ps, [], [], sp, M, hm, G, b, .nil, fun _ _ _ _ h => by rw [List.append_nil]; exact h⟩
theorem cal_false (hm : mg x = some (.ref f)) (kp : PySem.W.keepIn K (.ref f) = true) (b : Binds K fd ps []) : CalX P w K mg base 0 x (fun _ _ _ _ => False) :=
  cal_mk ⟨fun _ _ _ _ h => h.elim, fun _ _ _ _ _ _ _ _ _ _ _ _ _ h => h.elim⟩ hm kp b
theorem CalX.imp {sp' : Sp} (c : CalX P w K mg base k x sp) (h : ∀ vs H Q E, sp' vs H Q E → sp vs H Q E) : CalX P w K mg base k x sp' := by
  obtain ⟨f, fd, ps, ds, dvs, sp0, F, hm, kp, b, d, imp⟩ := c.ex
  exact ⟨f, fd, ps, ds, dvs, sp0, F, hm, kp, b, d, fun vs H Q E q => imp vs H Q E (h vs H Q E q)⟩
theorem MetX.imp {sp' : Sp} (c : MetX P w K mg base k C m sp) (h : ∀ vs H Q E, sp' vs H Q E → sp vs H Q E) : MetX P w K mg base k C m sp' := by
  obtain ⟨f, fd, ps, ds, dvs, sp0, F, hm, kp, b, d, imp⟩ := c.ex
  exact ⟨f, fd, ps, ds, dvs, sp0, F, hm, kp, b, d, fun vs H Q E q => imp vs H Q E (h vs H Q E q)⟩
/-- two promises of one def at once -/
theorem FnOk.or {sp' : Sp} (F : FnOk P w K mg base (L2.CX P w) k f fd ps sp) (G : FnOk P w K mg base (L2.CX P w) k f fd ps sp') : FnOk P w K mg base (L2.CX P w) k f fd ps (fun vs H Q E => sp vs H Q E ∨ sp' vs H Q E) :=
  ⟨fun vs H Q E h => h.elim (F.len vs H Q E) (G.len vs H Q E), fun A outer s H args us vs Q E hr he hb hv hs => hs.elim (F.run A outer s H args us vs Q E hr he hb hv) (G.run A outer s H args us vs Q E hr he hb hv)⟩
end
end Ew

set_option Elab.async false
set_option linter.all false
set_option maxRecDepth 100000
set_option maxHeartbeats 4000000
/-! Dicts whose keys are nested tuples, in the hand layer: the object, and d[k], k in d, k not in d, d[k] = v, d.get(k), {}, displays. -/
namespace ND
open PySem PySem.W L2
open Sem (wp)

/-! ### keys -/
mutual
inductive Ky (H : Hp) : NestedKey → V → Prop
  | non : Ky H .none .non
  | int (i : Int) : Ky H (.num i) (.int i)
  | str (x : Str) : Ky H (.text x) (.str x)
  | tup {a : Addr} {xs : List V} {ks : List NestedKey} : H a = some (.tup xs) → Kys H ks xs → Ky H (.tup ks) (.ref a)
inductive Kys (H : Hp) : List NestedKey → List V → Prop
  | nil : Kys H [] []
  | cons {k : NestedKey} {x : V} {ks : List NestedKey} {xs : List V} : Ky H k x → Kys H ks xs → Kys H (k :: ks) (x :: xs)
end
mutual
theorem Ky.keeps {H H' : Hp} (ht : ∀ b ys, H b = some (.tup ys) → H' b = some (.tup ys)) : ∀ {k : NestedKey} {v : V}, Ky H k v → Ky H' k v
  | _, _, .non => .non
  | _, _, .int i => .int i
  | _, _, .str x => .str x
  | _, _, .tup e r => .tup (ht _ _ e) (Kys.keeps ht r)
theorem Kys.keeps {H H' : Hp} (ht : ∀ b ys, H b = some (.tup ys) → H' b = some (.tup ys)) : ∀ {ks : List NestedKey} {xs : List V}, Kys H ks xs → Kys H' ks xs
  | _, _, .nil => .nil
  | _, _, .cons a r => .cons (Ky.keeps ht a) (Kys.keeps ht r)
end
mutual
theorem Ky.is {P : Program} {w : World} {H : Hp} {h : Heap} (ok : HOk P w H h) : ∀ {k : NestedKey} {v : V} {u : Value}, Ky H k v → RelV v u → NestedIs h k u
  | _, _, _, .non, r => by
    obtain rfl := (show _ = Value.none from r)
    exact .none
  | _, _, _, .int i, r => by
    obtain ⟨t, rfl⟩ := (show ∃ t, _ = Value.int i t from r)
    exact .int i t
  | _, _, _, .str x, r => by
    obtain ⟨t, rfl⟩ := (show ∃ t, _ = Value.str x t from r)
    exact .text x t
  | _, _, _, .tup (a := a) (xs := xs) e q, r => by
    obtain rfl := (show _ = Value.ref a from r)
    obtain ⟨_, its, rv, o, h1, h2, n, h3⟩ := (show ObjOk P w H h a (.tup xs) from ok a _ e)
    exact .tup h1 h2 h3 (by simpa using Kys.is ok q rv)
theorem Kys.is {P : Program} {w : World} {H : Hp} {h : Heap} (ok : HOk P w H h) : ∀ {ks : List NestedKey} {xs : List V} {us : List Value}, Kys H ks xs → Vals xs us → NestedAll h ks us
  | _, _, _, .nil, .nil => .nil
  | _, _, _, .cons a r, .cons b t => .cons (Ky.is ok a b) (Kys.is ok r t)
end
theorem Kys.ints {H : Hp} : ∀ is : List Int, Kys H (is.map .num) (is.map .int)
  | [] => .nil
  | i :: is => .cons (.int i) (Kys.ints is)
mutual
/-- a value is at most one key -/
theorem Ky.inj {H : Hp} : ∀ {k k' : NestedKey} {v : V}, Ky H k v → Ky H k' v → k = k'
  | _, _, _, .non, .non => rfl
  | _, _, _, .int i, .int _ => rfl
  | _, _, _, .str x, .str _ => rfl
  | _, _, _, .tup e q, .tup e' q' => by
    rw [e] at e'
    cases e'
    rw [Kys.inj q q']
theorem Kys.inj {H : Hp} : ∀ {ks ks' : List NestedKey} {xs : List V}, Kys H ks xs → Kys H ks' xs → ks = ks'
  | _, _, _, .nil, .nil => rfl
  | _, _, _, .cons a r, .cons a' r' => by rw [Ky.inj a a', Kys.inj r r']
end

/-! ### the object -/
abbrev RE : List (NestedKey × Addr × V) → List (NestedKey × Addr × Value) → Prop := Paired fun p q => p.1 = q.1 ∧ p.2.1 = q.2.1 ∧ RelV p.2.2 q.2.2
def nD (P : Program) (w : World) (a : Addr) (es : List (NestedKey × Addr × V)) : HO := .ext fun h =>
  es.length ≤ sizeLine ∧ (a == sysModules) = false ∧ ∃ xs, RE es xs ∧ ∃ o ds ep, h.get? a = some o ∧ o.ExactDict ∧ o.data = .dict ds ep ∧ ds.toList = xs.map (entryOfKey (nestedKind P w)) ∧ (xs.map (·.1)).Nodup
def kvOf (es : List (NestedKey × Addr × V)) : List (NestedKey × V) := es.map fun e => (e.1, e.2.2)
def Keyed (H : Hp) (es : List (NestedKey × Addr × V)) : Prop := ∀ e ∈ es, Ky H e.1 (.ref e.2.1) ∧ e.1.depth ≤ 8
/-- a dict with nested keys, readable; changeable -/
def AtR (P : Program) (w : World) (H : Hp) (a : Addr) (kvs : List (NestedKey × V)) : Prop := ∃ es, Rd H a (nD P w a es) ∧ Keyed H es ∧ kvs = kvOf es
def At (P : Program) (w : World) (H : Hp) (a : Addr) (kvs : List (NestedKey × V)) : Prop := ∃ es, H a = some (nD P w a es) ∧ Keyed H es ∧ kvs = kvOf es
section
variable {P : Program} {w : World} {H H' : Hp} {h : Heap} {a : Addr} {kvs : List (NestedKey × V)} {es : List (NestedKey × Addr × V)}
theorem At.rd (x : At P w H a kvs) : AtR P w H a kvs := let ⟨es, e, k, r⟩ := x; ⟨es, .inl e, k, r⟩
theorem At.ext (x : At P w H a kvs) : ∃ φ, H a = some (.ext φ) := let ⟨_, e, _⟩ := x; ⟨_, e⟩
theorem Keyed.keeps (x : Keyed H es) (ht : ∀ b ys, H b = some (.tup ys) → H' b = some (.tup ys)) : Keyed H' es := fun e he => ⟨(x e he).1.keeps ht, (x e he).2⟩
/-- it stays while it and the tuples stay -/
theorem At.keeps (x : At P w H a kvs) (ha : ∀ u, H a = some u → H' a = some u) (ht : ∀ b ys, H b = some (.tup ys) → H' b = some (.tup ys)) : At P w H' a kvs :=
  let ⟨es, e, k, r⟩ := x; ⟨es, ha _ e, k.keeps ht, r⟩
theorem nD_ok {xs : List (NestedKey × Addr × Value)} (hl : es.length ≤ sizeLine) (hd : (a == sysModules) = false) (r : RE es xs) (d : ∃ o ds ep, h.get? a = some o ∧ o.ExactDict ∧ o.data = .dict ds ep ∧ ds.toList = xs.map (entryOfKey (nestedKind P w)) ∧ (xs.map (·.1)).Nodup) :
    ObjOk P w H' h a (nD P w a es) :=
  ⟨⟨hl, hd, xs, r, d⟩, let ⟨o, _, _, e, _⟩ := d; ⟨o, e⟩, fun h1 h2 ⟨z1, z2, xs, r, o, ds, ep, e, q⟩ k => ⟨z1, z2, xs, r, o, ds, ep, k o e, q⟩⟩
theorem keyed_is (ok : HOk P w H h) : ∀ {es : List (NestedKey × Addr × V)} {xs : List (NestedKey × Addr × Value)}, RE es xs → Keyed H es → ∀ x ∈ xs, (nestedKind P w).is h x.1 x.2.1 := by
  intro es xs r
  induction r with
  | nil => intro _ x hx; exact nomatch hx
  | @cons p q ps qs hq t ih =>
    intro k x hx
    rcases List.mem_cons.mp hx with e | hx
    · subst e
      obtain ⟨k1, k2⟩ := k p (List.mem_cons_self ..)
      rw [← hq.1, ← hq.2.1]
      exact ⟨k1.is ok rfl, k2⟩
    · exact ih (fun e he => k e (List.mem_cons_of_mem _ he)) x hx
theorem re_kv : ∀ {es : List (NestedKey × Addr × V)} {xs : List (NestedKey × Addr × Value)}, RE es xs → KV (kvOf es) (pairsH xs)
  | _, _, .nil => .nil
  | _, _, .cons h t => .cons ⟨h.1, h.2.2⟩ (re_kv t)
theorem rd_all (ok : HOk P w H h) (x : AtR P w H a kvs) : kvs.length ≤ sizeLine ∧ (a == sysModules) = false ∧ ∃ vs, KV kvs vs ∧ h.DictKeyed (nestedKind P w) a vs := by
  obtain ⟨es, e, k, rfl⟩ := x
  obtain ⟨⟨z, y, xs, r, o, ds, ep, h1, h2, h3, h4, h5⟩, _, _⟩ := (show ObjOk P w H h a (nD P w a es) from rd_of ok e)
  exact ⟨by unfold kvOf; rw [List.length_map]; exact z, y, pairsH xs, re_kv r, xs, ⟨o, ds, ep, h1, h2, h3, h4, keyed_is ok r k, h5⟩, rfl⟩
end

/-! ### reads -/
/-- what the dict at a holds at the key y -/
def NGet (P : Program) (w : World) (H : Hp) (a : Addr) (y : V) (r : Option V) : Prop := ∃ kvs k b, AtR P w H a kvs ∧ y = .ref b ∧ Ky H k y ∧ k.depth ≤ 8 ∧ r = valV kvs k
section
variable {X : Cx} {pins : List (Addr × Obj)} {σ : L2.St} {H : Hp} {s : Shared} {a : Addr} {y v d : V} {u r : Value} {o : Option V} {A : Around} {E : Value → Shared → Prop}
theorem n_getItem {Q : Value → Shared → Prop} (hu : A.units + 9 < cLine) (I : Inv X pins σ H s) (g : NGet X.prog X.w H a y (some v)) (ry : RelV y u) (h : ∀ w' s', Inv X pins σ H s' → RelV v w' → Q w' s') :
    wpAny (model X.prog X.w) A (getItem (.ref a) u) Q E s := by
  obtain ⟨kvs, k, b, e, rfl, ky, kd, l⟩ := g
  cases (show u = Value.ref b from ry)
  obtain ⟨z, hd, vs, rel, dd⟩ := rd_all I.hok e
  obtain ⟨w', hw, rw'⟩ := RelO.some_of (v := v) (o := valueAt vs k) (by rw [l]; exact rel.val k)
  exact getItem_keyed (knd := nestedKind X.prog X.w) (by show A.units + 1 + 8 < cLine; omega) ⟨ky.is I.hok rfl, kd⟩ dd hw (h w' _ (I.tok _) rw')
theorem n_in {Q : Value → Shared → Prop} (hu : A.units + 9 < cLine) (I : Inv X pins σ H s) (g : NGet X.prog X.w H a y o) (ry : RelV y u) (h : ∀ s', Inv X pins σ H s' → Q (.bool o.isSome) s') :
    wpAny (model X.prog X.w) A (compareOp .In u (.ref a)) Q E s := by
  obtain ⟨kvs, k, b, e, rfl, ky, kd, l⟩ := g
  cases (show u = Value.ref b from ry)
  obtain ⟨z, hd, vs, rel, dd⟩ := rd_all I.hok e
  refine in_keyed (knd := nestedKind X.prog X.w) (by show A.units + 1 + 8 < cLine; omega) ⟨ky.is I.hok rfl, kd⟩ hd dd ?_
  rw [← (rel.val k).isSome_eq, ← l]
  exact h _ (I.tok _)
theorem n_notIn {Q : Value → Shared → Prop} (hu : A.units + 9 < cLine) (I : Inv X pins σ H s) (g : NGet X.prog X.w H a y o) (ry : RelV y u) (h : ∀ s', Inv X pins σ H s' → Q (.bool (!o.isSome)) s') :
    wpAny (model X.prog X.w) A (compareOp .NotIn u (.ref a)) Q E s := by
  obtain ⟨kvs, k, b, e, rfl, ky, kd, l⟩ := g
  cases (show u = Value.ref b from ry)
  obtain ⟨z, hd, vs, rel, dd⟩ := rd_all I.hok e
  refine notIn_keyed (knd := nestedKind X.prog X.w) (by show A.units + 1 + 8 < cLine; omega) ⟨ky.is I.hok rfl, kd⟩ hd dd ?_
  rw [← (rel.val k).isSome_eq, ← l]
  exact h _ (I.tok _)
theorem n_get1 {Q : Value → Shared → Prop} (hu : A.units + 9 < cLine) (I : Inv X pins σ H s) (g : NGet X.prog X.w H a y o) (ry : RelV y u) (h : ∀ w' s', Inv X pins σ H s' → RelV (o.getD .non) w' → Q w' s') :
    wpAny (model X.prog X.w) A (call (.builtin "dict.get") [.ref a, u]) Q E s := by
  obtain ⟨kvs, k, b, e, rfl, ky, kd, l⟩ := g
  cases (show u = Value.ref b from ry)
  obtain ⟨z, hd, vs, rel, dd⟩ := rd_all I.hok e
  refine get_keyed (knd := nestedKind X.prog X.w) (by show A.units + 1 + 8 < cLine; omega) ⟨ky.is I.hok rfl, kd⟩ hd dd (h _ _ (I.tok _) ?_)
  rw [l]
  exact (rel.val k).getD rfl
theorem n_get2 {Q : Value → Shared → Prop} (hu : A.units + 9 < cLine) (I : Inv X pins σ H s) (g : NGet X.prog X.w H a y o) (ry : RelV y u) (rd : RelV d r) (h : ∀ w' s', Inv X pins σ H s' → RelV (o.getD d) w' → Q w' s') :
    wpAny (model X.prog X.w) A (call (.builtin "dict.get") [.ref a, u, r]) Q E s := by
  obtain ⟨kvs, k, b, e, rfl, ky, kd, l⟩ := g
  cases (show u = Value.ref b from ry)
  obtain ⟨z, hd, vs, rel, dd⟩ := rd_all I.hok e
  refine getOr_keyed (knd := nestedKind X.prog X.w) (by show A.units + 1 + 8 < cLine; omega) ⟨ky.is I.hok rfl, kd⟩ hd dd (h _ _ (I.tok _) ?_)
  rw [l]
  exact (rel.val k).getD rd
end

/-! ### d[k] = v -/
def putE (es : List (NestedKey × Addr × V)) (k : NestedKey) (b : Addr) (v : V) : List (NestedKey × Addr × V) :=
  if (es.any fun e => decide (e.1 = k)) = true then es.map fun e => if e.1 = k then (e.1, e.2.1, v) else e else es ++ [(k, b, v)]
theorem kv_any (es : List (NestedKey × Addr × V)) (k : NestedKey) : ((kvOf es).any fun kv => decide (kv.1 = k)) = es.any fun e => decide (e.1 = k) := by
  unfold kvOf
  rw [List.any_map]
  rfl
theorem kv_put (es : List (NestedKey × Addr × V)) (k : NestedKey) (b : Addr) (v : V) : kvOf (putE es k b v) = putK (kvOf es) k v := by
  unfold putE putK
  rw [kv_any]
  by_cases c : (es.any fun e => decide (e.1 = k)) = true
  · rw [if_pos c, if_pos c]
    unfold kvOf
    rw [List.map_map, List.map_map]
    refine List.map_congr_left fun e _ => ?_
    show (fun e : NestedKey × Addr × V => (e.1, e.2.2)) (if e.1 = k then (e.1, e.2.1, v) else e) = if e.1 = k then (e.1, v) else (e.1, e.2.2)
    by_cases q : e.1 = k
    · rw [if_pos q, if_pos q]
    · rw [if_neg q, if_neg q]
  · rw [if_neg c, if_neg c]
    unfold kvOf
    rw [List.map_append]
    rfl
theorem putE_len (es : List (NestedKey × Addr × V)) (k : NestedKey) (b : Addr) (v : V) : (putE es k b v).length ≤ es.length + 1 := by
  unfold putE
  split
  · rw [List.length_map]; omega
  · rw [List.length_append]; exact Nat.le_refl _
theorem re_any {k : NestedKey} : ∀ {es : List (NestedKey × Addr × V)} {xs : List (NestedKey × Addr × Value)}, RE es xs → (es.any fun e => decide (e.1 = k)) = (atKey xs k).isSome
  | _, _, .nil => rfl
  | _, _, .cons (a := p) (b := q) (l₁ := ps) (l₂ := qs) h t => by
    have ih := re_any (k := k) t
    rw [List.any_cons, ih, h.1]
    by_cases e : q.1 = k
    · rw [decide_eq_true e, Bool.true_or]
      simp [atKey, List.find?_cons, e]
    · rw [decide_eq_false e, Bool.false_or]
      simp [atKey, List.find?_cons, e]
theorem re_repl {k : NestedKey} {v : V} {u : Value} (rv : RelV v u) : ∀ {es : List (NestedKey × Addr × V)} {xs : List (NestedKey × Addr × Value)}, RE es xs → RE (es.map fun e => if e.1 = k then (e.1, e.2.1, v) else e) (xs.map (putAt k u))
  | _, _, .nil => .nil
  | _, _, .cons (a := p) (b := q) h t => by
    rw [List.map_cons, List.map_cons]
    refine .cons ?_ (re_repl rv t)
    unfold putAt
    obtain ⟨h1, h2, h3⟩ := h
    by_cases e : p.1 = k
    · rw [if_pos e, if_pos (h1.symm.trans e)]
      exact ⟨h1, h2, rv⟩
    · rw [if_neg e, if_neg (fun z => e (h1.trans z))]
      exact ⟨h1, h2, h3⟩
theorem re_put {k : NestedKey} {b : Addr} {v : V} {u : Value} (rv : RelV v u) {es : List (NestedKey × Addr × V)} {xs : List (NestedKey × Addr × Value)} (r : RE es xs) : RE (putE es k b v) (storedH xs k b u) := by
  unfold putE storedH
  rw [re_any r]
  by_cases q : (atKey xs k).isSome = true
  · rw [if_pos q, if_pos q]
    exact re_repl rv r
  · rw [if_neg q, if_neg q]
    exact Paired.snoc r ⟨rfl, rfl, rv⟩
theorem keyed_put {H : Hp} {k : NestedKey} {b : Addr} {v : V} {es : List (NestedKey × Addr × V)} (x : Keyed H es) (ky : Ky H k (.ref b)) (kd : k.depth ≤ 8) : Keyed H (putE es k b v) := by
  unfold putE
  split
  · intro e he
    obtain ⟨e0, h0, rfl⟩ := List.mem_map.mp he
    have := x e0 h0
    by_cases q : e0.1 = k
    · rw [if_pos q]; exact this
    · rw [if_neg q]; exact this
  · intro e he
    rcases List.mem_append.mp he with h | h
    · exact x e h
    · rw [List.mem_singleton.mp h]
      exact ⟨ky, kd⟩
/-- the heap behind a[y] = v: any that holds the changed dict at a, and else what was -/
def NPut (P : Program) (w : World) (H : Hp) (a : Addr) (y v : V) (Q : Hp → Prop) : Prop :=
  ∃ kvs k b, At P w H a kvs ∧ y = .ref b ∧ Ky H k y ∧ k.depth ≤ 8 ∧ kvs.length < sizeLine ∧ ∀ φ, At P w (upd H a (.ext φ)) a (putK kvs k v) → Q (upd H a (.ext φ))
theorem upd_tup {H : Hp} {a : Addr} {u : HO} {φ : Heap → Prop} (e : H a = some (.ext φ)) : ∀ b ys, H b = some (.tup ys) → upd H a u b = some (.tup ys) := fun b ys eb => by
  rw [upd_ne (ne_of eb e (fun z => nomatch z))]
  exact eb
section
variable {X : Cx} {pins : List (Addr × Obj)} {σ : L2.St} {H : Hp} {s : Shared} {a : Addr} {y v d : V} {u r : Value} {A : Around} {E : Value → Shared → Prop}
theorem n_setItem {Qh : Hp → Prop} {Q : Unit → Shared → Prop} (hu : A.units + 9 < cLine) (I : Inv X pins σ H s) (g : NPut X.prog X.w H a y v Qh) (ry : RelV y u) (rv : RelV v r) (h : ∀ H' s', Inv X pins σ H' s' → Qh H' → Q () s') :
    wpAny (model X.prog X.w) A (setItem (.ref a) u r) Q E s := by
  obtain ⟨kvs, k, b, ⟨es, e, ke, rfl⟩, rfl, ky, kd, hl, q⟩ := g
  cases (show u = Value.ref b from ry)
  obtain ⟨⟨z, hd, xs, re, o, ds, ep, h1, h2, h3, h4, h5⟩, _, _⟩ := (show ObjOk X.prog X.w H s.heap a (nD X.prog X.w a es) from I.hok a _ e)
  have dd : s.heap.DictOfH (nestedKind X.prog X.w) a xs := ⟨o, ds, ep, h1, h2, h3, h4, keyed_is I.hok re ke, h5⟩
  have hel : (kvOf es).length = es.length := List.length_map ..
  have hz : xs.length ≤ sizeLine := by rw [← Paired.length re]; exact z
  refine wpAny_setItem_heap (knd := nestedKind X.prog X.w) (hsz := hz) (by show A.units + 1 + 8 < cLine; omega) ⟨ky.is I.hok rfl, kd⟩ dd fun h' dd' hs => ?_
  obtain ⟨o', ds', ep', g1, g2, g3, g4, _, g5⟩ := dd'
  have hzl : (putE es k b v).length ≤ sizeLine := by
    have := putE_len es k b v
    omega
  refine h _ _ (d_write (ob := nD X.prog X.w a (putE es k b v)) I (by rw [e]; exact True.intro) hs ⟨o', g1⟩ (nD_ok hzl hd (re_put rv re) ⟨o', ds', ep', g1, g2, g3, g4, g5⟩)) (q _ ⟨putE es k b v, upd_same, ?_, (kv_put es k b v).symm⟩)
  exact (keyed_put ke ky kd).keeps (upd_tup e)
end

/-! ### readings -/
section
variable (P : Program) (w : World)
def tNGet (td ty : TE) : TE := fun σ H Q => td σ H fun x H1 => ty σ H1 fun y H2 => ∃ a v, x = .ref a ∧ NGet P w H2 a y (some v) ∧ Q v H2
def tNIn (ty td : TE) : TE := fun σ H Q => ty σ H fun y H1 => td σ H1 fun x H2 => ∃ a o, x = .ref a ∧ NGet P w H2 a y o ∧ Q (.bl o.isSome) H2
def tNNotIn (ty td : TE) : TE := fun σ H Q => ty σ H fun y H1 => td σ H1 fun x H2 => ∃ a o, x = .ref a ∧ NGet P w H2 a y o ∧ Q (.bl (!o.isSome)) H2
def sNPut (td ty tv : TE) : TS := fun D σ H => tv σ H fun v H1 => td σ H1 fun x H2 => ty σ H2 fun y H3 => ∃ a, x = .ref a ∧ NPut P w H3 a y v (D.nx σ)
def tNGet1 (td ty : TE) : TE := fun σ H Q => td σ H fun x H1 => ∃ a kvs, x = .ref a ∧ AtR P w H1 a kvs ∧ ty σ H1 fun y H2 => ∃ o, NGet P w H2 a y o ∧ Q (o.getD .non) H2
def tNGet2 (td ty tx : TE) : TE := fun σ H Q => td σ H fun x H1 => ∃ a kvs, x = .ref a ∧ AtR P w H1 a kvs ∧ ty σ H1 fun y H2 => tx σ H2 fun z H3 => ∃ o, NGet P w H3 a y o ∧ Q (o.getD z) H3
def tNNew : TE := fun _ H Q => ∀ p φ, H p = none → At P w (upd H p (.ext φ)) p [] → Q (.ref p) (upd H p (.ext φ))
end
section
variable {X : Cx} {o i e f value : Expr} {pos pos' tpos apos cpos : Pos} {td ty tv tx : TE}
theorem typeIs_of {pins : List (Addr × Obj)} {σ : L2.St} {H : Hp} {s : Shared} {a : Addr} {kvs : List (NestedKey × V)} (I : Inv X pins σ H s) (g : AtR X.prog X.w H a kvs) : s.TypeIs (.ref a) "dict" := by
  obtain ⟨_, _, vs, _, dd⟩ := rd_all I.hok g
  exact dd.typeIs
theorem noDict_of {pins : List (Addr × Obj)} {σ : L2.St} {H : Hp} {s : Shared} {a : Addr} {kvs : List (NestedKey × V)} (I : Inv X pins σ H s) (g : AtR X.prog X.w H a kvs) :
    ∀ b, Value.ref a = .ref b → ∃ ob, s.heap.get? b = some ob ∧ ob.dict = none := fun b q => by
  cases q
  obtain ⟨_, _, vs, _, xs, ⟨ob, _, _, h1, h2, _⟩, _⟩ := rd_all I.hok g
  exact ⟨ob, h1, h2.2.1⟩
theorem pe_nget (hu : X.A.units + 9 < cLine) (ho : PE X o td) (hi : PE X i ty) (hs : NoSl i) : PE X (.Subscript o i pos) (tNGet X.prog X.w td ty) := by
  refine ⟨fun pins s σ H Q I h => ?_⟩
  refine subD_of PySem.F.slot_dict_getitem.lookup hs (thn (ho.run pins s σ H _ I h) fun u s1 ⟨x, H1, I1, rx, q1⟩ => thn (hi.run pins s1 σ H1 _ I1 q1) fun iv s2 ⟨y, H2, I2, ry, a, v, ex, g, q2⟩ => ?_)
  subst ex
  obtain rfl : u = Value.ref a := rx
  refine ⟨?_, n_getItem hu I2 g ry fun w' s3 I3 rw' => ⟨v, H2, I3, rw', q2⟩⟩
  obtain ⟨kvs, k, b, e, _⟩ := g
  exact typeIs_of I2 e
theorem pc_nin (hu : X.A.units + 9 < cLine) (hi : PE X i ty) (ho : PE X o td) : PC X .In i o (tNIn X.prog X.w ty td) := by
  refine ⟨fun pins s σ H Q I h => ?_⟩
  refine thn (hi.run pins s σ H _ I h) fun iv s1 ⟨y, H1, I1, ry, q1⟩ => thn (ho.run pins s1 σ H1 _ I1 q1) fun u s2 ⟨x, H2, I2, rx, a, ov, ex, g, q2⟩ => ?_
  subst ex
  obtain rfl : u = Value.ref a := rx
  exact n_in hu I2 g ry fun s3 I3 => ⟨.bl ov.isSome, H2, I3, rfl, q2⟩
theorem pc_nnotin (hu : X.A.units + 9 < cLine) (hi : PE X i ty) (ho : PE X o td) : PC X .NotIn i o (tNNotIn X.prog X.w ty td) := by
  refine ⟨fun pins s σ H Q I h => ?_⟩
  refine thn (hi.run pins s σ H _ I h) fun iv s1 ⟨y, H1, I1, ry, q1⟩ => thn (ho.run pins s1 σ H1 _ I1 q1) fun u s2 ⟨x, H2, I2, rx, a, ov, ex, g, q2⟩ => ?_
  subst ex
  obtain rfl : u = Value.ref a := rx
  exact n_notIn hu I2 g ry fun s3 I3 => ⟨.bl (!ov.isSome), H2, I3, rfl, q2⟩
theorem ps_nput (hu : X.A.units + 9 < cLine) (ho : PE X o td) (hi : PE X i ty) (hv : PE X value tv) (hs : swapsWith value (some (.Subscript o i pos')) pos.line X.env = pure false) :
    PS X (.Assign [.Subscript o i pos'] value pos) (sNPut X.prog X.w td ty tv) := by
  refine ⟨fun pins s σ H D I h => ?_⟩
  refine wpAny_Assign_Subscript (thn (hv.run pins s σ H _ I h) fun r s1 ⟨v, H1, I1, rv, q1⟩ => thn (ho.run pins s1 σ H1 _ I1 q1) fun u s2 ⟨x, H2, I2, rx, q2⟩ => thn (hi.run pins s2 σ H2 _ I2 q2) fun iv s3 ⟨y, H3, I3, ry, a, ex, g⟩ => ?_) hs
  subst ex
  obtain rfl : u = Value.ref a := rx
  exact n_setItem hu I3 g ry rv fun H4 s4 I4 q3 => ⟨σ, H4, I4, q3⟩
theorem pe_nget1 (hu : X.A.units + 9 < cLine) (ho : PE X o td) (he : PE X e ty) (m : M1 X o "get" apos e cpos) : PE X (.Call (.Attribute o "get" apos) [e] [] cpos) (tNGet1 X.prog X.w td ty) := by
  refine ⟨fun pins s σ H Q I h => ?_⟩
  refine wpAny_Call_method m.base m.few m.line PySem.F.plainAttrs_dict PySem.F.slot_dict_get PySem.F.type_dict_get (thn (ho.run pins s σ H _ I h) fun u s1 ⟨x, H1, I1, rx, a, kvs, ex, d, q1⟩ => ?_)
  subst ex
  obtain rfl : u = Value.ref a := rx
  refine ⟨typeIs_of I1 d, noDict_of I1 d, ?_⟩
  rw [m.trees]
  refine Calls.callWith_builtin rfl (Calls.evalArgs_plain (Calls.spliced_cons (thn (he.run pins s1 σ H1 _ I1 q1) fun iv s2 ⟨y, H2, I2, ry, ov, g, q2⟩ => Calls.spliced_nil ?_)))
  exact n_get1 hu I2 g ry fun w' s3 I3 rw' => ⟨_, H2, I3, rw', q2⟩
theorem pe_nget2 (hu : X.A.units + 9 < cLine) (ho : PE X o td) (he : PE X e ty) (hf : PE X f tx) (m : M2 X o "get" apos e f cpos) : PE X (.Call (.Attribute o "get" apos) [e, f] [] cpos) (tNGet2 X.prog X.w td ty tx) := by
  refine ⟨fun pins s σ H Q I h => ?_⟩
  refine wpAny_Call_method m.base m.few m.line PySem.F.plainAttrs_dict PySem.F.slot_dict_get PySem.F.type_dict_get (thn (ho.run pins s σ H _ I h) fun u s1 ⟨x, H1, I1, rx, a, kvs, ex, d, q1⟩ => ?_)
  subst ex
  obtain rfl : u = Value.ref a := rx
  refine ⟨typeIs_of I1 d, noDict_of I1 d, ?_⟩
  rw [m.trees]
  refine Calls.callWith_builtin rfl (Calls.evalArgs_plain (Calls.spliced_cons (thn (he.run pins s1 σ H1 _ I1 q1) fun iv s2 ⟨y, H2, I2, ry, q2⟩ =>
    Calls.spliced_cons (thn (hf.run pins s2 σ H2 _ I2 q2) fun fv s3 ⟨z, H3, I3, rz, ov, g, q3⟩ => Calls.spliced_nil ?_))))
  exact n_get2 hu I3 g ry rz fun w' s4 I4 rw' => ⟨_, H3, I4, rw', q3⟩
theorem n_empty {P : Program} {w : World} {H : Hp} (h : Heap) (hb : sysModules < h.objs.size) : ObjOk P w H (h.push { cls := .type "dict", data := .dict #[] }) h.objs.size (nD P w h.objs.size []) :=
  nD_ok (xs := []) (Nat.zero_le _) (beq_eq_false_iff_ne.mpr (Ne.symm (Nat.ne_of_lt hb))) .nil ⟨_, #[], 0, Heap.get?_push_size _ rfl, ⟨rfl, rfl, rfl⟩, rfl, rfl, List.nodup_nil⟩
theorem pe_nnew : PE X (.Dict [] [] pos) (tNNew X.prog X.w) := ⟨fun pins s σ H Q I h =>
  wpAny_Dict_empty ⟨.ref s.heap.objs.size, _, I.laid (a := s.heap.objs.size) (o := nD X.prog X.w s.heap.objs.size []) (t' := s.toks) (fun _ _ q => Heap.get?_push_of_some _ q) (Nat.le_refl _) (n_empty s.heap I.big), rfl,
    h _ _ (I.hok.fresh (Nat.le_refl _)) ⟨[], upd_same, (fun _ h => nomatch h), rfl⟩⟩⟩
end

/-! ### displays -/
inductive CK (H : Hp) : List (V × V) → List (NestedKey × Addr × V) → Prop
  | nil : CK H [] []
  | cons {k : NestedKey} {b : Addr} {v : V} {ps : List (V × V)} {es : List (NestedKey × Addr × V)} : Ky H k (.ref b) → k.depth ≤ 8 → CK H ps es → CK H ((.ref b, v) :: ps) ((k, b, v) :: es)
def mergeE (acc more : List (NestedKey × Addr × V)) : List (NestedKey × Addr × V) := more.foldl (fun acc e => putE acc e.1 e.2.1 e.2.2) acc
theorem mergeE_len : ∀ (more acc : List (NestedKey × Addr × V)), (mergeE acc more).length ≤ acc.length + more.length
  | [], acc => Nat.le_refl _
  | p :: r, acc => by
    have h1 := mergeE_len r (putE acc p.1 p.2.1 p.2.2)
    have h2 := putE_len acc p.1 p.2.1 p.2.2
    show (mergeE (putE acc p.1 p.2.1 p.2.2) r).length ≤ _
    rw [List.length_cons]; omega
theorem ck_carries {P : Program} {w : World} {H : Hp} {h : Heap} (ok : HOk P w H h) {ps : List (V × V)} {es : List (NestedKey × Addr × V)} (c : CK H ps es) :
    ∀ {ws : List (Value × Value)}, VV ps ws → ∃ xs, CarriesH (nestedKind P w) h ws xs ∧ RE es xs := by
  induction c with
  | nil => intro ws r; cases r; exact ⟨[], True.intro, .nil⟩
  | @cons k b v ps es ky kd c ih =>
    intro ws r
    cases r with
    | @cons _ q _ qs h1 t =>
      obtain ⟨xs, c', r'⟩ := ih t
      obtain ⟨q1, q2⟩ := q
      obtain rfl : q1 = Value.ref b := h1.1
      exact ⟨(k, b, q2) :: xs, ⟨rfl, rfl, ⟨ky.is ok rfl, kd⟩, c'⟩, .cons ⟨rfl, rfl, h1.2⟩ r'⟩
theorem re_merge {es : List (NestedKey × Addr × V)} {xs : List (NestedKey × Addr × Value)} (r : RE es xs) : ∀ {acc : List (NestedKey × Addr × V)} {acc' : List (NestedKey × Addr × Value)}, RE acc acc' → RE (mergeE acc es) (storedAllH acc' xs) := by
  induction r with
  | nil => intro _ _ r; exact r
  | @cons p q ps qs h t ih =>
    intro acc acc' r
    obtain ⟨h1, h2, h3⟩ := h
    have := ih (re_put (k := p.1) (b := p.2.1) h3 r)
    rw [show mergeE acc (p :: ps) = mergeE (putE acc p.1 p.2.1 p.2.2) ps from rfl, show storedAllH acc' (q :: qs) = storedAllH (storedH acc' q.1 q.2.1 q.2.2) qs from rfl, ← h1, ← h2]
    exact this
theorem keyed_merge {H : Hp} : ∀ {es acc : List (NestedKey × Addr × V)}, Keyed H es → Keyed H acc → Keyed H (mergeE acc es)
  | [], _, _, r => r
  | (k, b, v) :: es, acc, q, r => by
    have h1 := q (k, b, v) (List.mem_cons_self ..)
    exact keyed_merge (es := es) (fun e he => q e (List.mem_cons_of_mem _ he)) (keyed_put r h1.1 h1.2)
theorem CK.keyed {H : Hp} {ps : List (V × V)} {es : List (NestedKey × Addr × V)} (c : CK H ps es) : Keyed H es := by
  induction c with
  | nil => exact fun _ h => nomatch h
  | cons ky kd _ ih =>
    intro e he
    rcases List.mem_cons.mp he with h | h
    · rw [h]; exact ⟨ky, kd⟩
    · exact ih e h
theorem kv_merge : ∀ (es acc : List (NestedKey × Addr × V)), kvOf (mergeE acc es) = es.foldl (fun acc e => putK acc e.1 e.2.2) (kvOf acc)
  | [], _ => rfl
  | (k, b, v) :: es, acc => by
    show kvOf (mergeE (putE acc k b v) es) = List.foldl (fun acc (e : NestedKey × Addr × V) => putK acc e.1 e.2.2) (putK (kvOf acc) k v) es
    rw [kv_merge es, kv_put]
def tNDisp (P : Program) (w : World) (trs : List (TE × TE)) : TE := fun σ H Q => ∀ p φ, H p = none → At P w (upd H p (.ext φ)) p [] → tPairs trs σ (upd H p (.ext φ)) fun ps H2 => H2 p = some (.ext φ) ∧ ∃ es, CK H2 ps es ∧ es.length ≤ 15 ∧
  ∀ φ', At P w (upd H2 p (.ext φ')) p (kvOf (mergeE [] es)) → Q (.ref p) (upd H2 p (.ext φ'))
theorem pe_ndisp {X : Cx} {pos : Pos} {keys : List (Option Expr)} {values : List Expr} {trs : List (TE × TE)} (hu : X.A.units + 9 < cLine) (h : PPs X pos keys values trs) (hall : keys.all (·.isSome) = true) (hl : keys.length = values.length) (h0 : keys ≠ [])
    (h15 : keys.length ≤ 15) : PE X (.Dict keys values pos) (tNDisp X.prog X.w trs) := by
  refine ⟨fun pins s σ H Q I q => ?_⟩
  have hn := I.hok.fresh (Nat.le_refl s.heap.objs.size)
  have I1 := I.laid (a := s.heap.objs.size) (o := nD X.prog X.w s.heap.objs.size []) (h' := s.heap.push { cls := .type "dict", data := .dict #[] }) (t' := s.toks) (fun _ _ q => Heap.get?_push_of_some _ q) (Nat.le_refl _) (n_empty s.heap I.big)
  have hlen := pairTrees_length keys values X.env pos hall hl
  have hne : pairTrees keys values X.env pos ≠ [] := fun e => by
    rw [e] at hlen
    exact h0 (List.length_eq_zero_iff.mp hlen.symm)
  rw [arm_eval_Dict, zip_pairTrees keys values X.env pos hall hl, dictDisplay_pairs _ hne (by omega)]
  refine wpAny_bind (wpAny_standAt (wpAny_bind (wpAny_subDictH (knd := nestedKind X.prog X.w) (by show X.A.units + 8 < cLine; omega) (by rw [hlen]; exact h15) ?_)))
  refine thn (h.run pins _ σ _ _ I1 (q _ _ hn ⟨[], upd_same, (fun _ h => nomatch h), rfl⟩)) fun ws s2 ⟨ps, H2, I2, rel, e, es, ck, lk, q2⟩ => ?_
  obtain ⟨xs, c, rk⟩ := ck_carries (P := X.prog) (w := X.w) I2.hok ck rel
  obtain ⟨⟨z, hd, xs0, re0, o, ds, ep, h1, h2, h3, h4, h5⟩, _, _⟩ := (show ObjOk X.prog X.w H2 s2.heap s.heap.objs.size (nD X.prog X.w s.heap.objs.size []) from I2.hok _ _ e)
  cases re0
  refine ⟨xs, c, ⟨o, ds, ep, h1, h2, h3, h4, (fun _ h => nomatch h), h5⟩, fun h' tk dd' hs => wpAny_pure ⟨.ref s.heap.objs.size, _, ?_, rfl, q2 _ ⟨mergeE [] es, upd_same, (keyed_merge (acc := []) ck.keyed (fun _ h => nomatch h)).keeps (upd_tup e), rfl⟩⟩⟩
  obtain ⟨o', ds', ep', g1, g2, g3, g4, _, g5⟩ := dd'
  have hz : (mergeE [] es).length ≤ sizeLine := by
    have h1 := mergeE_len es []
    rw [List.length_nil] at h1
    rw [sizeLine_eq]; omega
  exact d_write (ob := nD X.prog X.w s.heap.objs.size (mergeE [] es)) I2 (by rw [e]; exact True.intro) hs ⟨o', g1⟩ (nD_ok hz hd (re_merge rk .nil) ⟨o', ds', ep', g1, g2, g3, g4, g5⟩)
end ND

set_option Elab.async false
set_option linter.all false
set_option maxRecDepth 100000
set_option maxHeartbeats 4000000
/-! d.items(), sorted(d), sorted(d.items()), len(d): d a dict with nested keys, or with int and text keys. -/
namespace NI
open PySem PySem.W PySem.Calls PyProof.Rows L2
open L2.DX (itemsO itemsO_ok takeT)
/-- the pairs that stand in the dict at a -/
def DictV (P : Program) (w : World) (H : Hp) (a : Addr) (ps : List (V × V)) : Prop :=
  (∃ es, Rd H a (ND.nD P w a es) ∧ ps = es.map fun e => (V.ref e.2.1, e.2.2)) ∨ ∃ kvs : List (L2.Key × V), Rd H a (.dK kvs) ∧ ps = kvs.map fun kv => (kV kv.1, kv.2)
def RawV (h : Heap) (a : Addr) (ps : List (V × V)) : Prop := ∃ es ep, h.DictRaw a es ep ∧ (a == sysModules) = false ∧ es.size = ps.length ∧ ps.length ≤ sizeLine ∧ ∀ (i : Nat) (p : V × V), ps[i]? = some p → ∃ e, es[i]? = some e ∧ RelV p.1 e.key ∧ RelV p.2 e.val
theorem re_at {es : List (NestedKey × Addr × V)} {xs : List (NestedKey × Addr × Value)} (r : ND.RE es xs) : ∀ (i : Nat) e, es[i]? = some e → ∃ x, xs[i]? = some x ∧ e.1 = x.1 ∧ e.2.1 = x.2.1 ∧ RelV e.2.2 x.2.2 := by
  induction r with
  | nil => intro i e h; simp at h
  | cons h t ih =>
    intro i e he
    rcases i with _ | i
    · cases he
      exact ⟨_, rfl, h⟩
    · exact ih i e he
theorem kv_at {κ : Type} {kvs : List (κ × V)} {vs : List (κ × Value)} (r : KV kvs vs) : ∀ (i : Nat) e, kvs[i]? = some e → ∃ x, vs[i]? = some x ∧ e.1 = x.1 ∧ RelV e.2 x.2 := by
  induction r with
  | nil => intro i e h; simp at h
  | cons h t ih =>
    intro i e he
    rcases i with _ | i
    · cases he
      exact ⟨_, rfl, h⟩
    · exact ih i e he
theorem each_of {α β : Type} {R : α → β → Prop} : ∀ {as : List α} {bs : List β}, as.length = bs.length → (∀ (i : Nat) a b, as[i]? = some a → bs[i]? = some b → R a b) → EachIs R as bs
  | [], [], _, _ => .nil
  | [], _ :: _, h, _ => by simp at h
  | _ :: _, [], h, _ => by simp at h
  | a :: as, b :: bs, h, f => .cons (f 0 a b rfl rfl) (each_of (by simpa using h) fun i a b x y => f (i + 1) a b x y)
theorem DictV.raw {P : Program} {w : World} {H : Hp} {h : Heap} {a : Addr} {ps : List (V × V)} (ok : HOk P w H h) (d : DictV P w H a ps) : RawV h a ps := by
  rcases d with ⟨es, e, rfl⟩ | ⟨kvs, e, rfl⟩
  · obtain ⟨⟨z, y, xs, r, o, ds, ep, h1, h2, h3, h4, h5⟩, _, _⟩ := (show ObjOk P w H h a (ND.nD P w a es) from rd_of ok e)
    have l := Paired.length r
    have ls : ds.size = xs.length := size_of_entries h4
    refine ⟨ds, ep, ⟨o, h1, h2, h3⟩, y, by rw [List.length_map, l, ls], by rw [List.length_map]; exact z, fun i p hp => ?_⟩
    rw [List.getElem?_map] at hp
    obtain ⟨e', he', rfl⟩ := Option.map_eq_some_iff.mp hp
    obtain ⟨x, hx, _, e2, r3⟩ := re_at r i e' he'
    refine ⟨entryOfKey (nestedKind P w) x, by rw [entry_at h4 i, hx]; rfl, ?_, r3⟩
    show Value.ref x.2.1 = Value.ref e'.2.1
    rw [e2]
  · obtain ⟨z, lo, vs, rel, dd⟩ := dk_rd ok e
    obtain ⟨es, ep, dr, sz, at_⟩ := Heap.DictOf.raw dd
    have l := Paired.length rel
    refine ⟨es, ep, dr, lo, by rw [List.length_map, sz, l], by rw [List.length_map]; exact z, fun i p hp => ?_⟩
    rw [List.getElem?_map] at hp
    obtain ⟨kv, hk, rfl⟩ := Option.map_eq_some_iff.mp hp
    have hi : i < kvs.length := (List.getElem?_eq_some_iff.mp hk).1
    have hv : i < vs.length := by omega
    have he : i < es.size := by omega
    obtain ⟨b1, b2⟩ := at_ i he vs[i].1 vs[i].2 (by rw [List.getElem?_eq_getElem hv])
    obtain ⟨x, hx, r1, r2⟩ := kv_at rel i kv hk
    rw [List.getElem?_eq_getElem hv] at hx
    cases hx
    refine ⟨es[i], Array.getElem?_eq_getElem he, ?_, by rw [b2]; exact r2⟩
    rw [← r1] at b1
    rcases keyIs_shape (show keyIs kv.1 es[i].key = true from b1) with ⟨n, t, ek, ev⟩ | ⟨z, t, ek, ev⟩
    · rw [ek, ev]; exact ⟨t, rfl⟩
    · rw [ek, ev]; exact ⟨t, rfl⟩
theorem KV_src {prog : Program} {w : World} {a : Addr} {es : Array DictEntry} {ep : Nat} (lo : (a == sysModules) = false) : KdlSrc prog w "dict" a a es.size (fun i v => ∃ hi : i < es.size, v = es[i].key) (fun h => h.DictRaw a es ep) where
  type := fun _ hm => hm.typeIs
  there := fun _ hm => let ⟨_, ho, _⟩ := hm; ⟨Heap.lt_size ho, Heap.lt_size ho⟩
  keep := fun _ _ hm hk => hm.at fun o e => hk a (.inl rfl) o e
  notList := by decide
  notTuple := by decide
  hint := fun _ _ _ _ hm hq => kdl_hint_dict hm.typeIs hq
  iter := fun _ _ hh hm => ⟨_, _, (fun _ _ hq => wpAny_pyIter_dict_raw lo hm hq), Walks.rawKeys hh _ a (let ⟨_, ho, _⟩ := hm; Nat.ne_of_lt (Heap.lt_size ho)) es ep, ⟨⟨_, Heap.get?_push_size _ rfl, rfl, rfl⟩, hm.at fun o e => Heap.get?_push_of_some _ e⟩⟩
/-! ### the sort of a list just made -/
section
variable {prog : Program} {w : World} {A : Around} {E : Value → Shared → Prop} {s : Shared}
theorem sort_here {a : Addr} {vs : List Value} {n : Nat} {Q : Value → Shared → Prop} (zs : List (V × PyData)) (ho : s.heap.get? a = some (seqObj "list" vs.toArray n)) (e : EachIs (fun v (z : V × PyData) => RelV z.1 v ∧ ∃ as, Reads (sortingHeap s.heap a vs) v z.2 as) vs zs) (hok : SortOk (zs.map (·.2)))
    (hu : ∀ z ∈ zs, A.in1.units + z.2.depth < cLine) (hL : vs.length ≤ sizeLine)
    (h : ∀ (out : List Value) (ys : List (V × PyData)), ys.Perm zs → ys.Pairwise (fun a b => dataLt b.2 a.2 = false) → Vals (ys.map (·.1)) out → EachIs (fun v (z : V × PyData) => RelV z.1 v ∧ ∃ as, Reads (sortingHeap s.heap a vs) v z.2 as) out ys → Q .none { s with heap := sortedHeap s.heap a vs out.toArray }) :
    wpAny (model prog w) A (call (.builtin "list.sort") [.ref a]) Q E s := by
  refine wpAny_call_entry slot_list_sort ⟨_, ho, rfl⟩ entry_list_sort ?_ (args_list_sort _)
  have er : EachIs (fun v (z : V × PyData) => ∃ as, Reads (sortingHeap s.heap a vs) v z.2 as) vs zs := e.mono fun _ _ h => h.2
  have em := each_map (R := fun v d => ∃ as, Reads (sortingHeap s.heap a vs) v d as) (fun z : V × PyData => z.2) er
  have hd : ∀ d, d ∈ zs.map (fun z => z.2) → A.in1.units + d.depth < cLine := fun d h => by
    obtain ⟨z, hz, rfl⟩ := List.mem_map.mp h
    exact hu z hz
  have S : SortsAt prog w A.in1 { s with heap := sortingHeap s.heap a vs } (dataKind (sortingHeap s.heap a vs) (zs.map fun z => z.2)) vs := by
    rcases hok.2 with ht | hn
    · exact SDx.sorts_tuples (s := { s with heap := sortingHeap s.heap a vs }) em hok.1 ht hd
    · exact SortsAt.data (s := { s with heap := sortingHeap s.heap a vs }) em hok.1 (.inr hn) hd
  have eo := sortVals_data false e er hok.1
  refine list_sort_vals ho S hL ⟨.none, rfl, ?_⟩
  generalize sortVals (dataKind (sortingHeap s.heap a vs) (zs.map fun z => z.2)) false vs vs = out at eo ⊢
  refine h out (zs.mergeSort (dataLe false fun z => z.2)) (List.mergeSort_perm ..) ?_ (vals_each (eo.mono fun _ _ h => h.1)) eo
  refine (sort_pairwise (sortLe_total _ _ _) zs).imp fun {a b} h => ?_
  have h' : (!dataLt b.2 a.2) = true := h
  simpa using h'
end
theorem perm_backL {α β : Type} {f : α → β} : ∀ (l : List α) {ys : List β}, ys.Perm (l.map f) → ∃ ts : List α, ts.Perm l ∧ ts.map f = ys := by
  intro l ys h
  generalize hm : l.map f = m at h
  induction h generalizing l with
  | nil => exact ⟨[], by rw [List.map_eq_nil_iff.mp hm], rfl⟩
  | @cons x l1 l2 p ih =>
    match l, hm with
    | a :: l, hm =>
      injection hm with h1 h2
      obtain ⟨ts, p', e⟩ := ih l h2
      exact ⟨a :: ts, p'.cons a, by rw [List.map_cons, h1, e]⟩
  | swap x y l1 =>
    match l, hm with
    | a :: b :: l, hm =>
      injection hm with h1 h2
      injection h2 with h2 h3
      exact ⟨b :: a :: l, List.Perm.swap a b l, by rw [List.map_cons, List.map_cons, h1, h2, h3]⟩
  | trans p1 p2 ih1 ih2 =>
    obtain ⟨ts, p', e⟩ := ih2 l hm
    obtain ⟨us, p'', e'⟩ := ih1 ts e
    exact ⟨us, p''.trans p', e'⟩
end NI
namespace L2
open PySem PySem.W PySem.Calls PyProof.Rows NI
open L2.DX (itemsO itemsO_ok takeT)
section
variable {X : Cx}
def rItemsV (P : Program) (w : World) : V → List V → Hp → VK → Prop := fun x xs H Q => ∃ a ps, x = .ref a ∧ xs = [] ∧ DictV P w H a ps ∧ ∀ p, H p = none → Q (.ref p) (upd H p (itemsO p a))
theorem mt_itemsV : MtR X "dict.items" (rItemsV X.prog X.w) := by
  intro pins s σ H x xs v us Q I rx rxs h
  obtain ⟨a, ps, rfl, rfl, ha, q⟩ := h
  cases rx
  cases rxs
  obtain ⟨es, ep, dr, lo, _⟩ := ha.raw I.hok
  refine DT.callItems (es := es) (ep := ep) lo dr ?_
  exact ⟨.ref s.heap.objs.size, upd H s.heap.objs.size (itemsO s.heap.objs.size a), I.laid (t' := s.toks) (fun b u e => Heap.get?_push_of_some _ e) (Nat.le_refl _) (itemsO_ok (Heap.get?_push_size _ rfl)), rfl, q _ (I.hok.fresh (Nat.le_refl _))⟩
/-- sorted(d): its keys -/
def rSortKeys (P : Program) (w : World) (K : PySem.W.Frag) : List V → Hp → VK → Prop := fun vs H Q => ∃ (a : Addr) (ps : List (V × V)) (zs : List (V × PyData)), vs = [V.ref a] ∧ DictV P w H a ps ∧ zs.map (·.1) = ps.map (·.1) ∧ (∀ z ∈ zs, Dp K H z.1 z.2 ∧ z.2.depth ≤ 60) ∧ SortOk (zs.map (·.2)) ∧
  ∀ (ys : List (V × PyData)) (p : Addr), ys.Perm zs → ys.Pairwise (fun a b => dataLt b.2 a.2 = false) → H p = none → Q (.ref p) (upd H p (.lst (ys.map (·.1))))
theorem cr_sortKeys (hc : X.calm = true) (hu : X.A.units + 64 < cLine) : CallR X (.builtin "sorted") (rSortKeys X.prog X.w X.K) := by
  intro pins s σ H xs us Q I r h
  obtain ⟨a, ps, zs, rfl, hd, hz, hx, hok, q⟩ := h
  obtain rfl := Vals.ref1 r
  obtain ⟨es, ep, dr, lo, sz, hl, at_⟩ := hd.raw I.hok
  have lz : zs.length = ps.length := by have := congrArg List.length hz; rw [List.length_map, List.length_map] at this; exact this
  refine Calls.call_function_entry PyProof.Rows.kind_sorted PyProof.Rows.plain_sorted PyProof.Rows.entry_sorted (PyProof.Rows.args_sorted1 _) ?_
  unfold Builtin.«sorted»
  refine wpAny_bind (m := checkCount "sorted" 1 1 _) (wpAny_pure ?_)
  refine wpAny_bind (PySem.W.kdu_collect (A := X.A.in1) (KV_src (es := es) (ep := ep) lo) (I.ok.hd hc) dr (by rw [sz]; exact hl) fun h' tk acc hk hacc => ?_)
  have hal : acc.toList.length = zs.length := by rw [Array.length_toList, hacc.1, sz, lz]
  refine wpAny_bind (wpAny_newList ?_ (by rw [hal, lz]; exact hl))
  have I1 : Inv X pins σ H { s with heap := h', toks := tk } := I.kept hk
  have hoL : (h'.push (seqObj "list" acc.toList.toArray 0)).get? h'.objs.size = some (seqObj "list" acc.toList.toArray 0) := Heap.get?_push_size _ rfl
  have keep : ∀ b o, s.heap.get? b = some o → (sortingHeap (h'.push (seqObj "list" acc.toList.toArray 0)) h'.objs.size acc.toList).get? b = some o := fun b o e =>
    sortingHeap_old (Nat.ne_of_lt (Heap.lt_size (hk b o e))) (Heap.get?_push_of_some _ (hk b o e))
  have ev : EachIs (fun v (z : V × PyData) => RelV z.1 v ∧ ∃ as, Reads (sortingHeap (h'.push (seqObj "list" acc.toList.toArray 0)) h'.objs.size acc.toList) v z.2 as) acc.toList zs := by
    refine each_of hal fun j v z hv hzj => ?_
    obtain ⟨hi, ek⟩ := hacc.2 j v (by rw [← Array.getElem?_toList]; exact hv)
    have e3 : (ps.map (·.1))[j]? = some z.1 := by rw [← hz, List.getElem?_map, hzj]; rfl
    rw [List.getElem?_map] at e3
    obtain ⟨p, hp, e4⟩ := Option.map_eq_some_iff.mp e3
    obtain ⟨e, he, r1, _⟩ := at_ j p hp
    rw [Array.getElem?_eq_getElem hi] at he
    have e5 : es[j] = e := Option.some.inj he
    have rv : RelV z.1 v := by rw [ek, e5, ← e4]; exact r1
    obtain ⟨as, rd⟩ := Dp.reads I z.2 z.1 v (hx z (List.mem_of_getElem? hzj)).1 rv
    exact ⟨rv, as, PyProof.Rows.Reads.keeps keep rd⟩
  show wpAny _ _ _ _ _ { s with heap := h'.push (seqObj "list" acc.toList.toArray 0), toks := tk }
  refine wpAny_bind (wpAny_holding (sort_here (s := { s with heap := h'.push (seqObj "list" acc.toList.toArray 0), toks := tk }) zs hoL ev hok (fun z hz' => by have := (hx z hz').2; show X.A.units + 1 + 1 + _ < cLine; omega) (by rw [hal, lz]; exact hl) fun out ys pp ps' rv _ => ?_))
  obtain ⟨e', he'⟩ := PyProof.Rows.sortedHeap_at (vs := acc.toList) (out := out.toArray) hoL
  refine wpAny_pure ⟨_, rfl, .ref h'.objs.size, upd H h'.objs.size (.lst (ys.map (·.1))), I1.laid (t' := tk) (fun b u e => ?_) (Nat.le_refl _)
    (show ObjOk X.prog X.w _ _ _ (.lst (ys.map (·.1))) from ⟨by rw [List.length_map, pp.length_eq, lz]; exact hl, out, e', rv, he'⟩), rfl, q ys _ pp ps' (I1.hok.fresh (Nat.le_refl _))⟩
  have hb : b < h'.objs.size := Heap.lt_size e
  rw [PyProof.Rows.sortedHeap_old (Nat.ne_of_lt hb) (by rw [size_push']; exact Nat.lt_succ_of_lt hb)]
  exact Heap.get?_push_of_some _ e
/-- sorted(d.items()): new pairs of key and value -/
def rSortItems (P : Program) (w : World) (K : PySem.W.Frag) : List V → Hp → VK → Prop := fun vs H Q => ∃ (v a : Addr) (zs : List ((V × V) × (PyData × PyData))), vs = [V.ref v] ∧ H v = some (itemsO v a) ∧ DictV P w H a (zs.map (·.1)) ∧
  (∀ z ∈ zs, Dp K H z.1.1 z.2.1 ∧ Dp K H z.1.2 z.2.2 ∧ (PyData.tuple [z.2.1, z.2.2]).depth ≤ 60) ∧ SortOk (zs.map fun z => .tuple [z.2.1, z.2.2]) ∧
  ∀ (H' : Hp) (l : Addr) (ts : List (Addr × ((V × V) × (PyData × PyData)))), (∀ b o, H b = some o → H' b = some o) → (ts.map (·.2)).Perm zs → ts.Pairwise (fun a b => dataLt (.tuple [b.2.2.1, b.2.2.2]) (.tuple [a.2.2.1, a.2.2.2]) = false) → H l = none → H' l = some (.lst (ts.map fun z => V.ref z.1)) →
    (∀ z ∈ ts, H' z.1 = some (.tup [z.2.1.1, z.2.1.2])) → Q (.ref l) H'
theorem cr_sortItems (hc : X.calm = true) (hu : X.A.units + 64 < cLine) : CallR X (.builtin "sorted") (rSortItems X.prog X.w X.K) := by
  intro pins s σ H xs us Q I r h
  obtain ⟨p, a, zs, rfl, hp, hd, hx, hok, q⟩ := h
  obtain rfl := Vals.ref1 r
  have view : s.heap.IsItemsView p a := (show ObjOk X.prog X.w H s.heap p (itemsO p a) from I.hok p _ hp).1
  obtain ⟨es, ep, dr, lo, sz, hl, at_⟩ := hd.raw I.hok
  rw [List.length_map] at sz hl
  have hh : X.A.handled = none := I.ok.hd hc
  refine DT.sortedI (es := es) (ep := ep) hh view dr (by rw [sz]; exact hl) fun h' tk as hk hlt hla hG => ?_
  have lak : as.length = zs.length := by omega
  have nd : as.Nodup := List.Pairwise.imp (fun h => Nat.ne_of_lt h) hG.rise
  have pr : ∀ (j : Nat) (b : Addr) z, as[j]? = some b → zs[j]? = some z → ∃ kv vv, RelV z.1.1 kv ∧ RelV z.1.2 vv ∧ h'.get? b = some { cls := .type "tuple", data := .seq #[kv, vv] } := by
    intro j b z hj hz
    obtain ⟨en, he, hg⟩ := hG.pairs j b hj
    obtain ⟨e, he2, r1, r2⟩ := at_ j z.1 (by rw [List.getElem?_map, hz]; rfl)
    rw [he] at he2
    cases he2
    exact ⟨_, _, r1, r2, hg⟩
  have hob : (h'.push { cls := .type "list", data := .seq (as.map Value.ref).toArray }).get? h'.objs.size = some (seqObj "list" (as.map Value.ref).toArray 0) := Heap.get?_push_size _ rfl
  have ne0 : ∀ b o, h'.get? b = some o → b ≠ h'.objs.size := fun b o e => Nat.ne_of_lt (Heap.lt_size e)
  have ka : ∀ b o, h'.get? b = some o → (h'.push { cls := .type "list", data := .seq (as.map Value.ref).toArray }).get? b = some o := fun b o e => Heap.get?_push_of_some _ e
  generalize h'.push { cls := .type "list", data := .seq (as.map Value.ref).toArray } = h2 at hob ka ⊢
  have keep : ∀ b o, h'.get? b = some o → (sortingHeap h2 h'.objs.size (as.map Value.ref)).get? b = some o := fun b o e => sortingHeap_old (ne0 b o e) (ka b o e)
  generalize hws : (as.zip zs).map (fun z => (V.ref z.1, PyData.tuple [z.2.2.1, z.2.2.2])) = ws
  have lz : (as.zip zs).length = zs.length := by rw [List.length_zip, lak, Nat.min_self]
  have w2 : ws.map (·.2) = zs.map fun z => PyData.tuple [z.2.1, z.2.2] := by
    rw [← hws, List.map_map]
    have : (as.zip zs).map (fun z => z.2) = zs := List.map_snd_zip (by rw [lak]; exact Nat.le_refl _)
    conv => rhs; rw [← this]
    rw [List.map_map]
    rfl
  have ev : EachIs (fun v (z : V × PyData) => RelV z.1 v ∧ ∃ as', Reads (sortingHeap h2 h'.objs.size (as.map Value.ref)) v z.2 as') (as.map Value.ref) ws := by
    refine each_of (by rw [← hws, List.length_map, List.length_map, lz, lak]) fun j v z hv hz => ?_
    rw [← hws, List.getElem?_map] at hz
    obtain ⟨⟨b, z0⟩, hz0, rfl⟩ := Option.map_eq_some_iff.mp hz
    obtain ⟨hb, hz1⟩ := List.getElem?_zip_eq_some.mp hz0
    rw [List.getElem?_map, hb] at hv
    cases hv
    obtain ⟨kv, vv, r1, r2, hg⟩ := pr j b z0 hb hz1
    obtain ⟨d1, d2, _⟩ := hx z0 (List.mem_of_getElem? hz1)
    obtain ⟨as1, rd1⟩ := Dp.reads I _ _ _ d1 r1
    obtain ⟨as2, rd2⟩ := Dp.reads I _ _ _ d2 r2
    have rds : ReadsAll (sortingHeap h2 h'.objs.size (as.map Value.ref)) [kv, vv] [z0.2.1, z0.2.2] (as1 ++ (as2 ++ [])) := .cons (PyProof.Rows.Reads.keeps (fun b o e => keep b o (hk b o e)) rd1) (.cons (PyProof.Rows.Reads.keeps (fun b o e => keep b o (hk b o e)) rd2) .nil)
    exact ⟨rfl, _, .tuple (keep _ _ hg) rfl rfl rds⟩
  refine sort_here (s := { s with heap := h2, toks := tk }) ws hob ev (by rw [w2]; exact hok) (fun z hz => ?_) (by rw [List.length_map, lak]; exact hl) fun out ys pp ps' rv _ => ?_
  · rw [← hws] at hz
    obtain ⟨⟨b, z0⟩, hz0, rfl⟩ := List.mem_map.mp hz
    have := (hx z0 (List.of_mem_zip hz0).2).2.2
    show X.A.units + 1 + 1 + (PyData.tuple [z0.2.1, z0.2.2]).depth < cLine
    omega
  · obtain ⟨ts, pt, et⟩ : ∃ ts : List (Addr × ((V × V) × (PyData × PyData))), ts.Perm (as.zip zs) ∧ ts.map (fun z => (V.ref z.1, PyData.tuple [z.2.2.1, z.2.2.2])) = ys := perm_backL (as.zip zs) (by rw [hws]; exact pp)
    have idx : ∀ z ∈ ts, ∃ j : Nat, as[j]? = some z.1 ∧ zs[j]? = some z.2 := fun z hz => by
      obtain ⟨j, hj⟩ := List.mem_iff_getElem?.mp (pt.mem_iff.mp hz)
      exact ⟨j, List.getElem?_zip_eq_some.mp hj⟩
    have hperm : (ts.map (·.2)).Perm zs := by
      have e := pt.map (·.2)
      rw [show (as.zip zs).map (·.2) = zs from List.map_snd_zip (by rw [lak]; exact Nat.le_refl _)] at e
      exact e
    have hsort : ts.Pairwise (fun a b => dataLt (.tuple [b.2.2.1, b.2.2.2]) (.tuple [a.2.2.1, a.2.2.2]) = false) := by
      rw [← et, List.pairwise_map] at ps'
      exact ps'
    have y1 : ys.map (·.1) = ts.map fun z => V.ref z.1 := by rw [← et, List.map_map]; rfl
    have kF : ∀ b o, b ≠ h'.objs.size → h2.get? b = some o → (sortedHeap h2 h'.objs.size (as.map Value.ref) out.toArray).get? b = some o := fun b o hb e => (PyProof.Rows.sortedHeap_old hb (Heap.lt_size e)).trans e
    have kS : ∀ b o, s.heap.get? b = some o → (sortedHeap h2 h'.objs.size (as.map Value.ref) out.toArray).get? b = some o := fun b o e => kF b o (ne0 _ _ (hk b o e)) (ka b o (hk b o e))
    obtain ⟨eF, heF⟩ := PyProof.Rows.sortedHeap_at (vs := as.map Value.ref) (out := out.toArray) hob
    have I1 : Inv X pins σ H { s with heap := sortedHeap h2 h'.objs.size (as.map Value.ref) out.toArray, toks := tk } := I.kept (t' := tk) kS
    have hn0 : H h'.objs.size = none := I.hok.fresh (Nat.le_of_lt hlt)
    have hlen : (ts.map fun z => V.ref z.1).length ≤ sizeLine := by
      rw [List.length_map, pt.length_eq, lz]
      exact hl
    have I2 : Inv X pins σ (upd H h'.objs.size (.lst (ts.map fun z => V.ref z.1))) { s with heap := sortedHeap h2 h'.objs.size (as.map Value.ref) out.toArray, toks := tk } :=
      I1.take (h' := sortedHeap h2 h'.objs.size (as.map Value.ref) out.toArray) (t' := tk) (fun b ob _ e => e) (I.fpOk (Nat.le_of_lt hlt) hn0) ⟨hlen, out, eF, by rw [← y1]; exact rv, heF⟩
    obtain ⟨H2, I3, g, qt⟩ := takeT (P := fun b vs => ∃ (j : Nat) (z : (V × V) × (PyData × PyData)), as[j]? = some b ∧ zs[j]? = some z ∧ vs = [z.1.1, z.1.2]) I as _ I2 nd fun b hb => by
      obtain ⟨j, hj⟩ := List.mem_iff_getElem?.mp hb
      have hjz : j < zs.length := by rw [← lak]; exact (List.getElem?_eq_some_iff.mp hj).1
      have hz := List.getElem?_eq_getElem hjz
      obtain ⟨kv, vv, r1, r2, hg⟩ := pr j b _ hj hz
      have hbl : s.heap.objs.size ≤ b := Nat.le_of_lt (hG.above b hb)
      refine ⟨hbl, ?_, [zs[j].1.1, zs[j].1.2], ⟨j, _, hj, hz, rfl⟩, fun H3 => ⟨(by rw [sizeLine_eq]; show 2 ≤ 16777216; omega), [kv, vv], .cons r1 (.cons r2 .nil), ⟨_, kF _ _ (ne0 _ _ hg) (ka _ _ hg), rfl, 0, rfl⟩⟩⟩
      rw [upd_ne (ne0 _ _ hg)]
      exact I.hok.fresh hbl
    have gr : ∀ b o, H b = some o → H2 b = some o := fun b o e => g b o (by rw [upd_ne (ne_of_none e hn0)]; exact e)
    refine ⟨.ref h'.objs.size, H2, I3, rfl, q H2 h'.objs.size ts gr hperm hsort hn0 (g _ _ upd_same) fun z' hz' => ?_⟩
    obtain ⟨i, i1, i2⟩ := idx z' hz'
    obtain ⟨vs, ⟨j, z, j1, j2, ev⟩, hH⟩ := qt z'.1 (List.mem_of_getElem? i1)
    have eij : i = j := (List.getElem?_inj (List.getElem?_eq_some_iff.mp i1).1 nd).mp (i1.trans j1.symm)
    subst eij
    rw [ev, show z = z'.2 from Option.some.inj (j2.symm.trans i2)] at hH
    exact hH
/-- len(d), d with nested keys -/
def rLenN (P : Program) (w : World) : List V → Hp → VK → Prop := fun vs H Q => ∃ a kvs, vs = [V.ref a] ∧ ND.AtR P w H a kvs ∧ Q (.int (kvs.length : Nat)) H
theorem call_lenN : CallR X (.builtin "len") (rLenN X.prog X.w) := by
  intro pins s σ H xs us Q I r h
  obtain ⟨a, kvs, rfl, ⟨es, e, ke, rfl⟩, q⟩ := h
  obtain rfl := Vals.ref1 r
  obtain ⟨⟨z, hd, xs, re, o, ds, ep, h1, h2, h3, h4, h5⟩, _, _⟩ := (show ObjOk X.prog X.w H s.heap a (ND.nD X.prog X.w a es) from rd_of I.hok e)
  have dd : s.heap.DictOfH (nestedKind X.prog X.w) a xs := ⟨o, ds, ep, h1, h2, h3, h4, ND.keyed_is I.hok re ke, h5⟩
  have hl : es.length = xs.length := Paired.length re
  refine call_len_dictH hd dd (by rw [← hl]; rw [sizeLine_eq] at z; omega) ?_
  have hk : (ND.kvOf es).length = xs.length := by unfold ND.kvOf; rw [List.length_map, hl]
  rw [hk] at q
  exact ⟨.int (xs.length : Nat), H, I.tok _, ⟨_, rfl⟩, q⟩
/-- d.items() -/
def tItems (P : Program) (w : World) (to : TE) : TE := fun σ H Q => to σ H fun x H1 => ∃ a ps, x = .ref a ∧ DictV P w H1 a ps ∧ ∀ p, H1 p = none → Q (.ref p) (upd H1 p (itemsO p a))
theorem pe_items {o : Expr} {apos cpos : Pos} {to : TE} (ho : PE X o to) (hbase : attributeBase o "items" X.env (eval o X.env) = eval o X.env := by rfl) (hline : (apos.endLine == cpos.line) = true := by rfl) :
    PE X (.Call (.Attribute o "items" apos) [] [] cpos) (tItems X.prog X.w to) := by
  refine ⟨fun pins s σ H Q I h => ?_⟩
  refine wpAny_Call_method0_late hbase hline (thn (ho.run pins s σ H _ I h) fun v s1 ⟨x, H1, I1, r1, a, ps, ex, hd, q1⟩ => ?_)
  subst ex
  obtain rfl : v = Value.ref a := r1
  obtain ⟨es, ep, dr, lo, _⟩ := hd.raw I1.hok
  refine ⟨"dict", _, PySem.F.plainAttrs_dict, PySem.F.slot_dict_items, PySem.F.type_dict_items, dr.typeIs, fun b q => ?_, Calls.callWith_builtin rfl (PySem.evalArgs_none (mt_itemsV pins s1 σ H1 (.ref a) [] (.ref a) [] Q I1 rfl .nil ⟨a, ps, rfl, rfl, hd, q1⟩))⟩
  cases q
  obtain ⟨ob, h1, h2, _⟩ := dr
  exact ⟨ob, h1, h2.2.1⟩
end
end L2

set_option linter.all false
/-! Masks as sets of bits: the lowest bit, parts, the least ones. -/
namespace WM
/-- the place of the lowest bit -/
def lowI (n : Nat) : Nat := if n = 0 then 0 else if n % 2 = 1 then 0 else lowI (n / 2) + 1
termination_by n
decreasing_by omega
theorem lowI_odd (m : Nat) : lowI (2 * m + 1) = 0 := by
  rw [lowI, if_neg (by omega), if_pos (by omega)]
theorem lowI_even {m : Nat} (h : 0 < m) : lowI (2 * m) = lowI m + 1 := by
  rw [lowI, if_neg (by omega), if_neg (by omega), show 2 * m / 2 = m by omega]
def low (n : Nat) : Nat := 2 ^ lowI n
theorem even_odd (n : Nat) : (∃ m, n = 2 * m) ∨ ∃ m, n = 2 * m + 1 := by
  rcases Nat.mod_two_eq_zero_or_one n with h | h
  · exact .inl ⟨n / 2, by omega⟩
  · exact .inr ⟨n / 2, by omega⟩
theorem tb_even (m i : Nat) : (2 * m).testBit (i + 1) = m.testBit i := by
  rw [Nat.testBit_succ, show 2 * m / 2 = m by omega]
theorem tb_odd (m i : Nat) : (2 * m + 1).testBit (i + 1) = m.testBit i := by
  rw [Nat.testBit_succ, show (2 * m + 1) / 2 = m by omega]
theorem tb_even0 (m : Nat) : (2 * m).testBit 0 = false := by rw [Nat.testBit_zero, decide_eq_false_iff_not]; omega
theorem tb_odd0 (m : Nat) : (2 * m + 1).testBit 0 = true := by rw [Nat.testBit_zero, decide_eq_true_eq]; omega
theorem tb_low : ∀ n, 0 < n → n.testBit (lowI n) = true := by
  intro n
  induction n using Nat.strongRecOn with
  | ind n ih =>
    intro h
    rcases even_odd n with ⟨m, rfl⟩ | ⟨m, rfl⟩
    · rw [lowI_even (by omega), tb_even]
      exact ih m (by omega) (by omega)
    · rw [lowI_odd, tb_odd0]
theorem tb_below : ∀ n i, i < lowI n → n.testBit i = false := by
  intro n
  induction n using Nat.strongRecOn with
  | ind n ih =>
    intro i h
    rcases even_odd n with ⟨m, rfl⟩ | ⟨m, rfl⟩
    · rcases Nat.eq_zero_or_pos m with rfl | hm
      · rw [Nat.mul_zero, Nat.zero_testBit]
      · rw [lowI_even hm] at h
        rcases i with _ | i
        · exact tb_even0 m
        · rw [tb_even]
          exact ih m (by omega) i (by omega)
    · rw [lowI_odd] at h
      omega
/-- the lowest bit is taken off -/
def clr (n : Nat) : Nat := n - low n
theorem low_le : ∀ n, 0 < n → low n ≤ n := fun n h => Nat.ge_two_pow_of_testBit (tb_low n h)
theorem clr_lt {n : Nat} (h : 0 < n) : clr n < n := by
  have h1 : 0 < low n := Nat.two_pow_pos _
  unfold clr
  omega
theorem clr_even (m : Nat) (h : 0 < m) : clr (2 * m) = 2 * clr m := by
  unfold clr low
  rw [lowI_even h, Nat.pow_succ, Nat.mul_sub, Nat.mul_comm 2 (2 ^ lowI m)]
theorem clr_odd (m : Nat) : clr (2 * m + 1) = 2 * m := by
  unfold clr low
  rw [lowI_odd, Nat.pow_zero]
  omega
theorem tb_clr : ∀ n, 0 < n → ∀ i, (clr n).testBit i = (n.testBit i && decide (i ≠ lowI n)) := by
  intro n
  induction n using Nat.strongRecOn with
  | ind n ih =>
    intro h i
    rcases even_odd n with ⟨m, rfl⟩ | ⟨m, rfl⟩
    · rw [clr_even m (by omega), lowI_even (by omega)]
      rcases i with _ | i
      · rw [tb_even0, tb_even0]; rfl
      · rw [tb_even, tb_even, ih m (by omega) (by omega) i]
        congr 1
        exact decide_eq_decide.mpr (by omega)
    · rw [clr_odd, lowI_odd]
      rcases i with _ | i
      · rw [tb_even0]; simp
      · rw [tb_even, tb_odd]
        simp
theorem and_pred : ∀ n, 0 < n → n &&& (n - 1) = clr n := fun n h => by
  refine Nat.eq_of_testBit_eq fun i => ?_
  rw [Nat.testBit_and, tb_clr n h i]
  by_cases c : n.testBit i = true
  · rw [c, Bool.true_and, Bool.true_and]
    revert h c
    induction n using Nat.strongRecOn generalizing i with
    | ind n ih =>
      intro h c
      rcases even_odd n with ⟨m, rfl⟩ | ⟨m, rfl⟩
      · have hm : 0 < m := by omega
        rw [lowI_even hm, show 2 * m - 1 = 2 * (m - 1) + 1 by omega]
        rcases i with _ | i
        · rw [tb_even0] at c; cases c
        · rw [tb_even] at c
          rw [tb_odd, ih m (by omega) i hm c]
          exact decide_eq_decide.mpr (by omega)
      · rw [lowI_odd, Nat.add_sub_cancel]
        rcases i with _ | i
        · rw [tb_even0]; simp
        · rw [tb_odd] at c
          rw [tb_even, c]
          simp
  · rw [Bool.not_eq_true] at c
    rw [c]; rfl
theorem xor_low (n : Nat) (h : 0 < n) : n ^^^ low n = clr n := by
  refine Nat.eq_of_testBit_eq fun i => ?_
  rw [Nat.testBit_xor, tb_clr n h i]
  unfold low
  rw [Nat.testBit_two_pow]
  by_cases e : lowI n = i
  · subst e
    rw [tb_low n h]; simp
  · have e' : i ≠ lowI n := fun z => e z.symm
    simp [e, e']
open PySem in
/-- n & -n -/
theorem and_neg {n : Nat} (h : 0 < n) : Builtin.bitAnd (n : Int) (-(n : Int)) = (low n : Nat) := by
  rw [PyProof.Rows.bitAnd_pn (Int.natCast_nonneg n) (by omega)]
  have e : (Builtin.bitNot (-(n : Int))).toNat = n - 1 := by
    unfold Builtin.bitNot
    omega
  rw [e, Int.toNat_natCast, and_pred n h]
  have := low_le n h
  unfold clr
  omega
open PySem in
theorem and_neg0 : Builtin.bitAnd ((0 : Nat) : Int) (-((0 : Nat) : Int)) = 0 := by decide
open PySem in
/-- n ^ (n & -n) -/
theorem xor_bit {n : Nat} (h : 0 < n) : Builtin.bitXor (n : Int) (low n : Nat) = (clr n : Nat) := by
  rw [Bits.bitXor_pp (Int.natCast_nonneg _) (Int.natCast_nonneg _), Int.toNat_natCast, Int.toNat_natCast, xor_low n h]
/-- all of a's bits are b's -/
def Sub (a b : Nat) : Prop := a &&& b = a
instance (a b : Nat) : Decidable (Sub a b) := inferInstanceAs (Decidable (a &&& b = a))
theorem sub_iff {a b : Nat} : Sub a b ↔ ∀ i, a.testBit i = true → b.testBit i = true := by
  constructor
  · intro h i hi
    have e : (a &&& b).testBit i = a.testBit i := congrArg (fun n => Nat.testBit n i) h
    rw [Nat.testBit_and, hi] at e
    simpa using e
  · intro h
    refine Nat.eq_of_testBit_eq fun i => ?_
    rw [Nat.testBit_and]
    cases c : a.testBit i with
    | false => rfl
    | true => rw [h i c]; rfl
theorem Sub.le {a b : Nat} (h : Sub a b) : a ≤ b := by
  have := Nat.and_le_right (n := a) (m := b)
  rw [h] at this
  exact this
theorem Sub.refl (a : Nat) : Sub a a := Nat.and_self a
theorem Sub.trans {a b c : Nat} (h : Sub a b) (h' : Sub b c) : Sub a c := sub_iff.mpr fun i hi => sub_iff.mp h' i (sub_iff.mp h i hi)
theorem Sub.antisymm {a b : Nat} (h : Sub a b) (h' : Sub b a) : a = b := Nat.le_antisymm h.le h'.le
theorem sub_zero {a : Nat} : Sub a 0 ↔ a = 0 := ⟨fun h => by have := h.le; omega, fun h => h ▸ Sub.refl _⟩
theorem zero_sub (a : Nat) : Sub 0 a := Nat.zero_and a
open PySem in
/-- part & mask == part -/
theorem and_sub (a b : Nat) : Builtin.bitAnd (a : Int) (b : Int) = (a : Int) ↔ Sub a b := by
  rw [PyProof.Rows.bitAnd_pp (Int.natCast_nonneg _) (Int.natCast_nonneg _), Int.toNat_natCast, Int.toNat_natCast]
  unfold Sub
  omega
/-- the lowest bit of a part is a bit of the whole -/
theorem sub_low {a b : Nat} (h : Sub a b) (ha : 0 < a) : b.testBit (lowI a) = true := sub_iff.mp h _ (tb_low a ha)
theorem low_inj {a b : Nat} (h : low a = low b) : lowI a = lowI b := (Nat.pow_right_inj (by decide : 1 < 2)).mp h
/-- one of the kept is a part -/
def HP (kept : List Nat) (m : Nat) : Prop := ∃ k ∈ kept, Sub k m
instance (kept : List Nat) (m : Nat) : Decidable (HP kept m) := inferInstanceAs (Decidable (∃ k ∈ kept, Sub k m))
/-- the least ones, the masks told ascending -/
def leastA : List Nat → List Nat → List Nat
  | kept, [] => kept
  | kept, m :: ms => leastA (if HP kept m then kept else kept ++ [m]) ms
/-- what the kept are behind the masks ms -/
structure Kept (ms kept : List Nat) : Prop where
  mem : ∀ k ∈ kept, k ∈ ms
  up : ∀ m ∈ ms, HP kept m
  ap : kept.Pairwise fun a b => a < b ∧ ¬ Sub a b
theorem Kept.nil : Kept [] [] := ⟨(fun _ h => nomatch h), (fun _ h => nomatch h), .nil⟩
theorem Kept.step {ms kept : List Nat} {m : Nat} (x : Kept ms kept) (hm : ∀ y ∈ ms, y ≤ m) : Kept (ms ++ [m]) (if HP kept m then kept else kept ++ [m]) := by
  by_cases c : HP kept m
  · rw [if_pos c]
    refine ⟨fun k hk => List.mem_append_left _ (x.mem k hk), fun y hy => ?_, x.ap⟩
    rcases List.mem_append.mp hy with h | h
    · exact x.up y h
    · rw [List.mem_singleton.mp h]; exact c
  · rw [if_neg c]
    refine ⟨fun k hk => ?_, fun y hy => ?_, List.pairwise_append.mpr ⟨x.ap, List.pairwise_singleton .., fun a ha b hb => ?_⟩⟩
    · rcases List.mem_append.mp hk with h | h
      · exact List.mem_append_left _ (x.mem k h)
      · exact List.mem_append_right _ h
    · rcases List.mem_append.mp hy with h | h
      · obtain ⟨k, hk, s⟩ := x.up y h
        exact ⟨k, List.mem_append_left _ hk, s⟩
      · rw [List.mem_singleton.mp h]
        exact ⟨m, List.mem_append_right _ (List.mem_singleton_self _), Sub.refl _⟩
    · rw [List.mem_singleton.mp hb]
      have ns : ¬ Sub a m := fun s => c ⟨a, ha, s⟩
      have := hm a (x.mem a ha)
      refine ⟨Nat.lt_of_le_of_ne this fun e => ns (e ▸ Sub.refl _), ns⟩
theorem least_kept : ∀ (ms pre kept : List Nat), Kept pre kept → (pre ++ ms).Pairwise (· ≤ ·) → Kept (pre ++ ms) (leastA kept ms)
  | [], pre, kept, x, _ => by rw [List.append_nil]; exact x
  | m :: ms, pre, kept, x, hs => by
    have e : pre ++ m :: ms = (pre ++ [m]) ++ ms := by simp
    rw [e] at hs ⊢
    refine least_kept ms (pre ++ [m]) _ (x.step fun y hy => ?_) hs
    exact (List.pairwise_append.mp (List.pairwise_append.mp hs).1).2.2 y hy m (List.mem_singleton_self _)
theorem least_of {ms : List Nat} (hs : ms.Pairwise (· ≤ ·)) : Kept ms (leastA [] ms) := least_kept ms [] [] .nil hs
/-- no two of the kept are parts of one another -/
theorem Kept.anti {ms kept : List Nat} (x : Kept ms kept) {a b : Nat} (ha : a ∈ kept) (hb : b ∈ kept) (s : Sub a b) : a = b := by
  obtain ⟨i, hi, rfl⟩ := List.mem_iff_getElem.mp ha
  obtain ⟨j, hj, rfl⟩ := List.mem_iff_getElem.mp hb
  rcases Nat.lt_trichotomy i j with h | h | h
  · exact absurd s (List.pairwise_iff_getElem.mp x.ap i j hi hj h).2
  · subst h; rfl
  · have := (List.pairwise_iff_getElem.mp x.ap j i hj hi h).1
    have := s.le
    omega
/-- what has a part among the masks has one among the kept -/
theorem Kept.upIff {ms kept : List Nat} (x : Kept ms kept) (m : Nat) : HP kept m ↔ HP ms m := by
  constructor
  · rintro ⟨k, hk, s⟩; exact ⟨k, x.mem k hk, s⟩
  · rintro ⟨y, hy, s⟩
    obtain ⟨k, hk, s'⟩ := x.up y hy
    exact ⟨k, hk, s'.trans s⟩
theorem Kept.nd {ms kept : List Nat} (x : Kept ms kept) : kept.Nodup := x.ap.imp fun h => Nat.ne_of_lt h.1
/-- the walk over the bits: if no kept part begins with a bit that was seen, none of them is a part that begins there -/
theorem walk_step {kept : List Nat} {mask rest : Nat} (h : 0 < rest) (inv : ∀ k ∈ kept, Sub k mask → rest.testBit (lowI k) = true) (no : ∀ k ∈ kept, low k = low rest → ¬ Sub k mask) : ∀ k ∈ kept, Sub k mask → (clr rest).testBit (lowI k) = true := fun k hk s => by
  rw [tb_clr rest h, inv k hk s, Bool.true_and]
  exact decide_eq_true fun e => no k hk (by unfold low; rw [e]) s
theorem walk_end {kept : List Nat} {mask : Nat} (inv : ∀ k ∈ kept, Sub k mask → (0 : Nat).testBit (lowI k) = true) : ¬ HP kept mask := fun ⟨k, hk, s⟩ => by
  have := inv k hk s
  rw [Nat.zero_testBit] at this
  cases this
theorem walk_start {kept : List Nat} {mask : Nat} (h0 : ¬ 0 ∈ kept) : ∀ k ∈ kept, Sub k mask → mask.testBit (lowI k) = true := fun k hk s =>
  sub_low s (Nat.pos_of_ne_zero fun e => h0 (e ▸ hk))
end WM

set_option linter.all false
/-! Least sets: sorted lists of ascending lists, none a part of another, and what lies above them. -/
namespace WS
open WM
theorem pw_ext {α : Type} {R : α → α → Prop} (as : ∀ a b, R a b → ¬ R b a) : ∀ {l m : List α}, l.Pairwise R → m.Pairwise R → (∀ x, x ∈ l ↔ x ∈ m) → l = m
  | [], [], _, _, _ => rfl
  | [], y :: m, _, _, h => absurd ((h y).mpr (List.mem_cons_self ..)) (List.not_mem_nil)
  | x :: l, [], _, _, h => absurd ((h x).mp (List.mem_cons_self ..)) (List.not_mem_nil)
  | x :: l, y :: m, hl, hm, h => by
    obtain ⟨h1, h2⟩ := List.pairwise_cons.mp hl
    obtain ⟨h3, h4⟩ := List.pairwise_cons.mp hm
    have e : x = y := by
      rcases List.mem_cons.mp ((h x).mp (List.mem_cons_self ..)) with e | a
      · exact e
      · rcases List.mem_cons.mp ((h y).mpr (List.mem_cons_self ..)) with e | b
        · exact e.symm
        · exact absurd (h1 y b) (as _ _ (h3 x a))
    subst e
    rw [pw_ext as h2 h4 fun z => ?_]
    constructor
    · intro hz
      rcases List.mem_cons.mp ((h z).mp (List.mem_cons_of_mem _ hz)) with e | a
      · subst e
        exact absurd (h1 z hz) (as _ _ (h1 z hz))
      · exact a
    · intro hz
      rcases List.mem_cons.mp ((h z).mpr (List.mem_cons_of_mem _ hz)) with e | a
      · subst e
        exact absurd (h3 z hz) (as _ _ (h3 z hz))
      · exact a
abbrev Asc (s : List Nat) : Prop := s.Pairwise (· < ·)
theorem asc_ext {a b : List Nat} (ha : Asc a) (hb : Asc b) (h : ∀ x, x ∈ a ↔ x ∈ b) : a = b := pw_ext (fun _ _ h h' => by omega) ha hb h
theorem Asc.nd {s : List Nat} (h : Asc s) : s.Nodup := h.imp fun h => Nat.ne_of_lt h
abbrev SubL (a b : List Nat) : Prop := ∀ x ∈ a, x ∈ b
abbrev iN (s : List Nat) : List Int := s.map fun (n : Nat) => (n : Int)
/-- a element of the least sets -/
structure Can (ss : List (List Nat)) : Prop where
  asc : ∀ s ∈ ss, Asc s
  anti : ∀ a ∈ ss, ∀ b ∈ ss, SubL a b → a = b
  srt : ss.Pairwise fun a b => HT.lexLt (iN a) (iN b) = true
/-- s has a part among the sets -/
def Up (ss : List (List Nat)) (s : List Nat) : Prop := ∃ t ∈ ss, SubL t s
theorem can_sub {a b : List (List Nat)} (ha : Can a) (hb : Can b) (h : ∀ s, Up a s ↔ Up b s) {t : List Nat} (ht : t ∈ a) : t ∈ b := by
  obtain ⟨t', h1, h2⟩ := (h t).mp ⟨t, ht, fun _ z => z⟩
  obtain ⟨t'', h3, h4⟩ := (h t').mpr ⟨t', h1, fun _ z => z⟩
  have e : t'' = t := ha.anti _ h3 _ ht fun x hx => h2 x (h4 x hx)
  subst e
  rw [asc_ext (ha.asc _ ht) (hb.asc _ h1) fun x => ⟨h4 x, h2 x⟩]
  exact h1
/-- two elements with the same above them are the same -/
theorem can_ext {a b : List (List Nat)} (ha : Can a) (hb : Can b) (h : ∀ s, Up a s ↔ Up b s) : a = b :=
  pw_ext (fun x y h1 h2 => by rw [NtL.lex_asym _ _ h1] at h2; cases h2) ha.srt hb.srt fun t => ⟨can_sub ha hb h, can_sub hb ha fun s => (h s).symm⟩
/-! ### masks of sets -/
theorem tb_add : ∀ (k n : Nat), n.testBit k = false → ∀ i, (2 ^ k + n).testBit i = (decide (i = k) || n.testBit i)
  | 0, n, h, i => by
    rcases even_odd n with ⟨m, rfl⟩ | ⟨m, rfl⟩
    · rw [show 2 ^ 0 + 2 * m = 2 * m + 1 by rw [Nat.pow_zero]; omega]
      rcases i with _ | i
      · rw [tb_odd0]; rfl
      · rw [tb_odd, tb_even]; simp
    · rw [tb_odd0] at h; cases h
  | k + 1, n, h, i => by
    rcases even_odd n with ⟨m, rfl⟩ | ⟨m, rfl⟩
    · rw [tb_even] at h
      rw [show 2 ^ (k + 1) + 2 * m = 2 * (2 ^ k + m) by rw [Nat.pow_succ]; omega]
      rcases i with _ | i
      · rw [tb_even0, tb_even0]; simp
      · rw [tb_even, tb_even, tb_add k m h i]
        congr 1
        exact decide_eq_decide.mpr (by omega)
    · rw [tb_odd] at h
      rw [show 2 ^ (k + 1) + (2 * m + 1) = 2 * (2 ^ k + m) + 1 by rw [Nat.pow_succ]; omega]
      rcases i with _ | i
      · rw [tb_odd0, tb_odd0]; simp
      · rw [tb_odd, tb_odd, tb_add k m h i]
        congr 1
        exact decide_eq_decide.mpr (by omega)
def mask (F : List Nat) (s : List Nat) : Nat := (s.map fun f => 2 ^ F.idxOf f).sum
theorem idx_inj {F : List Nat} {x y : Nat} (hx : x ∈ F) (hy : y ∈ F) (h : F.idxOf x = F.idxOf y) : x = y := by
  have h1 := List.getElem_idxOf (List.idxOf_lt_length_of_mem hx)
  have h2 := List.getElem_idxOf (List.idxOf_lt_length_of_mem hy)
  rw [← h1, ← h2]
  congr 1
theorem tb_mask {F : List Nat} : ∀ {s : List Nat}, s.Nodup → (∀ x ∈ s, x ∈ F) → ∀ i, (mask F s).testBit i = true ↔ ∃ x ∈ s, F.idxOf x = i
  | [], _, _, i => by
    rw [show mask F [] = 0 from rfl, Nat.zero_testBit]
    exact ⟨fun h => (nomatch h), fun ⟨_, h, _⟩ => (nomatch h)⟩
  | y :: s, hn, hF, i => by
    obtain ⟨n1, n2⟩ := List.nodup_cons.mp hn
    have ih := tb_mask (s := s) n2 fun x hx => hF x (List.mem_cons_of_mem _ hx)
    have h0 : (mask F s).testBit (F.idxOf y) = false := by
      rw [← Bool.not_eq_true]
      intro z
      obtain ⟨x, hx, e⟩ := (ih _).mp z
      exact n1 (idx_inj (hF x (List.mem_cons_of_mem _ hx)) (hF y (List.mem_cons_self ..)) e ▸ hx)
    rw [show mask F (y :: s) = 2 ^ F.idxOf y + mask F s from rfl, tb_add _ _ h0, Bool.or_eq_true, decide_eq_true_eq, ih]
    constructor
    · rintro (e | ⟨x, hx, e⟩)
      · exact ⟨y, List.mem_cons_self .., e.symm⟩
      · exact ⟨x, List.mem_cons_of_mem _ hx, e⟩
    · rintro ⟨x, hx, e⟩
      rcases List.mem_cons.mp hx with rfl | hx
      · exact .inl e.symm
      · exact .inr ⟨x, hx, e⟩
theorem sub_mask {F s t : List Nat} (hs : s.Nodup) (ht : t.Nodup) (sF : ∀ x ∈ s, x ∈ F) (tF : ∀ x ∈ t, x ∈ F) : Sub (mask F s) (mask F t) ↔ SubL s t := by
  rw [sub_iff]
  constructor
  · intro h x hx
    obtain ⟨y, hy, e⟩ := (tb_mask ht tF _).mp (h _ ((tb_mask hs sF _).mpr ⟨x, hx, rfl⟩))
    rw [← idx_inj (tF y hy) (sF x hx) e]
    exact hy
  · intro h i hi
    obtain ⟨x, hx, e⟩ := (tb_mask hs sF _).mp hi
    exact (tb_mask ht tF _).mpr ⟨x, h x hx, e⟩
theorem low_uniq {n k : Nat} (h : n.testBit k = true) (hl : ∀ i, i < k → n.testBit i = false) : lowI n = k := by
  have hn : 0 < n := by
    rcases Nat.eq_zero_or_pos n with e | e
    · rw [e, Nat.zero_testBit] at h; cases h
    · exact e
  rcases Nat.lt_trichotomy (lowI n) k with c | c | c
  · have := hl _ c
    rw [tb_low n hn] at this; cases this
  · exact c
  · rw [tb_below n k c] at h; cases h
/-- the set that a mask tells -/
def setOf (F : List Nat) (m : Nat) : List Nat := if h : m = 0 then [] else F.getD (lowI m) 0 :: setOf F (clr m)
termination_by m
decreasing_by exact clr_lt (Nat.pos_of_ne_zero h)
theorem idx_lt {F : List Nat} (hF : Asc F) {x y : Nat} (hx : x ∈ F) (hy : y ∈ F) (h : x < y) : F.idxOf x < F.idxOf y := by
  have lx := List.idxOf_lt_length_of_mem hx
  have ly := List.idxOf_lt_length_of_mem hy
  have h1 := List.getElem_idxOf lx
  have h2 := List.getElem_idxOf ly
  rcases Nat.lt_trichotomy (F.idxOf x) (F.idxOf y) with c | c | c
  · exact c
  · have := idx_inj hx hy c; omega
  · have := List.pairwise_iff_getElem.mp hF _ _ ly lx c
    omega
theorem mask_cons {F s : List Nat} {x : Nat} (hF : Asc F) (hs : Asc (x :: s)) (sF : ∀ y ∈ x :: s, y ∈ F) : lowI (mask F (x :: s)) = F.idxOf x ∧ clr (mask F (x :: s)) = mask F s := by
  have e : lowI (mask F (x :: s)) = F.idxOf x := by
    refine low_uniq ((tb_mask hs.nd sF _).mpr ⟨x, List.mem_cons_self .., rfl⟩) fun i hi => ?_
    rw [← Bool.not_eq_true]
    intro z
    obtain ⟨y, hy, e⟩ := (tb_mask hs.nd sF _).mp z
    rcases List.mem_cons.mp hy with rfl | hy'
    · omega
    · have := idx_lt hF (sF x (List.mem_cons_self ..)) (sF y hy) ((List.pairwise_cons.mp hs).1 y hy')
      omega
  refine ⟨e, ?_⟩
  unfold clr low
  rw [e, show mask F (x :: s) = 2 ^ F.idxOf x + mask F s from rfl]
  omega
theorem mask_pos {F s : List Nat} {x : Nat} : mask F (x :: s) ≠ 0 := by
  have : 0 < 2 ^ F.idxOf x := Nat.two_pow_pos _
  rw [show mask F (x :: s) = 2 ^ F.idxOf x + mask F s from rfl]
  omega
theorem setOf_mask {F : List Nat} (hF : Asc F) : ∀ {s : List Nat}, Asc s → (∀ x ∈ s, x ∈ F) → setOf F (mask F s) = s
  | [], _, _ => by rw [setOf]; rfl
  | x :: s, hs, sF => by
    obtain ⟨h1, h2⟩ := mask_cons hF hs sF
    have hx := sF x (List.mem_cons_self ..)
    rw [setOf, dif_neg mask_pos, h1, h2, setOf_mask hF (List.pairwise_cons.mp hs).2 fun y hy => sF y (List.mem_cons_of_mem _ hy)]
    have lx := List.idxOf_lt_length_of_mem hx
    rw [List.getD_eq_getElem?_getD, List.getElem?_eq_getElem lx, List.getElem_idxOf lx]
    rfl
/-- the program's way, over the facts F: masks, the least ones, sets again, sorted -/
theorem can_of {F : List Nat} (hF : Asc F) {ss : List (List Nat)} (hs : ∀ s ∈ ss, Asc s) (sF : ∀ s ∈ ss, ∀ x ∈ s, x ∈ F) {ms : List Nat} (hp : ms.Perm (ss.map (mask F))) (ho : ms.Pairwise (· ≤ ·))
    {out : List (List Nat)} (op : out.Perm ((leastA [] ms).map (setOf F))) (oo : out.Pairwise fun a b => HT.lexLt (iN b) (iN a) = false) : Can out ∧ ∀ s, Up out s ↔ Up ss s := by
  have K := least_of ho
  have src : ∀ k ∈ leastA [] ms, ∃ s ∈ ss, k = mask F s ∧ setOf F k = s := fun k hk => by
    obtain ⟨s, h1, h2⟩ := List.mem_map.mp (hp.mem_iff.mp (K.mem k hk))
    refine ⟨s, h1, h2.symm, ?_⟩
    rw [← h2]
    exact setOf_mask hF (hs s h1) (sF s h1)
  have mem : ∀ s ∈ out, s ∈ ss ∧ mask F s ∈ leastA [] ms := fun s h => by
    obtain ⟨k, hk, e⟩ := List.mem_map.mp (op.mem_iff.mp h)
    obtain ⟨s', h1, h2, h3⟩ := src k hk
    rw [h3] at e
    subst e
    exact ⟨h1, h2 ▸ hk⟩
  have nd : out.Nodup := by
    refine op.nodup_iff.mpr (List.Pairwise.map (R := fun a b => a ≠ b ∧ a ∈ leastA [] ms ∧ b ∈ leastA [] ms) _ (fun a b ⟨h, ha, hb⟩ e => ?_) ?_)
    · obtain ⟨s, _, h2, h3⟩ := src a ha
      obtain ⟨t, _, h4, h5⟩ := src b hb
      rw [h3, h5] at e
      exact h (by rw [h2, h4, e])
    · exact (List.Pairwise.and_mem.mp K.nd).imp fun ⟨h1, h2, h3⟩ => ⟨h3, h1, h2⟩
  refine ⟨⟨fun s h => hs s (mem s h).1, fun a ha b hb h => ?_, ?_⟩, fun s => ⟨fun ⟨t, h1, h2⟩ => ⟨t, (mem t h1).1, h2⟩, fun ⟨t, h1, h2⟩ => ?_⟩⟩
  · obtain ⟨a1, a2⟩ := mem a ha
    obtain ⟨b1, b2⟩ := mem b hb
    have e := K.anti a2 b2 ((sub_mask (hs a a1).nd (hs b b1).nd (sF a a1) (sF b b1)).mpr h)
    rw [← setOf_mask hF (hs a a1) (sF a a1), ← setOf_mask hF (hs b b1) (sF b b1), e]
  · refine (List.Pairwise.and oo nd).imp fun {a b} ⟨h1, h2⟩ => ?_
    rcases h : HT.lexLt (iN a) (iN b) with _ | _
    · exact absurd (lex_eq h h1) h2
    · rfl
  · obtain ⟨k, hk, s'⟩ := K.up (mask F t) (hp.mem_iff.mpr (List.mem_map.mpr ⟨t, h1, rfl⟩))
    obtain ⟨u, u1, u2, u3⟩ := src k hk
    refine ⟨u, op.mem_iff.mpr (List.mem_map.mpr ⟨k, hk, u3⟩), fun x hx => h2 x ?_⟩
    rw [u2] at s'
    exact (sub_mask (hs u u1).nd (hs t h1).nd (sF u u1) (sF t h1)).mp s' x hx
where
  lex_eq : ∀ {a b : List Nat}, HT.lexLt (iN a) (iN b) = false → HT.lexLt (iN b) (iN a) = false → a = b
  | [], [], _, _ => rfl
  | [], y :: b, h, _ => by rw [show iN [] = [] from rfl, show iN (y :: b) = (y : Int) :: iN b from rfl, HT.lexLt_nil_cons] at h; cases h
  | x :: a, [], _, h => by rw [show iN [] = [] from rfl, show iN (x :: a) = (x : Int) :: iN a from rfl, HT.lexLt_nil_cons] at h; cases h
  | x :: a, y :: b, h, h' => by
    rw [show iN (x :: a) = (x : Int) :: iN a from rfl, show iN (y :: b) = (y : Int) :: iN b from rfl, HT.lexLt_cons] at h h'
    by_cases e : x = y
    · subst e
      rw [if_pos rfl] at h h'
      rw [lex_eq h h']
    · rw [if_neg (by omega)] at h h'
      have h1 := of_decide_eq_false h
      have h2 := of_decide_eq_false h'
      omega
/-! ### above sums and products -/
theorem up_app (a b : List (List Nat)) (s : List Nat) : Up (a ++ b) s ↔ Up a s ∨ Up b s := by
  constructor
  · rintro ⟨t, ht, h⟩
    rcases List.mem_append.mp ht with c | c
    · exact .inl ⟨t, c, h⟩
    · exact .inr ⟨t, c, h⟩
  · rintro (⟨t, ht, h⟩ | ⟨t, ht, h⟩)
    · exact ⟨t, List.mem_append_left _ ht, h⟩
    · exact ⟨t, List.mem_append_right _ ht, h⟩
/-- the sets us are the unions of one of a and one of b -/
def Unions (a b us : List (List Nat)) : Prop := (∀ u ∈ us, ∃ x ∈ a, ∃ y ∈ b, ∀ z, z ∈ u ↔ z ∈ x ∨ z ∈ y) ∧ ∀ x ∈ a, ∀ y ∈ b, ∃ u ∈ us, ∀ z, z ∈ u ↔ z ∈ x ∨ z ∈ y
theorem up_unions {a b us : List (List Nat)} (h : Unions a b us) (s : List Nat) : Up us s ↔ Up a s ∧ Up b s := by
  constructor
  · rintro ⟨u, hu, hs⟩
    obtain ⟨x, hx, y, hy, e⟩ := h.1 u hu
    exact ⟨⟨x, hx, fun z hz => hs z ((e z).mpr (.inl hz))⟩, ⟨y, hy, fun z hz => hs z ((e z).mpr (.inr hz))⟩⟩
  · rintro ⟨⟨x, hx, h1⟩, ⟨y, hy, h2⟩⟩
    obtain ⟨u, hu, e⟩ := h.2 x hx y hy
    exact ⟨u, hu, fun z hz => ((e z).mp hz).elim (h1 z) (h2 z)⟩
end WS

set_option Elab.async false
set_option linter.all false
set_option maxRecDepth 100000
/-! Polynomials as lists of terms: coefficients, values, sums and products, canonical forms. -/
namespace PM
abbrev Mono := List (Nat × Nat)
abbrev Terms := List (Mono × Nat)
structure MCan (m : Mono) : Prop where
  asc : m.Pairwise fun a b => a.1 < b.1
  pos : ∀ x ∈ m, 1 ≤ x.2
/-- the exponent of a fact -/
def ex : Mono → Nat → Nat
  | [], _ => 0
  | (g, d) :: r, f => (if g = f then d else 0) + ex r f
theorem ex_zero {f : Nat} : ∀ {m : Mono}, (∀ x ∈ m, x.1 ≠ f) → ex m f = 0
  | [], _ => rfl
  | (g, d) :: r, h => by
    rw [ex, if_neg (h (g, d) (List.mem_cons_self ..)), Nat.zero_add]
    exact ex_zero fun x hx => h x (List.mem_cons_of_mem _ hx)
theorem MCan.tail {x : Nat × Nat} {m : Mono} (h : MCan (x :: m)) : MCan m := ⟨(List.pairwise_cons.mp h.asc).2, fun y hy => h.pos y (List.mem_cons_of_mem _ hy)⟩
theorem MCan.head_ex {g d : Nat} {m : Mono} (h : MCan ((g, d) :: m)) : ex m g = 0 := ex_zero fun x hx e => by
  have := (List.pairwise_cons.mp h.asc).1 x hx
  omega
theorem mono_ext : ∀ {a b : Mono}, MCan a → MCan b → (∀ f, ex a f = ex b f) → a = b
  | [], [], _, _, _ => rfl
  | [], (g, d) :: b, _, hb, h => by
    have h1 := h g
    rw [ex, ex, if_pos rfl, hb.head_ex] at h1
    have := hb.pos (g, d) (List.mem_cons_self ..)
    omega
  | (g, d) :: a, [], ha, _, h => by
    have h1 := h g
    rw [ex, ex, if_pos rfl, ha.head_ex] at h1
    have := ha.pos (g, d) (List.mem_cons_self ..)
    omega
  | (g, d) :: a, (g', d') :: b, ha, hb, h => by
    have pa := ha.pos (g, d) (List.mem_cons_self ..)
    have pb := hb.pos (g', d') (List.mem_cons_self ..)
    have e : g = g' := by
      rcases Nat.lt_trichotomy g g' with c | c | c
      · have h1 := h g
        rw [ex, ex, if_pos rfl, if_neg (by omega), ex_zero (m := b) (fun x hx e => by have := (List.pairwise_cons.mp hb.asc).1 x hx; omega)] at h1
        omega
      · exact c
      · have h1 := h g'
        rw [ex, ex, if_pos rfl, if_neg (by omega), ex_zero (m := a) (fun x hx e => by have := (List.pairwise_cons.mp ha.asc).1 x hx; omega)] at h1
        omega
    subst e
    have h1 := h g
    rw [ex, ex, if_pos rfl, if_pos rfl, ha.head_ex, hb.head_ex] at h1
    have ed : d = d' := by omega
    subst ed
    rw [mono_ext ha.tail hb.tail fun f => by
      have := h f
      rw [ex, ex] at this
      omega]
/-- one more power -/
def mput : Mono → Nat → Nat → Mono
  | [], f, e => [(f, e)]
  | (g, d) :: r, f, e => if f < g then (f, e) :: (g, d) :: r else if f = g then (g, d + e) :: r else (g, d) :: mput r f e
theorem ex_mput (f e h : Nat) : ∀ m : Mono, ex (mput m f e) h = ex m h + if f = h then e else 0
  | [] => by rw [mput, ex, Nat.add_comm]; rfl
  | (g, d) :: r => by
    rw [mput]
    split
    · rw [ex, ex]; omega
    · split
      · rename_i c1 c2
        subst c2
        rw [ex, ex]
        by_cases c : f = h
        · rw [if_pos c, if_pos c, if_pos c]; omega
        · rw [if_neg c, if_neg c, if_neg c]; omega
      · rw [ex, ex, ex_mput f e h r]; omega
theorem mput_mem {f e : Nat} {x : Nat × Nat} : ∀ {m : Mono}, x ∈ mput m f e → x.1 = f ∨ ∃ y ∈ m, y.1 = x.1
  | [], h => .inl (by rw [mput] at h; rw [List.mem_singleton.mp h])
  | (g, d) :: r, h => by
    rw [mput] at h
    split at h
    · rcases List.mem_cons.mp h with rfl | h
      · exact .inl rfl
      · exact .inr ⟨x, h, rfl⟩
    · split at h
      · rcases List.mem_cons.mp h with rfl | h
        · exact .inr ⟨(g, d), List.mem_cons_self .., rfl⟩
        · exact .inr ⟨x, List.mem_cons_of_mem _ h, rfl⟩
      · rcases List.mem_cons.mp h with rfl | h
        · exact .inr ⟨_, List.mem_cons_self .., rfl⟩
        · rcases mput_mem h with h | ⟨y, hy, e⟩
          · exact .inl h
          · exact .inr ⟨y, List.mem_cons_of_mem _ hy, e⟩
theorem mput_can {f e : Nat} (he : 1 ≤ e) : ∀ {m : Mono}, MCan m → MCan (mput m f e)
  | [], _ => ⟨List.pairwise_singleton .., fun x h => by rw [mput] at h; rw [List.mem_singleton.mp h]; exact he⟩
  | (g, d) :: r, h => by
    have hg := (List.pairwise_cons.mp h.asc).1
    have pd := h.pos (g, d) (List.mem_cons_self ..)
    rw [mput]
    split
    · rename_i c
      refine ⟨List.pairwise_cons.mpr ⟨fun x hx => ?_, h.asc⟩, fun x hx => ?_⟩
      · rcases List.mem_cons.mp hx with rfl | hx
        · exact c
        · exact Nat.lt_trans c (hg x hx)
      · rcases List.mem_cons.mp hx with rfl | hx
        · exact he
        · exact h.pos x hx
    · split
      · refine ⟨List.pairwise_cons.mpr ⟨hg, h.tail.asc⟩, fun x hx => ?_⟩
        rcases List.mem_cons.mp hx with rfl | hx
        · show 1 ≤ d + e; omega
        · exact h.tail.pos x hx
      · rename_i c1 c2
        have ih := mput_can (f := f) he h.tail
        refine ⟨List.pairwise_cons.mpr ⟨fun x hx => ?_, ih.asc⟩, fun x hx => ?_⟩
        · rcases mput_mem hx with e | ⟨y, hy, e⟩
          · show g < x.1; omega
          · show g < x.1
            have := hg y hy
            omega
        · rcases List.mem_cons.mp hx with rfl | hx
          · exact pd
          · exact ih.pos x hx
def mmul (a b : Mono) : Mono := b.foldl (fun acc x => mput acc x.1 x.2) a
theorem ex_mmul (h : Nat) : ∀ b a : Mono, ex (mmul a b) h = ex a h + ex b h
  | [], a => rfl
  | (f, e) :: b, a => by
    show ex (mmul (mput a f e) b) h = _
    rw [ex_mmul h b, ex_mput, ex]; omega
theorem mmul_can : ∀ {b a : Mono}, MCan a → MCan b → MCan (mmul a b)
  | [], _, h, _ => h
  | (f, e) :: b, a, ha, hb => mmul_can (b := b) (mput_can (hb.pos (f, e) (List.mem_cons_self ..)) ha) hb.tail
/-! ### values -/
def ev (φ : Nat → Int) : Mono → Int
  | [] => 1
  | (f, e) :: r => φ f ^ e * ev φ r
theorem ev_mput (φ : Nat → Int) (f e : Nat) : ∀ m : Mono, ev φ (mput m f e) = ev φ m * φ f ^ e
  | [] => by rw [mput, ev, Int.mul_comm]; rfl
  | (g, d) :: r => by
    rw [mput]
    split
    · rw [ev, ev, Int.mul_comm]
    · split
      · rename_i c1 c2
        subst c2
        rw [ev, ev, Int.pow_add, Int.mul_assoc, Int.mul_assoc, Int.mul_comm (φ f ^ e)]
      · rw [ev, ev, ev_mput φ f e r, Int.mul_assoc]
theorem ev_mmul (φ : Nat → Int) : ∀ b a : Mono, ev φ (mmul a b) = ev φ a * ev φ b
  | [], a => (Int.mul_one _).symm
  | (f, e) :: b, a => by
    show ev φ (mmul (mput a f e) b) = _
    rw [ev_mmul φ b, ev_mput, ev, Int.mul_assoc]
/-! ### lists of terms -/
def sumL (φ : Mono → Int) : Terms → Int
  | [] => 0
  | (m, c) :: r => (c : Int) * φ m + sumL φ r
def coef : Terms → Mono → Nat
  | [], _ => 0
  | (n, c) :: r, m => (if n = m then c else 0) + coef r m
theorem sumL_app (φ : Mono → Int) : ∀ a b : Terms, sumL φ (a ++ b) = sumL φ a + sumL φ b
  | [], b => (Int.zero_add _).symm
  | (m, c) :: a, b => by
    show (c : Int) * φ m + sumL φ (a ++ b) = (c : Int) * φ m + sumL φ a + sumL φ b
    rw [sumL_app φ a b, Int.add_assoc]
theorem coef_app (m : Mono) : ∀ a b : Terms, coef (a ++ b) m = coef a m + coef b m
  | [], b => (Nat.zero_add _).symm
  | (n, c) :: a, b => by
    show (if n = m then c else 0) + coef (a ++ b) m = _
    rw [coef_app m a b, coef, Nat.add_assoc]
theorem coef_sum (m : Mono) : ∀ a : Terms, (coef a m : Int) = sumL (fun n => if n = m then 1 else 0) a
  | [] => rfl
  | (n, c) :: a => by
    rw [coef, sumL, ← coef_sum m a]
    by_cases h : n = m
    · rw [if_pos h, if_pos h]; omega
    · rw [if_neg h, if_neg h]; omega
def del (m : Mono) (L : Terms) : Terms := L.filter fun x => !decide (x.1 = m)
theorem del_len (m : Mono) (L : Terms) : (del m L).length ≤ L.length := List.length_filter_le ..
theorem del_hit {m : Mono} {c : Nat} {L : Terms} : del m ((m, c) :: L) = del m L := List.filter_cons_of_neg (by simp)
theorem del_miss {m n : Mono} {c : Nat} {L : Terms} (h : ¬ n = m) : del m ((n, c) :: L) = (n, c) :: del m L := List.filter_cons_of_pos (by simp [h])
theorem sum_del (φ : Mono → Int) (m : Mono) : ∀ L : Terms, sumL φ L = (coef L m : Int) * φ m + sumL φ (del m L)
  | [] => by rw [coef]; show (0 : Int) = ((0 : Nat) : Int) * φ m + 0; rw [Int.natCast_zero, Int.zero_mul]; rfl
  | (n, c) :: L => by
    by_cases h : n = m
    · subst h
      rw [del_hit, sumL, coef, if_pos rfl, sum_del φ n L, Int.natCast_add, Int.add_mul, Int.add_assoc]
    · rw [del_miss h, sumL, sumL, coef, if_neg h, Nat.zero_add, sum_del φ m L]
      omega
theorem coef_del (m n : Mono) : ∀ L : Terms, coef (del m L) n = if n = m then 0 else coef L n
  | [] => by split <;> rfl
  | (k, c) :: L => by
    by_cases h : k = m
    · subst h
      rw [del_hit, coef_del k n L]
      by_cases e : n = k
      · rw [if_pos e, if_pos e]
      · rw [if_neg e, if_neg e, coef, if_neg (fun z => e z.symm), Nat.zero_add]
    · rw [del_miss h, coef, coef_del m n L]
      by_cases e : n = m
      · subst e
        rw [if_pos rfl, if_pos rfl, if_neg h]
      · rw [if_neg e, if_neg e, coef]
theorem sum_none (φ : Mono → Int) : ∀ L : Terms, (∀ m, coef L m = 0) → sumL φ L = 0
  | [], _ => rfl
  | (n, c) :: L, h => by
    have h1 := h n
    rw [coef, if_pos rfl] at h1
    have hc : c = 0 := by omega
    rw [sumL, sum_none φ L fun m => by have := h m; rw [coef] at this; omega, hc]
    simp
/-- sums depend on the coefficients alone -/
theorem lin (φ : Mono → Int) : ∀ (k : Nat) (L L' : Terms), L.length ≤ k → (∀ m, coef L m = coef L' m) → sumL φ L = sumL φ L'
  | _, [], L', _, h => (sum_none φ L' fun m => (h m).symm).symm
  | 0, _ :: _, _, hl, _ => absurd hl (Nat.not_succ_le_zero _)
  | k + 1, (m, c) :: L, L', hl, h => by
    rw [sum_del φ m ((m, c) :: L), sum_del φ m L', h m, del_hit, lin φ k (del m L) (del m L') (Nat.le_trans (del_len m L) (by simpa using hl)) fun n => by
      have := h n
      rw [coef_del, coef_del]
      by_cases e : n = m
      · rw [if_pos e, if_pos e]
      · rw [if_neg e, if_neg e, ← this, coef, if_neg (fun z => e z.symm), Nat.zero_add]]
theorem linear (φ : Mono → Int) {L L' : Terms} (h : ∀ m, coef L m = coef L' m) : sumL φ L = sumL φ L' := lin φ L.length L L' (Nat.le_refl _) h
def tmul (a b : Terms) : Terms := a.flatMap fun x => b.map fun y => (mmul x.1 y.1, x.2 * y.2)
theorem sum_one (φ : Mono → Int) (x : Mono × Nat) : ∀ b : Terms, sumL φ (b.map fun y => (mmul x.1 y.1, x.2 * y.2)) = (x.2 : Int) * sumL (fun n => φ (mmul x.1 n)) b
  | [] => (Int.mul_zero _).symm
  | (n, c) :: b => by
    show ((x.2 * c : Nat) : Int) * φ (mmul x.1 n) + sumL φ (b.map fun y => (mmul x.1 y.1, x.2 * y.2)) = _
    rw [sum_one φ x b, sumL, Int.mul_add, Int.natCast_mul, Int.mul_assoc]
theorem sum_tmul (φ : Mono → Int) (b : Terms) : ∀ a : Terms, sumL φ (tmul a b) = sumL (fun m => sumL (fun n => φ (mmul m n)) b) a
  | [] => rfl
  | (m, c) :: a => by
    show sumL φ ((b.map fun y => (mmul m y.1, c * y.2)) ++ tmul a b) = _
    rw [sumL_app, sum_tmul φ b a, sum_one φ (m, c) b, sumL]
theorem coefI {L L' : Terms} (h : ∀ m, sumL (fun n => if n = m then 1 else 0) L = sumL (fun n => if n = m then 1 else 0) L') (m : Mono) : coef L m = coef L' m := by
  have := h m
  rw [← coef_sum, ← coef_sum] at this
  omega
theorem tmul_congr {a a' b b' : Terms} (ha : ∀ m, coef a m = coef a' m) (hb : ∀ m, coef b m = coef b' m) (m : Mono) : coef (tmul a b) m = coef (tmul a' b') m := by
  refine coefI (fun m => ?_) m
  rw [sum_tmul, sum_tmul, linear _ ha]
  congr 1
  funext n
  exact linear _ hb
theorem tmul_add (a b c : Terms) (m : Mono) : coef (tmul a (b ++ c)) m = coef (tmul a b) m + coef (tmul a c) m := by
  have : coef (tmul a (b ++ c)) m = coef (tmul a b ++ tmul a c) m := by
    refine coefI (fun m => ?_) m
    rw [sumL_app, sum_tmul, sum_tmul, sum_tmul]
    induction a with
    | nil => rfl
    | cons x a ih =>
      obtain ⟨k, d⟩ := x
      rw [sumL, sumL, sumL, ih, sumL_app, Int.mul_add]
      omega
  rw [this, coef_app]
theorem tmul_one (a : Terms) (m : Mono) : coef (tmul a [([], 1)]) m = coef a m := by
  refine coefI (fun m => ?_) m
  rw [sum_tmul]
  congr 1
  funext n
  show ((1 : Nat) : Int) * _ + 0 = _
  rw [Int.natCast_one, Int.one_mul, Int.add_zero]
  rfl
theorem tmul_nil (a : Terms) : tmul a [] = [] := by
  induction a with
  | nil => rfl
  | cons x a ih => exact ih
theorem val_tmul (φ : Nat → Int) (a b : Terms) : sumL (ev φ) (tmul a b) = sumL (ev φ) a * sumL (ev φ) b := by
  rw [sum_tmul]
  induction a with
  | nil => exact (Int.zero_mul _).symm
  | cons x a ih =>
    obtain ⟨k, d⟩ := x
    rw [sumL, sumL, ih, Int.add_mul]
    congr 1
    have : ∀ b : Terms, sumL (fun n => ev φ (mmul k n)) b = ev φ k * sumL (ev φ) b := by
      intro b
      induction b with
      | nil => exact (Int.mul_zero _).symm
      | cons y b ih2 =>
        obtain ⟨n, c⟩ := y
        rw [sumL, sumL, ih2, ev_mmul, Int.mul_add, ← Int.mul_assoc, Int.mul_comm (c : Int) (ev φ k), Int.mul_assoc, ← Int.mul_assoc (ev φ k), Int.mul_comm (ev φ k) (c : Int), Int.mul_assoc, Int.mul_left_comm]
    rw [this, Int.mul_assoc]
/-! ### canonical -/
structure PCan (lt : Mono → Mono → Prop) (p : Terms) : Prop where
  srt : p.Pairwise fun a b => lt a.1 b.1
  mc : ∀ x ∈ p, MCan x.1
  pos : ∀ x ∈ p, 1 ≤ x.2
theorem coef_none {m : Mono} : ∀ {p : Terms}, (∀ x ∈ p, x.1 ≠ m) → coef p m = 0
  | [], _ => rfl
  | (n, c) :: p, h => by
    rw [coef, if_neg (h (n, c) (List.mem_cons_self ..)), Nat.zero_add]
    exact coef_none fun x hx => h x (List.mem_cons_of_mem _ hx)
theorem coef_at {m : Mono} {c : Nat} : ∀ {p : Terms}, (p.map (·.1)).Nodup → (m, c) ∈ p → coef p m = c
  | (n, d) :: p, nd, h => by
    obtain ⟨n1, n2⟩ := List.nodup_cons.mp (show (n :: p.map (·.1)).Nodup from nd)
    rcases List.mem_cons.mp h with e | h
    · cases e
      rw [coef, if_pos rfl, coef_none (fun x hx (e : x.1 = m) => n1 (by rw [← e]; exact List.mem_map.mpr ⟨x, hx, rfl⟩)), Nat.add_zero]
    · rw [coef, if_neg (fun (z : n = m) => n1 (by rw [z]; exact List.mem_map.mpr ⟨(m, c), h, rfl⟩)), Nat.zero_add, coef_at n2 h]
theorem coef_in {m : Mono} : ∀ {p : Terms}, 1 ≤ coef p m → ∃ c, (m, c) ∈ p
  | (n, d) :: p, h => by
    by_cases e : n = m
    · exact ⟨d, e ▸ List.mem_cons_self ..⟩
    · rw [coef, if_neg e, Nat.zero_add] at h
      obtain ⟨c, hc⟩ := coef_in h
      exact ⟨c, List.mem_cons_of_mem _ hc⟩
theorem PCan.nd {lt : Mono → Mono → Prop} {p : Terms} (as : ∀ a b, lt a b → ¬ lt b a) (h : PCan lt p) : (p.map (·.1)).Nodup :=
  List.pairwise_map.mpr (h.srt.imp fun {a b} l (e : a.1 = b.1) => as _ _ l (by rw [e] at l ⊢; exact l))
theorem can_ext {lt : Mono → Mono → Prop} (as : ∀ a b, lt a b → ¬ lt b a) {p q : Terms} (hp : PCan lt p) (hq : PCan lt q) (h : ∀ m, coef p m = coef q m) : p = q := by
  have go : ∀ {p q : Terms}, PCan lt p → PCan lt q → (∀ m, coef p m = coef q m) → ∀ x, x ∈ p → x ∈ q := fun {p q} hp hq h x hx => by
    obtain ⟨m, c⟩ := x
    have e := coef_at (hp.nd as) hx
    have p1 := hp.pos (m, c) hx
    obtain ⟨d, hd⟩ := coef_in (p := q) (m := m) (by rw [← h, e]; exact p1)
    have e2 := coef_at (hq.nd as) hd
    rw [← h, e] at e2
    rw [e2]
    exact hd
  exact WS.pw_ext (fun a b l => as _ _ l) hp.srt hq.srt fun x => ⟨go hp hq h x, go hq hp (fun m => (h m).symm) x⟩
end PM

set_option Elab.async false
set_option linter.all false
set_option maxRecDepth 100000
set_option maxHeartbeats 4000000
/-! all(.. for ..), any(.. for ..): the element is any expression that the reading serves. -/
namespace EwG
open PySem PySem.Spec PyProof.Rows L2 Ew GxR

/-- the context of a generator expression's frame -/
abbrev gx (X : Cx) (A1 : Around) (s : Shared) (H : Hp) (cenv : Env) (fp : List Addr) (pn : List (Addr × Obj)) : Cx :=
  { X with A := A1, s_0 := s, H_0 := H, env := cenv, outer := X.stack, stack := cenv :: X.stack, ex := fp, fn := fun _ => false, calm := true, pn := pn, xe := fun _ _ => False }

theorem inv_same {X : Cx} {pins : List (Addr × Obj)} {σ : L2.St} {H : Hp} {s s' : Shared} (I : Inv X pins σ H s) (hh : s'.heap = s.heap) (ho : s'.os = s.os) (hb : AllBare s'.gens) : Inv X pins σ H s' := by
  obtain ⟨h', g', d', t', o'⟩ := s'
  have e1 : h' = s.heap := hh
  have e2 : o' = s.os := ho
  subst e1 e2
  exact ⟨I.ok, I.os, hb, I.base, I.loc, I.cell, I.free, I.freeC, I.pin, I.hok, I.len⟩

section
variable {X : Cx} {pins : List (Addr × Obj)} {σ : L2.St} {H : Hp} {s : Shared}
abbrev genv (X : Cx) (scope : Scope) (C : Addr) (code : Value) : Env := genEnv scope (cloFrom X.env.cells scope.names []) C code builtinsNs X.env

theorem gen_start {scope : Scope} {own : List (Str × Nat)} {fp : List Addr} {A1 : Around} {h' : Heap} {obj : Obj} {code : Value} {m : Str → Option Value} {g' : Array GenState} {t' : Nat}
    (I : Inv X pins σ H s) (ok : BlkOk X.N X.env.scope scope own) (hcell : ∀ y ∈ scope.names, y.2 ≠ .cell) (hN : X.N.Nodup) (hfp : ∀ b ∈ fp, FpOk X pins H b ∧ b < s.heap.objs.size)
    (hA : A1.handled = none) (hfr : A1.frames = some (genv X scope s.heap.objs.size code :: X.stack)) (hn' : h'.Ns s.heap.objs.size m) (kp0 : ∀ b o, s.heap.get? b = some o → h'.get? b = some o) (hs : h'.objs.size = s.heap.objs.size + 1)
    (hob : (h'.push obj).get? h'.objs.size = some obj) (hod : ∀ v, obj.data ≠ .cell v) (hg : AllBare g') :
    Inv (gx X A1 s H (genv X scope s.heap.objs.size code) fp [(h'.objs.size, obj)]) [] (wipe σ (own.map (·.2))) H { s with heap := h'.push obj, gens := g', toks := t' } := by
  have hfree : ∀ y ∈ scope.names, y.2 = .free → ∃ c, X.env.cells.lookup y.1 = some c := fun y hy e => by
    rcases ok.free y hy e with k | k
    · exact I.ok.has _ (.inl k)
    · exact I.ok.has _ (.inr k)
  have kp : ∀ b o, s.heap.get? b = some o → (h'.push obj).get? b = some o := fun b o e => Heap.get?_push_of_some _ (kp0 b o e)
  generalize hcenv : genv X scope s.heap.objs.size code = cenv at hfr
  have hL : cenv.locals = s.heap.objs.size := by rw [← hcenv]; rfl
  have hF : cenv.frame = some cenv.locals := by rw [← hcenv]; rfl
  have hcl : cenv.cells = cloFrom X.env.cells scope.names [] := by rw [← hcenv]; rfl
  have hsc : cenv.scope = scope := by rw [← hcenv]; rfl
  have cm : ∀ {y c}, cenv.cells.lookup y = some c → X.env.cells.lookup y = some c ∧ c < s.heap.objs.size := fun {y c} hm => by
    rw [hcl] at hm
    rcases cloFrom_mem (PySem.mem_of_lookup hm) with hm | ⟨h1, rfl⟩
    · cases hm
    · obtain ⟨c, hc⟩ := hfree _ h1 rfl
      rw [hc]
      obtain ⟨w, z⟩ := I.cell _ _ hc
      exact ⟨rfl, z.lt⟩
  have look : ∀ {y}, scope.names.lookup y = some .free → ∃ c, cenv.cells.lookup y = some c ∧ X.env.cells.lookup y = some c := fun {y} hl => by
    have hy : (y, NameKind.free) ∈ scope.names := PySem.mem_of_lookup hl
    obtain ⟨c', e'⟩ := mem_lookup (cloFrom_has (cells := X.env.cells) (acc := []) hy)
    rw [← hcl] at e'
    exact ⟨c', e', (cm e').1⟩
  have okB : (gx X A1 s H cenv fp [(h'.objs.size, obj)]).Ok := by
    refine ⟨I.ok.mod, by show cenv.scope.kind = _; rw [hsc]; exact ok.kind, by show cenv.globals = _; rw [← hcenv]; exact I.ok.glob, by show cenv.builtins = _; rw [← hcenv]; rfl, by show s.heap.objs.size ≤ cenv.locals; rw [hL]; exact Nat.le_refl _,
      fun y z c e1 e2 => I.ok.inj y z c (cm e1).1 (cm e2).1, fun y hy => ?_, fun y c z e => absurd (show false = true from z) Bool.false_ne_true, fun _ => hA, hfr, .inr ⟨rfl, hF⟩, fun b hb => ⟨?_, fun y c e z => ?_⟩, I.bs, Nat.le_trans I.ok.bsz I.sz, fun b o e hb => ?_, fun b hb z => ?_, I.stack, I.stkFree⟩
    · show ∃ c, cenv.cells.lookup y = some c
      rcases hy with hy | hy
      · have hy : cenv.scope.names.lookup y = some .cell := hy
        rw [hsc] at hy
        exact absurd rfl (hcell _ (PySem.mem_of_lookup hy))
      · have hy : cenv.scope.names.lookup y = some .free := hy
        rw [hsc] at hy
        obtain ⟨c, h1, _⟩ := look hy
        exact ⟨c, h1⟩
    · show b ≠ cenv.locals
      rw [hL]; exact Nat.ne_of_lt (hfp b hb).2
    · exact (hfp b hb).1.2.2.2.2.1 y c (cm e).1 z
    · rcases (hfp b hb).1.2.2.2.1 with z | z
      · exact I.ok.noex b o e z
      · exact absurd (Nat.lt_of_lt_of_le (Heap.lt_size e) (Nat.le_trans I.ok.bsz z)) (Nat.lt_irrefl _)
    · rcases List.mem_cons.mp (I.stkSub b z) with z | z
      · exact (hfp b hb).1.2.1 z
      · exact (hfp b hb).1.2.2.1 z
  refine ⟨okB, rfl, hg, Un.kept kp, ⟨m, ?_, fun i y av e1 e2 e3 => ?_⟩, fun y c e => ?_, ?_, fun y c e => ?_, fun p hp => ?_, I.hok.kept kp, by rw [wipe_length]; exact I.len⟩
  · show Heap.Ns _ cenv.locals _
    rw [hL]
    exact hn'.push _
  · obtain ⟨e2, hne⟩ := wipe_some e2
    have hfr : scope.names.lookup y = some .free := by
      have key : ∀ k, scope.names.lookup y = some k → k = .local ∨ k = .cell → False := fun k hk hh => by
        rcases ok.own _ (PySem.mem_of_lookup hk) hh with e' | e'
        · obtain ⟨p, hp, hpy⟩ := List.mem_map.mp e'
          have e3 := ok.ix p hp
          have : p.1 = y := hpy
          rw [this] at e3
          exact hne (List.mem_map.mpr ⟨p, hp, nodup_ix hN e3 e1⟩)
        · exact e' (List.mem_of_getElem? e1)
      have e3 : Vis cenv.scope y := e3
      rw [hsc] at e3
      rcases e3 with e3 | e3 | e3
      · exact (key _ e3 (.inl rfl)).elim
      · exact (key _ e3 (.inr rfl)).elim
      · exact e3
    obtain ⟨m, hn, hl⟩ := I.loc
    have hvis : Vis X.env.scope y := (ok.free _ (PySem.mem_of_lookup hfr) rfl).elim (fun k => .inr (.inl k)) (fun k => .inr (.inr k))
    obtain ⟨w, r, q⟩ := hl i y av e1 e2 hvis
    refine ⟨w, r, .inr ⟨.inr (by show cenv.scope.names.lookup y = _; rw [hsc]; exact hfr), ?_⟩⟩
    obtain ⟨c, h1, h2⟩ := look hfr
    rcases q with ⟨k, _⟩ | ⟨_, c', e', z⟩
    · have k : X.env.scope.names.lookup y = some .local := k
      rcases ok.free _ (PySem.mem_of_lookup hfr) rfl with k' | k' <;> rw [show X.env.scope.names.lookup y = _ from k'] at k <;> cases k
    · rw [h2] at e'; cases e'
      exact ⟨c, h1, z.keeps kp⟩
  · obtain ⟨w, z⟩ := I.cell y c (cm e).1
    exact ⟨w, z.keeps kp⟩
  · show H cenv.locals = none
    rw [hL]; exact I.hok.fresh (Nat.le_refl _)
  · exact I.freeC y c (cm e).1
  · have e : p = (h'.objs.size, obj) := by
      have hp : p ∈ [(h'.objs.size, obj)] ++ [] := hp
      simpa using hp
    subst e
    have le : s.heap.objs.size ≤ h'.objs.size := by omega
    refine ⟨hob, I.hok.fresh le, ?_, fun z => ?_, hod⟩
    · show h'.objs.size ≠ cenv.locals
      rw [hL, hs]; exact Nat.succ_ne_self _
    · rcases List.mem_cons.mp (I.stkSub _ z) with z | z
      · have := I.lt
        rw [← show h'.objs.size = X.env.locals from z] at this
        exact absurd (Nat.lt_of_lt_of_le this le) (Nat.lt_irrefl _)
      · exact I.nofs le z

/-- e: the truth that goes on (all: True, any: False) -/
def GW (J : It) (g : TG) (te : TE) (vs : List Nat) (σ : L2.St) (e : Bool) (Q : VK) (W : Nat → Nat → Hp → Prop) : Prop := ∀ i m H, W i m H →
  (J.stop i H ∧ Q (.bl e) H) ∨ (J.go i H ∧ ∀ x H', J.yld i H x H' → g x (wipe σ vs) H' fun σ2 H2 => wipe σ2 vs = wipe σ vs ∧ te σ2 H2 fun y H3 => ∃ b, y = .bl b ∧ (b = e → ∃ m', m' < m ∧ W (i + 1) m' H3) ∧ (b ≠ e → Q (.bl b) H3))
abbrev GP (Y : Cx) (e : Bool) (Q : VK) : Nat → Shared → Shared → Prop := fun _ _ s => ∃ σ H, Inv Y [] σ H s ∧ Q (.bl e) H
abbrev GRn (Y : Cx) (e : Bool) (Q : VK) : GenEnd := fun n s₀ r s => r = .ok .next ∧ GP Y e Q n s₀ s
def GYp (Y : Cx) (e : Bool) (Q : VK) : Protocol := fun n s₀ v s kap => ∃ b σ H, v = .bool b ∧ Inv Y [] σ H s ∧ (b ≠ e → Q (.bl b) H) ∧ (b = e → ∀ s' : Shared, s'.heap = s.heap → s'.os = s.os → AllBare s'.gens → kap (.send .none) s')

theorem seg_loop {Y : Cx} {A2 : Around} {elt tg iter : Expr} {scope : Scope} {pos : Pos} {it : Addr} {fp : List Addr} {tn : Nat → Heap → Prop} {J : It} {g : TG} {te : TE} {vs : List Nat} {σ : L2.St} {e : Bool} {Q : VK} {W : Nat → Nat → Hp → Prop}
    (hA : Y.A = A2.over (.compLoop (.GeneratorExp elt [⟨tg, iter, [], 0⟩] scope pos) 0 (.ref it) .none Y.env) []) (hex : Y.ex = fp) (hc : Y.calm = true) (hx : Y.xe = fun _ _ => False) (hpn : ∀ b ∈ fp, ∀ p ∈ Y.pn, p.1 ≠ b) (hco : Y.env.scope.isCoroutine = false)
    (T : Turn Y.prog Y.w Y.K tg J fp it tn) (pg : PG Y tg g) (pe : PE Y elt te) (hW : GW J g te vs σ e Q W) :
    ∀ (m i n : Nat) (s₀ s : Shared) (H : Hp), m < n → Inv Y [] (wipe σ vs) H s → tn i s.heap → (∀ b ∈ fp, H b = none) → W i m H →
      Seg (model Y.prog Y.w) A2 (GRn Y e Q) (GYp Y e Q) n s₀ (.compLoop (.GeneratorExp elt [⟨tg, iter, [], 0⟩] scope pos) 0 (.ref it) .none Y.env)
        ((model Y.prog Y.w).den (.compLoop (.GeneratorExp elt [⟨tg, iter, [], 0⟩] scope pos) 0 (.ref it) .none Y.env)) [] s := by
  have stat : ∀ {σ' : L2.St} {H' : Hp} {s' : Shared}, Inv Y [] σ' H' s' → (∀ b ∈ fp, H' b = none) → ∀ b ∈ fp, FpOk Y [] H' b := fun {σ' H' s'} I' hn b hb =>
    have hb' : b ∈ Y.ex := by rw [hex]; exact hb
    ⟨hn b hb, (I'.ok.exf b hb').1, I'.ok.exfs b hb', .inl hb', fun x c e => (I'.ok.exf b hb').2 x c e, fun p hp => hpn b hb p (by simpa using hp)⟩
  intro m
  induction m using Nat.strongRecOn with
  | ind m ih =>
    intro i n s₀ s H hmn I st hn w
    show Seg _ A2 _ _ _ s₀ _ ((compTurn (.GeneratorExp elt [⟨tg, iter, [], 0⟩] scope pos) 0 (.ref it) .none Y.env).onRaise (leaving Y.env)) [] s
    rw [compTurn_gen, Sem.onRaise_eq_wrap]
    refine seg_bind_wrap (wpAny_standAt ?_)
    rcases hW i m H w with ⟨stop, q⟩ | ⟨go, step⟩
    · refine seg_bind_wrap ?_
      rw [← hA]
      refine thnF (T.done Y rfl rfl rfl hc i [] s _ H (fun _ _ => False) I (stat I hn) st stop) fun r s6 ⟨hr, I6⟩ => ?_
      subst hr
      exact seg_end (.ok .next) ⟨rfl, _, H, I6, q⟩
    · refine seg_bind_wrap ?_
      rw [← hA]
      refine thnF (T.item Y rfl rfl rfl hc i [] s _ H (fun _ _ => False) I (stat I hn) st go) fun r s6 ⟨u, hr, h6⟩ => ?_
      subst hr
      refine seg_bind_wrap ?_
      rw [← hA]
      refine thnF h6 fun _ s7 ⟨x, H7, I7, r7, y7, st7, n7⟩ => ?_
      have I7' := I7.pinned (stat I7 n7) (T.obj _ _ st7)
      refine seg_bind_wrap ?_
      rw [← hA]
      have hpg := pg.run _ s7 _ H7 x u _ I7' r7 (step x H7 y7)
      rw [hx] at hpg
      refine thnF hpg fun _ s8 ⟨σ8, H8, I8, hw8, q8⟩ => ?_
      refine seg_bind_wrap ?_
      rw [← hA]
      refine wpAny_tests_nil ?_
      simp only [if_true]
      have hy : ∀ v, yieldOut Y.env v = yieldValue v := fun v => by simp only [yieldOut, hco, Bool.false_eq_true, if_false]
      simp only [hy]
      rw [Sem.bind_eq_wrap', Sem.bind_eq_wrap', Sem.wrap_wrap, Sem.wrap_wrap]
      refine seg_wrap ?_
      rw [← hA]
      have hpe := pe.run _ s8 σ8 H8 _ I8 q8
      rw [hx] at hpe
      refine thnF hpe fun z s9 ⟨y, H9, I9, r9, b, hyb, q9⟩ => ?_
      subst hyb
      have hz : z = .bool b := r9
      subst hz
      have pin' : ∀ c ∈ fp, ∀ o, s7.heap.get? c = some o → s9.heap.get? c = some o ∧ H9 c = none := fun c hb o e =>
        let z := I9.pin (c, o) (List.mem_append_right _ (List.mem_append_right _ (mem_pinsAt hb e)))
        ⟨z.1, z.2.1⟩
      have hl : (wipe σ vs).length = σ8.length := by rw [← hw8, wipe_length]
      have I10 : Inv Y [] (wipe σ vs) H9 s9 := (I9.unpinned (pins := [])).weak hl fun j v e => by
        rw [← hw8] at e
        exact (wipe_some e).1
      obtain ⟨n', rfl⟩ : ∃ n', n = n' + 1 := ⟨n - 1, by omega⟩
      refine seg_at (seg_yield rfl rfl rfl ⟨b, _, H9, rfl, I10, q9.2, fun hb s' hh ho hg => ?_⟩)
      obtain ⟨m', hm, w'⟩ := q9.1 hb
      refine seg_again rfl (ih m' hm (i + 1) n' s' s' H9 (by omega) (inv_same I10 hh ho hg) ?_ (fun c hc => ?_) w')
      · rw [hh]
        exact T.keep _ _ _ st7 fun c hb o e => (pin' c hb o e).1
      · obtain ⟨o, e, _⟩ := T.obj _ _ st7 c hc
        exact (pin' c hc o e).2

theorem seg_start {Y : Cx} {A2 : Around} {elt tg iter : Expr} {scope : Scope} {pos : Pos} {it : Addr} {fp : List Addr} {tn : Nat → Heap → Prop} {J : It} {e : Bool} {Q : VK} {n : Nat} {s₀ s : Shared}
    (T : Turn Y.prog Y.w Y.K tg J fp it tn) (st : tn 0 s.heap)
    (loop : Seg (model Y.prog Y.w) A2 (GRn Y e Q) (GYp Y e Q) n s₀ (.compLoop (.GeneratorExp elt [⟨tg, iter, [], 0⟩] scope pos) 0 (.ref it) .none Y.env)
        ((model Y.prog Y.w).den (.compLoop (.GeneratorExp elt [⟨tg, iter, [], 0⟩] scope pos) 0 (.ref it) .none Y.env)) [] s) :
    Seg (model Y.prog Y.w) A2 (GRn Y e Q) (GYp Y e Q) n s₀ (.compStart (.GeneratorExp elt [⟨tg, iter, [], 0⟩] scope pos) 0 (.ref it) .none Y.env)
        ((model Y.prog Y.w).den (.compStart (.GeneratorExp elt [⟨tg, iter, [], 0⟩] scope pos) 0 (.ref it) .none Y.env)) [] s := by
  show Seg _ A2 _ _ _ s₀ _ ((compStart (.GeneratorExp elt [⟨tg, iter, [], 0⟩] scope pos) 0 (.ref it) .none Y.env).onRaise (leaving Y.env)) [] s
  unfold compStart
  rw [Sem.onRaise_eq_wrap]
  show Seg _ A2 _ _ _ s₀ _ ((ask >>= _).wrap _ _ _ _) [] s
  refine seg_bind_wrap (wpAny_askSetting ?_)
  split
  · exact seg_again rfl loop
  · first
      | exact seg_bind_wrap (wpAny_rule (seg_bind_wrap (wpAny_standAt (seg_bind_wrap (T.self _ 0 s _ _ st (seg_again rfl loop))))))
      | (refine seg_bind_wrap (wpAny_rule ?_); show Seg _ A2 _ _ _ s₀ _ ((standAt iter.pos >>= _).wrap _ _ _ _) [] s; exact seg_bind_wrap (wpAny_standAt (seg_bind_wrap (T.self _ 0 s _ _ st (seg_again rfl loop)))))

theorem fin_heap {Y : Cx} {σ : L2.St} {H : Hp} {s₁ : Shared} {g : Nat} {h' : Heap} (I : Inv Y [] σ H s₁) (k : ∀ b o, s₁.heap.get? b = some o → h'.get? b = some o) : Inv Y [] σ H { s₁.setGen g .finished with heap := h' } :=
  inv_same (s' := { s₁.setGen g .finished with heap := h' }) (Inv.kept (t' := s₁.toks) I k) rfl rfl (allBare_setGen I.bare rfl)

/-- one step of the walk -/
theorem next_gen {Y : Cx} {A : Around} {a : Addr} {g n : Nat} {gs : GenState} {e : Bool} {Q : VK} {s : Shared} {Qo : Option Value → Shared → Prop} {E : Value → Shared → Prop} (hh : A.handled = none) (hroom : A.depth < recursionLimit)
    (hl : s.heap.NoLimit) (hg : s.heap.IsGen a g) (hgs : s.gens[g]? = some gs) (hb : AllBare s.gens)
    (hgo : ∀ s' : Shared, s'.heap = s.heap → s'.os = s.os → AllBare s'.gens → gs.Goes (model Y.prog Y.w) A.in1 (GRn Y e Q) (GYp Y e Q) n (.send .none) s')
    (hE : ∀ σ H s', Inv Y [] σ H s' → Q (.bl e) H → Qo none s')
    (hO : ∀ b σ H s', b ≠ e → Inv Y [] σ H s' → Q (.bl b) H → Qo (some (.bool b)) s')
    (hN : ∀ n' gs' σ H s', n = n' + 1 → Inv Y [] σ H s' → s'.gens[g]? = some gs' → (∀ s'' : Shared, s''.heap = s'.heap → s''.os = s'.os → AllBare s''.gens → gs'.Goes (model Y.prog Y.w) A.in1 (GRn Y e Q) (GYp Y e Q) n' (.send .none) s'') → Qo (some (.bool e)) s') :
    wpAny (model Y.prog Y.w) A (pyNext (.ref a)) Qo E s := by
  have hgl : g < s.gens.size := by
    rcases Nat.lt_or_ge g s.gens.size with h | h
    · exact h
    · rw [Array.getElem?_eq_none h] at hgs; cases hgs
  refine GenW.wpAny_gsz (Nat.le_refl s.gens.size) ?_
  refine wpAny_pyNext_genexpQ (P := GP Y e Q) hh hl hroom hg hgs (hgo _ rfl rfl (allBare_setGen hb rfl)) (fun v s₁ gs' hbr hY => ?_) (fun s₁ hP h' hk => ?_)
  · obtain ⟨b, σ, H, rfl, I, qne, qe⟩ := hY
    intro hsz
    have hsz1 : g < s₁.gens.size := by
      rw [GenW.setGen_size] at hsz
      omega
    have I' : Inv Y [] σ H (s₁.setGen g gs') := inv_same (s' := s₁.setGen g gs') I rfl rfl (allBare_setGen I.bare hbr)
    by_cases hbe : b = e
    · subst hbe
      have k := qe rfl
      cases n with
      | zero => exact False.elim (k s₁ rfl rfl I.bare)
      | succ n' =>
        refine hN n' gs' σ H _ rfl I' (setGen_self (gs := s₁.gens[g]) (Array.getElem?_eq_getElem hsz1)) fun s'' h1 h2 h3 => ?_
        exact k s'' h1 h2 h3
    · exact hO b σ H _ hbe I' (qne hbe)
  · obtain ⟨σ, H, I, q⟩ := hP
    intro _
    exact hE σ H _ (fin_heap I hk) q

theorem drv_all {Y : Cx} {A : Around} {a : Addr} {g : Nat} {Q : VK} {R : Result → Shared → Prop} {og : Obj} (hpn : (a, og) ∈ Y.pn) (hig : ∀ h : Heap, h.get? a = some og → h.IsGen a g)
    (hh : A.in1.handled = none) (hroom : A.in1.depth < recursionLimit) (hR : ∀ b σ H s', Inv Y [] σ H s' → Q (.bl b) H → R (.ok (.ret (.bool b))) s') :
    ∀ (n : Nat) (gs : GenState) (σ : L2.St) (H : Hp) (s : Shared), Inv Y [] σ H s → s.gens[g]? = some gs →
      (∀ s' : Shared, s'.heap = s.heap → s'.os = s.os → AllBare s'.gens → gs.Goes (model Y.prog Y.w) A.in1.in1 (GRn Y true Q) (GYp Y true Q) n (.send .none) s') →
      codeAny (model Y.prog Y.w) A (.builtin "all.loop" ⟨[.ref a], []⟩) R s := by
  intro n
  induction n with
  | zero =>
    intro gs σ H s I hgs hgo
    refine codeAny_builtin F.entry_all_loop ?_
    rw [Around.under_plainId F.plain_all_loop _]
    show wpAny _ A.in1 (pyNext (.ref a) >>= _) _ _ s
    refine wpAny_bind (next_gen hh hroom I.nolimit (hig _ (I.pin _ (List.mem_append_left _ hpn)).1) hgs I.bare hgo (fun σ H s' I' q => ?_) (fun b σ H s' hb I' q => ?_) fun n' gs' σ H s' hn I' h1 h2 => absurd hn (Nat.succ_ne_zero n').symm)
    · exact wpAny_bind (wpAny_rule (wpAny_pure (hR true σ H s' I' q)))
    · have hb : b = false := by cases b <;> simp_all
      subst hb
      refine wpAny_bind (wpAny_holding (wpAny_truthy_bool ?_))
      refine wpAny_bind (wpAny_letGo ?_)
      simp only [Bool.false_eq_true, if_false]
      exact wpAny_bind (wpAny_rule (wpAny_pure (hR false σ H s' I' q)))
  | succ n ih =>
    intro gs σ H s I hgs hgo
    refine codeAny_builtin F.entry_all_loop ?_
    rw [Around.under_plainId F.plain_all_loop _]
    show wpAny _ A.in1 (pyNext (.ref a) >>= _) _ _ s
    refine wpAny_bind (next_gen hh hroom I.nolimit (hig _ (I.pin _ (List.mem_append_left _ hpn)).1) hgs I.bare hgo (fun σ H s' I' q => ?_) (fun b σ H s' hb I' q => ?_) fun n' gs' σ H s' hn I' h1 h2 => ?_)
    · exact wpAny_bind (wpAny_rule (wpAny_pure (hR true σ H s' I' q)))
    · have hb : b = false := by cases b <;> simp_all
      subst hb
      refine wpAny_bind (wpAny_holding (wpAny_truthy_bool ?_))
      refine wpAny_bind (wpAny_letGo ?_)
      simp only [Bool.false_eq_true, if_false]
      exact wpAny_bind (wpAny_rule (wpAny_pure (hR false σ H s' I' q)))
    · cases hn
      refine wpAny_bind (wpAny_holding (wpAny_truthy_bool ?_))
      refine wpAny_bind (wpAny_letGo ?_)
      simp only [if_true]
      exact wpAny_pure ⟨plainId_quiet F.plain_all_loop _, ih gs' σ H s' I' h1 h2⟩
theorem drv_any {Y : Cx} {A : Around} {a : Addr} {g : Nat} {Q : VK} {R : Result → Shared → Prop} {og : Obj} (hpn : (a, og) ∈ Y.pn) (hig : ∀ h : Heap, h.get? a = some og → h.IsGen a g)
    (hh : A.in1.handled = none) (hroom : A.in1.depth < recursionLimit) (hR : ∀ b σ H s', Inv Y [] σ H s' → Q (.bl b) H → R (.ok (.ret (.bool b))) s') :
    ∀ (n : Nat) (gs : GenState) (σ : L2.St) (H : Hp) (s : Shared), Inv Y [] σ H s → s.gens[g]? = some gs →
      (∀ s' : Shared, s'.heap = s.heap → s'.os = s.os → AllBare s'.gens → gs.Goes (model Y.prog Y.w) A.in1.in1 (GRn Y false Q) (GYp Y false Q) n (.send .none) s') →
      codeAny (model Y.prog Y.w) A (.builtin "any.loop" ⟨[.ref a], []⟩) R s := by
  intro n
  induction n with
  | zero =>
    intro gs σ H s I hgs hgo
    refine codeAny_builtin F.entry_any_loop ?_
    rw [Around.under_plainId F.plain_any_loop _]
    show wpAny _ A.in1 (pyNext (.ref a) >>= _) _ _ s
    refine wpAny_bind (next_gen hh hroom I.nolimit (hig _ (I.pin _ (List.mem_append_left _ hpn)).1) hgs I.bare hgo (fun σ H s' I' q => ?_) (fun b σ H s' hb I' q => ?_) fun n' gs' σ H s' hn I' h1 h2 => absurd hn (Nat.succ_ne_zero n').symm)
    · exact wpAny_bind (wpAny_rule (wpAny_pure (hR false σ H s' I' q)))
    · have hb : b = true := by cases b <;> simp_all
      subst hb
      refine wpAny_bind (wpAny_holding (wpAny_truthy_bool ?_))
      refine wpAny_bind (wpAny_letGo ?_)
      simp only [if_true]
      exact wpAny_bind (wpAny_rule (wpAny_pure (hR true σ H s' I' q)))
  | succ n ih =>
    intro gs σ H s I hgs hgo
    refine codeAny_builtin F.entry_any_loop ?_
    rw [Around.under_plainId F.plain_any_loop _]
    show wpAny _ A.in1 (pyNext (.ref a) >>= _) _ _ s
    refine wpAny_bind (next_gen hh hroom I.nolimit (hig _ (I.pin _ (List.mem_append_left _ hpn)).1) hgs I.bare hgo (fun σ H s' I' q => ?_) (fun b σ H s' hb I' q => ?_) fun n' gs' σ H s' hn I' h1 h2 => ?_)
    · exact wpAny_bind (wpAny_rule (wpAny_pure (hR false σ H s' I' q)))
    · have hb : b = true := by cases b <;> simp_all
      subst hb
      refine wpAny_bind (wpAny_holding (wpAny_truthy_bool ?_))
      refine wpAny_bind (wpAny_letGo ?_)
      simp only [if_true]
      exact wpAny_bind (wpAny_rule (wpAny_pure (hR true σ H s' I' q)))
    · cases hn
      refine wpAny_bind (wpAny_holding (wpAny_truthy_bool ?_))
      refine wpAny_bind (wpAny_letGo ?_)
      simp only [Bool.false_eq_true, if_false]
      exact wpAny_pure ⟨plainId_quiet F.plain_any_loop _, ih gs' σ H s' I' h1 h2⟩

/-- the around of the generator's body, of a consumer that is called at A -/
abbrev gA (A : Around) (elt tg iter : Expr) (scope : Scope) (pos : Pos) (it : Addr) (cenv : Env) : Around := A.in1.in1.over (.compLoop (.GeneratorExp elt [⟨tg, iter, [], 0⟩] scope pos) 0 (.ref it) .none cenv) []
theorem gA_room {k : Nat} {A : Around} {elt tg iter : Expr} {scope : Scope} {pos : Pos} {it : Addr} {cenv : Env} (r : Room (k + 1) A) : Room k (gA A elt tg iter scope pos it cenv) :=
  ⟨r.hd, by have := r.dp; show A.depth + 0 + 1 + 3 * k + 5 < _; omega, by have := r.un; show A.units + 1 + 1 + 0 + 3 + 16 * k + 200 < _; omega⟩
theorem gA_frames {A : Around} {elt tg iter : Expr} {scope : Scope} {pos : Pos} {it : Addr} {cenv : Env} {l : List Env} (h : A.frames = some l) : (gA A elt tg iter scope pos it cenv).frames = some (cenv :: l) := by
  show pushEnvs [cenv] (pushEnvs [] A.frames) = _
  rw [h]
  rfl

/-- the generator at a, that has not begun -/
def Ready2 (X : Cx) (pins : List (Addr × Obj)) (σ : L2.St) (e : Bool) (Q : VK) (a : Addr) (s5 : Shared) : Prop :=
  ∃ (A1 : Around) (s4 : Shared) (H4 : Hp) (cenv : Env) (fp : List Addr) (pn : List (Addr × Obj)) (og : Obj) (g : Nat) (gs : GenState) (σ' : L2.St) (H5 : Hp) (n : Nat),
    (a, og) ∈ pn ∧ (∀ h : Heap, h.get? a = some og → h.IsGen a g) ∧ Inv (gx X A1 s4 H4 cenv fp pn) [] σ' H5 s5 ∧ s5.gens[g]? = some gs ∧
    (∀ s' : Shared, s'.heap = s5.heap → s'.os = s5.os → AllBare s'.gens → gs.Goes (model X.prog X.w) X.A.in1.in1 (GRn (gx X A1 s4 H4 cenv fp pn) e Q) (GYp (gx X A1 s4 H4 cenv fp pn) e Q) n (.send .none) s') ∧
    ∀ σ' H' s', Inv (gx X A1 s4 H4 cenv fp pn) [] σ' H' s' → Inv X pins σ H' s'

/-- all(.., any(..: the reading; e: the truth that goes on -/
def tGen (e : Bool) (P : Addr) (wi : TI) (g : TG) (te : TE) (vs : List Nat) : TE := fun σ H Q => wi σ H fun J H1 => TabG H1 P ∧ ∀ H2, Tabbed P H1 H2 → ∃ W : Nat → Nat → Hp → Prop, (∃ m, W 0 m H2) ∧ GW J g te vs σ e Q W

theorem gen_make {c P : Addr} {elt tg iter : Expr} {gpos : Pos} {scope : Scope} {own : List (Str × Nat)} {wi : TI} {g : TG} {te : TE} {k : Nat} {e : Bool} {Q : VK} {Q' : Value → Shared → Prop}
    (hr : Room (k + 1) X.A) (TB : TabB X.base X.mg c P) (hcode : X.env.code = .ref c) (hN : X.N.Nodup) (ok : BlkOk X.N X.env.scope scope own) (hcell : ∀ y ∈ scope.names, y.2 ≠ .cell) (hco : scope.isCoroutine = false) (h0 : scope.names.lookup (".0" : Str) = some NameKind.local)
    (hi : PI X tg iter wi)
    (hpg : ∀ (A1 : Around) (s : Shared) (H : Hp) (C : Addr) (code : Value) (fp : List Addr) (pn : List (Addr × Obj)), PG (gx X A1 s H (genv X scope C code) fp pn) tg g)
    (hpe : ∀ (A1 : Around) (s : Shared) (H : Hp) (C : Addr) (code : Value) (fp : List Addr) (pn : List (Addr × Obj)), Room k A1 → PE (gx X A1 s H (genv X scope C code) fp pn) elt te)
    (hs : ∀ v, genFold iter X.env v = pure v) (I : Inv X pins σ H s) (h : tGen e P wi g te (own.map (·.2)) σ H Q)
    (hQ : ∀ a s5, Ready2 X pins σ e Q a s5 → Q' (.ref a) s5) :
    wpAny (model X.prog X.w) X.A (eval (.GeneratorExp elt [⟨tg, iter, [], 0⟩] scope gpos) X.env) Q' X.xe s := by
  have hfree : ∀ y ∈ scope.names, y.2 = .free → ∃ c, X.env.cells.lookup y.1 = some c := fun y hy e => by
    rcases ok.free y hy e with k | k
    · exact I.ok.has _ (.inl k)
    · exact I.ok.has _ (.inr k)
  refine wpAny_GeneratorExp_make hco (closure_ok hfree) hcell h0 ok.kind (by have := hr.dp; omega) ?_ hs
  refine thn (hi.run pins s σ H _ I h) fun xv s1 hx => thn hx fun itv s2 h2 => ?_
  obtain ⟨it, fp, tn, J, H2, e2, I2, T, st2, f2, ⟨ps, hP, ht⟩, q⟩ := h2
  subst e2
  have hPs : s2.heap.get? P = some { cls := .none, data := .fields ps } := I2.hok P _ hP
  have cd : PySem.W.CodeHd s2.heap c P := TB.code.keeps fun b u e => I2.bk b u e
  have sz : ∀ b ∈ fp, b < s2.heap.objs.size := fun b hb => by
    obtain ⟨o, e, _⟩ := T.obj _ _ st2 b hb
    exact Heap.lt_size e
  have cont : ∀ (code : Value) (h3 : Heap) (tk : Nat) (ps' : Array Value), Heap.ExtBut P s2.heap h3 → s2.heap.objs.size ≤ h3.objs.size → h3.get? P = some { cls := .none, data := .fields ps' } → (∃ more, ps' = ps ++ more) → TriplesOk ps'.toList →
      wpAny (model X.prog X.w) X.A (builtinsFor X.env.globals X.env.builtins) (fun bi s₄ =>
        ∀ h', h'.Ns s₄.heap.objs.size (fun y => if y = ".0" then some (.ref it) else none) → Heap.SameBut s₄.heap.objs.size (s₄.heap.push { cls := .type "frame", data := .dict #[] }) h' →
          Q' (.ref h'.objs.size) { s₄ with
            gens := s₄.gens.push (.fresh (.compStart (.GeneratorExp elt [⟨tg, iter, [], 0⟩] scope gpos) 0 (.ref it) .none (genEnv scope (cloFrom X.env.cells scope.names []) s₄.heap.objs.size code bi X.env))),
            toks := s₄.toks + 1 + 1 + 1,
            heap := h'.push { cls := .type "generator", data := .fields #[.int s₄.gens.size 0, .str "<genexpr>" (s₄.toks + 1), .str (X.env.qual ++ "<genexpr>") (s₄.toks + 1 + 1)] } }) X.xe { s2 with heap := h3, toks := tk } := by
    intro code h3 tk ps' hx hsz hP3 hmore ht3
    obtain ⟨bm, ob, e1, e2, e3, e4, e5, e6, e7, e8⟩ := TB.bm
    have keep3 : ∀ b u, b ≠ P → s2.heap.get? b = some u → h3.get? b = some u := fun b u hb e => hx b u hb e
    refine wpAny_builtinsFor (m := X.mg) (by rw [I2.ok.glob]; exact (I2.mod.glob.keeps I2.bk).extBut hx TB.gP) e1 e2 (keep3 _ _ e4 (I2.bk _ _ e5)) e6 e7 e8 ?_
    obtain ⟨more, em⟩ := hmore
    have I4 : Inv X pins σ (upd H2 P (.tbl (ps ++ more))) { s2 with heap := h3, toks := tk } :=
      inv_tab (more := more) (h' := h3) (g' := s2.gens) (d' := s2.drawn) (t' := tk) I2 hP keep3 (by rw [← em]; exact hP3) I2.bare
    have nP : ∀ b ∈ fp, b ≠ P := fun b hb z => by
      have := (f2 b hb).1
      rw [z, hP] at this
      cases this
    have f4 : ∀ b ∈ fp, FpOk X pins (upd H2 P (.tbl (ps ++ more))) b ∧ b < h3.objs.size := fun b hb =>
      ⟨⟨by rw [upd_ne (nP b hb)]; exact (f2 b hb).1, (f2 b hb).2⟩, Nat.lt_of_lt_of_le (sz b hb) hsz⟩
    have st4 : tn 0 h3 := T.keep _ _ _ st2 fun b hb o e => keep3 b o (nP b hb) e
    obtain ⟨W, ⟨m0, w0⟩, gw⟩ := q _ ⟨⟨ps ++ more, upd_same, by rw [← em]; exact ht3⟩, fun b hb => upd_ne hb⟩
    intro h' hn' hs'
    have hn' : h'.Ns h3.objs.size (fun y => if y = ".0" then some (.ref it) else none) := hn'
    have hs' : Heap.SameBut h3.objs.size (h3.push { cls := .type "frame", data := .dict #[] }) h' := hs'
    have hsz' : h'.objs.size = h3.objs.size + 1 := by rw [hs'.1, Heap.size_push]
    have keep' : ∀ b o, h3.get? b = some o → h'.get? b = some o := fun b o e => hs'.extBut b o (Nat.ne_of_lt (Heap.lt_size e)) (Heap.get?_push_of_some _ e)
    generalize hcenv : genv X scope h3.objs.size code = cenv
    have I5 := gen_start (A1 := gA X.A elt tg iter scope gpos it cenv) (code := code) (t' := tk + 1 + 1 + 1)
      (obj := { cls := .type "generator", data := .fields #[.int s2.gens.size 0, .str "<genexpr>" (tk + 1), .str (X.env.qual ++ "<genexpr>") (tk + 1 + 1)] })
      (g' := s2.gens.push (.fresh (.compStart (.GeneratorExp elt [⟨tg, iter, [], 0⟩] scope gpos) 0 (.ref it) .none cenv)))
      I4 ok hcell hN f4 hr.hd (by rw [hcenv]; exact gA_frames I.ok.frames) hn' keep' hsz' (Heap.get?_push_size _ rfl) (fun v z => by cases z) (I2.bare.push rfl)
    have pg := hpg (gA X.A elt tg iter scope gpos it cenv) { s2 with heap := h3, toks := tk } (upd H2 P (.tbl (ps ++ more))) h3.objs.size code fp [(h'.objs.size, { cls := .type "generator", data := .fields #[.int s2.gens.size 0, .str "<genexpr>" (tk + 1), .str (X.env.qual ++ "<genexpr>") (tk + 1 + 1)] })]
    have pe := hpe (gA X.A elt tg iter scope gpos it cenv) { s2 with heap := h3, toks := tk } (upd H2 P (.tbl (ps ++ more))) h3.objs.size code fp [(h'.objs.size, { cls := .type "generator", data := .fields #[.int s2.gens.size 0, .str "<genexpr>" (tk + 1), .str (X.env.qual ++ "<genexpr>") (tk + 1 + 1)] })] (gA_room hr)
    have I5 : Inv (gx X (gA X.A elt tg iter scope gpos it cenv) { s2 with heap := h3, toks := tk } (upd H2 P (.tbl (ps ++ more))) (genv X scope h3.objs.size code) fp [(h'.objs.size, _)]) [] (wipe σ (own.map (·.2))) _ _ := I5
    rw [hcenv] at I5 pg pe
    have hcoE : cenv.scope.isCoroutine = false := by rw [← hcenv]; exact hco
    generalize hog : ({ cls := .type "generator", data := .fields #[.int s2.gens.size 0, .str "<genexpr>" (tk + 1), .str (X.env.qual ++ "<genexpr>") (tk + 1 + 1)] } : Obj) = og at I5 pg pe
    have hig : ∀ h : Heap, h.get? h'.objs.size = some og → h.IsGen h'.objs.size s2.gens.size := fun hh e => ⟨og, _, _, e, by rw [← hog], by rw [← hog], by rw [← hog]⟩
    have mI5 : ∀ b ∈ fp, (upd H2 P (.tbl (ps ++ more))) b = none := fun b hb => (f4 b hb).1.1
    have back : ∀ σ' H' s', Inv (gx X (gA X.A elt tg iter scope gpos it cenv) { s2 with heap := h3, toks := tk } (upd H2 P (.tbl (ps ++ more))) cenv fp [(h'.objs.size, og)]) [] σ' H' s' → Inv X pins σ H' s' := fun σ' H' s' I6 =>
      I4.call' (ch := fp) I6.os I6.base I6.hok I6.bare fun b hb => ⟨(f4 b hb).1.2.2.2.1, (f4 b hb).1.2.1, (f4 b hb).1.2.2.2.2.1, (f4 b hb).1.2.2.2.2.2⟩
    have goes : ∀ s' : Shared, s'.heap = h'.push og → s'.os = s2.os → AllBare s'.gens →
        Seg (model X.prog X.w) X.A.in1.in1 (GRn (gx X (gA X.A elt tg iter scope gpos it cenv) { s2 with heap := h3, toks := tk } (upd H2 P (.tbl (ps ++ more))) cenv fp [(h'.objs.size, og)]) e Q)
          (GYp (gx X (gA X.A elt tg iter scope gpos it cenv) { s2 with heap := h3, toks := tk } (upd H2 P (.tbl (ps ++ more))) cenv fp [(h'.objs.size, og)]) e Q) (m0 + 1) s'
          (.compStart (.GeneratorExp elt [⟨tg, iter, [], 0⟩] scope gpos) 0 (.ref it) .none cenv) ((model X.prog X.w).den (.compStart (.GeneratorExp elt [⟨tg, iter, [], 0⟩] scope gpos) 0 (.ref it) .none cenv)) [] s' := fun s' hh ho hg => by
      have I6 := inv_same (s' := s') I5 hh ho hg
      have st6 : tn 0 s'.heap := by
        rw [hh]
        exact T.keep _ _ _ st4 fun b _ o e => Heap.get?_push_of_some _ (keep' b o e)
      refine seg_start (Y := gx X (gA X.A elt tg iter scope gpos it cenv) { s2 with heap := h3, toks := tk } (upd H2 P (.tbl (ps ++ more))) cenv fp [(h'.objs.size, og)]) T st6
        (seg_loop rfl rfl rfl rfl (fun b hb p hp z => ?_) hcoE T pg pe gw m0 0 (m0 + 1) s' s' _ (Nat.lt_succ_self _) I6 st6 mI5 w0)
      have hp : p ∈ [(h'.objs.size, og)] := hp
      rw [List.mem_singleton.mp hp] at z
      have z : h'.objs.size = b := z
      have h9 := (f4 b hb).2
      rw [← z, hsz'] at h9
      exact absurd h9 (Nat.not_lt.mpr (Nat.le_succ _))
    have ee : genEnv scope (cloFrom X.env.cells scope.names []) h3.objs.size code builtinsNs X.env = cenv := hcenv
    have fin := hQ h'.objs.size { s2 with heap := h'.push og, gens := s2.gens.push (.fresh (.compStart (.GeneratorExp elt [⟨tg, iter, [], 0⟩] scope gpos) 0 (.ref it) .none cenv)), toks := tk + 1 + 1 + 1 }
      ⟨gA X.A elt tg iter scope gpos it cenv, { s2 with heap := h3, toks := tk }, upd H2 P (.tbl (ps ++ more)), cenv, fp, [(h'.objs.size, og)], og, s2.gens.size, .fresh (.compStart (.GeneratorExp elt [⟨tg, iter, [], 0⟩] scope gpos) 0 (.ref it) .none cenv), wipe σ (own.map (·.2)), upd H2 P (.tbl (ps ++ more)), m0 + 1,
        List.mem_singleton.mpr rfl, hig, I5, Array.getElem?_push_size .., fun s' hh ho hg => ⟨rfl, goes s' hh ho hg⟩, back⟩
    rw [← ee] at fin
    exact fin
  cases hf : codeAmong gpos ps.toList with
  | none =>
    refine ⟨I2.nolimit, ?_⟩
    refine wpAny_genexprCodeX hcode (cd.code hPs ht) (cd.tab hPs) hf fun c' h' tk hx hge hlt hco' _ htab' _ => ?_
    obtain ⟨o1, vs, f1, tf, fl, tg, inF, tx, tt, op, _, _, _, _, _, _, _, _, _, htr, _⟩ := hco'
    exact cont _ h' tk _ hx (Nat.le_trans hge (Nat.le_of_lt hlt)) htab'.2 ⟨_, rfl⟩ htr
  | some cv =>
    refine ⟨I2.nolimit, ?_⟩
    refine wpAny_genexprCode_hit hcode (cd.code hPs ht) hf ?_
    exact cont cv s2.heap s2.toks ps (Heap.ExtBut.refl _ _) (Nat.le_refl _) hPs ⟨#[], by simp⟩ ht

theorem pe_all {c P : Addr} {elt tg iter : Expr} {p pos gpos : Pos} {scope : Scope} {own : List (Str × Nat)} {wi : TI} {g : TG} {te : TE} {k : Nat}
    (hr : Room (k + 1) X.A) (hg : Gl X "all") (hm : X.mg "all" = none) (TB : TabB X.base X.mg c P) (hcode : X.env.code = .ref c) (hN : X.N.Nodup) (ok : BlkOk X.N X.env.scope scope own) (hcell : ∀ y ∈ scope.names, y.2 ≠ .cell) (hco : scope.isCoroutine = false) (h0 : scope.names.lookup (".0" : Str) = some NameKind.local)
    (hi : PI X tg iter wi)
    (hpg : ∀ (A1 : Around) (s : Shared) (H : Hp) (C : Addr) (code : Value) (fp : List Addr) (pn : List (Addr × Obj)), PG (gx X A1 s H (genv X scope C code) fp pn) tg g)
    (hpe : ∀ (A1 : Around) (s : Shared) (H : Hp) (C : Addr) (code : Value) (fp : List Addr) (pn : List (Addr × Obj)), Room k A1 → PE (gx X A1 s H (genv X scope C code) fp pn) elt te)
    (hs : ∀ v, genFold iter X.env v = pure v := by intro _; rfl)
    (he : starEach [.GeneratorExp elt [⟨tg, iter, [], 0⟩] scope gpos] X.env = (false, eval (.GeneratorExp elt [⟨tg, iter, [], 0⟩] scope gpos) X.env) :: starEach [] X.env := by rfl) :
    PE X (.Call (.Name "all" p) [.GeneratorExp elt [⟨tg, iter, [], 0⟩] scope gpos] [] pos) (tGen true P wi g te (own.map (·.2))) := by
  refine ⟨fun pins s σ H Q I h => ?_⟩
  refine wpAny_Call_Name_kw (ld_blt I hg hm boot_all ?_)
  refine PyProof.Rows.callWith_builtin1 ?_ he (by rfl)
  rw [he]
  show wpAny _ _ (spliced ((false, eval (.GeneratorExp elt [⟨tg, iter, [], 0⟩] scope gpos) X.env) :: backTo pos (starEach [] X.env))) _ _ s
  refine Calls.spliced_cons (gen_make (e := true) (Q := Q) hr TB hcode hN ok hcell hco h0 hi hpg hpe hs I h fun a s5 hG => ?_)
  obtain ⟨A1, s4, H4, cenv, fp, pn, og, gi, gs, σ', H5, n, hpn, hig, I5, hgs, hgo, back⟩ := hG
  refine Calls.spliced_nil ?_
  refine call_function_tree F.kind_all F.plain_all F.entry_all (F.args_all1 _) ?_
  unfold Builtin.«all»
  refine wpAny_bind (m := oneArg "all" _) (wpAny_pure ?_)
  refine wpAny_bind (wpAny_pyIter_gen (hig _ (I5.pin _ (List.mem_append_left _ hpn)).1) ?_)
  refine wpAny_pure ⟨plainId_quiet F.plain_all_loop _, drv_all (Y := gx X A1 s4 H4 cenv fp pn) (A := X.A) hpn hig hr.hd (by have := hr.dp; show X.A.depth + 0 < _; omega) (fun b σ6 H6 s6 I6 q => ?_) n gs σ' H5 s5 I5 hgs hgo⟩
  exact ⟨.bl b, H6, back σ6 H6 s6 I6, rfl, q⟩
theorem pe_any {c P : Addr} {elt tg iter : Expr} {p pos gpos : Pos} {scope : Scope} {own : List (Str × Nat)} {wi : TI} {g : TG} {te : TE} {k : Nat}
    (hr : Room (k + 1) X.A) (hg : Gl X "any") (hm : X.mg "any" = none) (TB : TabB X.base X.mg c P) (hcode : X.env.code = .ref c) (hN : X.N.Nodup) (ok : BlkOk X.N X.env.scope scope own) (hcell : ∀ y ∈ scope.names, y.2 ≠ .cell) (hco : scope.isCoroutine = false) (h0 : scope.names.lookup (".0" : Str) = some NameKind.local)
    (hi : PI X tg iter wi)
    (hpg : ∀ (A1 : Around) (s : Shared) (H : Hp) (C : Addr) (code : Value) (fp : List Addr) (pn : List (Addr × Obj)), PG (gx X A1 s H (genv X scope C code) fp pn) tg g)
    (hpe : ∀ (A1 : Around) (s : Shared) (H : Hp) (C : Addr) (code : Value) (fp : List Addr) (pn : List (Addr × Obj)), Room k A1 → PE (gx X A1 s H (genv X scope C code) fp pn) elt te)
    (hs : ∀ v, genFold iter X.env v = pure v := by intro _; rfl)
    (he : starEach [.GeneratorExp elt [⟨tg, iter, [], 0⟩] scope gpos] X.env = (false, eval (.GeneratorExp elt [⟨tg, iter, [], 0⟩] scope gpos) X.env) :: starEach [] X.env := by rfl) :
    PE X (.Call (.Name "any" p) [.GeneratorExp elt [⟨tg, iter, [], 0⟩] scope gpos] [] pos) (tGen false P wi g te (own.map (·.2))) := by
  refine ⟨fun pins s σ H Q I h => ?_⟩
  refine wpAny_Call_Name_kw (ld_blt I hg hm boot_any ?_)
  refine PyProof.Rows.callWith_builtin1 ?_ he (by rfl)
  rw [he]
  show wpAny _ _ (spliced ((false, eval (.GeneratorExp elt [⟨tg, iter, [], 0⟩] scope gpos) X.env) :: backTo pos (starEach [] X.env))) _ _ s
  refine Calls.spliced_cons (gen_make (e := false) (Q := Q) hr TB hcode hN ok hcell hco h0 hi hpg hpe hs I h fun a s5 hG => ?_)
  obtain ⟨A1, s4, H4, cenv, fp, pn, og, gi, gs, σ', H5, n, hpn, hig, I5, hgs, hgo, back⟩ := hG
  refine Calls.spliced_nil ?_
  refine call_function_tree F.kind_any F.plain_any F.entry_any (F.args_any1 _) ?_
  unfold Builtin.«any»
  refine wpAny_bind (m := oneArg "any" _) (wpAny_pure ?_)
  refine wpAny_bind (wpAny_pyIter_gen (hig _ (I5.pin _ (List.mem_append_left _ hpn)).1) ?_)
  refine wpAny_pure ⟨plainId_quiet F.plain_any_loop _, drv_any (Y := gx X A1 s4 H4 cenv fp pn) (A := X.A) hpn hig hr.hd (by have := hr.dp; show X.A.depth + 0 < _; omega) (fun b σ6 H6 s6 I6 q => ?_) n gs σ' H5 s5 I5 hgs hgo⟩
  exact ⟨.bl b, H6, back σ6 H6 s6 I6, rfl, q⟩
end
end EwG

set_option Elab.async false
set_option linter.all false
set_option maxRecDepth 100000
set_option maxHeartbeats 4000000
/-! all(.. for .. for ..): two clauses. -/
namespace EwG
open PySem PySem.Spec PyProof.Rows L2 Ew GxR
open Sem (wp)

theorem eval_GE2 (elt t0 i0 t1 i1 : Expr) (scope : Scope) (pos : Pos) (env : Env) (hco : scope.isCoroutine = false) :
    eval (.GeneratorExp elt [⟨t0, i0, [], 0⟩, ⟨t1, i1, [], 0⟩] scope pos) env = (do
      let x ← eval i0 env
      standAt i0.pos
      let x ← genFold i0 env x
      let it ← holding [x] (pyIter x)
      enterFrame
      let cl ← closureFor scope env
      let code ← genexprCode env pos (env.qual ++ "<genexpr>") scope
      let bi ← builtinsFor env.globals env.builtins
      let cenv ← newFunctionEnv scope env.globals cl [(".0", it)] (env.qual ++ "<genexpr>.") none code none bi
      newGenerator (.compStart (.GeneratorExp elt [⟨t0, i0, [], 0⟩, ⟨t1, i1, [], 0⟩] scope pos) 0 it .none cenv) "<genexpr>" (env.qual ++ "<genexpr>")) := by
  rw [arm_eval_GeneratorExp]
  simp only [hco, Bool.false_eq_true, if_false]
  cases i0 <;> rfl

theorem make_GE2 {M : Model} {A : Around} {E : Value → Shared → Prop} {s : Shared} {env : Env} {elt t0 i0 t1 i1 : Expr} {scope : Scope} {cl : List (Str × Addr)} {pos : Pos} {Q : Value → Shared → Prop}
    (hco : scope.isCoroutine = false) (hclos : closureFor scope env = pure cl) (hcell : ∀ y ∈ scope.names, y.2 ≠ .cell) (h0 : scope.names.lookup (".0" : Str) = some NameKind.local) (hkind : scope.kind = .function)
    (hroom : A.depth < recursionLimit)
    (h : wpAny M A (eval i0 env) (fun xv s₁ => wpAny M A (pyIter xv) (fun it s₂ => s₂.heap.NoLimit ∧
      wpAny M A (genexprCode env pos (env.qual ++ "<genexpr>") scope) (fun code s₃ => wpAny M A (builtinsFor env.globals env.builtins) (fun bi s₄ =>
        ∀ h', h'.Ns s₄.heap.objs.size (fun y => if y = ".0" then some it else none) → Heap.SameBut s₄.heap.objs.size (s₄.heap.push { cls := .type "frame", data := .dict #[] }) h' →
          Q (.ref h'.objs.size) { s₄ with
            gens := s₄.gens.push (.fresh (.compStart (.GeneratorExp elt [⟨t0, i0, [], 0⟩, ⟨t1, i1, [], 0⟩] scope pos) 0 it .none (genEnv scope cl s₄.heap.objs.size code bi env))),
            toks := s₄.toks + 1 + 1 + 1,
            heap := h'.push { cls := .type "generator", data := .fields #[.int s₄.gens.size 0, .str "<genexpr>" (s₄.toks + 1), .str (env.qual ++ "<genexpr>") (s₄.toks + 1 + 1)] } }) E s₃) E s₂) E s₁) E s)
    (hs : ∀ x, genFold i0 env x = pure x) :
    wpAny M A (eval (.GeneratorExp elt [⟨t0, i0, [], 0⟩, ⟨t1, i1, [], 0⟩] scope pos) env) Q E s := by
  rw [eval_GE2 _ _ _ _ _ _ _ _ hco, hclos]
  refine wpAny_bind (wpAny_mono h (fun xv s₁ h₁ => ?_) fun _ _ e => e)
  refine wpAny_bind (wpAny_standAt ?_)
  refine wpAny_bind (wpAny_of_eq (hs xv) ?_)
  refine wpAny_bind (wpAny_holding (wpAny_mono h₁ (fun it s₂ h₂ => ?_) fun _ _ e => e))
  refine wpAny_bind (wpAny_enterFrame h₂.1 hroom ?_)
  refine wpAny_bind (wpAny_pure ?_)
  refine wpAny_bind (wpAny_mono h₂.2 (fun code s₃ h₃ => ?_) fun _ _ e => e)
  refine wpAny_bind (wpAny_mono h₃ (fun bi s₄ h₄ => ?_) fun _ _ e => e)
  have hbinds : ∀ y ∈ ([((".0" : Str), it)] : List (Str × Value)), scope.names.lookup y.1 = some NameKind.local := by
    intro y hy
    rcases List.mem_cons.mp hy with rfl | hy
    · exact h0
    · cases hy
  refine wpAny_bind (wpAny_newFunctionEnv hcell hbinds (fun h' hn' hs' => ?_) hkind)
  have e : (fun y : Str => ([((".0" : Str), it)] : List (Str × Value)).reverse.lookup y) = fun y : Str => if y = (".0" : Str) then some it else none := by
    funext y
    by_cases hy : y = ".0"
    · subst hy; simp
    · have : (y == (".0" : Str)) = false := by simpa using hy
      simp [List.lookup, this, hy]
  rw [e] at hn'
  simp only [newGenerator, newFields]
  refine wpAny_bind (wpAny_newGen (wpAny_bind (wpAny_mkText (wpAny_bind (wpAny_mkText (wpAny_newObj_type ?_ (by size_fits)))))))
  exact h₄ h' hn' hs'

theorem turn2_out (elt t0 i0 t1 i1 : Expr) (scope : Scope) (pos : Pos) (it acc : Value) (env : Env) :
    compTurn (.GeneratorExp elt [⟨t0, i0, [], 0⟩, ⟨t1, i1, [], 0⟩] scope pos) 0 it acc env = (do
      standAt i0.pos
      match ← pyNext it with
      | none => pure (.done .next)
      | some v =>
        letOwnedTupleGo t0 it v
        assign t0 env v
        let mut ok := true
        for c in ([] : List Expr) do
          if ok then ok ← isTrue c env (eval c env)
        if ok then
          let x ← eval i1 env
          standAt i1.pos
          let x ← foldedSetIterable i1 env x
          let _ ← runOwn (.compStart (.GeneratorExp elt [⟨t0, i0, [], 0⟩, ⟨t1, i1, [], 0⟩] scope pos) 1 (← holding [x] (pyIter x)) acc env) env
        again (.compLoop (.GeneratorExp elt [⟨t0, i0, [], 0⟩, ⟨t1, i1, [], 0⟩] scope pos) 0 it acc env)) := by rfl
theorem turn2_in (elt t0 i0 t1 i1 : Expr) (scope : Scope) (pos : Pos) (it acc : Value) (env : Env) :
    compTurn (.GeneratorExp elt [⟨t0, i0, [], 0⟩, ⟨t1, i1, [], 0⟩] scope pos) 1 it acc env = (do
      standAt i1.pos
      match ← pyNext it with
      | none => pure (.done .next)
      | some v =>
        letOwnedTupleGo t1 it v
        assign t1 env v
        let mut ok := true
        for c in ([] : List Expr) do
          if ok then ok ← isTrue c env (eval c env)
        if ok then
          (do let v ← eval elt env; standAt elt.pos; let _ ← yieldOut env v)
        again (.compLoop (.GeneratorExp elt [⟨t0, i0, [], 0⟩, ⟨t1, i1, [], 0⟩] scope pos) 1 it acc env)) := by rfl

def GW2 (J : It) (g : TG) (wi1 : TI) (g1 : TG) (te : TE) (vs vs1 : List Nat) (σ : L2.St) (e : Bool) (Q : VK) (W : Nat → Nat → Hp → Prop) : Prop := ∀ i m H, W i m H →
  (J.stop i H ∧ Q (.bl e) H) ∨ (J.go i H ∧ ∀ x H', J.yld i H x H' → g x (wipe σ vs) H' fun σ2 H2 => wipe σ2 vs = wipe σ vs ∧ wi1 σ2 H2 fun J1 H3 => ∃ W1 : Nat → Nat → Hp → Prop, (∃ k, k < m ∧ W1 0 k H3) ∧ ∀ j k H, W1 j k H →
    (J1.stop j H ∧ ∃ m', m' ≤ k ∧ m' < m ∧ W (i + 1) m' H) ∨ (J1.go j H ∧ ∀ x H', J1.yld j H x H' → g1 x (wipe σ2 vs1) H' fun σ3 H5 => wipe σ3 vs1 = wipe σ2 vs1 ∧ te σ3 H5 fun y H6 => ∃ b, y = .bl b ∧ (b = e → ∃ k', k' < k ∧ W1 (j + 1) k' H6) ∧ (b ≠ e → Q (.bl b) H6)))

section
variable {X : Cx} {pins : List (Addr × Obj)} {σ : L2.St} {H : Hp} {s : Shared}
theorem seg_in {Y : Cx} {A2 : Around} {elt t0 i0 t1 i1 : Expr} {scope : Scope} {pos : Pos} {it1 : Addr} {fp1 : List Addr} {tn1 : Nat → Heap → Prop} {J1 : It} {g1 : TG} {te : TE} {vs1 : List Nat} {σ8 : L2.St} {e : Bool} {Q : VK} {W1 : Nat → Nat → Hp → Prop} {Nx : Nat → Hp → Prop} {fs : List Frame} {pins : List (Addr × Obj)}
    (hA : Y.A = A2.over (.compLoop (.GeneratorExp elt [⟨t0, i0, [], 0⟩, ⟨t1, i1, [], 0⟩] scope pos) 1 (.ref it1) .none Y.env) fs) (hsp : splitAtGen fs = none) (hgd : fs.any Frame.guarded = false) (hc : Y.calm = true) (hx : Y.xe = fun _ _ => False) (hco : Y.env.scope.isCoroutine = false)
    (T1 : Turn Y.prog Y.w Y.K t1 J1 fp1 it1 tn1) (stat1 : ∀ {H' : Hp}, (∀ b ∈ fp1, H' b = none) → ∀ b ∈ fp1, FpOk Y pins H' b) (pg1 : PG Y t1 g1) (pe : PE Y elt te)
    (hW1 : ∀ j k H, W1 j k H → (J1.stop j H ∧ Nx k H) ∨ (J1.go j H ∧ ∀ x H', J1.yld j H x H' → g1 x (wipe σ8 vs1) H' fun σ3 H5 => wipe σ3 vs1 = wipe σ8 vs1 ∧ te σ3 H5 fun y H6 => ∃ b, y = .bl b ∧ (b = e → ∃ k', k' < k ∧ W1 (j + 1) k' H6) ∧ (b ≠ e → Q (.bl b) H6)))
    (leave : ∀ (k n : Nat) (s₀ s : Shared) (H : Hp), k < n → Inv Y pins (wipe σ8 vs1) H s → Nx k H → Seg (model Y.prog Y.w) A2 (GRn Y e Q) (GYp Y e Q) n s₀ (.compLoop (.GeneratorExp elt [⟨t0, i0, [], 0⟩, ⟨t1, i1, [], 0⟩] scope pos) 1 (.ref it1) .none Y.env) (leafOf (.ok .next)) fs s) :
    ∀ (k j n : Nat) (s₀ s : Shared) (H : Hp), k < n → Inv Y pins (wipe σ8 vs1) H s → tn1 j s.heap → (∀ b ∈ fp1, H b = none) → W1 j k H →
      Seg (model Y.prog Y.w) A2 (GRn Y e Q) (GYp Y e Q) n s₀ (.compLoop (.GeneratorExp elt [⟨t0, i0, [], 0⟩, ⟨t1, i1, [], 0⟩] scope pos) 1 (.ref it1) .none Y.env)
        ((model Y.prog Y.w).den (.compLoop (.GeneratorExp elt [⟨t0, i0, [], 0⟩, ⟨t1, i1, [], 0⟩] scope pos) 1 (.ref it1) .none Y.env)) fs s := by
  intro k
  induction k using Nat.strongRecOn with
  | ind k ih =>
    intro j n s₀ s H hkn I st hn w
    show Seg _ A2 _ _ _ s₀ _ ((compTurn (.GeneratorExp elt [⟨t0, i0, [], 0⟩, ⟨t1, i1, [], 0⟩] scope pos) 1 (.ref it1) .none Y.env).onRaise (fun x => do noteFrame x Y.env; theTreesLotGoes x)) fs s
    rw [turn2_in, Sem.onRaise_eq_wrap]
    refine seg_bind_wrap (wpAny_standAt ?_)
    rcases hW1 j k H w with ⟨stop, q⟩ | ⟨go, step⟩
    · refine seg_bind_wrap ?_
      rw [← hA]
      refine thnF (T1.done Y rfl rfl rfl hc j pins s _ H (fun _ _ => False) I (stat1 hn) st stop) fun r s6 ⟨hr, I6⟩ => ?_
      subst hr
      exact leave k n s₀ s6 H hkn I6 q
    · refine seg_bind_wrap ?_
      rw [← hA]
      refine thnF (T1.item Y rfl rfl rfl hc j pins s _ H (fun _ _ => False) I (stat1 hn) st go) fun r s6 ⟨u, hr, h6⟩ => ?_
      subst hr
      refine seg_bind_wrap ?_
      rw [← hA]
      refine thnF h6 fun _ s7 ⟨x, H7, I7, r7, y7, st7, n7⟩ => ?_
      have I7' := I7.pinned (stat1 n7) (T1.obj _ _ st7)
      refine seg_bind_wrap ?_
      rw [← hA]
      have hpg := pg1.run _ s7 _ H7 x u _ I7' r7 (step x H7 y7)
      rw [hx] at hpg
      refine thnF hpg fun _ s8 ⟨σ15, H8, I8, hw8, q8⟩ => ?_
      refine seg_bind_wrap ?_
      rw [← hA]
      refine wpAny_tests_nil ?_
      simp only [if_true]
      have hy : ∀ v, yieldOut Y.env v = yieldValue v := fun v => by simp only [yieldOut, hco, Bool.false_eq_true, if_false]
      simp only [hy]
      rw [Sem.bind_eq_wrap', Sem.bind_eq_wrap', Sem.wrap_wrap, Sem.wrap_wrap]
      refine seg_wrap ?_
      rw [← hA]
      have hpe := pe.run _ s8 σ15 H8 _ I8 q8
      rw [hx] at hpe
      refine thnF hpe fun z s9 ⟨y, H9, I9, r9, b, hyb, q9⟩ => ?_
      subst hyb
      have hz : z = .bool b := r9
      subst hz
      have pin' : ∀ c ∈ fp1, ∀ o, s7.heap.get? c = some o → s9.heap.get? c = some o ∧ H9 c = none := fun c hb o e =>
        let z := I9.pin (c, o) (List.mem_append_right _ (List.mem_append_right _ (mem_pinsAt hb e)))
        ⟨z.1, z.2.1⟩
      have hl : (wipe σ8 vs1).length = σ15.length := by rw [← hw8, wipe_length]
      have I10 : Inv Y pins (wipe σ8 vs1) H9 s9 := (I9.unpinned (pins := pins)).weak hl fun j v e => by
        rw [← hw8] at e
        exact (wipe_some e).1
      obtain ⟨n', rfl⟩ : ∃ n', n = n' + 1 := ⟨n - 1, by omega⟩
      refine seg_at (seg_yield hsp rfl hgd ⟨b, _, H9, rfl, I10.pins_of (pins' := []) (fun p hp => absurd hp (by simp)), q9.2, fun hb s' hh ho hg => ?_⟩)
      obtain ⟨k', hk, w'⟩ := q9.1 hb
      refine seg_again rfl (ih k' hk (j + 1) n' s' s' H9 (by omega) (inv_same I10 hh ho hg) ?_ (fun c hc => ?_) w')
      · rw [hh]
        exact T1.keep _ _ _ st7 fun c hb o e => (pin' c hb o e).1
      · obtain ⟨o, e, _⟩ := T1.obj _ _ st7 c hc
        exact (pin' c hc o e).2

theorem seg_loop2 {Y : Cx} {A2 : Around} {elt t0 i0 t1 i1 : Expr} {scope : Scope} {pos : Pos} {it : Addr} {fp : List Addr} {tn : Nat → Heap → Prop} {J : It} {g g1 : TG} {wi1 : TI} {te : TE} {vs vs1 : List Nat} {σ : L2.St} {e : Bool} {Q : VK} {W : Nat → Nat → Hp → Prop}
    (hA : Y.A = A2.over (.compLoop (.GeneratorExp elt [⟨t0, i0, [], 0⟩, ⟨t1, i1, [], 0⟩] scope pos) 0 (.ref it) .none Y.env) []) (hex : Y.ex = fp) (hc : Y.calm = true) (hx : Y.xe = fun _ _ => False) (hpn : ∀ b ∈ fp, ∀ p ∈ Y.pn, p.1 ≠ b) (hco : Y.env.scope.isCoroutine = false)
    (T : Turn Y.prog Y.w Y.K t0 J fp it tn) (pg : PG Y t0 g) (pi1 : PI Y t1 i1 wi1) (pg1 : PG Y t1 g1) (pe : PE Y elt te) (hs1 : ∀ x, foldedSetIterable i1 Y.env x = pure x) (hv : ∀ i ∈ vs1, i ∈ vs) (hW : GW2 J g wi1 g1 te vs vs1 σ e Q W) :
    ∀ (m i n : Nat) (s₀ s : Shared) (H : Hp), m < n → Inv Y [] (wipe σ vs) H s → tn i s.heap → (∀ b ∈ fp, H b = none) → W i m H →
      Seg (model Y.prog Y.w) A2 (GRn Y e Q) (GYp Y e Q) n s₀ (.compLoop (.GeneratorExp elt [⟨t0, i0, [], 0⟩, ⟨t1, i1, [], 0⟩] scope pos) 0 (.ref it) .none Y.env)
        ((model Y.prog Y.w).den (.compLoop (.GeneratorExp elt [⟨t0, i0, [], 0⟩, ⟨t1, i1, [], 0⟩] scope pos) 0 (.ref it) .none Y.env)) [] s := by
  have stat : ∀ {σ' : L2.St} {H' : Hp} {s' : Shared}, Inv Y [] σ' H' s' → (∀ b ∈ fp, H' b = none) → ∀ b ∈ fp, FpOk Y [] H' b := fun {σ' H' s'} I' hn b hb =>
    have hb' : b ∈ Y.ex := by rw [hex]; exact hb
    ⟨hn b hb, (I'.ok.exf b hb').1, I'.ok.exfs b hb', .inl hb', fun x c e => (I'.ok.exf b hb').2 x c e, fun p hp => hpn b hb p (by simpa using hp)⟩
  intro m
  induction m using Nat.strongRecOn with
  | ind m ih =>
    intro i n s₀ s H hmn I st hn w
    show Seg _ A2 _ _ _ s₀ _ ((compTurn (.GeneratorExp elt [⟨t0, i0, [], 0⟩, ⟨t1, i1, [], 0⟩] scope pos) 0 (.ref it) .none Y.env).onRaise (leaving Y.env)) [] s
    rw [turn2_out, Sem.onRaise_eq_wrap]
    refine seg_bind_wrap (wpAny_standAt ?_)
    rcases hW i m H w with ⟨stop, q⟩ | ⟨go, step⟩
    · refine seg_bind_wrap ?_
      rw [← hA]
      refine thnF (T.done Y rfl rfl rfl hc i [] s _ H (fun _ _ => False) I (stat I hn) st stop) fun r s6 ⟨hr, I6⟩ => ?_
      subst hr
      exact seg_end (.ok .next) ⟨rfl, _, H, I6, q⟩
    · refine seg_bind_wrap ?_
      rw [← hA]
      refine thnF (T.item Y rfl rfl rfl hc i [] s _ H (fun _ _ => False) I (stat I hn) st go) fun r s6 ⟨u, hr, h6⟩ => ?_
      subst hr
      refine seg_bind_wrap ?_
      rw [← hA]
      refine thnF h6 fun _ s7 ⟨x, H7, I7, r7, y7, st7, n7⟩ => ?_
      have I7' := I7.pinned (stat I7 n7) (T.obj _ _ st7)
      refine seg_bind_wrap ?_
      rw [← hA]
      have hpg := pg.run _ s7 _ H7 x u _ I7' r7 (step x H7 y7)
      rw [hx] at hpg
      refine thnF hpg fun _ s8 ⟨σ8, H8, I8, hw8, q8⟩ => ?_
      refine seg_bind_wrap ?_
      rw [← hA]
      refine wpAny_tests_nil ?_
      simp only [if_true]
      refine seg_bind_wrap ?_
      rw [← hA]
      have hpi := pi1.run _ s8 σ8 H8 _ I8 q8
      rw [hx] at hpi
      refine thnF hpi fun xv s9 h9 => ?_
      refine seg_bind_wrap (wpAny_standAt ?_)
      refine seg_bind_wrap (wpAny_of_eq (hs1 xv) ?_)
      refine seg_bind_wrap ?_
      rw [← hA]
      refine wpAny_holding (thnF h9 fun itv s11 h11 => ?_)
      obtain ⟨it1, fp1, tn1, J1, H11, e1, I11, T1, st11, f11, W1, ⟨k1, hk1, w1⟩, turn1⟩ := h11
      subst e1
      rw [Sem.bind_eq_wrap', Sem.wrap_wrap]
      unfold runOwn
      rw [Sem.onRaise_eq_wrap, Sem.wrap_wrap]
      have pin' : ∀ {σ' : L2.St} {H' : Hp} {s' : Shared}, Inv Y ([] ++ pinsAt fp s7.heap) σ' H' s' → ∀ c ∈ fp, ∀ o, s7.heap.get? c = some o → s'.heap.get? c = some o ∧ H' c = none := fun I' c hb o e =>
        let z := I'.pin (c, o) (List.mem_append_right _ (List.mem_append_right _ (mem_pinsAt hb e)))
        ⟨z.1, z.2.1⟩
      have hl : (wipe σ vs).length = (wipe σ8 vs1).length := by rw [← hw8, wipe_length, wipe_length]
      refine seg_call fun pc => ?_
      have hA1 : Y.A = A2.over (.compLoop (.GeneratorExp elt [⟨t0, i0, [], 0⟩, ⟨t1, i1, [], 0⟩] scope pos) 0 (.ref it) .none Y.env) [] := hA
      generalize hK : (fun r : Result => _) = kk
      have loop1 := seg_in (e := e) (Q := Q) (Nx := fun k H => ∃ m', m' ≤ k ∧ m' < m ∧ W (i + 1) m' H) (A2 := A2) (t0 := t0) (i0 := i0) (i1 := i1) (scope := scope) (pos := pos) (fs := [.ret kk none (id false) (id []) (.compLoop (.GeneratorExp elt [⟨t0, i0, [], 0⟩, ⟨t1, i1, [], 0⟩] scope pos) 0 (.ref it) .none Y.env) pc []])
        (hA.trans (GenW.over_loop (c := .compLoop (.GeneratorExp elt [⟨t0, i0, [], 0⟩, ⟨t1, i1, [], 0⟩] scope pos) 0 (.ref it) .none Y.env) rfl rfl).symm) rfl rfl hc hx hco T1 (fun hn b hb => ⟨hn b hb, (f11 b hb).2⟩) pg1 pe turn1 (fun k n s₀ s' H' hkn I' ⟨m', hm1, hm2, w'⟩ => ?_) k1 0 n s₀ s11 H11 (by omega) (I11.weak (wipe_length _ _) fun j v e => (wipe_some e).1) st11 (fun b hb => (f11 b hb).1) w1
      · show Seg _ A2 _ _ _ s₀ _ ((compStart (.GeneratorExp elt [⟨t0, i0, [], 0⟩, ⟨t1, i1, [], 0⟩] scope pos) 1 (.ref it1) .none Y.env).onRaise (fun x => do noteFrame x Y.env; standAt theWindowsPlace)) _ s11
        unfold compStart
        rw [Sem.onRaise_eq_wrap]
        show Seg _ A2 _ _ _ s₀ _ ((ask >>= _).wrap _ _ _ _) _ s11
        refine seg_bind_wrap (wpAny_askSetting ?_)
        split
        · exact seg_again rfl loop1
        · first
            | exact seg_bind_wrap (wpAny_rule (seg_bind_wrap (wpAny_standAt (seg_bind_wrap (T1.self _ 0 s11 _ _ st11 (seg_again rfl loop1))))))
            | (refine seg_bind_wrap (wpAny_rule ?_); show Seg _ A2 _ _ _ s₀ _ ((standAt i1.pos >>= _).wrap _ _ _ _) _ s11; exact seg_bind_wrap (wpAny_standAt (seg_bind_wrap (T1.self _ 0 s11 _ _ st11 (seg_again rfl loop1)))))
      · subst hK
        refine seg_leaf (.ok .next) ?_
        refine seg_again rfl (ih m' hm2 (i + 1) n s₀ s' H' (by omega) ((I'.unpinned (pins := [])).weak hl fun j v e => ?_) (T.keep _ _ _ st7 fun c hb o e => (pin' I' c hb o e).1) (fun c hc => ?_) w')
        · rw [← hw8] at e
          obtain ⟨e1, e2⟩ := wipe_some e
          rw [wipe_out fun z => e2 (hv j z)]
          exact e1
        · obtain ⟨o, e, _⟩ := T.obj _ _ st7 c hc
          exact (pin' I' c hc o e).2
theorem seg_start2 {Y : Cx} {A2 : Around} {elt t0 i0 t1 i1 : Expr} {scope : Scope} {pos : Pos} {it : Addr} {fp : List Addr} {tn : Nat → Heap → Prop} {J : It} {e : Bool} {Q : VK} {n : Nat} {s₀ s : Shared}
    (T : Turn Y.prog Y.w Y.K t0 J fp it tn) (st : tn 0 s.heap)
    (loop : Seg (model Y.prog Y.w) A2 (GRn Y e Q) (GYp Y e Q) n s₀ (.compLoop (.GeneratorExp elt [⟨t0, i0, [], 0⟩, ⟨t1, i1, [], 0⟩] scope pos) 0 (.ref it) .none Y.env)
        ((model Y.prog Y.w).den (.compLoop (.GeneratorExp elt [⟨t0, i0, [], 0⟩, ⟨t1, i1, [], 0⟩] scope pos) 0 (.ref it) .none Y.env)) [] s) :
    Seg (model Y.prog Y.w) A2 (GRn Y e Q) (GYp Y e Q) n s₀ (.compStart (.GeneratorExp elt [⟨t0, i0, [], 0⟩, ⟨t1, i1, [], 0⟩] scope pos) 0 (.ref it) .none Y.env)
        ((model Y.prog Y.w).den (.compStart (.GeneratorExp elt [⟨t0, i0, [], 0⟩, ⟨t1, i1, [], 0⟩] scope pos) 0 (.ref it) .none Y.env)) [] s := by
  show Seg _ A2 _ _ _ s₀ _ ((compStart (.GeneratorExp elt [⟨t0, i0, [], 0⟩, ⟨t1, i1, [], 0⟩] scope pos) 0 (.ref it) .none Y.env).onRaise (leaving Y.env)) [] s
  unfold compStart
  rw [Sem.onRaise_eq_wrap]
  show Seg _ A2 _ _ _ s₀ _ ((ask >>= _).wrap _ _ _ _) [] s
  refine seg_bind_wrap (wpAny_askSetting ?_)
  split
  · exact seg_again rfl loop
  · first
      | exact seg_bind_wrap (wpAny_rule (seg_bind_wrap (wpAny_standAt (seg_bind_wrap (T.self _ 0 s _ _ st (seg_again rfl loop))))))
      | (refine seg_bind_wrap (wpAny_rule ?_); show Seg _ A2 _ _ _ s₀ _ ((standAt i0.pos >>= _).wrap _ _ _ _) [] s; exact seg_bind_wrap (wpAny_standAt (seg_bind_wrap (T.self _ 0 s _ _ st (seg_again rfl loop)))))

/-- the around of the generator's body, of a consumer that is called at A -/
abbrev gB (A : Around) (elt t0 i0 t1 i1 : Expr) (scope : Scope) (pos : Pos) (it : Addr) (cenv : Env) : Around := A.in1.in1.over (.compLoop (.GeneratorExp elt [⟨t0, i0, [], 0⟩, ⟨t1, i1, [], 0⟩] scope pos) 0 (.ref it) .none cenv) []
theorem gB_room {k : Nat} {A : Around} {elt t0 i0 t1 i1 : Expr} {scope : Scope} {pos : Pos} {it : Addr} {cenv : Env} (r : Room (k + 1) A) : Room k (gB A elt t0 i0 t1 i1 scope pos it cenv) :=
  ⟨r.hd, by have := r.dp; show A.depth + 0 + 1 + 3 * k + 5 < _; omega, by have := r.un; show A.units + 1 + 1 + 0 + 3 + 16 * k + 200 < _; omega⟩
theorem gB_frames {A : Around} {elt t0 i0 t1 i1 : Expr} {scope : Scope} {pos : Pos} {it : Addr} {cenv : Env} {l : List Env} (h : A.frames = some l) : (gB A elt t0 i0 t1 i1 scope pos it cenv).frames = some (cenv :: l) := by
  show pushEnvs [cenv] (pushEnvs [] A.frames) = _
  rw [h]
  rfl

def tGen2 (e : Bool) (P : Addr) (wi : TI) (g : TG) (wi1 : TI) (g1 : TG) (te : TE) (vs vs1 : List Nat) : TE := fun σ H Q => wi σ H fun J H1 => TabG H1 P ∧ ∀ H2, Tabbed P H1 H2 → ∃ W : Nat → Nat → Hp → Prop, (∃ m, W 0 m H2) ∧ GW2 J g wi1 g1 te vs vs1 σ e Q W

theorem gen_make2 {c P : Addr} {elt t0 i0 t1 i1 : Expr} {gpos : Pos} {scope : Scope} {own : List (Str × Nat)} {wi wi1 : TI} {g g1 : TG} {vs1 : List Nat} {te : TE} {k : Nat} {e : Bool} {Q : VK} {Q' : Value → Shared → Prop}
    (hr : Room (k + 1) X.A) (TB : TabB X.base X.mg c P) (hcode : X.env.code = .ref c) (hN : X.N.Nodup) (ok : BlkOk X.N X.env.scope scope own) (hcell : ∀ y ∈ scope.names, y.2 ≠ .cell) (hco : scope.isCoroutine = false) (h0 : scope.names.lookup (".0" : Str) = some NameKind.local)
    (hi : PI X t0 i0 wi) (hv : ∀ i ∈ vs1, i ∈ own.map (·.2))
    (hpg : ∀ (A1 : Around) (s : Shared) (H : Hp) (C : Addr) (code : Value) (fp : List Addr) (pn : List (Addr × Obj)), PG (gx X A1 s H (genv X scope C code) fp pn) t0 g)
    (hpi1 : ∀ (A1 : Around) (s : Shared) (H : Hp) (C : Addr) (code : Value) (fp : List Addr) (pn : List (Addr × Obj)), Room k A1 → PI (gx X A1 s H (genv X scope C code) fp pn) t1 i1 wi1)
    (hpg1 : ∀ (A1 : Around) (s : Shared) (H : Hp) (C : Addr) (code : Value) (fp : List Addr) (pn : List (Addr × Obj)), PG (gx X A1 s H (genv X scope C code) fp pn) t1 g1)
    (hpe : ∀ (A1 : Around) (s : Shared) (H : Hp) (C : Addr) (code : Value) (fp : List Addr) (pn : List (Addr × Obj)), Room k A1 → PE (gx X A1 s H (genv X scope C code) fp pn) elt te)
    (hs : ∀ v, genFold i0 X.env v = pure v) (hs1 : ∀ env x, foldedSetIterable i1 env x = pure x) (I : Inv X pins σ H s) (h : tGen2 e P wi g wi1 g1 te (own.map (·.2)) vs1 σ H Q)
    (hQ : ∀ a s5, Ready2 X pins σ e Q a s5 → Q' (.ref a) s5) :
    wpAny (model X.prog X.w) X.A (eval (.GeneratorExp elt [⟨t0, i0, [], 0⟩, ⟨t1, i1, [], 0⟩] scope gpos) X.env) Q' X.xe s := by
  have hfree : ∀ y ∈ scope.names, y.2 = .free → ∃ c, X.env.cells.lookup y.1 = some c := fun y hy e => by
    rcases ok.free y hy e with k | k
    · exact I.ok.has _ (.inl k)
    · exact I.ok.has _ (.inr k)
  refine make_GE2 hco (closure_ok hfree) hcell h0 ok.kind (by have := hr.dp; omega) ?_ hs
  refine thn (hi.run pins s σ H _ I h) fun xv s1 hx => thn hx fun itv s2 h2 => ?_
  obtain ⟨it, fp, tn, J, H2, e2, I2, T, st2, f2, ⟨ps, hP, ht⟩, q⟩ := h2
  subst e2
  have hPs : s2.heap.get? P = some { cls := .none, data := .fields ps } := I2.hok P _ hP
  have cd : PySem.W.CodeHd s2.heap c P := TB.code.keeps fun b u e => I2.bk b u e
  have sz : ∀ b ∈ fp, b < s2.heap.objs.size := fun b hb => by
    obtain ⟨o, e, _⟩ := T.obj _ _ st2 b hb
    exact Heap.lt_size e
  have cont : ∀ (code : Value) (h3 : Heap) (tk : Nat) (ps' : Array Value), Heap.ExtBut P s2.heap h3 → s2.heap.objs.size ≤ h3.objs.size → h3.get? P = some { cls := .none, data := .fields ps' } → (∃ more, ps' = ps ++ more) → TriplesOk ps'.toList →
      wpAny (model X.prog X.w) X.A (builtinsFor X.env.globals X.env.builtins) (fun bi s₄ =>
        ∀ h', h'.Ns s₄.heap.objs.size (fun y => if y = ".0" then some (.ref it) else none) → Heap.SameBut s₄.heap.objs.size (s₄.heap.push { cls := .type "frame", data := .dict #[] }) h' →
          Q' (.ref h'.objs.size) { s₄ with
            gens := s₄.gens.push (.fresh (.compStart (.GeneratorExp elt [⟨t0, i0, [], 0⟩, ⟨t1, i1, [], 0⟩] scope gpos) 0 (.ref it) .none (genEnv scope (cloFrom X.env.cells scope.names []) s₄.heap.objs.size code bi X.env))),
            toks := s₄.toks + 1 + 1 + 1,
            heap := h'.push { cls := .type "generator", data := .fields #[.int s₄.gens.size 0, .str "<genexpr>" (s₄.toks + 1), .str (X.env.qual ++ "<genexpr>") (s₄.toks + 1 + 1)] } }) X.xe { s2 with heap := h3, toks := tk } := by
    intro code h3 tk ps' hx hsz hP3 hmore ht3
    obtain ⟨bm, ob, e1, e2, e3, e4, e5, e6, e7, e8⟩ := TB.bm
    have keep3 : ∀ b u, b ≠ P → s2.heap.get? b = some u → h3.get? b = some u := fun b u hb e => hx b u hb e
    refine wpAny_builtinsFor (m := X.mg) (by rw [I2.ok.glob]; exact (I2.mod.glob.keeps I2.bk).extBut hx TB.gP) e1 e2 (keep3 _ _ e4 (I2.bk _ _ e5)) e6 e7 e8 ?_
    obtain ⟨more, em⟩ := hmore
    have I4 : Inv X pins σ (upd H2 P (.tbl (ps ++ more))) { s2 with heap := h3, toks := tk } :=
      inv_tab (more := more) (h' := h3) (g' := s2.gens) (d' := s2.drawn) (t' := tk) I2 hP keep3 (by rw [← em]; exact hP3) I2.bare
    have nP : ∀ b ∈ fp, b ≠ P := fun b hb z => by
      have := (f2 b hb).1
      rw [z, hP] at this
      cases this
    have f4 : ∀ b ∈ fp, FpOk X pins (upd H2 P (.tbl (ps ++ more))) b ∧ b < h3.objs.size := fun b hb =>
      ⟨⟨by rw [upd_ne (nP b hb)]; exact (f2 b hb).1, (f2 b hb).2⟩, Nat.lt_of_lt_of_le (sz b hb) hsz⟩
    have st4 : tn 0 h3 := T.keep _ _ _ st2 fun b hb o e => keep3 b o (nP b hb) e
    obtain ⟨W, ⟨m0, w0⟩, gw⟩ := q _ ⟨⟨ps ++ more, upd_same, by rw [← em]; exact ht3⟩, fun b hb => upd_ne hb⟩
    intro h' hn' hs'
    have hn' : h'.Ns h3.objs.size (fun y => if y = ".0" then some (.ref it) else none) := hn'
    have hs' : Heap.SameBut h3.objs.size (h3.push { cls := .type "frame", data := .dict #[] }) h' := hs'
    have hsz' : h'.objs.size = h3.objs.size + 1 := by rw [hs'.1, Heap.size_push]
    have keep' : ∀ b o, h3.get? b = some o → h'.get? b = some o := fun b o e => hs'.extBut b o (Nat.ne_of_lt (Heap.lt_size e)) (Heap.get?_push_of_some _ e)
    generalize hcenv : genv X scope h3.objs.size code = cenv
    have I5 := gen_start (A1 := gB X.A elt t0 i0 t1 i1 scope gpos it cenv) (code := code) (t' := tk + 1 + 1 + 1)
      (obj := { cls := .type "generator", data := .fields #[.int s2.gens.size 0, .str "<genexpr>" (tk + 1), .str (X.env.qual ++ "<genexpr>") (tk + 1 + 1)] })
      (g' := s2.gens.push (.fresh (.compStart (.GeneratorExp elt [⟨t0, i0, [], 0⟩, ⟨t1, i1, [], 0⟩] scope gpos) 0 (.ref it) .none cenv)))
      I4 ok hcell hN f4 hr.hd (by rw [hcenv]; exact gB_frames I.ok.frames) hn' keep' hsz' (Heap.get?_push_size _ rfl) (fun v z => by cases z) (I2.bare.push rfl)
    have pg := hpg (gB X.A elt t0 i0 t1 i1 scope gpos it cenv) { s2 with heap := h3, toks := tk } (upd H2 P (.tbl (ps ++ more))) h3.objs.size code fp [(h'.objs.size, { cls := .type "generator", data := .fields #[.int s2.gens.size 0, .str "<genexpr>" (tk + 1), .str (X.env.qual ++ "<genexpr>") (tk + 1 + 1)] })]
    have pi1 := hpi1 (gB X.A elt t0 i0 t1 i1 scope gpos it cenv) { s2 with heap := h3, toks := tk } (upd H2 P (.tbl (ps ++ more))) h3.objs.size code fp [(h'.objs.size, { cls := .type "generator", data := .fields #[.int s2.gens.size 0, .str "<genexpr>" (tk + 1), .str (X.env.qual ++ "<genexpr>") (tk + 1 + 1)] })] (gB_room hr)
    have pg1 := hpg1 (gB X.A elt t0 i0 t1 i1 scope gpos it cenv) { s2 with heap := h3, toks := tk } (upd H2 P (.tbl (ps ++ more))) h3.objs.size code fp [(h'.objs.size, { cls := .type "generator", data := .fields #[.int s2.gens.size 0, .str "<genexpr>" (tk + 1), .str (X.env.qual ++ "<genexpr>") (tk + 1 + 1)] })]
    have pe := hpe (gB X.A elt t0 i0 t1 i1 scope gpos it cenv) { s2 with heap := h3, toks := tk } (upd H2 P (.tbl (ps ++ more))) h3.objs.size code fp [(h'.objs.size, { cls := .type "generator", data := .fields #[.int s2.gens.size 0, .str "<genexpr>" (tk + 1), .str (X.env.qual ++ "<genexpr>") (tk + 1 + 1)] })] (gB_room hr)
    have I5 : Inv (gx X (gB X.A elt t0 i0 t1 i1 scope gpos it cenv) { s2 with heap := h3, toks := tk } (upd H2 P (.tbl (ps ++ more))) (genv X scope h3.objs.size code) fp [(h'.objs.size, _)]) [] (wipe σ (own.map (·.2))) _ _ := I5
    rw [hcenv] at I5 pg pi1 pg1 pe
    have hcoE : cenv.scope.isCoroutine = false := by rw [← hcenv]; exact hco
    generalize hog : ({ cls := .type "generator", data := .fields #[.int s2.gens.size 0, .str "<genexpr>" (tk + 1), .str (X.env.qual ++ "<genexpr>") (tk + 1 + 1)] } : Obj) = og at I5 pg pi1 pg1 pe
    have hig : ∀ h : Heap, h.get? h'.objs.size = some og → h.IsGen h'.objs.size s2.gens.size := fun hh e => ⟨og, _, _, e, by rw [← hog], by rw [← hog], by rw [← hog]⟩
    have mI5 : ∀ b ∈ fp, (upd H2 P (.tbl (ps ++ more))) b = none := fun b hb => (f4 b hb).1.1
    have back : ∀ σ' H' s', Inv (gx X (gB X.A elt t0 i0 t1 i1 scope gpos it cenv) { s2 with heap := h3, toks := tk } (upd H2 P (.tbl (ps ++ more))) cenv fp [(h'.objs.size, og)]) [] σ' H' s' → Inv X pins σ H' s' := fun σ' H' s' I6 =>
      I4.call' (ch := fp) I6.os I6.base I6.hok I6.bare fun b hb => ⟨(f4 b hb).1.2.2.2.1, (f4 b hb).1.2.1, (f4 b hb).1.2.2.2.2.1, (f4 b hb).1.2.2.2.2.2⟩
    have goes : ∀ s' : Shared, s'.heap = h'.push og → s'.os = s2.os → AllBare s'.gens →
        Seg (model X.prog X.w) X.A.in1.in1 (GRn (gx X (gB X.A elt t0 i0 t1 i1 scope gpos it cenv) { s2 with heap := h3, toks := tk } (upd H2 P (.tbl (ps ++ more))) cenv fp [(h'.objs.size, og)]) e Q)
          (GYp (gx X (gB X.A elt t0 i0 t1 i1 scope gpos it cenv) { s2 with heap := h3, toks := tk } (upd H2 P (.tbl (ps ++ more))) cenv fp [(h'.objs.size, og)]) e Q) (m0 + 1) s'
          (.compStart (.GeneratorExp elt [⟨t0, i0, [], 0⟩, ⟨t1, i1, [], 0⟩] scope gpos) 0 (.ref it) .none cenv) ((model X.prog X.w).den (.compStart (.GeneratorExp elt [⟨t0, i0, [], 0⟩, ⟨t1, i1, [], 0⟩] scope gpos) 0 (.ref it) .none cenv)) [] s' := fun s' hh ho hg => by
      have I6 := inv_same (s' := s') I5 hh ho hg
      have st6 : tn 0 s'.heap := by
        rw [hh]
        exact T.keep _ _ _ st4 fun b _ o e => Heap.get?_push_of_some _ (keep' b o e)
      refine seg_start2 (Y := gx X (gB X.A elt t0 i0 t1 i1 scope gpos it cenv) { s2 with heap := h3, toks := tk } (upd H2 P (.tbl (ps ++ more))) cenv fp [(h'.objs.size, og)]) T st6
        (seg_loop2 rfl rfl rfl rfl (fun b hb p hp z => ?_) hcoE T pg pi1 pg1 pe (hs1 _) hv gw m0 0 (m0 + 1) s' s' _ (Nat.lt_succ_self _) I6 st6 mI5 w0)
      have hp : p ∈ [(h'.objs.size, og)] := hp
      rw [List.mem_singleton.mp hp] at z
      have z : h'.objs.size = b := z
      have h9 := (f4 b hb).2
      rw [← z, hsz'] at h9
      exact absurd h9 (Nat.not_lt.mpr (Nat.le_succ _))
    have ee : genEnv scope (cloFrom X.env.cells scope.names []) h3.objs.size code builtinsNs X.env = cenv := hcenv
    have fin := hQ h'.objs.size { s2 with heap := h'.push og, gens := s2.gens.push (.fresh (.compStart (.GeneratorExp elt [⟨t0, i0, [], 0⟩, ⟨t1, i1, [], 0⟩] scope gpos) 0 (.ref it) .none cenv)), toks := tk + 1 + 1 + 1 }
      ⟨gB X.A elt t0 i0 t1 i1 scope gpos it cenv, { s2 with heap := h3, toks := tk }, upd H2 P (.tbl (ps ++ more)), cenv, fp, [(h'.objs.size, og)], og, s2.gens.size, .fresh (.compStart (.GeneratorExp elt [⟨t0, i0, [], 0⟩, ⟨t1, i1, [], 0⟩] scope gpos) 0 (.ref it) .none cenv), wipe σ (own.map (·.2)), upd H2 P (.tbl (ps ++ more)), m0 + 1,
        List.mem_singleton.mpr rfl, hig, I5, Array.getElem?_push_size .., fun s' hh ho hg => ⟨rfl, goes s' hh ho hg⟩, back⟩
    rw [← ee] at fin
    exact fin
  cases hf : codeAmong gpos ps.toList with
  | none =>
    refine ⟨I2.nolimit, ?_⟩
    refine wpAny_genexprCodeX hcode (cd.code hPs ht) (cd.tab hPs) hf fun c' h' tk hx hge hlt hco' _ htab' _ => ?_
    obtain ⟨o1, vs, f1, tf, fl, tg, inF, tx, tt, op, _, _, _, _, _, _, _, _, _, htr, _⟩ := hco'
    exact cont _ h' tk _ hx (Nat.le_trans hge (Nat.le_of_lt hlt)) htab'.2 ⟨_, rfl⟩ htr
  | some cv =>
    refine ⟨I2.nolimit, ?_⟩
    refine wpAny_genexprCode_hit hcode (cd.code hPs ht) hf ?_
    exact cont cv s2.heap s2.toks ps (Heap.ExtBut.refl _ _) (Nat.le_refl _) hPs ⟨#[], by simp⟩ ht

theorem pe_all2 {c P : Addr} {elt t0 i0 t1 i1 : Expr} {p pos gpos : Pos} {scope : Scope} {own : List (Str × Nat)} {wi wi1 : TI} {g g1 : TG} {vs1 : List Nat} {te : TE} {k : Nat}
    (hr : Room (k + 1) X.A) (hg : Gl X "all") (hm : X.mg "all" = none) (TB : TabB X.base X.mg c P) (hcode : X.env.code = .ref c) (hN : X.N.Nodup) (ok : BlkOk X.N X.env.scope scope own) (hcell : ∀ y ∈ scope.names, y.2 ≠ .cell) (hco : scope.isCoroutine = false) (h0 : scope.names.lookup (".0" : Str) = some NameKind.local)
    (hi : PI X t0 i0 wi) (hv : ∀ i ∈ vs1, i ∈ own.map (·.2))
    (hpg : ∀ (A1 : Around) (s : Shared) (H : Hp) (C : Addr) (code : Value) (fp : List Addr) (pn : List (Addr × Obj)), PG (gx X A1 s H (genv X scope C code) fp pn) t0 g)
    (hpi1 : ∀ (A1 : Around) (s : Shared) (H : Hp) (C : Addr) (code : Value) (fp : List Addr) (pn : List (Addr × Obj)), Room k A1 → PI (gx X A1 s H (genv X scope C code) fp pn) t1 i1 wi1)
    (hpg1 : ∀ (A1 : Around) (s : Shared) (H : Hp) (C : Addr) (code : Value) (fp : List Addr) (pn : List (Addr × Obj)), PG (gx X A1 s H (genv X scope C code) fp pn) t1 g1)
    (hpe : ∀ (A1 : Around) (s : Shared) (H : Hp) (C : Addr) (code : Value) (fp : List Addr) (pn : List (Addr × Obj)), Room k A1 → PE (gx X A1 s H (genv X scope C code) fp pn) elt te)
    (hs : ∀ v, genFold i0 X.env v = pure v := by intro _; rfl)
    (hs1 : ∀ env x, foldedSetIterable i1 env x = pure x := by intro _ _; rfl)
    (he : starEach [.GeneratorExp elt [⟨t0, i0, [], 0⟩, ⟨t1, i1, [], 0⟩] scope gpos] X.env = (false, eval (.GeneratorExp elt [⟨t0, i0, [], 0⟩, ⟨t1, i1, [], 0⟩] scope gpos) X.env) :: starEach [] X.env := by rfl) :
    PE X (.Call (.Name "all" p) [.GeneratorExp elt [⟨t0, i0, [], 0⟩, ⟨t1, i1, [], 0⟩] scope gpos] [] pos) (tGen2 true P wi g wi1 g1 te (own.map (·.2)) vs1) := by
  refine ⟨fun pins s σ H Q I h => ?_⟩
  refine wpAny_Call_Name_kw (ld_blt I hg hm boot_all ?_)
  refine PyProof.Rows.callWith_builtin1 ?_ he (by rfl)
  rw [he]
  show wpAny _ _ (spliced ((false, eval (.GeneratorExp elt [⟨t0, i0, [], 0⟩, ⟨t1, i1, [], 0⟩] scope gpos) X.env) :: backTo pos (starEach [] X.env))) _ _ s
  refine Calls.spliced_cons (gen_make2 (e := true) (Q := Q) hr TB hcode hN ok hcell hco h0 hi hv hpg hpi1 hpg1 hpe hs hs1 I h fun a s5 hG => ?_)
  obtain ⟨A1, s4, H4, cenv, fp, pn, og, gi, gs, σ', H5, n, hpn, hig, I5, hgs, hgo, back⟩ := hG
  refine Calls.spliced_nil ?_
  refine call_function_tree F.kind_all F.plain_all F.entry_all (F.args_all1 _) ?_
  unfold Builtin.«all»
  refine wpAny_bind (m := oneArg "all" _) (wpAny_pure ?_)
  refine wpAny_bind (wpAny_pyIter_gen (hig _ (I5.pin _ (List.mem_append_left _ hpn)).1) ?_)
  refine wpAny_pure ⟨plainId_quiet F.plain_all_loop _, drv_all (Y := gx X A1 s4 H4 cenv fp pn) (A := X.A) hpn hig hr.hd (by have := hr.dp; show X.A.depth + 0 < _; omega) (fun b σ6 H6 s6 I6 q => ?_) n gs σ' H5 s5 I5 hgs hgo⟩
  exact ⟨.bl b, H6, back σ6 H6 s6 I6, rfl, q⟩
end
end EwG

set_option Elab.async false
set_option linter.all false
set_option maxRecDepth 100000
set_option maxHeartbeats 4000000
/-! Finite commutative semirings given by tables. -/
namespace SRm
structure SR (n : Nat) (p t : Nat → Nat → Nat) (o : Nat) : Prop where
  pos : 0 < n
  oo : o < n
  pc : ∀ a, a < n → ∀ b, b < n → p a b < n
  tc : ∀ a, a < n → ∀ b, b < n → t a b < n
  p0 : ∀ a, a < n → p 0 a = a
  ps : ∀ a, a < n → ∀ b, b < n → p a b = p b a
  pa : ∀ a, a < n → ∀ b, b < n → ∀ c, c < n → p a (p b c) = p (p a b) c
  t1 : ∀ a, a < n → t o a = a
  t0 : ∀ a, a < n → t 0 a = 0
  ts : ∀ a, a < n → ∀ b, b < n → t a b = t b a
  ta : ∀ a, a < n → ∀ b, b < n → ∀ c, c < n → t a (t b c) = t (t a b) c
  ds : ∀ a, a < n → ∀ b, b < n → ∀ c, c < n → t a (p b c) = p (t a b) (t a c)
abbrev SRp (n : Nat) (p t : Nat → Nat → Nat) (o : Nat) : Prop :=
  0 < n ∧ o < n ∧ (∀ a, a < n → p 0 a = a ∧ t o a = a ∧ t 0 a = 0 ∧ ∀ b, b < n → p a b < n ∧ t a b < n ∧ p a b = p b a ∧ t a b = t b a ∧ ∀ c, c < n → p a (p b c) = p (p a b) c ∧ t a (t b c) = t (t a b) c ∧ t a (p b c) = p (t a b) (t a c))
theorem SR.of {n : Nat} {p t : Nat → Nat → Nat} {o : Nat} (h : SRp n p t o) : SR n p t o where
  pos := h.1
  oo := h.2.1
  pc := fun a ha b hb => ((h.2.2 a ha).2.2.2 b hb).1
  tc := fun a ha b hb => ((h.2.2 a ha).2.2.2 b hb).2.1
  p0 := fun a ha => (h.2.2 a ha).1
  ps := fun a ha b hb => ((h.2.2 a ha).2.2.2 b hb).2.2.1
  pa := fun a ha b hb c hc => (((h.2.2 a ha).2.2.2 b hb).2.2.2.2 c hc).1
  t1 := fun a ha => (h.2.2 a ha).2.1
  t0 := fun a ha => (h.2.2 a ha).2.2.1
  ts := fun a ha b hb => ((h.2.2 a ha).2.2.2 b hb).2.2.2.1
  ta := fun a ha b hb c hc => (((h.2.2 a ha).2.2.2 b hb).2.2.2.2 c hc).2.1
  ds := fun a ha b hb c hc => (((h.2.2 a ha).2.2.2 b hb).2.2.2.2 c hc).2.2
/-- equal within the range -/
theorem SR.congr {n : Nat} {p t p' t' : Nat → Nat → Nat} {o : Nat} (h : SR n p t o) (hp : ∀ a, a < n → ∀ b, b < n → p' a b = p a b) (ht : ∀ a, a < n → ∀ b, b < n → t' a b = t a b) : SR n p' t' o := by
  refine SR.of ⟨h.pos, h.oo, fun a ha => ⟨by rw [hp _ h.pos _ ha]; exact h.p0 a ha, by rw [ht _ h.oo _ ha]; exact h.t1 a ha, by rw [ht _ h.pos _ ha]; exact h.t0 a ha, fun b hb => ?_⟩⟩
  have e1 := hp _ ha _ hb
  have e2 := hp _ hb _ ha
  have e3 := ht _ ha _ hb
  have e4 := ht _ hb _ ha
  refine ⟨by rw [e1]; exact h.pc a ha b hb, by rw [e3]; exact h.tc a ha b hb, by rw [e1, e2]; exact h.ps a ha b hb, by rw [e3, e4]; exact h.ts a ha b hb, fun c hc => ?_⟩
  have pbc := h.pc b hb c hc
  have pab := h.pc a ha b hb
  have tbc := h.tc b hb c hc
  have tab := h.tc a ha b hb
  have tac := h.tc a ha c hc
  refine ⟨?_, ?_, ?_⟩
  · rw [hp _ hb _ hc, e1, hp _ ha _ pbc, hp _ pab _ hc]; exact h.pa a ha b hb c hc
  · rw [ht _ hb _ hc, e3, ht _ ha _ tbc, ht _ tab _ hc]; exact h.ta a ha b hb c hc
  · rw [hp _ hb _ hc, e3, ht _ ha _ pbc, ht _ ha _ hc, hp _ tab _ tac]; exact h.ds a ha b hb c hc
/-- the drawn families -/
def fP (kind n : Nat) : Nat → Nat → Nat := fun a b => match kind with
  | 0 => (a + b) % n
  | 1 => min (a + b) (n - 1)
  | 2 => max a b
  | 3 => a ||| b
  | 4 => a ^^^ b
  | _ => if a * b = 0 then max a b else min a b
def fT (kind n : Nat) : Nat → Nat → Nat := fun a b => match kind with
  | 0 => (a * b) % n
  | 1 => min (a * b) (n - 1)
  | 2 => min a b
  | 3 => a &&& b
  | 4 => a &&& b
  | _ => if a * b = 0 then 0 else min (a + b - 1) (n - 1)
def fO (kind n : Nat) : Nat := match kind with
  | 0 => 1 % n
  | 1 => min 1 (n - 1)
  | 2 => n - 1
  | 3 => n - 1
  | 4 => n - 1
  | _ => 1
def SRb (n : Nat) (p t : Nat → Nat → Nat) (o : Nat) : Bool :=
  Nat.blt 0 n && Nat.blt o n && (List.range n).all fun a => p 0 a == a && t o a == a && t 0 a == 0 && (List.range n).all fun b => Nat.blt (p a b) n && Nat.blt (t a b) n && p a b == p b a && t a b == t b a &&
    (List.range n).all fun c => p a (p b c) == p (p a b) c && t a (t b c) == t (t a b) c && t a (p b c) == p (t a b) (t a c)
theorem SR.ofb {n : Nat} {p t : Nat → Nat → Nat} {o : Nat} (h : SRb n p t o = true) : SR n p t o := by
  unfold SRb at h
  simp only [Bool.and_eq_true, List.all_eq_true, List.mem_range, beq_iff_eq, Nat.blt_eq] at h
  obtain ⟨⟨h1, h2⟩, h3⟩ := h
  refine SR.of ⟨h1, h2, fun a ha => ?_⟩
  obtain ⟨⟨⟨a1, a2⟩, a3⟩, a4⟩ := h3 a ha
  refine ⟨a1, a2, a3, fun b hb => ?_⟩
  obtain ⟨⟨⟨⟨b1, b2⟩, b3⟩, b4⟩, b5⟩ := a4 b hb
  refine ⟨b1, b2, b3, b4, fun c hc => ?_⟩
  obtain ⟨⟨c1, c2⟩, c3⟩ := b5 c hc
  exact ⟨c1, c2, c3⟩
theorem sr_smallb : ((List.range 3).all fun k => (List.range 6).all fun n => SRb (n + 1) (fP k (n + 1)) (fT k (n + 1)) (fO k (n + 1))) = true := by decide +kernel
theorem sr_bitsb : ((List.range 3).all fun k => (List.range 3).all fun m => SRb (2 ^ (m + 1)) (fP (k + 3) (2 ^ (m + 1))) (fT (k + 3) (2 ^ (m + 1))) (fO (k + 3) (2 ^ (m + 1)))) = true := by decide +kernel
theorem sr_small {k n : Nat} (hk : k < 3) (h0 : 0 < n) (hn : n < 7) : SR n (fP k n) (fT k n) (fO k n) := by
  have h := sr_smallb
  simp only [List.all_eq_true, List.mem_range] at h
  have q := h k hk (n - 1) (by omega)
  rw [show n - 1 + 1 = n by omega] at q
  exact SR.ofb q
theorem sr_bits {k m : Nat} (hk : k < 3) (hm : m < 3) : SR (2 ^ (m + 1)) (fP (k + 3) (2 ^ (m + 1))) (fT (k + 3) (2 ^ (m + 1))) (fO (k + 3) (2 ^ (m + 1))) := by
  have h := sr_bitsb
  simp only [List.all_eq_true, List.mem_range] at h
  exact SR.ofb (h k hk m hm)

theorem dm {m x y : Nat} (h : y < m) : (x * m + y) / m = x ∧ (x * m + y) % m = y := by
  have hm : 0 < m := Nat.lt_of_le_of_lt (Nat.zero_le _) h
  refine ⟨?_, ?_⟩
  · rw [Nat.mul_comm, Nat.mul_add_div hm, Nat.div_eq_of_lt h]; rfl
  · rw [Nat.mul_comm, Nat.mul_add_mod, Nat.mod_eq_of_lt h]
theorem lt_mul {n m x y : Nat} (hx : x < n) (hy : y < m) : x * m + y < n * m := by
  have : (x + 1) * m ≤ n * m := Nat.mul_le_mul_right m hx
  rw [Nat.succ_mul] at this
  omega
/-- both at once -/
def pr2 (m : Nat) (f g : Nat → Nat → Nat) : Nat → Nat → Nat := fun a b => f (a / m) (b / m) * m + g (a % m) (b % m)
theorem sr_pair {n m o o' : Nat} {p t p' t' : Nat → Nat → Nat} (x : SR n p t o) (y : SR m p' t' o') : SR (n * m) (pr2 m p p') (pr2 m t t') (o * m + o') := by
  have hm := y.pos
  have dl : ∀ {a}, a < n * m → a / m < n := fun h => Nat.div_lt_of_lt_mul (by rw [Nat.mul_comm]; exact h)
  have ml : ∀ a, a % m < m := fun a => Nat.mod_lt _ hm
  have eq : ∀ a, a / m * m + a % m = a := fun a => by rw [Nat.mul_comm]; exact Nat.div_add_mod a m
  have z : 0 / m = 0 ∧ 0 % m = 0 := ⟨Nat.zero_div _, Nat.zero_mod _⟩
  refine SR.of ⟨Nat.mul_pos x.pos hm, lt_mul x.oo y.oo, fun a ha => ⟨?_, ?_, ?_, fun b hb => ⟨?_, ?_, ?_, ?_, fun c hc => ⟨?_, ?_, ?_⟩⟩⟩⟩
  · unfold pr2; rw [z.1, z.2, x.p0 _ (dl ha), y.p0 _ (ml a), eq]
  · unfold pr2; rw [(dm y.oo).1, (dm y.oo).2, x.t1 _ (dl ha), y.t1 _ (ml a), eq]
  · unfold pr2; rw [z.1, z.2, x.t0 _ (dl ha), y.t0 _ (ml a)]; simp
  · exact lt_mul (x.pc _ (dl ha) _ (dl hb)) (y.pc _ (ml a) _ (ml b))
  · exact lt_mul (x.tc _ (dl ha) _ (dl hb)) (y.tc _ (ml a) _ (ml b))
  · unfold pr2; rw [x.ps _ (dl ha) _ (dl hb), y.ps _ (ml a) _ (ml b)]
  · unfold pr2; rw [x.ts _ (dl ha) _ (dl hb), y.ts _ (ml a) _ (ml b)]
  · unfold pr2
    rw [(dm (y.pc _ (ml b) _ (ml c))).1, (dm (y.pc _ (ml b) _ (ml c))).2, (dm (y.pc _ (ml a) _ (ml b))).1, (dm (y.pc _ (ml a) _ (ml b))).2, x.pa _ (dl ha) _ (dl hb) _ (dl hc), y.pa _ (ml a) _ (ml b) _ (ml c)]
  · unfold pr2
    rw [(dm (y.tc _ (ml b) _ (ml c))).1, (dm (y.tc _ (ml b) _ (ml c))).2, (dm (y.tc _ (ml a) _ (ml b))).1, (dm (y.tc _ (ml a) _ (ml b))).2, x.ta _ (dl ha) _ (dl hb) _ (dl hc), y.ta _ (ml a) _ (ml b) _ (ml c)]
  · unfold pr2
    rw [(dm (y.pc _ (ml b) _ (ml c))).1, (dm (y.pc _ (ml b) _ (ml c))).2, (dm (y.tc _ (ml a) _ (ml b))).1, (dm (y.tc _ (ml a) _ (ml b))).2, (dm (y.tc _ (ml a) _ (ml c))).1, (dm (y.tc _ (ml a) _ (ml c))).2, x.ds _ (dl ha) _ (dl hb) _ (dl hc), y.ds _ (ml a) _ (ml b) _ (ml c)]
/-- renamed by s, back by b -/
theorem sr_ren {n o : Nat} {p t : Nat → Nat → Nat} {s b : Nat → Nat} (x : SR n p t o) (hs : ∀ i, i < n → s i < n) (hb : ∀ i, i < n → b i < n) (sb : ∀ i, i < n → s (b i) = i) (bs : ∀ i, i < n → b (s i) = i) (s0 : s 0 = 0) :
    SR n (fun i j => s (p (b i) (b j))) (fun i j => s (t (b i) (b j))) (s o) := by
  have b0 : b 0 = 0 := by have := bs 0 x.pos; rw [s0] at this; exact this
  refine SR.of ⟨x.pos, hs _ x.oo, fun i hi => ⟨?_, ?_, ?_, fun j hj => ⟨?_, ?_, ?_, ?_, fun k hk => ⟨?_, ?_, ?_⟩⟩⟩⟩
  · show s (p (b 0) (b i)) = i
    rw [b0, x.p0 _ (hb i hi), sb i hi]
  · show s (t (b (s o)) (b i)) = i
    rw [bs _ x.oo, x.t1 _ (hb i hi), sb i hi]
  · show s (t (b 0) (b i)) = 0
    rw [b0, x.t0 _ (hb i hi), s0]
  · exact hs _ (x.pc _ (hb i hi) _ (hb j hj))
  · exact hs _ (x.tc _ (hb i hi) _ (hb j hj))
  · show s (p (b i) (b j)) = s (p (b j) (b i))
    rw [x.ps _ (hb i hi) _ (hb j hj)]
  · show s (t (b i) (b j)) = s (t (b j) (b i))
    rw [x.ts _ (hb i hi) _ (hb j hj)]
  · show s (p (b i) (b (s (p (b j) (b k))))) = s (p (b (s (p (b i) (b j)))) (b k))
    rw [bs _ (x.pc _ (hb j hj) _ (hb k hk)), bs _ (x.pc _ (hb i hi) _ (hb j hj)), x.pa _ (hb i hi) _ (hb j hj) _ (hb k hk)]
  · show s (t (b i) (b (s (t (b j) (b k))))) = s (t (b (s (t (b i) (b j)))) (b k))
    rw [bs _ (x.tc _ (hb j hj) _ (hb k hk)), bs _ (x.tc _ (hb i hi) _ (hb j hj)), x.ta _ (hb i hi) _ (hb j hj) _ (hb k hk)]
  · show s (t (b i) (b (s (p (b j) (b k))))) = s (p (b (s (t (b i) (b j)))) (b (s (t (b i) (b k)))))
    rw [bs _ (x.pc _ (hb j hj) _ (hb k hk)), bs _ (x.tc _ (hb i hi) _ (hb j hj)), bs _ (x.tc _ (hb i hi) _ (hb k hk)), x.ds _ (hb i hi) _ (hb j hj) _ (hb k hk)]
end SRm

set_option Elab.async false
set_option linter.all false
set_option maxRecDepth 100000
set_option maxHeartbeats 4000000
/-! Readings of comprehensions and loops over tables. -/
namespace Tb
open PySem PySem.Spec PyProof.Rows L2 Ew EwG GxR

theorem yes_then {σ : L2.St} {H : Hp} {Q : Bool → Hp → Prop} (q : Q true H) : tYes σ H Q := q
/-- all but what stands at a is as it was -/
def But (a : Addr) (H H' : Hp) : Prop := ∀ b o, b ≠ a → H b = some o → H' b = some o
theorem but_app {D : Addr} {H : Hp} {o : HO} : But D H (upd H D o) := fun b u n e => by rw [upd_ne n]; exact e
theorem But.of {D : Addr} {H H' : Hp} (s : Same H H') : But D H H' := fun b o _ e => s b o e
theorem But.trans {D : Addr} {H H' H'' : Hp} (x : But D H H') (y : But D H' H'') : But D H H'' := fun b o n e => y b o n (x b o n e)
theorem same_but {D : Addr} {H1 H H' : Hp} (hD : H1 D = none) (s : Same H1 H) (b : But D H H') : Same H1 H' := fun c o e => b c o (ne_of_none e hD) (s c o e)
theorem same_new {p : Addr} {H H1 : Hp} {o : HO} (x : Same H H1) (h : H p = none) : Same H (L2.upd H1 p o) := fun b u e => by rw [upd_ne (ne_of_none e h)]; exact x b u e
theorem ext_of {xs : List V} {n : Nat} {f : Nat → V} (hl : xs.length = n) (h : ∀ (i : Nat) v, xs[i]? = some v → v = f i) : xs = (List.range n).map f := by
  refine List.ext_getElem? fun i => ?_
  rw [List.getElem?_map]
  by_cases c : i < n
  · have e : (List.range n)[i]? = some i := by rw [List.getElem?_eq_getElem (by simpa using c), List.getElem_range]
    rw [e]
    obtain ⟨v, hv⟩ : ∃ v, xs[i]? = some v := ⟨_, List.getElem?_eq_getElem (by omega)⟩
    rw [hv, h i v hv]
    rfl
  · rw [List.getElem?_eq_none (by omega), List.getElem?_eq_none (by simpa using c)]
    rfl
theorem at_map {n i : Nat} {f : Nat → V} (h : i < n) : ((List.range n).map f)[i]? = some (f i) := by
  rw [List.getElem?_map, List.getElem?_eq_getElem (by simpa using h), List.getElem_range]
  rfl

/-- [e for x in range(lo, lo + n)]: the heap grows; each element satisfies R -/
theorem lc_rng {lo : Int} {n k : Nat} {te : TE} {vs : List Nat} {σ : L2.St} {H1 : Hp} {D : Addr} {Qd : Hp → Prop} (R : Nat → V → Hp → Prop) (hD : H1 D = none)
    (NR : ∀ i v H H', But D H H' → R i v H → R i v H') (hn : n ≤ 100000) (hw : ∀ x, wipe ((wipe σ vs).set k (some x)) vs = wipe σ vs)
    (hs : ∀ (i : Nat) (H : Hp) (acc : List V) (Kt : VK), i < n → Same H1 H → H D = some (.lst acc) → (∀ y H4, Same H H4 → R i y H4 → Kt y H4) → te ((wipe σ vs).set k (some (.int (lo + i)))) H Kt)
    (hd : ∀ H rows, Same H1 H → H D = some (.lst rows) → rows.length = n → (∀ (i : Nat) v, rows[i]? = some v → R i v H) → Qd H) :
    ∃ W : Nat → Nat → Hp → Prop, (∃ m, W 0 m (upd H1 D (.lst []))) ∧ ∀ i m H, W i m H →
      ((Itr lo n).stop i H ∧ Qd H) ∨ ((Itr lo n).go i H ∧ ∃ Nx : Hp → Prop, (∀ H', Nx H' → ∃ m', m' < m ∧ W (i + 1) m' H') ∧ ∀ x H', (Itr lo n).yld i H x H' → gName k x (wipe σ vs) H' fun σ2 H2 => wipe σ2 vs = wipe σ vs ∧ tYes σ2 H2 fun b H3 =>
        if b = true then te σ2 H3 fun y H4 => ∃ acc, H4 D = some (.lst acc) ∧ acc.length < sizeLine ∧ Nx (upd H4 D (.lst (acc ++ [y]))) else Nx H3) := by
  refine lc_range (fun i H => Same H1 H ∧ ∃ rows, H D = some (.lst rows) ∧ rows.length = i ∧ ∀ (j : Nat) v, rows[j]? = some v → R j v H) ⟨same_new (Same.refl _) hD, [], upd_same, rfl, fun j v e => by simp at e⟩ (fun i H hi ⟨s1, rows, e1, e2, e3⟩ => ?_) (fun H ⟨s1, rows, e1, e2, e3⟩ => hd H rows s1 e1 e2 e3)
  refine ⟨hw _, ?_⟩
  refine yes_then ?_
  refine iteT ?_
  refine hs i H rows _ hi s1 e1 fun y H4 s4 r4 => ⟨rows, s4 _ _ e1, ?_, same_but hD (fun b o e => s4 b o (s1 b o e)) but_app, rows ++ [y], upd_same, by rw [List.length_append, e2]; rfl, fun j v e => ?_⟩
  · rw [e2]
    exact Nat.lt_of_lt_of_le hi (Nat.le_trans hn (by decide))
  · by_cases c : j < rows.length
    · rw [List.getElem?_append_left c] at e
      exact NR _ _ _ _ (But.trans (But.of s4) but_app) (e3 j v e)
    · rw [List.getElem?_append_right (by omega)] at e
      have hj : j = i := by
        have : j - rows.length < [y].length := by
          rcases Nat.lt_or_ge (j - rows.length) [y].length with h | h
          · exact h
          · rw [List.getElem?_eq_none h] at e; cases e
        have h1 : [y].length = 1 := rfl
        omega
      subst hj
      rw [e2, Nat.sub_self] at e
      have : y = v := by simpa using e
      subst this
      exact NR _ _ _ _ but_app r4
/-- .. whose elements are plain values -/
theorem lc_vals {lo : Int} {n k : Nat} {te : TE} {vs : List Nat} {σ : L2.St} {H1 : Hp} {D : Addr} {Qd : Hp → Prop} (f : Nat → V) (hD : H1 D = none)
    (hn : n ≤ 100000) (hw : ∀ x, wipe ((wipe σ vs).set k (some x)) vs = wipe σ vs)
    (hs : ∀ (i : Nat) (H : Hp) (Kt : VK), i < n → Same H1 H → (∀ H4, Same H H4 → Kt (f i) H4) → te ((wipe σ vs).set k (some (.int (lo + i)))) H Kt)
    (hd : ∀ H, Same H1 H → H D = some (.lst ((List.range n).map f)) → Qd H) :
    ∃ W : Nat → Nat → Hp → Prop, (∃ m, W 0 m (upd H1 D (.lst []))) ∧ ∀ i m H, W i m H →
      ((Itr lo n).stop i H ∧ Qd H) ∨ ((Itr lo n).go i H ∧ ∃ Nx : Hp → Prop, (∀ H', Nx H' → ∃ m', m' < m ∧ W (i + 1) m' H') ∧ ∀ x H', (Itr lo n).yld i H x H' → gName k x (wipe σ vs) H' fun σ2 H2 => wipe σ2 vs = wipe σ vs ∧ tYes σ2 H2 fun b H3 =>
        if b = true then te σ2 H3 fun y H4 => ∃ acc, H4 D = some (.lst acc) ∧ acc.length < sizeLine ∧ Nx (upd H4 D (.lst (acc ++ [y]))) else Nx H3) :=
  lc_rng (fun i v _ => v = f i) hD (fun _ _ _ _ _ h => h) hn hw (fun i H _ Kt hi s _ k => hs i H Kt hi s fun H4 s4 => k _ H4 s4 rfl) fun H rows s e l h => hd H s (by rw [e, ext_of l h])

/-- a list (at D) of n lists of n ints; none of them at a -/
def LL (a : Addr) (H : Hp) (D : Addr) (n : Nat) (F : Nat → Nat → Int) : Prop :=
  ∃ rows : List V, D ≠ a ∧ H D = some (.lst rows) ∧ rows.length = n ∧ ∀ i, i < n → ∃ r, rows[i]? = some (.ref r) ∧ r ≠ a ∧ H r = some (.lst ((List.range n).map fun j => V.int (F i j)))
theorem LL.but {a D : Addr} {H H' : Hp} {n : Nat} {F : Nat → Nat → Int} (x : LL a H D n F) (b : But a H H') : LL a H' D n F := by
  obtain ⟨rows, h1, h2, h3, h4⟩ := x
  exact ⟨rows, h1, b _ _ h1 h2, h3, fun i hi => let ⟨r, e1, e2, e3⟩ := h4 i hi; ⟨r, e1, e2, b _ _ e2 e3⟩⟩
theorem LL.congr {a D : Addr} {H : Hp} {n : Nat} {F G : Nat → Nat → Int} (x : LL a H D n F) (e : ∀ i, i < n → ∀ j, j < n → F i j = G i j) : LL a H D n G := by
  obtain ⟨rows, h1, h2, h3, h4⟩ := x
  refine ⟨rows, h1, h2, h3, fun i hi => ?_⟩
  obtain ⟨r, e1, e2, e3⟩ := h4 i hi
  refine ⟨r, e1, e2, ?_⟩
  rw [e3]
  refine congrArg (fun z => some (HO.lst z)) (List.map_congr_left fun j hj => ?_)
  rw [e i hi j (List.mem_range.mp hj)]
/-- a tuple of n tuples of n ints -/
def TT (H : Hp) (D : Addr) (n : Nat) (F : Nat → Nat → Int) : Prop :=
  ∃ rows : List V, H D = some (.tup rows) ∧ rows.length = n ∧ ∀ i, i < n → ∃ r, rows[i]? = some (.ref r) ∧ H r = some (.tup ((List.range n).map fun j => V.int (F i j)))
theorem TT.same {D : Addr} {H H' : Hp} {n : Nat} {F : Nat → Nat → Int} (x : TT H D n F) (b : ∀ c xs, H c = some (.tup xs) → H' c = some (.tup xs)) : TT H' D n F := by
  obtain ⟨rows, h2, h3, h4⟩ := x
  exact ⟨rows, b _ _ h2, h3, fun i hi => let ⟨r, e1, e3⟩ := h4 i hi; ⟨r, e1, b _ _ e3⟩⟩
/-- [[e for b in range(n)] for a in range(n)] : the outer one -/
theorem lc_LL {a : Addr} {ao : HO} {n k : Nat} {te : TE} {vs : List Nat} {σ : L2.St} {H1 : Hp} {D : Addr} {Qd : Hp → Prop} (F : Nat → Nat → Int) (hD : H1 D = none) (ha : H1 a = some ao)
    (hn : n ≤ 100000) (hw : ∀ x, wipe ((wipe σ vs).set k (some x)) vs = wipe σ vs)
    (hs : ∀ (i : Nat) (H : Hp) (Kt : VK), i < n → Same H1 H → (∀ r H4, Same H H4 → H r = none → H4 r = some (.lst ((List.range n).map fun j => V.int (F i j))) → Kt (.ref r) H4) → te ((wipe σ vs).set k (some (.int (0 + i)))) H Kt)
    (hd : ∀ H, Same H1 H → LL a H D n F → Qd H) :
    ∃ W : Nat → Nat → Hp → Prop, (∃ m, W 0 m (upd H1 D (.lst []))) ∧ ∀ i m H, W i m H →
      ((Itr 0 n).stop i H ∧ Qd H) ∨ ((Itr 0 n).go i H ∧ ∃ Nx : Hp → Prop, (∀ H', Nx H' → ∃ m', m' < m ∧ W (i + 1) m' H') ∧ ∀ x H', (Itr 0 n).yld i H x H' → gName k x (wipe σ vs) H' fun σ2 H2 => wipe σ2 vs = wipe σ vs ∧ tYes σ2 H2 fun b H3 =>
        if b = true then te σ2 H3 fun y H4 => ∃ acc, H4 D = some (.lst acc) ∧ acc.length < sizeLine ∧ Nx (upd H4 D (.lst (acc ++ [y]))) else Nx H3) := by
  refine lc_rng (fun i v H => ∃ r, v = .ref r ∧ r ≠ D ∧ r ≠ a ∧ H r = some (.lst ((List.range n).map fun j => V.int (F i j)))) hD (fun i v H H' b ⟨r, e1, e2, e3, e4⟩ => ⟨r, e1, e2, e3, b _ _ e2 e4⟩) hn hw
    (fun i H acc Kt hi s e k => hs i H Kt hi s fun r H4 s4 hr h4 => k _ H4 s4 ⟨r, rfl, (fun z => by rw [z, e] at hr; cases hr), (fun z => by rw [z, s _ _ ha] at hr; cases hr), h4⟩) fun H rows s e l h => hd H s ⟨rows, (fun z => by rw [z, ha] at hD; cases hD), e, l, fun i hi => ?_⟩
  obtain ⟨v, hv⟩ : ∃ v, rows[i]? = some v := ⟨_, List.getElem?_eq_getElem (by omega)⟩
  obtain ⟨r, rfl, _, h1, h2⟩ := h i v hv
  exact ⟨r, hv, h1, h2⟩

/-- [[e for b in range(n)] for a in range(n)] as a reading -/
theorem tab_lc {a : Addr} {ao : HO} {n ns ka kb : Nat} {te : TE} {σ : L2.St} {H : Hp} {Q : VK} (F : Nat → Nat → Int) (ha : H a = some ao) (hn : n ≤ 100000)
    (hs : ∀ (i j : Nat) (H' : Hp) (Kt : VK), i < n → j < n → Same H H' → (∀ H4, Same H' H4 → Kt (.int (F i j)) H4) → te ((wipe ((wipe σ [ka]).set ka (some (.int (i : Int)))) [kb]).set kb (some (.int (j : Int)))) H' Kt)
    (hd : ∀ H' D, Same H H' → H D = none → LL a H' D n F → Q (.ref D) H')
    (h1 : σ[ns]? = some (some (.int (n : Int))) := by rfl) (h2 : ∀ x, ((wipe σ [ka]).set ka (some x))[ns]? = some (some (.int (n : Int))) := by intro _; rfl)
    (w1 : ∀ x, wipe ((wipe σ [ka]).set ka (some x)) [ka] = wipe σ [ka] := by intro _; rfl) (w2 : ∀ y x, wipe ((wipe ((wipe σ [ka]).set ka (some y)) [kb]).set kb (some x)) [kb] = wipe ((wipe σ [ka]).set ka (some y)) [kb] := by intro _ _; rfl) :
    tLc (iRng1 (tCons (tVar ns) tNil)) (gName ka) tYes (tLc (iRng1 (tCons (tVar ns) tNil)) (gName kb) tYes te [kb]) [ka] σ H Q := by
  refine ⟨_, h1, _, rfl, by omega, by omega, fun D hD => ?_⟩
  refine lc_LL (a := a) F hD ha hn w1 (fun i H' Kt hi s k => ?_) (fun H' s l => hd H' D s hD l)
  refine ⟨_, h2 _, _, rfl, by omega, by omega, fun D' hD' => ?_⟩
  refine lc_vals (fun j => V.int (F i j)) hD' hn (w2 _) (fun j H4 Kt4 hj s4 k4 => ?_) (fun H4 s4 e4 => k D' H4 s4 hD' e4)
  rw [Int.zero_add, Int.zero_add]
  exact hs i j H4 Kt4 hi hj (fun b o e => s4 b o (s b o e)) k4

/-- [e for x in l], l a list that the turns leave as it is -/
theorem lc_lst {K : PySem.W.Frag} {L : Addr} {xs : List V} {k : Nat} {te : TE} {vs : List Nat} {σ : L2.St} {H1 : Hp} {D : Addr} {Qd : Hp → Prop} (R : Nat → V → Hp → Prop) (hD : H1 D = none) (hL : SqL K H1 L xs) (hLs : ∀ H, Same H1 H → SqL K H L xs)
    (NR : ∀ i v H H', But D H H' → R i v H → R i v H') (hn : xs.length ≤ 100000) (hw : ∀ x, wipe ((wipe σ vs).set k (some x)) vs = wipe σ vs)
    (hs : ∀ (i : Nat) (x : V) (H : Hp) (acc : List V) (Kt : VK), xs[i]? = some x → Same H1 H → H D = some (.lst acc) → (∀ y H4, Same H H4 → R i y H4 → Kt y H4) → te ((wipe σ vs).set k (some x)) H Kt)
    (hd : ∀ H rows, Same H1 H → H D = some (.lst rows) → rows.length = xs.length → (∀ (i : Nat) v, rows[i]? = some v → R i v H) → Qd H) :
    ∃ W : Nat → Nat → Hp → Prop, (∃ m, W 0 m (upd H1 D (.lst []))) ∧ ∀ i m H, W i m H →
      ((Itl K L).stop i H ∧ Qd H) ∨ ((Itl K L).go i H ∧ ∃ Nx : Hp → Prop, (∀ H', Nx H' → ∃ m', m' < m ∧ W (i + 1) m' H') ∧ ∀ x H', (Itl K L).yld i H x H' → gName k x (wipe σ vs) H' fun σ2 H2 => wipe σ2 vs = wipe σ vs ∧ tYes σ2 H2 fun b H3 =>
        if b = true then te σ2 H3 fun y H4 => ∃ acc, H4 D = some (.lst acc) ∧ acc.length < sizeLine ∧ Nx (upd H4 D (.lst (acc ++ [y]))) else Nx H3) := by
  refine lc_list (fun i H => Same H1 H ∧ ∃ rows, H D = some (.lst rows) ∧ rows.length = i ∧ ∀ (j : Nat) v, rows[j]? = some v → R j v H) ⟨same_new (Same.refl _) hD, [], upd_same, rfl, fun j v e => by simp at e⟩ (fun i H _ ⟨s1, _⟩ => hLs H s1) (fun i x H hx ⟨s1, rows, e1, e2, e3⟩ => ?_) (fun H ⟨s1, rows, e1, e2, e3⟩ => hd H rows s1 e1 e2 e3)
  refine ⟨hw _, ?_⟩
  refine yes_then ?_
  refine iteT ?_
  have hi : i < xs.length := by
    rcases Nat.lt_or_ge i xs.length with h | h
    · exact h
    · rw [List.getElem?_eq_none h] at hx; cases hx
  refine hs i x H rows _ hx s1 e1 fun y H4 s4 r4 => ⟨rows, s4 _ _ e1, ?_, same_but hD (fun b o e => s4 b o (s1 b o e)) but_app, rows ++ [y], upd_same, by rw [List.length_append, e2]; rfl, fun j v e => ?_⟩
  · rw [e2]
    exact Nat.lt_of_lt_of_le hi (Nat.le_trans hn (by decide))
  · by_cases c : j < rows.length
    · rw [List.getElem?_append_left c] at e
      exact NR _ _ _ _ (But.trans (But.of s4) but_app) (e3 j v e)
    · rw [List.getElem?_append_right (by omega)] at e
      have hj : j = i := by
        have : j - rows.length < [y].length := by
          rcases Nat.lt_or_ge (j - rows.length) [y].length with h | h
          · exact h
          · rw [List.getElem?_eq_none h] at e; cases e
        have h1 : [y].length = 1 := rfl
        omega
      subst hj
      rw [e2, Nat.sub_self] at e
      have : y = v := by simpa using e
      subst this
      exact NR _ _ _ _ but_app r4
/-- [[e for b in l] for a in l], l a list of n things, as a reading: a list of n lists of n ints -/
theorem tab_lst {K : PySem.W.Frag} {a L : Addr} {ao : HO} {xs : List V} {n ns ka kb : Nat} {te : TE} {σ : L2.St} {H : Hp} {Q : VK} (F : Nat → Nat → Int) (ha : H a = some ao) (hL : H L = some (.lst xs)) (hxl : xs.length = n) (hn : n ≤ 100000)
    (hs : ∀ (i j : Nat) (x y : V) (H' : Hp) (Kt : VK), i < n → j < n → xs[i]? = some x → xs[j]? = some y → Same H H' → (∀ H4, Same H' H4 → Kt (.int (F i j)) H4) → te ((wipe ((wipe σ [ka]).set ka (some x)) [kb]).set kb (some y)) H' Kt)
    (hd : ∀ H' D, Same H H' → H D = none → LL a H' D n F → Q (.ref D) H')
    (h1 : σ[ns]? = some (some (.ref L)) := by rfl) (h2 : ∀ x, ((wipe σ [ka]).set ka (some x))[ns]? = some (some (.ref L)) := by intro _; rfl)
    (w1 : ∀ x, wipe ((wipe σ [ka]).set ka (some x)) [ka] = wipe σ [ka] := by intro _; rfl) (w2 : ∀ y x, wipe ((wipe ((wipe σ [ka]).set ka (some y)) [kb]).set kb (some x)) [kb] = wipe ((wipe σ [ka]).set ka (some y)) [kb] := by intro _ _; rfl) :
    tLc (iList K (tVar ns)) (gName ka) tYes (tLc (iList K (tVar ns)) (gName kb) tYes te [kb]) [ka] σ H Q := by
  have at_ : ∀ {i : Nat} {x : V}, xs[i]? = some x → i < n := fun {i x} h => by
    rcases Nat.lt_or_ge i xs.length with h' | h'
    · omega
    · rw [List.getElem?_eq_none h'] at h; cases h
  refine ⟨_, h1, L, rfl, ⟨xs, SqL.of hL⟩, fun D hD => ?_⟩
  refine lc_lst (K := K) (xs := xs) (fun i v H => ∃ r, v = .ref r ∧ r ≠ D ∧ r ≠ a ∧ H r = some (.lst ((List.range n).map fun j => V.int (F i j)))) hD (SqL.of hL) (fun H' s => SqL.of (s _ _ hL)) (fun i v H H' b ⟨r, e1, e2, e3, e4⟩ => ⟨r, e1, e2, e3, b _ _ e2 e4⟩) (by omega) w1 (fun i x H' acc Kt hx s e k => ?_) (fun H' rows s e l h => ?_)
  · refine ⟨_, h2 _, L, rfl, ⟨xs, SqL.of (s _ _ hL)⟩, fun D' hD' => ?_⟩
    refine lc_lst (K := K) (xs := xs) (fun j v _ => v = V.int (F i j)) hD' (SqL.of (s _ _ hL)) (fun H4 s4 => SqL.of (s4 _ _ (s _ _ hL))) (fun _ _ _ _ _ h => h) (by omega) (w2 _) (fun j y H4 acc' Kt4 hy s4 e4 k4 => ?_) (fun H4 rows s4 e4 l4 h4 => ?_)
    · exact hs i j x y H4 Kt4 (at_ hx) (at_ hy) hx hy (fun b o e => s4 b o (s b o e)) fun H5 s5 => k4 _ H5 s5 rfl
    · refine k _ H4 s4 ⟨D', rfl, (fun z => by rw [z, e] at hD'; cases hD'), (fun z => by rw [z, s _ _ ha] at hD'; cases hD'), ?_⟩
      rw [e4, ext_of (l4.trans hxl) h4]
  · refine hd H' D s hD ⟨rows, (fun z => by rw [z, ha] at hD; cases hD), e, l.trans hxl, fun i hi => ?_⟩
    obtain ⟨v, hv⟩ : ∃ v, rows[i]? = some v := ⟨_, List.getElem?_eq_getElem (by omega)⟩
    obtain ⟨r, rfl, _, h1, h2⟩ := h i v hv
    exact ⟨r, hv, h1, h2⟩
abbrev rTupOf (K : PySem.W.Frag) : List V → Hp → VK → Prop := fun xs H Q => ∃ p ys, xs = [.ref p] ∧ ((SqL K H p ys ∧ ∀ l, H l = none → Q (.ref l) (upd H l (.tup ys))) ∨ (SqT K H p ys ∧ Q (.ref p) H))
/-- tuple([tuple([e for b in range(n)]) for a in range(n)]) as a reading -/
theorem tab_tt {K : PySem.W.Frag} {n ns ka kb : Nat} {te : TE} {σ : L2.St} {H : Hp} {Q : VK} (F : Nat → Nat → Int) (hn : n ≤ 100000)
    (hs : ∀ (i j : Nat) (H' : Hp) (Kt : VK), i < n → j < n → Same H H' → (∀ H4, Same H' H4 → Kt (.int (F i j)) H4) → te ((wipe ((wipe σ [ka]).set ka (some (.int (i : Int)))) [kb]).set kb (some (.int (j : Int)))) H' Kt)
    (hd : ∀ H' D, Same H H' → TT H' D n F → Q (.ref D) H')
    (h1 : σ[ns]? = some (some (.int (n : Int))) := by rfl) (h2 : ∀ x, ((wipe σ [ka]).set ka (some x))[ns]? = some (some (.int (n : Int))) := by intro _; rfl)
    (w1 : ∀ x, wipe ((wipe σ [ka]).set ka (some x)) [ka] = wipe σ [ka] := by intro _; rfl) (w2 : ∀ y x, wipe ((wipe ((wipe σ [ka]).set ka (some y)) [kb]).set kb (some x)) [kb] = wipe ((wipe σ [ka]).set ka (some y)) [kb] := by intro _ _; rfl) :
    tCB (rTupOf K) (tCons (tLc (iRng1 (tCons (tVar ns) tNil)) (gName ka) tYes (tCB (rTupOf K) (tCons (tLc (iRng1 (tCons (tVar ns) tNil)) (gName kb) tYes te [kb]) tNil)) [ka]) tNil) σ H Q := by
  refine ⟨_, h1, _, rfl, by omega, by omega, fun D hD => ?_⟩
  rw [Int.toNat_natCast]
  refine lc_rng (lo := 0) (n := n) (fun i v H => ∃ r, v = .ref r ∧ r ≠ D ∧ H r = some (.tup ((List.range n).map fun j => V.int (F i j)))) hD (fun i v H H' b ⟨r, e1, e2, e3⟩ => ⟨r, e1, e2, b _ _ e2 e3⟩) hn w1 (fun i H' acc Kt hi s e k => ?_) (fun H' rows s e l h => ?_)
  · rw [Int.zero_add]
    refine ⟨_, h2 _, _, rfl, by omega, by omega, fun D' hD' => ?_⟩
    rw [Int.toNat_natCast]
    refine lc_vals (lo := 0) (n := n) (fun j => V.int (F i j)) hD' hn (w2 _) (fun j H4 Kt4 hj s4 k4 => ?_) (fun H4 s4 e4 => ?_)
    · rw [Int.zero_add]
      exact hs i j H4 Kt4 hi hj (fun b o e => s4 b o (s b o e)) k4
    · refine ⟨D', _, rfl, .inl ⟨SqL.of e4, fun r hr => ?_⟩⟩
      exact k _ _ (fun b o e => same_new (Same.refl _) hr b o (s4 b o e)) ⟨r, rfl, (fun z => by rw [z, s4 _ _ e] at hr; cases hr), upd_same⟩
  · refine ⟨D, rows, rfl, .inl ⟨SqL.of e, fun q hq => ?_⟩⟩
    have sq : Same H' (upd H' q (.tup rows)) := same_new (Same.refl _) hq
    refine hd _ q (fun b o e => sq b o (s b o e)) ⟨rows, upd_same, l, fun i hi => ?_⟩
    obtain ⟨v, hv⟩ : ∃ v, rows[i]? = some v := ⟨_, List.getElem?_eq_getElem (by omega)⟩
    obtain ⟨r, rfl, _, h2⟩ := h i v hv
    exact ⟨r, hv, sq _ _ h2⟩
section
variable {X : Cx} {o e : Expr} {es : List Expr} {to : TE} {t : TA} {name : Str} {apos cpos : Pos} {T id : String} {r : V → List V → Hp → VK → Prop}
theorem kpe_bm {K : PySem.W.Frag} (pa : PlainAttrs T) (slot : Slot T name id) (hty : typeOf (.builtin id) = pure (.type "method_descriptor")) (hm : MtR X id r) (ho : PE X o to) (ha : PA X (e :: es) t) (hK : X.K = K := by rfl)
    (hbase : attributeBase o name X.env (eval o X.env) = eval o X.env := by rfl)
    (hfew : ((backTo cpos (starEach (e :: es) X.env)).all (fun x => !x.1) && (backToKw cpos (keywordEach [] X.env)).all (fun x => x.1.isSome)
      && decide ((e :: es).length + ([] : List Keyword).length + (if ([] : List Keyword).isEmpty then 0 else 1) < 30)) = true := by rfl)
    (hline : (apos.endLine == cpos.line) = true := by rfl) (hs : starEach (e :: es) X.env = (false, eval e X.env) :: starEach es X.env := by rfl) (hplain : (backTo cpos (starEach es X.env)).any (·.1) = false := by rfl) :
    PE X (.Call (.Attribute o name apos) (e :: es) [] cpos) (tBM K T r to t) := hK ▸ pe_bm pa slot hty hm ho ha hbase hfew hline hs hplain
theorem kmt_index {K : PySem.W.Frag} (hK : X.K = K := by rfl) : MtR X "list.index" (rIndex K) := hK ▸ mt_index
theorem kcall_tuple_of {K : PySem.W.Frag} (hK : X.K = K := by rfl) : CallR X (.type "tuple") (rTupOf K) := hK ▸ call_tuple_of
end
theorem erase_perm {α : Type} : ∀ (l : List α) (i : Nat) (y : α), l[i]? = some y → (y :: l.eraseIdx i).Perm l
  | [], i, y, e => by simp at e
  | a :: l, 0, y, e => by
    have q : a = y := by simpa using e
    subst q
    exact List.Perm.refl _
  | a :: l, i + 1, y, e => by
    have q := erase_perm l i y (by simpa using e)
    show (y :: a :: l.eraseIdx i).Perm (a :: l)
    exact (List.Perm.swap a y _).trans (q.cons a)
/-- names: a renaming of 0 .. n - 1 that keeps 0, and its inverse -/
theorem ren_of {n : Nat} {ns : List Nat} (p : ns.Perm (List.range n)) (h0 : ns[0]? = some 0) :
    (∀ i, i < n → ns[i]? = some (ns.getD i 0)) ∧ (∀ i, i < n → ns.getD i 0 < n) ∧ (∀ k, k < n → ns.idxOf k < n) ∧ (∀ k, k < n → ns.getD (ns.idxOf k) 0 = k) ∧ (∀ i, i < n → ns.idxOf (ns.getD i 0) = i) ∧ ns.getD 0 0 = 0 := by
  have hl : ns.length = n := by rw [p.length_eq, List.length_range]
  have nd : ns.Nodup := p.nodup_iff.mpr List.nodup_range
  have at_ : ∀ i, i < n → ns[i]? = some (ns.getD i 0) := fun i hi => by
    rw [List.getD_eq_getElem?_getD, List.getElem?_eq_getElem (by omega)]
    rfl
  have mem : ∀ k, k < n → k ∈ ns := fun k hk => p.mem_iff.mpr (List.mem_range.mpr hk)
  have ix : ∀ k, k < n → ns.idxOf k < n := fun k hk => by
    have := List.idxOf_lt_length_iff.mpr (mem k hk)
    omega
  refine ⟨at_, fun i hi => List.mem_range.mp (p.mem_iff.mp (List.mem_of_getElem? (at_ i hi))), ix, fun k hk => ?_, fun i hi => ?_, ?_⟩
  · have h := ix k hk
    rw [← hl] at h
    rw [List.getD_eq_getElem?_getD, List.getElem?_eq_getElem h, List.getElem_idxOf h]
    rfl
  · have h : i < ns.length := by omega
    rw [List.getD_eq_getElem?_getD, List.getElem?_eq_getElem h]
    exact nd.idxOf_getElem i h
  · rw [List.getD_eq_getElem?_getD, h0]
    rfl
theorem idx_first {n : Nat} {ns : List Nat} (p : ns.Perm (List.range n)) {k m z : Nat} (h : m < ns.idxOf k) (e : ns[m]? = some z) : z ≠ k := fun q => by
  have nd : ns.Nodup := p.nodup_iff.mpr List.nodup_range
  obtain ⟨hm, e⟩ := List.getElem?_eq_some_iff.mp e
  have := nd.idxOf_getElem m hm
  rw [e, q] at this
  omega
theorem go_seq {te : TE} {g : TG} {u : TS} {D : Ends} {σ : L2.St} {H : Hp} (h : te σ H fun x H1 => g x σ H1 fun σ' H' => u D σ' H') : tSeq (tAsg te g) u D σ H := h
theorem go_next {f : L2.St → Hp → Prop} {rt : VK} {bk ct : L2.St → Hp → Prop} {σ : L2.St} {H : Hp} (h : f σ H) : tNext ⟨f, rt, bk, ct⟩ σ H := h
theorem go_nx {f : L2.St → Hp → Prop} {rt : VK} {bk ct : L2.St → Hp → Prop} {σ : L2.St} {H : Hp} (h : f σ H) : (Ends.mk f rt bk ct).nx σ H := h
theorem go_ret {te : TE} {D : Ends} {σ : L2.St} {H : Hp} (h : te σ H D.rt) : tRet te D σ H := h
theorem go_tup {t : TA} {σ : L2.St} {H : Hp} {Q : VK} (h : t σ H fun xs H1 => xs.length ≤ sizeLine ∧ ∀ p, H1 p = none → Q (.ref p) (upd H1 p (.tup xs))) : tTup t σ H Q := h
theorem go_lst {t : TA} {σ : L2.St} {H : Hp} {Q : VK} (h : t σ H fun xs H1 => xs.length ≤ sizeLine ∧ ∀ p, H1 p = none → Q (.ref p) (upd H1 p (.lst xs))) : tLst t σ H Q := h
theorem go_cons {t : TE} {u : TA} {σ : L2.St} {H : Hp} {Q : List V → Hp → Prop} (h : t σ H fun x H1 => u σ H1 fun xs H2 => Q (x :: xs) H2) : tCons t u σ H Q := h
theorem go_nil {σ : L2.St} {H : Hp} {Q : List V → Hp → Prop} (h : Q [] H) : tNil σ H Q := h
theorem go_var {i : Nat} {v : V} {σ : L2.St} {H : Hp} {Q : VK} (e : σ[i]? = some (some v)) (h : Q v H) : tVar i σ H Q := ⟨v, e, h⟩
theorem go_name {i : Nat} {v v' : V} {σ : L2.St} {H : Hp} {Q : L2.St → Hp → Prop} (e : v = v') (h : Q (σ.set i (some v')) H) : gName i v σ H Q := e ▸ h
end Tb

set_option Elab.async false
set_option linter.all false
set_option maxRecDepth 100000
set_option maxHeartbeats 4000000
/-! Defs that hold a generator expression; readings of all(..), any(..) where every turn goes on. -/
namespace Tb
open PySem PySem.Spec PyProof.Rows L2 Ew EwG GxR

/-- a def whose code object stands at c -/
structure FunC (K : PySem.W.Frag) (x qual : Str) (st : Stmt) (f : Addr) (fd : FuncData) (c : Addr) : Prop where
  ex : ∃ (oc : Value) (od : Option Addr) (kV doc pm : Value) (an : Option Addr) (ct : Value) (osl : Array (Option Value)),
    fd = PySem.W.fnOf x qual (defArgs st) (defBody st) (defScope st) .none kV doc pm an (.ref c) ct ∧ K.lookup f = some ⟨oc, od, .func fd, osl⟩ ∧ PySem.W.codeIn K (.ref c) qual = true
  kp : PySem.W.keepIn K (.ref f) = true
section
variable {P : Program} {w : World} {K : PySem.W.Frag} {mg : Str → Option Value} {base : Heap}
theorem FunC.okX {x qual : Str} {st : Stmt} {f c : Addr} {fd : FuncData} {N ps : List Str} {k : Nat} {sp : Sp} (F : FunC K x qual st f fd c) (S : FnScope N ps (defScope st)) (len : ∀ vs H Q E, sp vs H Q E → vs.length = ps.length)
    (hbody : ∀ (A : Around) (outer : List Env) (s : Shared) (H : Hp) (vs : List V) (Q : VK) (E : XK), Room k (A.deeper (envOfC qual (defScope st) s.heap.objs.size f (.ref c))) → sp vs H Q E →
      ∃ t, PSs (cxOf (L2.CX P w) P w K mg base N qual (defScope st) f (.ref c) A outer s H E) (defBody st) t ∧ t { nx := fun _ H' => Q .non H', rt := Q } (start N vs) H) : FnOk P w K mg base (L2.CX P w) (k + 1) f fd ps sp := by
  obtain ⟨oc, od, kV, doc, pm, an, ct, osl, rfl, lk, hcd⟩ := F.ex
  exact fn_of lk hcd S len fun A outer s H vs Q E hr hsp => hbody A outer s H vs Q E hr hsp
theorem FunC.fun_ {x qual : Str} {st : Stmt} {f c : Addr} {fd : FuncData} (F : FunC K x qual st f fd c) : Fun K x qual st f fd := by
  obtain ⟨oc, od, kV, doc, pm, an, ct, osl, rfl, lk, hcd⟩ := F.ex
  exact ⟨⟨oc, od, kV, doc, pm, an, .ref c, ct, osl, rfl, lk, hcd⟩, F.kp⟩
theorem func_mk {x qual : Str} {st : Stmt} {f c : Addr} {oc : Value} {od an : Option Addr} {osl : Array (Option Value)} {kV doc pm ct : Value} (l : K.lookup f = some ⟨oc, od, .func (PySem.W.fnOf x qual (defArgs st) (defBody st) (defScope st) .none kV doc pm an (.ref c) ct), osl⟩)
    (cc : PySem.W.codeIn K (.ref c) qual = true) (k : PySem.W.keepIn K (.ref f) = true) : FunC K x qual st f (PySem.W.fnOf x qual (defArgs st) (defBody st) (defScope st) .none kV doc pm an (.ref c) ct) c := ⟨⟨oc, od, kV, doc, pm, an, ct, osl, rfl, l, cc⟩, k⟩
end
def rAnyT (K : PySem.W.Frag) : List V → Hp → VK → Prop := fun vs H Q => ∃ (a : Addr) (ns : List Int), vs = [V.ref a] ∧ SqT K H a (ns.map V.int) ∧ Q (.bl (ns.any fun i => i != 0)) H
theorem cr_anyT {X : Cx} (hc : X.calm = true) : CallR X (.builtin "any") (rAnyT X.K) := by
  intro pins s σ H vs us Q I r h
  obtain ⟨a, ns, rfl, hs, q⟩ := h
  obtain ⟨its, rv, hl, _⟩ := I.tuple hs
  rw [Vals.ref1 r]
  have hlt : a < s.heap.objs.size := hl.lt
  refine call_any_walk ?_
  refine wpAny_pyIter_tuple (show s.heap.IsTuple a its.toArray from hl) ?_
  refine ⟨_, _, _, _, _, _, fun i => (ns.getD i 0) != 0, rfl, Walks.tuple (A := X.A.in1) (I.ok.hd hc) _ a (Nat.ne_of_lt hlt) its.toArray, ⟨⟨_, Heap.get?_push_size _ rfl, rfl, rfl⟩, (show s.heap.IsTuple a its.toArray from hl).push _⟩, fun i v s' Q' E' hv hq => ?_, fun h' tk hk => ?_⟩
  · have hv' : its[i]? = some v := by simpa using hv
    obtain ⟨n, hn⟩ : ∃ n, ns[i]? = some n := by
      have l := rv.length
      rw [List.length_map] at l
      have : i < its.length := by
        rcases Nat.lt_or_ge i its.length with h | h
        · exact h
        · rw [List.getElem?_eq_none h] at hv'; cases hv'
      exact ⟨_, List.getElem?_eq_getElem (by omega)⟩
    obtain ⟨u, e1, e2⟩ := rv.get (x := V.int n) (i := i) (by rw [List.getElem?_map, hn]; rfl)
    rw [hv'] at e1
    cases e1
    obtain ⟨t, rfl⟩ := e2
    have hq' : Q' ((ns.getD i 0) != 0) s' := hq
    rw [List.getD_eq_getElem?_getD, hn] at hq'
    first | exact PySem.truthy_int hq' | exact PySem.P.truthy_int hq' | exact truthy_int hq'
  · refine ⟨.bl _, H, I.kept fun b o eo => hk b o (fun hmem => ?_) (Heap.get?_push_of_some _ eo), ?_, q⟩
    · rcases List.mem_cons.mp hmem with e1 | hmem
      · exact absurd (e1 ▸ Heap.lt_size eo) (Nat.lt_irrefl _)
      · cases hmem
    · show Value.bool _ = Value.bool _
      have l := rv.length
      rw [List.length_map] at l
      rw [List.size_toArray, ← l]
      have key : ∀ ns : List Int, (List.range ns.length).any (fun i => ns.getD i 0 != 0) = ns.any fun i => i != 0 := fun ns => by
        induction ns with
        | nil => rfl
        | cons b bs ih =>
          rw [List.length_cons, List.range_succ_eq_map, List.any_cons, List.any_map, List.any_cons, ← ih]
          rfl
      rw [key]
/-- a statement that is never reached -/
def tNever : TS := fun _ _ _ => False
theorem ps_never {X : Cx} {st : Stmt} : PS X st tNever := ⟨fun _ _ _ _ _ _ h => h.elim⟩

/-- the heap has grown; tables too -/
structure FrT (H H' : Hp) : Prop where
  keep : ∀ b o, H b = some o → (∀ ps, o ≠ .tbl ps) → H' b = some o
  tabs : ∀ P, TabG H P → TabG H' P
theorem FrT.refl (H : Hp) : FrT H H := ⟨fun _ _ h _ => h, fun _ h => h⟩
theorem FrT.trans {H H' H'' : Hp} (x : FrT H H') (y : FrT H' H'') : FrT H H'' := ⟨fun b o h n => y.keep b o (x.keep b o h n) n, fun P h => y.tabs P (x.tabs P h)⟩
theorem FrT.of {H H' : Hp} (s : Same H H') : FrT H H' := ⟨fun b o h _ => s b o h, fun P h => let ⟨ps, e, t⟩ := h; ⟨ps, s _ _ e, t⟩⟩
theorem FrT.tab {P : Addr} {H H' : Hp} (t : TabG H P) (x : Tabbed P H H') : FrT H H' := by
  refine ⟨fun b o h n => ?_, fun P' h => ?_⟩
  · by_cases e : b = P
    · obtain ⟨ps, e2, _⟩ := t
      rw [e, e2] at h
      cases h
      exact absurd rfl (n ps)
    · rw [x.2 b e]; exact h
  · by_cases e : P' = P
    · rw [e]; exact x.1
    · obtain ⟨ps, e2, e3⟩ := h
      exact ⟨ps, by rw [x.2 P' e]; exact e2, e3⟩
theorem FrT.tup {H H' : Hp} (x : FrT H H') {b : Addr} {xs : List V} (h : H b = some (.tup xs)) : H' b = some (.tup xs) := x.keep b _ h fun ps z => by cases z
theorem FrT.lst {H H' : Hp} (x : FrT H H') {b : Addr} {xs : List V} (h : H b = some (.lst xs)) : H' b = some (.lst xs) := x.keep b _ h fun ps z => by cases z
theorem FrT.ins {H H' : Hp} (x : FrT H H') {b C d : Addr} {fs : List (Str × V)} (h : H b = some (.ins C d fs)) : H' b = some (.ins C d fs) := x.keep b _ h fun ps z => by cases z

theorem gw_rng {n k : Nat} {te : TE} {vs : List Nat} {σ : L2.St} {e : Bool} {Q : VK} {H2 : Hp} (hw : ∀ x, wipe ((wipe σ vs).set k (some x)) vs = wipe σ vs)
    (hs : ∀ (i : Nat) (Kt : VK), i < n → Kt (.bl e) H2 → te ((wipe σ vs).set k (some (.int (i : Int)))) H2 Kt) (hd : Q (.bl e) H2) :
    ∃ W : Nat → Nat → Hp → Prop, (∃ m, W 0 m H2) ∧ GW (Itr 0 n) (gName k) te vs σ e Q W := by
  refine ⟨fun i m H => m = n - i ∧ i ≤ n ∧ H = H2, ⟨n, by simp, Nat.zero_le _, rfl⟩, ?_⟩
  rintro i m H ⟨rfl, hi, rfl⟩
  by_cases hlt : i < n
  · refine .inr ⟨hlt, fun x H' y => ?_⟩
    obtain ⟨e1, y⟩ := y
    subst e1 y
    refine ⟨hw _, ?_⟩
    rw [Int.zero_add]
    exact hs i _ hlt ⟨e, rfl, fun _ => ⟨n - (i + 1), by omega, rfl, hlt, rfl⟩, fun z => absurd rfl z⟩
  · have e1 : i = n := by omega
    subst e1
    exact .inl ⟨Nat.le_refl _, hd⟩
theorem gw_lst {K : PySem.W.Frag} {L : Addr} {xs : List V} {k : Nat} {te : TE} {vs : List Nat} {σ : L2.St} {e : Bool} {Q : VK} {H2 : Hp} (hL : SqL K H2 L xs) (hw : ∀ x, wipe ((wipe σ vs).set k (some x)) vs = wipe σ vs)
    (hs : ∀ (i : Nat) (x : V) (Kt : VK), xs[i]? = some x → Kt (.bl e) H2 → te ((wipe σ vs).set k (some x)) H2 Kt) (hd : Q (.bl e) H2) :
    ∃ W : Nat → Nat → Hp → Prop, (∃ m, W 0 m H2) ∧ GW (Itl K L) (gName k) te vs σ e Q W := by
  refine ⟨fun i m H => m = xs.length - i ∧ i ≤ xs.length ∧ H = H2, ⟨xs.length, by simp, Nat.zero_le _, rfl⟩, ?_⟩
  rintro i m H ⟨rfl, hi, rfl⟩
  by_cases hlt : i < xs.length
  · refine .inr ⟨⟨xs, xs[i], hL, by simp [hlt]⟩, fun x H' y => ?_⟩
    obtain ⟨e1, y⟩ := y
    subst e1
    refine ⟨hw _, ?_⟩
    exact hs i x _ (y xs hL) ⟨e, rfl, fun _ => ⟨xs.length - (i + 1), by omega, rfl, hlt, rfl⟩, fun z => absurd rfl z⟩
  · have e1 : i = xs.length := by omega
    subst e1
    exact .inl ⟨⟨xs, hL, Nat.le_refl _⟩, hd⟩
theorem gw_tup {K : PySem.W.Frag} {L : Addr} {xs : List V} {k : Nat} {te : TE} {vs : List Nat} {σ : L2.St} {e : Bool} {Q : VK} {H2 : Hp} (hL : SqT K H2 L xs) (hw : ∀ x, wipe ((wipe σ vs).set k (some x)) vs = wipe σ vs)
    (hs : ∀ (i : Nat) (x : V) (Kt : VK), xs[i]? = some x → Kt (.bl e) H2 → te ((wipe σ vs).set k (some x)) H2 Kt) (hd : Q (.bl e) H2) :
    ∃ W : Nat → Nat → Hp → Prop, (∃ m, W 0 m H2) ∧ GW (Itt K L) (gName k) te vs σ e Q W := by
  refine ⟨fun i m H => m = xs.length - i ∧ i ≤ xs.length ∧ H = H2, ⟨xs.length, by simp, Nat.zero_le _, rfl⟩, ?_⟩
  rintro i m H ⟨rfl, hi, rfl⟩
  by_cases hlt : i < xs.length
  · refine .inr ⟨⟨xs, xs[i], hL, by simp [hlt]⟩, fun x H' y => ?_⟩
    obtain ⟨e1, y⟩ := y
    subst e1
    refine ⟨hw _, ?_⟩
    exact hs i x _ (y xs hL) ⟨e, rfl, fun _ => ⟨xs.length - (i + 1), by omega, rfl, hlt, rfl⟩, fun z => absurd rfl z⟩
  · have e1 : i = xs.length := by omega
    subst e1
    exact .inl ⟨⟨xs, hL, Nat.le_refl _⟩, hd⟩
/-- .. for a in range(n) for b in range(a) -/
theorem gw2_rng {n ka kb : Nat} {te : TE} {vs : List Nat} {σ : L2.St} {e : Bool} {Q : VK} {H2 : Hp} (hn : n ≤ 100000) (h2 : ∀ x, ((wipe σ vs).set ka (some x))[ka]? = some (some x)) (w1 : ∀ x, wipe ((wipe σ vs).set ka (some x)) vs = wipe σ vs)
    (w2 : ∀ y x, wipe ((wipe ((wipe σ vs).set ka (some y)) [kb]).set kb (some x)) [kb] = wipe ((wipe σ vs).set ka (some y)) [kb])
    (hs : ∀ (i j : Nat) (Kt : VK), i < n → j < i → Kt (.bl e) H2 → te ((wipe ((wipe σ vs).set ka (some (.int (i : Int)))) [kb]).set kb (some (.int (j : Int)))) H2 Kt) (hd : Q (.bl e) H2) :
    ∃ W : Nat → Nat → Hp → Prop, (∃ m, W 0 m H2) ∧ GW2 (Itr 0 n) (gName ka) (iRng1 (tCons (tVar ka) tNil)) (gName kb) te vs [kb] σ e Q W := by
  have step : ∀ i, i < n → (n - i) * (n + 1) = (n - (i + 1)) * (n + 1) + n + 1 := fun i hi => by
    have : n - i = (n - (i + 1)) + 1 := by omega
    rw [this, Nat.succ_mul]
    omega
  refine ⟨fun i m H => m = (n - i) * (n + 1) ∧ i ≤ n ∧ H = H2, ⟨_, rfl, Nat.zero_le _, rfl⟩, ?_⟩
  rintro i m H ⟨rfl, hi, rfl⟩
  by_cases hlt : i < n
  · have st := step i hlt
    refine .inr ⟨hlt, fun x HH y => ?_⟩
    obtain ⟨e1, y⟩ := y
    subst e1 y
    refine ⟨w1 _, ?_⟩
    rw [Int.zero_add]
    refine ⟨_, h2 _, _, rfl, by omega, by omega, ?_⟩
    rw [Int.toNat_natCast]
    refine ⟨fun j k H' => k = (n - i) * (n + 1) - 1 - j ∧ j ≤ i ∧ H' = HH, ⟨_, ?_, rfl, Nat.zero_le _, rfl⟩, ?_⟩
    · omega
    rintro j k H' ⟨rfl, hj, rfl⟩
    by_cases hlj : j < i
    · refine .inr ⟨hlj, fun x H4 y => ?_⟩
      obtain ⟨e1, y⟩ := y
      subst e1 y
      refine ⟨w2 _ _, ?_⟩
      rw [Int.zero_add]
      exact hs i j _ hlt hlj ⟨e, rfl, fun _ => ⟨(n - i) * (n + 1) - 1 - (j + 1), by omega, rfl, hlj, rfl⟩, fun z => absurd rfl z⟩
    · have e1 : j = i := by omega
      subst e1
      exact .inl ⟨Nat.le_refl _, (n - (j + 1)) * (n + 1), by omega, by omega, rfl, hlt, rfl⟩
  · have e1 : i = n := by omega
    subst e1
    exact .inl ⟨Nat.le_refl _, hd⟩
/-- [e for x in l], l a list that the turns leave as it is -/
theorem lc_tupR {K : PySem.W.Frag} {L : Addr} {xs : List V} {k : Nat} {te : TE} {vs : List Nat} {σ : L2.St} {H1 : Hp} {D : Addr} {Qd : Hp → Prop} (R : Nat → V → Hp → Prop) (hD : H1 D = none) (hL : SqT K H1 L xs) (hLs : ∀ H, Same H1 H → SqT K H L xs)
    (NR : ∀ i v H H', But D H H' → R i v H → R i v H') (hn : xs.length ≤ 100000) (hw : ∀ x, wipe ((wipe σ vs).set k (some x)) vs = wipe σ vs)
    (hs : ∀ (i : Nat) (x : V) (H : Hp) (acc : List V) (Kt : VK), xs[i]? = some x → Same H1 H → H D = some (.lst acc) → (∀ y H4, Same H H4 → R i y H4 → Kt y H4) → te ((wipe σ vs).set k (some x)) H Kt)
    (hd : ∀ H rows, Same H1 H → H D = some (.lst rows) → rows.length = xs.length → (∀ (i : Nat) v, rows[i]? = some v → R i v H) → Qd H) :
    ∃ W : Nat → Nat → Hp → Prop, (∃ m, W 0 m (upd H1 D (.lst []))) ∧ ∀ i m H, W i m H →
      ((Itt K L).stop i H ∧ Qd H) ∨ ((Itt K L).go i H ∧ ∃ Nx : Hp → Prop, (∀ H', Nx H' → ∃ m', m' < m ∧ W (i + 1) m' H') ∧ ∀ x H', (Itt K L).yld i H x H' → gName k x (wipe σ vs) H' fun σ2 H2 => wipe σ2 vs = wipe σ vs ∧ tYes σ2 H2 fun b H3 =>
        if b = true then te σ2 H3 fun y H4 => ∃ acc, H4 D = some (.lst acc) ∧ acc.length < sizeLine ∧ Nx (upd H4 D (.lst (acc ++ [y]))) else Nx H3) := by
  refine lc_tup (fun i H => Same H1 H ∧ ∃ rows, H D = some (.lst rows) ∧ rows.length = i ∧ ∀ (j : Nat) v, rows[j]? = some v → R j v H) ⟨same_new (Same.refl _) hD, [], upd_same, rfl, fun j v e => by simp at e⟩ (fun i H _ ⟨s1, _⟩ => hLs H s1) (fun i x H hx ⟨s1, rows, e1, e2, e3⟩ => ?_) (fun H ⟨s1, rows, e1, e2, e3⟩ => hd H rows s1 e1 e2 e3)
  refine ⟨hw _, ?_⟩
  refine yes_then ?_
  refine iteT ?_
  have hi : i < xs.length := by
    rcases Nat.lt_or_ge i xs.length with h | h
    · exact h
    · rw [List.getElem?_eq_none h] at hx; cases hx
  refine hs i x H rows _ hx s1 e1 fun y H4 s4 r4 => ⟨rows, s4 _ _ e1, ?_, same_but hD (fun b o e => s4 b o (s1 b o e)) but_app, rows ++ [y], upd_same, by rw [List.length_append, e2]; rfl, fun j v e => ?_⟩
  · rw [e2]
    exact Nat.lt_of_lt_of_le hi (Nat.le_trans hn (by decide))
  · by_cases c : j < rows.length
    · rw [List.getElem?_append_left c] at e
      exact NR _ _ _ _ (But.trans (But.of s4) but_app) (e3 j v e)
    · rw [List.getElem?_append_right (by omega)] at e
      have hj : j = i := by
        have : j - rows.length < [y].length := by
          rcases Nat.lt_or_ge (j - rows.length) [y].length with h | h
          · exact h
          · rw [List.getElem?_eq_none h] at e; cases e
        have h1 : [y].length = 1 := rfl
        omega
      subst hj
      rw [e2, Nat.sub_self] at e
      have : y = v := by simpa using e
      subst this
      exact NR _ _ _ _ but_app r4
end Tb

set_option Elab.async false
set_option linter.all false
set_option maxRecDepth 100000
set_option maxHeartbeats 4000000
/-! Monomials and polynomials as nested tuples of the heap: keys, data, their order. -/
namespace PK
open PySem L2 Ew Tb ND PM
/-! ### things as nested keys -/
def kQ (q : Nat × Nat) : NestedKey := .tup [.num (q.1 : Int), .num (q.2 : Int)]
def kM (m : Mono) : NestedKey := .tup (m.map kQ)
def kT (t : Mono × Nat) : NestedKey := .tup [kM t.1, .num (t.2 : Int)]
def kP (p : Terms) : NestedKey := .tup (p.map kT)
theorem kQ_inj {a b : Nat × Nat} (h : kQ a = kQ b) : a = b := by
  injection h with h
  injection h with h1 h2
  injection h1 with h1
  injection h2 with h2 _
  injection h2 with h2
  exact Prod.ext (by omega) (by omega)
theorem map_inj {α β : Type} {f : α → β} (hf : ∀ a b, f a = f b → a = b) : ∀ {l m : List α}, l.map f = m.map f → l = m
  | [], [], _ => rfl
  | [], _ :: _, h => by cases h
  | _ :: _, [], h => by cases h
  | a :: l, b :: m, h => by
    rw [List.map_cons, List.map_cons] at h
    injection h with h1 h2
    rw [hf _ _ h1, map_inj hf h2]
theorem kM_inj {a b : Mono} (h : kM a = kM b) : a = b := by
  injection h with h
  exact map_inj (fun _ _ => kQ_inj) h
theorem kT_inj {a b : Mono × Nat} (h : kT a = kT b) : a = b := by
  injection h with h
  injection h with h1 h2
  injection h2 with h2 _
  injection h2 with h2
  exact Prod.ext (kM_inj h1) (by omega)
theorem kP_inj {a b : Terms} (h : kP a = kP b) : a = b := by
  injection h with h
  exact map_inj (fun _ _ => kT_inj) h
theorem dep_all {α : Type} {f : α → NestedKey} {d : Nat} (h : ∀ x, (f x).depth ≤ d) : ∀ l : List α, NestedKey.depthAll (l.map f) ≤ d
  | [] => Nat.zero_le _
  | x :: l => by
    rw [List.map_cons, NestedKey.depthAll]
    exact Nat.max_le.mpr ⟨h x, dep_all h l⟩
theorem dep_kQ (q : Nat × Nat) : (kQ q).depth ≤ 1 := Nat.le_refl _
theorem dep_kM (m : Mono) : (kM m).depth ≤ 2 := by
  have := dep_all dep_kQ m
  show NestedKey.depthAll _ + 1 ≤ 2
  omega
theorem dep_kT (t : Mono × Nat) : (kT t).depth ≤ 3 := by
  have := dep_kM t.1
  show max (kM t.1).depth (max 0 0) + 1 ≤ 3
  omega
theorem dep_kP (p : Terms) : (kP p).depth ≤ 4 := by
  have := dep_all dep_kT p
  show NestedKey.depthAll _ + 1 ≤ 4
  omega
theorem kys_len {H : Hp} : ∀ {ks : List NestedKey} {xs : List V}, Kys H ks xs → ks.length = xs.length
  | _, _, .nil => rfl
  | _, _, .cons _ r => congrArg (· + 1) (kys_len r)
theorem kys_at {H : Hp} : ∀ {ks : List NestedKey} {xs : List V}, Kys H ks xs → ∀ (i : Nat) {k : NestedKey} {x : V}, ks[i]? = some k → xs[i]? = some x → Ky H k x
  | _, _, .cons a r, i, k, x, h1, h2 => by
    rcases i with _ | i
    · cases h1; cases h2; exact a
    · exact kys_at r i h1 h2
theorem kys_of {H : Hp} : ∀ {ks : List NestedKey} {xs : List V}, ks.length = xs.length → (∀ (i : Nat) k x, ks[i]? = some k → xs[i]? = some x → Ky H k x) → Kys H ks xs
  | [], [], _, _ => .nil
  | [], _ :: _, h, _ => by simp at h
  | _ :: _, [], h, _ => by simp at h
  | k :: ks, x :: xs, h, f => .cons (f 0 k x rfl rfl) (kys_of (by simpa using h) fun i k x a b => f (i + 1) k x a b)
theorem kys_app {H : Hp} : ∀ {ks ks' : List NestedKey} {xs xs' : List V}, Kys H ks xs → Kys H ks' xs' → Kys H (ks ++ ks') (xs ++ xs')
  | _, _, _, _, .nil, r => r
  | _, _, _, _, .cons a q, r => .cons a (kys_app q r)
theorem ky_tup {H : Hp} {ks : List NestedKey} {v : V} (h : Ky H (.tup ks) v) : ∃ a xs, v = .ref a ∧ H a = some (.tup xs) ∧ Kys H ks xs := by
  cases h with
  | tup e r => exact ⟨_, _, rfl, e, r⟩
theorem ky_num {H : Hp} {i : Int} {v : V} (h : Ky H (.num i) v) : v = .int i := by cases h; rfl
theorem Ky.sm {H H' : Hp} {k : NestedKey} {v : V} (s : Same H H') (h : Ky H k v) : Ky H' k v := h.keeps fun b ys e => s _ _ e
theorem Ky.frt {H H' : Hp} {k : NestedKey} {v : V} (f : FrT H H') (h : Ky H k v) : Ky H' k v := h.keeps fun b ys e => f.tup e
/-- a pair -/
theorem ky_pair {H : Hp} {k1 k2 : NestedKey} {v : V} (h : Ky H (.tup [k1, k2]) v) : ∃ a x y, v = .ref a ∧ H a = some (.tup [x, y]) ∧ Ky H k1 x ∧ Ky H k2 y := by
  obtain ⟨a, xs, rfl, e, r⟩ := ky_tup h
  cases r with
  | cons q r =>
    cases r with
    | cons q2 r2 =>
      cases r2
      exact ⟨a, _, _, rfl, e, q, q2⟩
/-! ### the same as data -/
mutual
def kD : NestedKey → PyData
  | .none => .none
  | .num i => .int i
  | .text x => .str x
  | .tup ks => .tuple (kDs ks)
def kDs : List NestedKey → List PyData
  | [] => []
  | k :: ks => kD k :: kDs ks
end
mutual
theorem Ky.dp {K : PySem.W.Frag} {H : Hp} : ∀ {k : NestedKey} {v : V}, Ky H k v → Dp K H v (kD k)
  | _, _, .non => .non
  | _, _, .int i => .int i
  | _, _, .str x => .str x
  | _, _, .tup e r => .tup (SqT.of e) (Kys.dp r)
theorem Kys.dp {K : PySem.W.Frag} {H : Hp} : ∀ {ks : List NestedKey} {xs : List V}, Kys H ks xs → DpAll K H xs (kDs ks)
  | _, _, .nil => .nil
  | _, _, .cons a r => .cons (Ky.dp a) (Kys.dp r)
end
mutual
theorem kD_dep : ∀ k : NestedKey, (kD k).depth = k.depth
  | .none => rfl
  | .num _ => rfl
  | .text _ => rfl
  | .tup ks => congrArg (· + 1) (kDs_dep ks)
theorem kDs_dep : ∀ ks : List NestedKey, PyData.depthAll (kDs ks) = NestedKey.depthAll ks
  | [] => rfl
  | k :: ks => by
    show max (kD k).depth (PyData.depthAll (kDs ks)) = max k.depth (NestedKey.depthAll ks)
    rw [kD_dep k, kDs_dep ks]
end
theorem kDs_map {α : Type} (f : α → NestedKey) : ∀ l : List α, kDs (l.map f) = l.map fun x => kD (f x)
  | [] => rfl
  | x :: l => by
    show kD (f x) :: kDs (l.map f) = _
    rw [kDs_map f l]
    rfl
theorem alike_maps {α : Type} {f : α → PyData} (h : ∀ x y, PySem.W.alike (f x) (f y) = true) : ∀ l m : List α, PySem.W.alikeAll (l.map f) (m.map f) = true
  | [], _ => by simp [PySem.W.alikeAll]
  | _ :: _, [] => by simp [PySem.W.alikeAll]
  | x :: l, y :: m => by
    show PySem.W.alikeAll (f x :: l.map f) (f y :: m.map f) = true
    rw [PySem.W.alikeAll, h x y, alike_maps h l m]
    rfl
def dM (m : Mono) : PyData := kD (kM m)
theorem dM_eq (m : Mono) : dM m = .tuple (m.map fun q => kD (kQ q)) := by
  show PyData.tuple (kDs (m.map kQ)) = _
  rw [kDs_map]
theorem alike_kQ (a b : Nat × Nat) : PySem.W.alike (kD (kQ a)) (kD (kQ b)) = true := by
  show PySem.W.alike (.tuple [.int (a.1 : Int), .int (a.2 : Int)]) (.tuple [.int (b.1 : Int), .int (b.2 : Int)]) = true
  simp [PySem.W.alike, PySem.W.alikeAll]
theorem alike_dM (a b : Mono) : PySem.W.alike (dM a) (dM b) = true := by
  rw [dM_eq, dM_eq, PySem.W.alike]
  exact alike_maps alike_kQ a b
mutual
theorem eqv_self : ∀ k : NestedKey, PyData.eqv (kD k) (kD k) = true
  | .none => rfl
  | .num i => by simp [kD, PyData.eqv]
  | .text x => by simp [kD, PyData.eqv]
  | .tup ks => by simpa [kD, PyData.eqv] using eqv_selfs ks
theorem eqv_selfs : ∀ ks : List NestedKey, PyData.eqvAll (kDs ks) (kDs ks) = true
  | [] => rfl
  | k :: ks => by
    show (PyData.eqv (kD k) (kD k) && PyData.eqvAll (kDs ks) (kDs ks)) = true
    rw [eqv_self k, eqv_selfs ks]; rfl
end
mutual
theorem eqv_kD : ∀ k k' : NestedKey, PyData.eqv (kD k) (kD k') = true → k = k'
  | .none, k', h => by cases k' <;> first | rfl | (exact absurd h (by simp [kD, PyData.eqv]))
  | .num i, k', h => by
    cases k' with
    | num j => exact congrArg _ (by simpa [kD, PyData.eqv] using h)
    | _ => exact absurd h (by simp [kD, PyData.eqv])
  | .text x, k', h => by
    cases k' with
    | text y => exact congrArg _ (by simpa [kD, PyData.eqv] using h)
    | _ => exact absurd h (by simp [kD, PyData.eqv])
  | .tup ks, k', h => by
    cases k' with
    | tup ks' => exact congrArg _ (eqv_kDs ks ks' (by simpa [kD, PyData.eqv] using h))
    | _ => exact absurd h (by simp [kD, PyData.eqv])
theorem eqv_kDs : ∀ ks ks' : List NestedKey, PyData.eqvAll (kDs ks) (kDs ks') = true → ks = ks'
  | [], [], _ => rfl
  | [], _ :: _, h => by simp [kDs, PyData.eqvAll] at h
  | _ :: _, [], h => by simp [kDs, PyData.eqvAll] at h
  | k :: ks, k' :: ks', h => by
    have h' : (PyData.eqv (kD k) (kD k') && PyData.eqvAll (kDs ks) (kDs ks')) = true := by simpa [kDs, PyData.eqvAll] using h
    rw [Bool.and_eq_true] at h'
    rw [eqv_kD k k' h'.1, eqv_kDs ks ks' h'.2]
end
/-- the order of monomials -/
def mlt (a b : Mono) : Prop := PySem.W.dataLt (dM a) (dM b) = true
theorem mlt_as (a b : Mono) (h : mlt a b) : ¬ mlt b a := fun z => by
  have := PyProof.Rows.lex_trans (O := PyProof.Rows.itemOrd) _ _ _ h z
  rw [PyProof.Rows.lex_irrefl] at this
  cases this
theorem mlt_of {a b : Mono} (h : PySem.W.dataLt (dM b) (dM a) = false) (ne : a ≠ b) : mlt a b := by
  rcases e : PySem.W.dataLt (dM a) (dM b) with _ | _
  · exact absurd (kM_inj (eqv_kD _ _ (data_tie (alike_dM a b) e h))) ne
  · exact e
theorem terms_lt {a b : Mono} {x y : Int} (h : PySem.W.dataLt (.tuple [dM b, .int y]) (.tuple [dM a, .int x]) = false) (ne : a ≠ b) : mlt a b := by
  rw [PySem.W.dataLt_pair (alike_dM b a) (by simp [PySem.W.alike])] at h
  by_cases c : PyData.eqv (dM b) (dM a) = true
  · exact absurd (kM_inj (eqv_kD _ _ c)).symm ne
  · rw [if_neg c] at h
    exact mlt_of h ne
theorem go_sq {t u : TS} {D : Ends} {σ : L2.St} {H : Hp} (h : t { D with nx := fun σ' H' => u D σ' H' } σ H) : tSeq t u D σ H := h
theorem snew {p : Addr} {H H1 : Hp} {o : HO} (x : Same H H1) (h : H p = none) : Same H (L2.upd H1 p o) := fun b u e => by rw [upd_ne (ne_of_none e h)]; exact x b u e
theorem catT {K : PySem.W.Frag} {H : Hp} {a b : Addr} {xs ys : List V} {Q : VK} (h1 : H a = some (.tup xs)) (h2 : H b = some (.tup ys)) (hl : xs.length + ys.length ≤ 100000) (q : ∀ x H', Same H H' → H' x = some (.tup (xs ++ ys)) → Q (.ref x) H') : rCatA K (.ref a) (.ref b) H Q :=
  ⟨a, b, xs, ys, rfl, rfl, SqT.of h1, SqT.of h2, Nat.le_trans hl (by decide), fun e => q b H (Same.refl _) (by rw [e]; exact h2), fun _ e => q a H (Same.refl _) (by rw [e, List.append_nil]; exact h1), fun _ _ x hx => q x _ (snew (Same.refl _) hx) upd_same⟩
theorem kpg_tup {X : Cx} {K : PySem.W.Frag} {es : List Expr} {k : Nat} {t : TGs} {pos : Pos} (hc : X.calm = true) (h : PGs X es t)
    (hn : (assignEach es X.env).length = es.length := by rfl) (hst : (assignEach es X.env).findIdx? (·.1) = none := by rfl) (hK : X.K = K := by rfl) : PG X (.Tuple es k pos) (gTup K es.length t) := hK ▸ pg_tup hc h hn hst
/-! ### == and != of nested numbers -/
mutual
def numK : NestedKey → Bool
  | .num _ => true
  | .tup ks => numKs ks
  | _ => false
def numKs : List NestedKey → Bool
  | [] => true
  | k :: ks => numK k && numKs ks
end
mutual
theorem lay_num : ∀ k : NestedKey, numK k = true → (kD k).canLay0 = true
  | .num _, _ => rfl
  | .tup ks, h => by
    show PyData.canLayAll0 (kDs ks) = true
    exact lay_nums ks (by simpa [numK] using h)
  | .none, h => by simp [numK] at h
  | .text _, h => by simp [numK] at h
theorem lay_nums : ∀ ks : List NestedKey, numKs ks = true → PyData.canLayAll0 (kDs ks) = true
  | [], _ => rfl
  | k :: ks, h => by
    have h' : (numK k && numKs ks) = true := by simpa [numKs] using h
    rw [Bool.and_eq_true] at h'
    show ((kD k).canLay0 && PyData.canLayAll0 (kDs ks)) = true
    rw [lay_num k h'.1, lay_nums ks h'.2]; rfl
end
theorem numKs_map {α : Type} {f : α → NestedKey} (h : ∀ x, numK (f x) = true) : ∀ l : List α, numKs (l.map f) = true
  | [] => by simp [numKs]
  | x :: l => by
    show numKs (f x :: l.map f) = true
    rw [numKs, h x, numKs_map h l]; rfl
theorem num_kQ (q : Nat × Nat) : numK (kQ q) = true := by simp [kQ, numK, numKs]
theorem num_kM (m : Mono) : numK (kM m) = true := by rw [kM, numK]; exact numKs_map num_kQ m
theorem num_kT (t : Mono × Nat) : numK (kT t) = true := by rw [kT, numK, numKs, num_kM, numKs, numK, numKs]; rfl
theorem num_kP (p : Terms) : numK (kP p) = true := by rw [kP, numK]; exact numKs_map num_kT p
def rNK (neg : Bool) : R2 := fun x y H Q => ∃ k k', Ky H k x ∧ Ky H k' y ∧ numK k = true ∧ numK k' = true ∧ k.depth ≤ 60 ∧ k'.depth ≤ 60 ∧ Q (.bl (if neg then !decide (k = k') else decide (k = k'))) H
theorem eqv_dec (k k' : NestedKey) : PyData.eqv (kD k) (kD k') = decide (k = k') := by
  rcases h : PyData.eqv (kD k) (kD k') with _ | _
  · exact (decide_eq_false fun e => by rw [e, eqv_self] at h; cases h).symm
  · exact (decide_eq_true (eqv_kD _ _ h)).symm
theorem sh_num {k : NestedKey} (h : numK k = true) (d : k.depth ≤ 60) : SeqAt.shaped (kD k) = true := by
  unfold SeqAt.shaped
  rw [lay_num k h, Bool.true_and, kD_dep]
  exact decide_eq_true (by omega)
theorem op_eqNK {X : Cx} (hu : X.A.units + 64 < cLine) : OpR X (compareOp .Eq) (rNK false) := by
  intro pins s σ H x y v u Q I rx ry h
  obtain ⟨k, k', h1, h2, n1, n2, d1, d2, q⟩ := h
  refine op_eqD hu pins s σ H _ _ v u Q I rx ry ⟨kD k, kD k', Ky.dp h1, Ky.dp h2, sh_num n1 d1, sh_num n2 d2, ?_⟩
  rw [eqv_dec]
  exact q
theorem op_neNK {X : Cx} (hu : X.A.units + 64 < cLine) : OpR X (compareOp .NotEq) (rNK true) := by
  intro pins s σ H x y v u Q I rx ry h
  obtain ⟨k, k', h1, h2, n1, n2, d1, d2, q⟩ := h
  refine op_neD hu pins s σ H _ _ v u Q I rx ry ⟨kD k, kD k', Ky.dp h1, Ky.dp h2, sh_num n1 d1, sh_num n2 d2, ?_⟩
  rw [eqv_dec]
  exact q
/-! ### dicts of exponents -/
/-- an int dict holds the exponents of these powers -/
structure ED (H : Hp) (d : Addr) (L : List (Nat × Nat)) : Prop where
  ex_ : ∃ kvs : List (L2.Key × V), H d = some (.dK kvs) ∧ (kvs.map (·.1)).Nodup ∧ kvs.length ≤ L.length ∧ (∀ kv ∈ kvs, ∃ f : Nat, kv.1 = .inl (f : Int)) ∧ ∀ f : Nat, valV kvs (.inl (f : Int)) = if ex L f = 0 then none else some (.int (ex L f : Nat))
theorem ex_app (f : Nat) : ∀ a b : List (Nat × Nat), ex (a ++ b) f = ex a f + ex b f
  | [], b => (Nat.zero_add _).symm
  | (g, d) :: a, b => by
    show (if g = f then d else 0) + ex (a ++ b) f = _
    rw [ex_app f a b, ex, Nat.add_assoc]
theorem val_not {κ : Type} [DecidableEq κ] {kvs : List (κ × V)} {k : κ} (h : valV kvs k = none) : ¬ k ∈ kvs.map (·.1) := by
  intro m
  obtain ⟨p, hp, e⟩ := List.mem_map.mp m
  have q : (kvs.any fun kv => decide (kv.1 = k)) = true := List.any_eq_true.mpr ⟨p, hp, decide_eq_true e⟩
  rw [valV_any, h] at q
  cases q
theorem keys_putK {κ : Type} [DecidableEq κ] (kvs : List (κ × V)) (k : κ) (v : V) : (putK kvs k v).map (·.1) = if (valV kvs k).isSome = true then kvs.map (·.1) else kvs.map (·.1) ++ [k] := by
  unfold putK
  rw [valV_any]
  split
  · rw [List.map_map]
    refine List.map_congr_left fun kv _ => ?_
    show (if kv.1 = k then (kv.1, v) else kv).1 = kv.1
    split <;> rfl
  · rw [List.map_append]; rfl
theorem nd_keys {κ : Type} [DecidableEq κ] {kvs : List (κ × V)} {k : κ} {v : V} (h : (kvs.map (·.1)).Nodup) : ((putK kvs k v).map (·.1)).Nodup := by
  rw [keys_putK]
  rcases e : valV kvs k with _ | w
  · rw [if_neg (by simp)]
    refine List.nodup_append.mpr ⟨h, by simp, fun a ha b hb => ?_⟩
    rw [List.mem_singleton.mp hb]
    exact fun z => val_not e (z ▸ ha)
  · rw [if_pos (by rfl)]; exact h
theorem mem_keys {κ : Type} [DecidableEq κ] {kvs : List (κ × V)} {k : κ} {v : V} {x : κ} (h : x ∈ (putK kvs k v).map (·.1)) : x ∈ kvs.map (·.1) ∨ x = k := by
  rw [keys_putK] at h
  split at h
  · exact .inl h
  · rcases List.mem_append.mp h with h | h
    · exact .inl h
    · exact .inr (List.mem_singleton.mp h)
/-- one power more -/
theorem ed_put {H' : Hp} {d : Addr} {L : List (Nat × Nat)} {kvs : List (L2.Key × V)} {f e : Nat} (he : 1 ≤ e) (n1 : (kvs.map (·.1)).Nodup) (n2 : kvs.length ≤ L.length) (n3 : ∀ kv ∈ kvs, ∃ f : Nat, kv.1 = .inl (f : Int)) (n4 : ∀ f : Nat, valV kvs (.inl (f : Int)) = if ex L f = 0 then none else some (.int (ex L f : Nat)))
    (hd : H' d = some (.dK (putK kvs (.inl (f : Int)) (.int ((ex L f + e : Nat) : Int))))) : ED H' d (L ++ [(f, e)]) := by
  refine ⟨_, hd, nd_keys n1, ?_, fun kv hk => ?_, fun g => ?_⟩
  · have := length_putK kvs (.inl (f : Int)) (.int ((ex L f + e : Nat) : Int))
    rw [List.length_append, List.length_singleton]; omega
  · rcases mem_keys (List.mem_map.mpr ⟨kv, hk, rfl⟩) with h | h
    · obtain ⟨kv', h1, h2⟩ := List.mem_map.mp h
      rw [← h2]
      exact n3 kv' h1
    · exact ⟨f, h⟩
  · rw [valV_put, ex_app, ex, ex]
    by_cases c : g = f
    · subst c
      rw [if_pos rfl, if_pos rfl, if_neg (by omega)]
      congr 3
    · have c' : ¬ f = g := fun z => c z.symm
      rw [if_neg (fun z => c (by injection z with z; omega)), n4 g, if_neg c', Nat.add_zero]
theorem ED.fr {H H' : Hp} {d : Addr} {L : List (Nat × Nat)} (x : ED H d L) (h : ∀ o, H d = some o → H' d = some o) : ED H' d L := let ⟨kvs, e, r⟩ := x.ex_; ⟨kvs, h _ e, r⟩
def kvD : L2.Key → PyData
  | .inl i => .int i
  | .inr x => .str x
def vD : V → PyData
  | .int i => .int i
  | _ => .none
def natK : L2.Key → Nat
  | .inl i => i.toNat
  | _ => 0
def natW : V → Nat
  | .int i => i.toNat
  | _ => 0
def mq (z : (V × V) × (PyData × PyData)) : Nat × Nat := (natW z.1.1, natW z.1.2)
theorem val_at {κ : Type} [DecidableEq κ] : ∀ {kvs : List (κ × V)} {kv : κ × V}, (kvs.map (·.1)).Nodup → kv ∈ kvs → valV kvs kv.1 = some kv.2
  | p :: kvs, kv, nd, h => by
    obtain ⟨n1, n2⟩ := List.nodup_cons.mp (show (p.1 :: kvs.map (·.1)).Nodup from nd)
    rcases List.mem_cons.mp h with rfl | h
    · exact valV_pos rfl
    · rw [valV_neg fun e => n1 (by rw [e]; exact List.mem_map.mpr ⟨kv, h, rfl⟩)]
      exact val_at n2 h
theorem val_mem {κ : Type} [DecidableEq κ] : ∀ {kvs : List (κ × V)} {k : κ} {v : V}, valV kvs k = some v → (k, v) ∈ kvs
  | [], _, _, h => by simp [valV_nil] at h
  | p :: kvs, k, v, h => by
    by_cases e : p.1 = k
    · rw [valV_pos e] at h
      cases h
      exact List.mem_cons.mpr (.inl (by rw [← e]))
    · rw [valV_neg e] at h
      exact List.mem_cons_of_mem _ (val_mem h)
theorem ex_at {f e : Nat} : ∀ {L : List (Nat × Nat)}, (L.map (·.1)).Nodup → (f, e) ∈ L → ex L f = e
  | (g, d) :: L, nd, h => by
    obtain ⟨n1, n2⟩ := List.nodup_cons.mp (show (g :: L.map (·.1)).Nodup from nd)
    rcases List.mem_cons.mp h with z | h
    · cases z
      rw [ex, if_pos rfl, ex_zero (fun x hx (e : x.1 = f) => n1 (by rw [← e]; exact List.mem_map.mpr ⟨x, hx, rfl⟩)), Nat.add_zero]
    · rw [ex, if_neg (fun (z : g = f) => n1 (by rw [z]; exact List.mem_map.mpr ⟨(f, e), h, rfl⟩)), Nat.zero_add, ex_at n2 h]
/-- sorted items of a dict of exponents: the monomial -/
theorem ed_sorted {P : Program} {w : World} {K : PySem.W.Frag} {H : Hp} {v d : Addr} {L : List (Nat × Nat)} {Q : VK} (hv : H v = some (L2.DX.itemsO v d)) (x : ED H d L) (q : ∀ H' l (ts : List Addr) (m : Mono), (∀ b o, H b = some o → H' b = some o) → H l = none → H' l = some (.lst (ts.map V.ref)) → Kys H' (m.map kQ) (ts.map V.ref) → MCan m → (∀ f, ex m f = ex L f) → m.length ≤ L.length → Q (.ref l) H') :
    rSortItems P w K [.ref v] H Q := by
  obtain ⟨kvs, e, nd, len, ks, vs⟩ := x.ex_
  have val : ∀ kv ∈ kvs, ∃ f e : Nat, kv = (.inl (f : Int), .int (e : Int)) ∧ 1 ≤ e ∧ ex L f = e := fun kv hk => by
    obtain ⟨f, hf⟩ := ks kv hk
    have h1 : valV kvs kv.1 = some kv.2 := val_at nd hk
    rw [hf, vs f] at h1
    split at h1
    · cases h1
    · rename_i c
      refine ⟨f, ex L f, Prod.ext hf (Option.some.inj h1).symm, by omega, rfl⟩
  refine ⟨v, d, kvs.map fun kv => ((kV kv.1, kv.2), (kvD kv.1, vD kv.2)), rfl, hv, .inr ⟨kvs, .inl e, by rw [List.map_map]; rfl⟩, fun z hz => ?_, ⟨fun x hx y hy => ?_, .inl fun x hx => ?_⟩, fun H' l ts fr pt st hl el et => ?_⟩
  · obtain ⟨kv, hk, rfl⟩ := List.mem_map.mp hz
    obtain ⟨f, e, rfl, _⟩ := val kv hk
    exact ⟨.int _, .int _, (show max 0 (max 0 0) + 1 ≤ 60 by decide)⟩
  · rw [List.map_map] at hx hy
    obtain ⟨kv, hk, rfl⟩ := List.mem_map.mp hx
    obtain ⟨kv', hk', rfl⟩ := List.mem_map.mp hy
    obtain ⟨f, e, rfl, _⟩ := val kv hk
    obtain ⟨f', e', rfl, _⟩ := val kv' hk'
    exact alike_kQ (f, e) (f', e')
  · rw [List.map_map] at hx
    obtain ⟨kv, hk, rfl⟩ := List.mem_map.mp hx
    exact ⟨_, rfl⟩
  · have src : ∀ z ∈ ts, ∃ f e : Nat, z.2 = ((.int (f : Int), .int (e : Int)), (.int (f : Int), .int (e : Int))) ∧ 1 ≤ e ∧ ex L f = e ∧ ((.inl (f : Int), .int (e : Int)) : L2.Key × V) ∈ kvs := fun z hz => by
      obtain ⟨kv, hk, ez⟩ := List.mem_map.mp (pt.mem_iff.mp (List.mem_map.mpr ⟨z, hz, rfl⟩))
      obtain ⟨f, e, rfl, h1, h2⟩ := val kv hk
      exact ⟨f, e, ez.symm, h1, h2, hk⟩
    have nat : ∀ z ∈ ts, ∃ f e : Nat, mq z.2 = (f, e) ∧ z.2.1 = (.int (f : Int), .int (e : Int)) ∧ z.2.2 = (.int (f : Int), .int (e : Int)) ∧ 1 ≤ e ∧ ex L f = e := fun z hz => by
      obtain ⟨f, e, h1, h2, h3, _⟩ := src z hz
      exact ⟨f, e, by rw [h1]; rfl, by rw [h1], by rw [h1], h2, h3⟩
    have zl : ts.length = kvs.length := by have := pt.length_eq; rw [List.length_map, List.length_map] at this; exact this
    have ndk : (ts.map fun z => (mq z.2).1).Nodup := by
      have h1 : (kvs.map fun kv => natK kv.1).Nodup := by
        refine List.Pairwise.map (R := fun a b => a.1 ≠ b.1 ∧ a ∈ kvs ∧ b ∈ kvs) _ (fun a b ⟨h, ha, hb⟩ e => ?_) ((List.Pairwise.and_mem.mp (List.pairwise_map.mp nd)).imp fun ⟨h1, h2, h3⟩ => ⟨h3, h1, h2⟩)
        obtain ⟨f, hf⟩ := ks a ha
        obtain ⟨g, hg⟩ := ks b hb
        rw [hf, hg] at e
        have : f = g := by
          have e' : ((f : Int)).toNat = ((g : Int)).toNat := e
          omega
        exact h (by rw [hf, hg, this])
      have h2 := pt.map fun z : (V × V) × (PyData × PyData) => (mq z).1
      rw [List.map_map, List.map_map] at h2
      have e3 : (kvs.map ((fun z : (V × V) × (PyData × PyData) => (mq z).1) ∘ fun kv : L2.Key × V => ((kV kv.1, kv.2), (kvD kv.1, vD kv.2)))) = kvs.map fun kv => natK kv.1 := List.map_congr_left fun kv hk => by
        obtain ⟨f, hf⟩ := ks kv hk
        show natW (kV kv.1) = natK kv.1
        rw [hf]
        rfl
      rw [e3] at h2
      exact h2.nodup_iff.mpr h1
    refine q H' l (ts.map (·.1)) (ts.map fun z => mq z.2) fr hl (by rw [el, List.map_map]; rfl) ?_ ⟨?_, fun x hx => ?_⟩ (fun f => ?_) ?_
    · rw [List.map_map, List.map_map]
      refine kys_of (by rw [List.length_map, List.length_map]) fun i k x hk hx => ?_
      rw [List.getElem?_map] at hk hx
      obtain ⟨z, hz, rfl⟩ := Option.map_eq_some_iff.mp hk
      rw [hz] at hx
      cases hx
      have zm := List.mem_of_getElem? hz
      obtain ⟨f, e, h1, h2, _⟩ := nat z zm
      have h5 := et z zm
      rw [h2] at h5
      show Ky H' (kQ (mq z.2)) (.ref z.1)
      rw [h1]
      exact .tup h5 (.cons (.int _) (.cons (.int _) .nil))
    · have hp := List.pairwise_map.mp ndk
      refine List.pairwise_map.mpr (List.Pairwise.imp_of_mem (fun {a b} ha hb h => ?_) (List.Pairwise.and st hp))
      obtain ⟨f, e, h1, _, h2, _⟩ := nat a ha
      obtain ⟨g, e', h3, _, h4, _⟩ := nat b hb
      obtain ⟨hs, hn⟩ := h
      rw [h1, h3] at hn ⊢
      rw [h2, h4, PySem.W.dataLt_ii] at hs
      have := of_decide_eq_false hs
      have hn' : f ≠ g := hn
      show f < g
      omega
    · obtain ⟨z, hz, rfl⟩ := List.mem_map.mp hx
      obtain ⟨f, e, h1, _, _, h2, _⟩ := nat z hz
      rw [h1]
      exact h2
    · by_cases c : ex L f = 0
      · rw [c]
        refine ex_zero fun x hx e => ?_
        obtain ⟨z, hz, rfl⟩ := List.mem_map.mp hx
        obtain ⟨g, e', h1, _, _, h2, h3⟩ := nat z hz
        rw [h1] at e
        have e : g = f := e
        subst e
        omega
      · have hv := vs f
        rw [if_neg c] at hv
        have hm : ((.inl (f : Int), .int ((ex L f : Nat) : Int)) : L2.Key × V) ∈ kvs := val_mem hv
        have : ((kV (.inl (f : Int)), V.int ((ex L f : Nat) : Int)), (kvD (.inl (f : Int)), vD (.int ((ex L f : Nat) : Int)))) ∈ ts.map (·.2) := pt.mem_iff.mpr (List.mem_map.mpr ⟨_, hm, rfl⟩)
        obtain ⟨z, hz, ez⟩ := List.mem_map.mp this
        exact ex_at (by rw [List.map_map]; exact ndk) (List.mem_map.mpr ⟨z, hz, by unfold mq; rw [ez]; rfl⟩)
    · rw [List.length_map, zl]; exact len

/-! ### dicts of terms -/
/-- a dict with monomials as keys holds the sums of the coefficients of these terms -/
structure PD (P : Program) (w : World) (H : Hp) (d : Addr) (L : Terms) : Prop where
  ex_ : ∃ kvs : List (NestedKey × V), ND.At P w H d kvs ∧ (kvs.map (·.1)).Nodup ∧ kvs.length ≤ L.length ∧ (∀ kv ∈ kvs, ∃ m : Mono, MCan m ∧ kv.1 = kM m) ∧ ∀ m : Mono, valV kvs (kM m) = if coef L m = 0 then none else some (.int (coef L m : Nat))
  mc : ∀ x ∈ L, MCan x.1
theorem PD.nil {P : Program} {w : World} {H : Hp} {d : Addr} (h : ND.At P w H d []) : PD P w H d [] := ⟨⟨[], h, List.nodup_nil, Nat.le_refl _, fun _ h => (nomatch h), fun m => rfl⟩, fun _ h => (nomatch h)⟩
theorem PD.keeps {P : Program} {w : World} {H H' : Hp} {d : Addr} {L : Terms} (x : PD P w H d L) (ha : ∀ u, H d = some u → H' d = some u) (ht : ∀ b ys, H b = some (.tup ys) → H' b = some (.tup ys)) : PD P w H' d L :=
  let ⟨kvs, e, r⟩ := x.ex_; ⟨⟨kvs, e.keeps ha ht, r⟩, x.mc⟩
theorem pd_put {P : Program} {w : World} {H' : Hp} {d : Addr} {L : Terms} {kvs : List (NestedKey × V)} {m : Mono} {c : Nat} (hc : 1 ≤ c) (hm : MCan m) (hL : ∀ x ∈ L, MCan x.1) (n1 : (kvs.map (·.1)).Nodup) (n2 : kvs.length ≤ L.length) (n3 : ∀ kv ∈ kvs, ∃ m : Mono, MCan m ∧ kv.1 = kM m)
    (n4 : ∀ m : Mono, valV kvs (kM m) = if coef L m = 0 then none else some (.int (coef L m : Nat))) (hd : ND.At P w H' d (putK kvs (kM m) (.int ((coef L m + c : Nat) : Int)))) : PD P w H' d (L ++ [(m, c)]) := by
  refine ⟨⟨_, hd, nd_keys n1, ?_, fun kv hk => ?_, fun n => ?_⟩, fun x hx => ?_⟩
  · have := length_putK kvs (kM m) (.int ((coef L m + c : Nat) : Int))
    rw [List.length_append, List.length_singleton]; omega
  · rcases mem_keys (List.mem_map.mpr ⟨kv, hk, rfl⟩) with h | h
    · obtain ⟨kv', h1, h2⟩ := List.mem_map.mp h
      rw [← h2]
      exact n3 kv' h1
    · exact ⟨m, hm, h⟩
  · rw [valV_put, coef_app, coef, coef]
    by_cases e : n = m
    · subst e
      rw [if_pos rfl, if_pos rfl, if_neg (by omega)]
      congr 3
    · have e' : ¬ m = n := fun z => e z.symm
      rw [if_neg (fun z => e (kM_inj z)), n4 n, if_neg e', Nat.add_zero]
  · rcases List.mem_append.mp hx with h | h
    · exact hL x h
    · rw [List.mem_singleton.mp h]; exact hm
theorem coef_tot (m : Mono) : ∀ L : Terms, coef L m ≤ (L.map (·.2)).sum
  | [] => Nat.le_refl _
  | (n, c) :: L => by
    have := coef_tot m L
    show (if n = m then c else 0) + coef L m ≤ c + (L.map (·.2)).sum
    split <;> omega
/-- the whole of the coefficients -/
def tot (L : Terms) : Nat := (L.map (·.2)).sum
theorem tot_sum : ∀ L : Terms, (tot L : Int) = sumL (fun _ => 1) L
  | [] => rfl
  | (m, c) :: L => by
    show ((c + tot L : Nat) : Int) = (c : Int) * 1 + sumL (fun _ => 1) L
    rw [← tot_sum L, Int.natCast_add, Int.mul_one]
theorem tot_of {L L' : Terms} (h : ∀ m, coef L m = coef L' m) : tot L = tot L' := by
  have := linear (fun _ => 1) h
  rw [← tot_sum, ← tot_sum] at this
  omega
theorem tot_app (a b : Terms) : tot (a ++ b) = tot a + tot b := by unfold tot; rw [List.map_append, List.sum_append]
theorem tot_tmul (a b : Terms) : tot (tmul a b) = tot a * tot b := by
  have e : ∀ m : Mono, ev (fun _ => 1) m = 1 := fun m => by
    induction m with
    | nil => rfl
    | cons x m ih => obtain ⟨f, e⟩ := x; rw [ev, ih, Int.one_pow, Int.one_mul]
  have h := val_tmul (fun _ => 1) a b
  have e2 : ev (fun _ => 1) = fun _ : Mono => (1 : Int) := funext e
  rw [e2, ← tot_sum, ← tot_sum, ← tot_sum] at h
  have : ((tot (tmul a b) : Nat) : Int) = ((tot a * tot b : Nat) : Int) := by rw [h, Int.natCast_mul]
  omega
theorem tot_mem {L : Terms} {x : Mono × Nat} (h : x ∈ L) : x.2 ≤ tot L := by
  unfold tot
  induction L with
  | nil => cases h
  | cons y L ih =>
    rw [List.map_cons, List.sum_cons]
    rcases List.mem_cons.mp h with rfl | h
    · omega
    · have := ih h; omega
theorem tmul_len (a b : Terms) : (tmul a b).length = a.length * b.length := by
  induction a with
  | nil => exact (Nat.zero_mul _).symm
  | cons x a ih =>
    show ((b.map fun y => (mmul x.1 y.1, x.2 * y.2)) ++ tmul a b).length = _
    rw [List.length_append, List.length_map, ih, List.length_cons, Nat.succ_mul, Nat.add_comm]
/-- terms whose monomials are canonical, with coefficients from 1 on -/
structure TOk (L : Terms) : Prop where
  mc : ∀ x ∈ L, MCan x.1
  pos : ∀ x ∈ L, 1 ≤ x.2
theorem TOk.app {a b : Terms} (ha : TOk a) (hb : TOk b) : TOk (a ++ b) := ⟨fun x h => (List.mem_append.mp h).elim (ha.mc x) (hb.mc x), fun x h => (List.mem_append.mp h).elim (ha.pos x) (hb.pos x)⟩
theorem TOk.mul {a b : Terms} (ha : TOk a) (hb : TOk b) : TOk (tmul a b) := by
  have src : ∀ x ∈ tmul a b, ∃ u ∈ a, ∃ v ∈ b, x = (mmul u.1 v.1, u.2 * v.2) := fun x h => by
    obtain ⟨u, h1, h2⟩ := List.mem_flatMap.mp h
    obtain ⟨v, h3, h4⟩ := List.mem_map.mp h2
    exact ⟨u, h1, v, h3, h4.symm⟩
  refine ⟨fun x h => ?_, fun x h => ?_⟩
  · obtain ⟨u, h1, v, h2, rfl⟩ := src x h
    exact mmul_can (ha.mc u h1) (hb.mc v h2)
  · obtain ⟨u, h1, v, h2, rfl⟩ := src x h
    exact Nat.mul_le_mul (ha.pos u h1) (hb.pos v h2)
abbrev PC (p : Terms) : Prop := PCan mlt p
theorem PM.PCan.ok {p : Terms} (h : PC p) : TOk p := ⟨h.mc, h.pos⟩
/-- sorted items of a dict of terms: the polynomial -/
theorem pd_sorted {P : Program} {w : World} {K : PySem.W.Frag} {H : Hp} {v d : Addr} {L : Terms} {Q : VK} (hv : H v = some (L2.DX.itemsO v d)) (x : PD P w H d L) (q : ∀ H' l (ts : List Addr) (p : Terms), (∀ b o, H b = some o → H' b = some o) → H l = none → H' l = some (.lst (ts.map V.ref)) → Kys H' (p.map kT) (ts.map V.ref) → PC p → (∀ m, coef p m = coef L m) → p.length ≤ L.length → Q (.ref l) H') :
    rSortItems P w K [.ref v] H Q := by
  obtain ⟨kvs, ⟨es, he, hk, ekv⟩, nd, len, ks, vs⟩ := x.ex_
  have val : ∀ e ∈ es, ∃ (m : Mono) (c : Nat), e = (kM m, e.2.1, .int (c : Int)) ∧ MCan m ∧ 1 ≤ c ∧ coef L m = c ∧ Ky H (kM m) (.ref e.2.1) ∧ (kM m, V.int (c : Int)) ∈ kvs := fun e hm => by
    have hkv : (e.1, e.2.2) ∈ kvs := by rw [ekv]; exact List.mem_map.mpr ⟨e, hm, rfl⟩
    obtain ⟨m, mc, ek⟩ := ks _ hkv
    have ek : e.1 = kM m := ek
    have h1 : valV kvs e.1 = some e.2.2 := val_at nd hkv
    rw [ek, vs m] at h1
    have hky := (hk e hm).1
    rw [ek] at hky
    split at h1
    · cases h1
    · rename_i c
      have ev := (Option.some.inj h1).symm
      rw [ev, ek] at hkv
      exact ⟨m, coef L m, Prod.ext ek (Prod.ext rfl ev), mc, by omega, rfl, hky, hkv⟩
  have memk : ∀ m, coef L m ≠ 0 → ∃ e ∈ es, e.1 = kM m ∧ e.2.2 = .int (coef L m : Nat) := fun m hm => by
    have hv := vs m
    rw [if_neg hm] at hv
    have := val_mem hv
    rw [ekv] at this
    obtain ⟨e, h1, h2⟩ := List.mem_map.mp this
    exact ⟨e, h1, congrArg Prod.fst h2, congrArg Prod.snd h2⟩
  have ndE : (es.map (·.1)).Nodup := by
    rw [ekv] at nd
    unfold ND.kvOf at nd
    rw [List.map_map] at nd
    exact nd
  have lenE : es.length ≤ L.length := by
    rw [ekv] at len
    unfold ND.kvOf at len
    rw [List.length_map] at len
    exact len
  generalize hg : (fun e : NestedKey × Addr × V => (((V.ref e.2.1, e.2.2), (kD e.1, vD e.2.2)) : (V × V) × (PyData × PyData))) = g
  have gE : ∀ e, g e = ((V.ref e.2.1, e.2.2), (kD e.1, vD e.2.2)) := fun e => by rw [← hg]
  refine ⟨v, d, es.map g, rfl, hv, .inl ⟨es, .inl he, by rw [List.map_map]; exact List.map_congr_left fun e _ => by show (g e).1 = _; rw [gE]⟩, fun z hz => ?_, ⟨fun x hx y hy => ?_, .inl fun x hx => ?_⟩, fun H' l ts fr pt st hl el et => ?_⟩
  · obtain ⟨e, hm, rfl⟩ := List.mem_map.mp hz
    obtain ⟨m, c, e1, _, _, _, hky, _⟩ := val e hm
    rw [gE, e1]
    refine ⟨Ky.dp hky, .int _, ?_⟩
    show max (kD (kM m)).depth (max 0 0) + 1 ≤ 60
    rw [kD_dep]
    have := dep_kM m
    omega
  · rw [List.map_map] at hx hy
    obtain ⟨e, hm, rfl⟩ := List.mem_map.mp hx
    obtain ⟨e', hm', rfl⟩ := List.mem_map.mp hy
    obtain ⟨m, c, e1, _⟩ := val e hm
    obtain ⟨m', c', e2, _⟩ := val e' hm'
    show PySem.W.alike (.tuple [(g e).2.1, (g e).2.2]) (.tuple [(g e').2.1, (g e').2.2]) = true
    rw [gE, gE, e1, e2]
    show PySem.W.alike (.tuple [dM m, .int (c : Int)]) (.tuple [dM m', .int (c' : Int)]) = true
    rw [PySem.W.alike, PySem.W.alikeAll, alike_dM, PySem.W.alikeAll, PySem.W.alikeAll]
    simp [PySem.W.alike]
  · rw [List.map_map] at hx
    obtain ⟨e, hm, rfl⟩ := List.mem_map.mp hx
    exact ⟨_, rfl⟩
  · have src : ∀ z ∈ ts, ∃ e ∈ es, z.2 = g e := fun z hz => by
      obtain ⟨e, hm, ez⟩ := List.mem_map.mp (pt.mem_iff.mp (List.mem_map.mpr ⟨z, hz, rfl⟩))
      exact ⟨e, hm, ez.symm⟩
    have pick : ∀ z : Addr × ((V × V) × (PyData × PyData)), ∃ t : Mono × Nat, z ∈ ts → ∃ e ∈ es, z.2 = g e ∧ e.1 = kM t.1 ∧ e.2.2 = .int (t.2 : Int) ∧ MCan t.1 ∧ 1 ≤ t.2 ∧ coef L t.1 = t.2 ∧ Ky H (kM t.1) (.ref e.2.1) := fun z => by
      by_cases hz : z ∈ ts
      · obtain ⟨e, hm, ez⟩ := src z hz
        obtain ⟨m, c, e1, h1, h2, h3, h4, _⟩ := val e hm
        exact ⟨(m, c), fun _ => ⟨e, hm, ez, congrArg Prod.fst e1, congrArg (fun x => x.2.2) e1, h1, h2, h3, h4⟩⟩
      · exact ⟨([], 0), fun h => absurd h hz⟩
    obtain ⟨tm, htm⟩ := Classical.axiomOfChoice pick
    have zl : ts.length = es.length := by have := pt.length_eq; rw [List.length_map, List.length_map] at this; exact this
    have ndk : (ts.map fun z => (tm z).1).Nodup := by
      have h2 := pt.map fun z : (V × V) × (PyData × PyData) => z.2.1
      rw [List.map_map, List.map_map] at h2
      have h1 : (es.map fun e => kD e.1).Nodup := by
        refine List.Pairwise.map (R := fun a b => a.1 ≠ b.1 ∧ a ∈ es ∧ b ∈ es) _ (fun a b ⟨h, ha, hb⟩ e => ?_) ((List.Pairwise.and_mem.mp (List.pairwise_map.mp ndE)).imp fun ⟨h1, h2, h3⟩ => ⟨h3, h1, h2⟩)
        obtain ⟨m, _, e1, _⟩ := val a ha
        obtain ⟨n, _, e2, _⟩ := val b hb
        have i1 : a.1 = kM m := congrArg Prod.fst e1
        have i2 : b.1 = kM n := congrArg Prod.fst e2
        have e : kD a.1 = kD b.1 := e
        have := eqv_kD a.1 b.1 (by rw [e]; exact eqv_self _)
        exact h this
      have e3 : (es.map ((fun z : (V × V) × (PyData × PyData) => z.2.1) ∘ g)) = es.map fun e => kD e.1 := List.map_congr_left fun e _ => by
        show (g e).2.1 = _
        rw [gE]
      rw [e3] at h2
      have h3 := h2.nodup_iff.mpr h1
      have h4 := List.pairwise_map.mp h3
      refine List.pairwise_map.mpr (List.Pairwise.imp_of_mem (fun {a b} ha hb h e => ?_) h4)
      obtain ⟨ea, _, za, ka, _⟩ := htm a ha
      obtain ⟨eb, _, zb, kb, _⟩ := htm b hb
      refine h ?_
      show a.2.2.1 = b.2.2.1
      rw [za, zb, gE, gE, ka, kb, e]
    refine q H' l (ts.map (·.1)) (ts.map tm) fr hl (by rw [el, List.map_map]; rfl) ?_ ⟨?_, fun x hx => ?_, fun x hx => ?_⟩ (fun m => ?_) ?_
    · rw [List.map_map, List.map_map]
      refine kys_of (by rw [List.length_map, List.length_map]) fun i k x hk hx => ?_
      rw [List.getElem?_map] at hk hx
      obtain ⟨z, hz, rfl⟩ := Option.map_eq_some_iff.mp hk
      rw [hz] at hx
      cases hx
      have zm := List.mem_of_getElem? hz
      obtain ⟨e, _, ze, ke, ve, _, _, _, hky⟩ := htm z zm
      have h5 := et z zm
      rw [ze, gE] at h5
      show Ky H' (kT (tm z)) (.ref z.1)
      refine .tup h5 (.cons (hky.keeps fun b ys h => fr _ _ h) (.cons ?_ .nil))
      show Ky H' (.num ((tm z).2 : Int)) e.2.2
      rw [ve]
      exact .int _
    · refine List.pairwise_map.mpr (List.Pairwise.imp_of_mem (fun {a b} ha hb h => ?_) (List.Pairwise.and st (List.pairwise_map.mp ndk)))
      obtain ⟨ea, _, za, ka, va, _⟩ := htm a ha
      obtain ⟨eb, _, zb, kb, vb, _⟩ := htm b hb
      obtain ⟨hs, hn⟩ := h
      rw [za, zb, gE, gE, ka, kb, va, vb] at hs
      exact terms_lt hs hn
    · obtain ⟨z, hz, rfl⟩ := List.mem_map.mp hx
      obtain ⟨_, _, _, _, _, h, _⟩ := htm z hz
      exact h
    · obtain ⟨z, hz, rfl⟩ := List.mem_map.mp hx
      obtain ⟨_, _, _, _, _, _, h, _⟩ := htm z hz
      exact h
    · have nd2 : ((ts.map tm).map (·.1)).Nodup := by rw [List.map_map]; exact ndk
      by_cases c : coef L m = 0
      · rw [c]
        refine coef_none fun x hx e => ?_
        obtain ⟨z, hz, rfl⟩ := List.mem_map.mp hx
        obtain ⟨_, _, _, _, _, _, h1, h2, _⟩ := htm z hz
        rw [e, c] at h2
        omega
      · obtain ⟨e, hm, ek, ev⟩ := memk m c
        obtain ⟨z, hz, ez⟩ := List.mem_map.mp (pt.mem_iff.mpr (List.mem_map.mpr ⟨e, hm, rfl⟩))
        obtain ⟨e', _, ze, ke, ve, _, _, h3, _⟩ := htm z hz
        have ez : z.2 = g e := ez
        have e1 : kD e.1 = kD e'.1 := by
          have : (g e).2.1 = (g e').2.1 := by rw [← ez, ← ze]
          rw [gE, gE] at this
          exact this
        have e2 := eqv_kD e.1 e'.1 (by rw [e1]; exact eqv_self _)
        have em : m = (tm z).1 := kM_inj (by rw [← ek, e2, ke])
        rw [em, h3]
        exact coef_at nd2 (List.mem_map.mpr ⟨z, hz, rfl⟩)
    · rw [List.length_map, zl]; exact lenE
end PK

set_option Elab.async false
set_option linter.all false
set_option maxRecDepth 100000
set_option maxHeartbeats 4000000
/-! all(..), any(..) whose turns may end it; tables of any form. -/
namespace Tb
open PySem PySem.Spec PyProof.Rows L2 Ew EwG GxR
theorem ne_not {a e : Bool} (h : a ≠ e) : a = !e := by cases a <;> cases e <;> simp_all
theorem gwb_rng {n k : Nat} {te : TE} {vs : List Nat} {σ : L2.St} {e : Bool} {Q : VK} {H2 : Hp} (b : Nat → Bool) (hw : ∀ x, wipe ((wipe σ vs).set k (some x)) vs = wipe σ vs)
    (hs : ∀ (i : Nat) (Kt : VK), i < n → Kt (.bl (b i)) H2 → te ((wipe σ vs).set k (some (.int (i : Int)))) H2 Kt) (hd : (∀ i, i < n → b i = e) → Q (.bl e) H2) (hx : ∀ i, i < n → b i = (!e) → Q (.bl (!e)) H2) :
    ∃ W : Nat → Nat → Hp → Prop, (∃ m, W 0 m H2) ∧ GW (Itr 0 n) (gName k) te vs σ e Q W := by
  refine ⟨fun i m H => m = n - i ∧ i ≤ n ∧ H = H2 ∧ ∀ j, j < i → b j = e, ⟨n, by simp, Nat.zero_le _, rfl, fun j h => absurd h (Nat.not_lt_zero _)⟩, ?_⟩
  rintro i m H ⟨rfl, hi, rfl, ha⟩
  by_cases hlt : i < n
  · refine .inr ⟨hlt, fun x H' y => ?_⟩
    obtain ⟨e1, y⟩ := y
    subst e1 y
    refine ⟨hw _, ?_⟩
    rw [Int.zero_add]
    refine hs i _ hlt ⟨b i, rfl, fun z => ⟨n - (i + 1), by omega, rfl, hlt, rfl, fun j hj => ?_⟩, fun z => ?_⟩
    · by_cases h : j < i
      · exact ha j h
      · rw [show j = i by omega]; exact z
    · have z' := ne_not z
      rw [z']
      exact hx i hlt z'
  · have e1 : i = n := by omega
    subst e1
    exact .inl ⟨Nat.le_refl _, hd ha⟩
theorem gwb_tup {K : PySem.W.Frag} {L : Addr} {xs : List V} {k : Nat} {te : TE} {vs : List Nat} {σ : L2.St} {e : Bool} {Q : VK} {H2 : Hp} (b : Nat → Bool) (hL : SqT K H2 L xs) (hw : ∀ x, wipe ((wipe σ vs).set k (some x)) vs = wipe σ vs)
    (hs : ∀ (i : Nat) (x : V) (Kt : VK), xs[i]? = some x → Kt (.bl (b i)) H2 → te ((wipe σ vs).set k (some x)) H2 Kt) (hd : (∀ i, i < xs.length → b i = e) → Q (.bl e) H2) (hx : ∀ i, i < xs.length → b i = (!e) → Q (.bl (!e)) H2) :
    ∃ W : Nat → Nat → Hp → Prop, (∃ m, W 0 m H2) ∧ GW (Itt K L) (gName k) te vs σ e Q W := by
  refine ⟨fun i m H => m = xs.length - i ∧ i ≤ xs.length ∧ H = H2 ∧ ∀ j, j < i → b j = e, ⟨xs.length, by simp, Nat.zero_le _, rfl, fun j h => absurd h (Nat.not_lt_zero _)⟩, ?_⟩
  rintro i m H ⟨rfl, hi, rfl, ha⟩
  by_cases hlt : i < xs.length
  · refine .inr ⟨⟨xs, xs[i], hL, by simp [hlt]⟩, fun x H' y => ?_⟩
    obtain ⟨e1, y⟩ := y
    subst e1
    refine ⟨hw _, ?_⟩
    refine hs i x _ (y xs hL) ⟨b i, rfl, fun z => ⟨xs.length - (i + 1), by omega, rfl, hlt, rfl, fun j hj => ?_⟩, fun z => ?_⟩
    · by_cases h : j < i
      · exact ha j h
      · rw [show j = i by omega]; exact z
    · have z' := ne_not z
      rw [z']
      exact hx i hlt z'
  · have e1 : i = xs.length := by omega
    subst e1
    exact .inl ⟨⟨xs, hL, Nat.le_refl _⟩, hd ha⟩
theorem gwb_lst {K : PySem.W.Frag} {L : Addr} {xs : List V} {k : Nat} {te : TE} {vs : List Nat} {σ : L2.St} {e : Bool} {Q : VK} {H2 : Hp} (b : Nat → Bool) (hL : SqL K H2 L xs) (hw : ∀ x, wipe ((wipe σ vs).set k (some x)) vs = wipe σ vs)
    (hs : ∀ (i : Nat) (x : V) (Kt : VK), xs[i]? = some x → Kt (.bl (b i)) H2 → te ((wipe σ vs).set k (some x)) H2 Kt) (hd : (∀ i, i < xs.length → b i = e) → Q (.bl e) H2) (hx : ∀ i, i < xs.length → b i = (!e) → Q (.bl (!e)) H2) :
    ∃ W : Nat → Nat → Hp → Prop, (∃ m, W 0 m H2) ∧ GW (Itl K L) (gName k) te vs σ e Q W := by
  refine ⟨fun i m H => m = xs.length - i ∧ i ≤ xs.length ∧ H = H2 ∧ ∀ j, j < i → b j = e, ⟨xs.length, by simp, Nat.zero_le _, rfl, fun j h => absurd h (Nat.not_lt_zero _)⟩, ?_⟩
  rintro i m H ⟨rfl, hi, rfl, ha⟩
  by_cases hlt : i < xs.length
  · refine .inr ⟨⟨xs, xs[i], hL, by simp [hlt]⟩, fun x H' y => ?_⟩
    obtain ⟨e1, y⟩ := y
    subst e1
    refine ⟨hw _, ?_⟩
    refine hs i x _ (y xs hL) ⟨b i, rfl, fun z => ⟨xs.length - (i + 1), by omega, rfl, hlt, rfl, fun j hj => ?_⟩, fun z => ?_⟩
    · by_cases h : j < i
      · exact ha j h
      · rw [show j = i by omega]; exact z
    · have z' := ne_not z
      rw [z']
      exact hx i hlt z'
  · have e1 : i = xs.length := by omega
    subst e1
    exact .inl ⟨⟨xs, hL, Nat.le_refl _⟩, hd ha⟩
/-- .. for a in range(n) for b in range(a) -/
theorem gwb2_rng {n ka kb : Nat} {te : TE} {vs : List Nat} {σ : L2.St} {e : Bool} {Q : VK} {H2 : Hp} (c : Nat → Nat → Bool) (hn : n ≤ 100000) (h2 : ∀ x, ((wipe σ vs).set ka (some x))[ka]? = some (some x)) (w1 : ∀ x, wipe ((wipe σ vs).set ka (some x)) vs = wipe σ vs)
    (w2 : ∀ y x, wipe ((wipe ((wipe σ vs).set ka (some y)) [kb]).set kb (some x)) [kb] = wipe ((wipe σ vs).set ka (some y)) [kb])
    (hs : ∀ (i j : Nat) (Kt : VK), i < n → j < i → Kt (.bl (c i j)) H2 → te ((wipe ((wipe σ vs).set ka (some (.int (i : Int)))) [kb]).set kb (some (.int (j : Int)))) H2 Kt) (hd : (∀ i j, i < n → j < i → c i j = e) → Q (.bl e) H2) (hx : ∀ i j, i < n → j < i → c i j = (!e) → Q (.bl (!e)) H2) :
    ∃ W : Nat → Nat → Hp → Prop, (∃ m, W 0 m H2) ∧ GW2 (Itr 0 n) (gName ka) (iRng1 (tCons (tVar ka) tNil)) (gName kb) te vs [kb] σ e Q W := by
  have step : ∀ i, i < n → (n - i) * (n + 1) = (n - (i + 1)) * (n + 1) + n + 1 := fun i hi => by
    have : n - i = (n - (i + 1)) + 1 := by omega
    rw [this, Nat.succ_mul]
    omega
  refine ⟨fun i m H => m = (n - i) * (n + 1) ∧ i ≤ n ∧ H = H2 ∧ ∀ a b, a < i → b < a → c a b = e, ⟨_, rfl, Nat.zero_le _, rfl, fun a b h => absurd h (Nat.not_lt_zero _)⟩, ?_⟩
  rintro i m H ⟨rfl, hi, rfl, ha⟩
  by_cases hlt : i < n
  · have st := step i hlt
    refine .inr ⟨hlt, fun x HH y => ?_⟩
    obtain ⟨e1, y⟩ := y
    subst e1 y
    refine ⟨w1 _, ?_⟩
    rw [Int.zero_add]
    refine ⟨_, h2 _, _, rfl, by omega, by omega, ?_⟩
    rw [Int.toNat_natCast]
    refine ⟨fun j k H' => k = (n - i) * (n + 1) - 1 - j ∧ j ≤ i ∧ H' = HH ∧ ∀ b, b < j → c i b = e, ⟨_, ?_, rfl, Nat.zero_le _, rfl, fun b h => absurd h (Nat.not_lt_zero _)⟩, ?_⟩
    · omega
    rintro j k H' ⟨rfl, hj, rfl, hb⟩
    by_cases hlj : j < i
    · refine .inr ⟨hlj, fun x H4 y => ?_⟩
      obtain ⟨e1, y⟩ := y
      subst e1 y
      refine ⟨w2 _ _, ?_⟩
      rw [Int.zero_add]
      refine hs i j _ hlt hlj ⟨c i j, rfl, fun z => ⟨(n - i) * (n + 1) - 1 - (j + 1), by omega, rfl, hlj, rfl, fun b hb' => ?_⟩, fun z => ?_⟩
      · by_cases h : b < j
        · exact hb b h
        · rw [show b = j by omega]; exact z
      · have z' := ne_not z
        rw [z']
        exact hx i j hlt hlj z'
    · have e1 : j = i := by omega
      subst e1
      refine .inl ⟨Nat.le_refl _, (n - (j + 1)) * (n + 1), by omega, by omega, rfl, hlt, rfl, fun a b h1 h2 => ?_⟩
      by_cases h : a < j
      · exact ha a b h h2
      · rw [show a = j by omega] at h2 ⊢
        exact hb b h2
  · have e1 : i = n := by omega
    subst e1
    exact .inl ⟨Nat.le_refl _, hd fun a b h1 h2 => ha a b h1 h2⟩
/-- a tuple of tuples of ints -/
def RR (H : Hp) (p : Addr) (P : List (List Int)) : Prop := ∃ rows : List V, H p = some (.tup rows) ∧ rows.length = P.length ∧ ∀ (i : Nat) row, P[i]? = some row → ∃ r, rows[i]? = some (.ref r) ∧ H r = some (.tup (row.map V.int))
theorem RR.same {H H' : Hp} {p : Addr} {P : List (List Int)} (x : RR H p P) (s : ∀ b xs, H b = some (.tup xs) → H' b = some (.tup xs)) : RR H' p P := by
  obtain ⟨rows, e1, e2, e3⟩ := x
  refine ⟨rows, s _ _ e1, e2, fun i row h => ?_⟩
  obtain ⟨r, h1, h2⟩ := e3 i row h
  exact ⟨r, h1, s _ _ h2⟩
theorem RR.len {H : Hp} {p : Addr} {P : List (List Int)} (x : RR H p P) : ∃ rows, H p = some (.tup rows) ∧ rows.length = P.length := by
  obtain ⟨rows, e1, e2, e3⟩ := x
  exact ⟨rows, e1, e2⟩
theorem RR.at {H : Hp} {p : Addr} {P : List (List Int)} {rows : List V} {i : Nat} {v : V} (x : RR H p P) (e : H p = some (.tup rows)) (h : rows[i]? = some v) : ∃ r row, v = .ref r ∧ P[i]? = some row ∧ H r = some (.tup (row.map V.int)) := by
  obtain ⟨rows', e1, e2, e3⟩ := x
  rw [e] at e1
  cases e1
  have hi : i < P.length := by
    rcases Nat.lt_or_ge i rows.length with h' | h'
    · omega
    · rw [List.getElem?_eq_none h'] at h; cases h
  obtain ⟨r, h1, h2⟩ := e3 i P[i] (List.getElem?_eq_getElem hi)
  rw [h] at h1
  cases h1
  exact ⟨r, _, rfl, List.getElem?_eq_getElem hi, h2⟩
/-- both tables' rows, one behind the other -/
theorem RR.app {H : Hp} {p m q : Addr} {P T : List (List Int)} {rp rm : List V} (x : RR H p P) (y : RR H m T) (ep : H p = some (.tup rp)) (em : H m = some (.tup rm)) (eq : H q = some (.tup (rp ++ rm))) : RR H q (P ++ T) := by
  obtain ⟨rp', a1, a2, a3⟩ := x
  obtain ⟨rm', b1, b2, b3⟩ := y
  rw [ep] at a1
  cases a1
  rw [em] at b1
  cases b1
  refine ⟨_, eq, by rw [List.length_append, List.length_append, a2, b2], fun i row h => ?_⟩
  by_cases c : i < P.length
  · rw [List.getElem?_append_left c] at h
    rw [List.getElem?_append_left (by omega)]
    exact a3 i row h
  · rw [List.getElem?_append_right (by omega)] at h
    rw [List.getElem?_append_right (by omega), a2]
    exact b3 _ row h
/-- the entry at a, b -/
def fnI (P : List (List Int)) (a b : Nat) : Int := (P.getD a []).getD b 0
def fnN (P : List (List Int)) (a b : Nat) : Nat := (fnI P a b).toNat
theorem RR.tt {H : Hp} {p : Addr} {P : List (List Int)} (x : RR H p P) (hl : ∀ row ∈ P, row.length = P.length) : TT H p P.length (fnI P) := by
  obtain ⟨rows, e1, e2, e3⟩ := x
  refine ⟨rows, e1, e2, fun i hi => ?_⟩
  obtain ⟨r, h1, h2⟩ := e3 i P[i] (List.getElem?_eq_getElem hi)
  refine ⟨r, h1, ?_⟩
  have hrow := hl P[i] (List.getElem_mem hi)
  have : P[i].map V.int = (List.range P.length).map fun j => V.int (fnI P i j) := by
    refine ext_of (by rw [List.length_map, hrow]) fun j v hv => ?_
    rw [List.getElem?_map] at hv
    cases hj : P[i][j]? with
    | none => rw [hj] at hv; cases hv
    | some z =>
      rw [hj] at hv
      have hv' : V.int z = v := Option.some.inj hv
      rw [← hv']
      unfold fnI
      rw [List.getD_eq_getElem?_getD, List.getD_eq_getElem?_getD, List.getElem?_eq_getElem hi]
      show V.int z = V.int (P[i][j]?.getD 0)
      rw [hj]
      rfl
  rw [this] at h2
  exact h2
theorem TT.congr {H : Hp} {p : Addr} {n : Nat} {F G : Nat → Nat → Int} (x : TT H p n F) (h : ∀ i j, i < n → j < n → F i j = G i j) : TT H p n G := by
  obtain ⟨rows, e1, e2, e3⟩ := x
  refine ⟨rows, e1, e2, fun i hi => ?_⟩
  obtain ⟨r, h1, h2⟩ := e3 i hi
  refine ⟨r, h1, h2.trans (congrArg (fun l => some (HO.tup l)) (List.map_congr_left fun j hj => ?_))⟩
  rw [h i j hi (List.mem_range.mp hj)]
theorem fn_mem {P : List (List Int)} {n i j : Nat} (hP : P.length = n) (hl : ∀ row ∈ P, row.length = n) (hi : i < n) (hj : j < n) : ∃ row, row ∈ P ∧ fnI P i j ∈ row := by
  have h1 : i < P.length := by omega
  have hr := hl P[i] (List.getElem_mem h1)
  refine ⟨P[i], List.getElem_mem h1, ?_⟩
  unfold fnI
  rw [List.getD_eq_getElem?_getD, List.getD_eq_getElem?_getD, List.getElem?_eq_getElem h1]
  show (P[i][j]?).getD 0 ∈ P[i]
  rw [List.getElem?_eq_getElem (by omega)]
  exact List.getElem_mem _
end Tb

set_option Elab.async false
set_option linter.all false
set_option maxRecDepth 100000
set_option maxHeartbeats 4000000
/-! ==, !=, in, not in, list.index of nested tuples. -/
namespace ND
open PySem PySem.W L2
open Sem (wp)

theorem Kys.depth_le {H : Hp} : ∀ {ks : List NestedKey} {d : Nat}, NestedKey.depthAll ks ≤ d → ∀ k ∈ ks, k.depth ≤ d
  | [], _, _, _, h => nomatch h
  | k :: ks, d, hd, x, hx => by
    rw [NestedKey.depthAll] at hd
    rcases List.mem_cons.mp hx with rfl | h
    · omega
    · exact Kys.depth_le (H := H) (by omega) x h
section
variable {X : Cx}
/-- two tuples that are keys are compared -/
def rEqK : R2 := fun x y H Q => ∃ ks ks', Ky H (.tup ks) x ∧ Ky H (.tup ks') y ∧ NestedKey.depthAll ks ≤ 7 ∧ Q (.bl (decide (ks = ks'))) H
theorem decide_tup (ks ks' : List NestedKey) : decide (ks = ks') = NestedKey.beqAll ks ks' := by
  rw [← (show NestedKey.beq (.tup ks) (.tup ks') = NestedKey.beqAll ks ks' from rfl), ← NestedKey.decide_eq]
  by_cases e : ks = ks'
  · rw [e]; simp
  · rw [decide_eq_false e, decide_eq_false fun z => e (by injection z)]
theorem op_eqK (hu : X.A.units + 9 < cLine) : OpR X (compareOp .Eq) rEqK := by
  intro pins s σ H x y v u Q I rx ry h
  obtain ⟨ks, ks', a, b, hd, q⟩ := h
  have ha := a.is I.hok rx
  have hb := b.is I.hok ry
  cases ha with
  | @tup l o vs n _ h1 h2 h3 h4 =>
    cases hb with
    | @tup l' o' vs' n' _ k1 k2 k3 k4 =>
      have hl : s.heap.IsTuple l vs := ⟨_, h1, h2, _, h3⟩
      have hl' : s.heap.IsTuple l' vs' := ⟨_, k1, k2, _, k3⟩
      have n1 : vs.size = ks.length := by simpa using NestedAll.length _ _ h4
      have n2 : vs'.size = ks'.length := by simpa using NestedAll.length _ _ k4
      refine SeqAt.eq_tupleAt (e := keyEqAt ks ks') hl hl' (by omega) (fun j j1 j2 => ?_) ?_
      · have := eqAt_keys ks ks' X.A.in1 s vs.toList vs'.toList h4 k4 (by show X.A.units + 1 + _ < cLine; omega) j (by simpa using j1) (by simpa using j2)
        simpa using this
      · rw [n1, n2, beqAll_eq, ← decide_tup]
        exact ⟨.bl _, H, I, rfl, q⟩
/-- the item is the key k -/
noncomputable def isK (h : Heap) (k : NestedKey) (v : Value) : Bool := @decide (NestedIs h k v) (Classical.propDecidable _)
theorem isK_of {h : Heap} {k k' : NestedKey} {v : Value} (x : NestedIs h k' v) : isK h k v = decide (k' = k) := by
  unfold isK
  by_cases e : k' = k
  · subst e
    rw [decide_eq_true rfl]
    exact @decide_eq_true _ (Classical.propDecidable _) x
  · rw [decide_eq_false e]
    exact @decide_eq_false _ (Classical.propDecidable _) fun y => e (NestedIs.inj _ _ _ x y)
theorem any_isK {h : Heap} {k : NestedKey} : ∀ {ks : List NestedKey} {vs : List Value}, NestedAll h ks vs → vs.any (isK h k) = decide (k ∈ ks)
  | _, _, .nil => rfl
  | _, _, .cons (k := k') a r => by
    rw [List.any_cons, isK_of a, any_isK r]
    by_cases e : k' = k
    · simp [e]
    · have e' : ¬ k = k' := fun z => e z.symm
      simp [e, e']
theorem all_eq {h : Heap} {A : Around} {s : Shared} {k : NestedKey} {u : Value} (hs : s.heap = h) (hu : A.units + 8 < cLine) (hk : NestedIs h k u) (hd : k.depth ≤ 8) : ∀ {ks : List NestedKey} {vs : List Value}, NestedAll h ks vs → ∀ v ∈ vs, SeqAt.EqAt A s v u (isK h k v)
  | _, _, .nil => fun _ hv => nomatch hv
  | _, _, .cons (k := k') (v := v0) a r => fun v hv => by
    rcases List.mem_cons.mp hv with rfl | hv
    · rw [isK_of a, NestedKey.decide_eq]
      exact eqAt_key k' k A s _ u (by rw [hs]; exact a) (by rw [hs]; exact hk) (by omega)
    · exact all_eq hs hu hk hd r v hv
def rInK (K : PySem.W.Frag) (neg : Bool) : R2 := fun x y H Q => ∃ k p ks xs, y = .ref p ∧ SqL K H p xs ∧ Ky H k x ∧ k.depth ≤ 8 ∧ Kys H ks xs ∧ Q (.bl (if neg then !decide (k ∈ ks) else decide (k ∈ ks))) H
theorem op_inK (hu : X.A.units + 9 < cLine) : OpR X (compareOp .In) (rInK X.K false) := by
  intro pins s σ H x y v u Q I rx ry h
  obtain ⟨k, p, ks, xs, rfl, hq, hk, hd, hks, q⟩ := h
  cases ry
  obtain ⟨its, r, pl, hz⟩ := I.list hq
  have hv := hk.is I.hok rx
  have hi := hks.is I.hok r
  refine SeqAt.in_listAt (isK s.heap k) pl.isList (fun w hw => all_eq rfl (by show X.A.units + 1 + 8 < cLine; omega) hv hd hi w (by simpa using hw)) ⟨.bl _, H, I, rfl, ?_⟩
  rw [show its.toArray.any (isK s.heap k) = its.any (isK s.heap k) by simp, any_isK hi]
  exact q
theorem op_notInK (hu : X.A.units + 9 < cLine) : OpR X (compareOp .NotIn) (rInK X.K true) := by
  intro pins s σ H x y v u Q I rx ry h
  obtain ⟨k, p, ks, xs, rfl, hq, hk, hd, hks, q⟩ := h
  cases ry
  obtain ⟨its, r, pl, hz⟩ := I.list hq
  have hv := hk.is I.hok rx
  have hi := hks.is I.hok r
  refine SeqAt.notIn_listAt (isK s.heap k) pl.isList (fun w hw => all_eq rfl (by show X.A.units + 1 + 8 < cLine; omega) hv hd hi w (by simpa using hw)) ⟨.bl _, H, I, rfl, ?_⟩
  rw [show its.toArray.any (isK s.heap k) = its.any (isK s.heap k) by simp, any_isK hi]
  exact q
def rIndexK (K : PySem.W.Frag) : V → List V → Hp → VK → Prop := fun x ys H Q => ∃ p k y ks xs, x = .ref p ∧ ys = [y] ∧ SqL K H p xs ∧ Ky H k y ∧ k.depth ≤ 8 ∧ Kys H ks xs ∧ k ∈ ks ∧ Q (.int (ks.idxOf k : Nat)) H
theorem mt_indexK (hu : X.A.units + 9 < cLine) : MtR X "list.index" (rIndexK X.K) := by
  intro pins s σ H x xs v us Q I rx rxs h
  obtain ⟨p, k, y, ks, ys, rfl, rfl, hq, hk, hd, hks, hm, q⟩ := h
  cases rx
  cases rxs with
  | cons ry rt =>
    rename_i uy ut
    cases rt
    obtain ⟨its, r, pl, hz⟩ := I.list hq
    have hv := hk.is I.hok ry
    have hi := hks.is I.hok r
    have hl := NestedAll.length _ _ hi
    exact SeqAt.call_list_index pl.isList (SeqAt.ItemsEq.nested hi hv (by show X.A.units + 1 + k.depth < cLine; omega)) (by rw [← hl, ← r.length]; exact hz) hm ⟨.int (ks.idxOf k : Nat), H, I.tok _, ⟨_, rfl⟩, q⟩
/-- y in d, y not in d: d a dict with nested keys -/
def rInN (P : Program) (w : World) (neg : Bool) : R2 := fun y x H Q => ∃ a o, x = .ref a ∧ NGet P w H a y o ∧ Q (.bl (if neg then !o.isSome else o.isSome)) H
theorem op_inN (hu : X.A.units + 9 < cLine) : OpR X (compareOp .In) (rInN X.prog X.w false) := by
  intro pins s σ H y x u v Q I ry rx h
  obtain ⟨a, o, rfl, g, q⟩ := h
  cases rx
  exact n_in hu I g ry fun s3 I3 => ⟨.bl o.isSome, H, I3, rfl, q⟩
theorem op_notInN (hu : X.A.units + 9 < cLine) : OpR X (compareOp .NotIn) (rInN X.prog X.w true) := by
  intro pins s σ H y x u v Q I ry rx h
  obtain ⟨a, o, rfl, g, q⟩ := h
  cases rx
  exact n_notIn hu I g ry fun s3 I3 => ⟨.bl (!o.isSome), H, I3, rfl, q⟩
/-- a list or a tuple is walked -/
def iSeq (K : PySem.W.Frag) (tl : TE) : TI := fun σ H R => tl σ H fun x H1 => ∃ a xs, x = .ref a ∧ ((SqL K H1 a xs ∧ R (Itl K a) H1) ∨ (SqT K H1 a xs ∧ R (Itt K a) H1))
theorem pi_seq {tg l : Expr} {tl : TE} (hl : PE X l tl) : PI X tg l (iSeq X.K tl) := by
  refine ⟨fun pins s σ H R I h => ?_⟩
  refine thn (hl.run pins s σ H _ I h) fun v s1 ⟨x, H1, I1, r1, q1⟩ => ?_
  obtain ⟨a, xs, e, q⟩ := q1
  subst e
  cases r1
  rcases q with ⟨hq, q⟩ | ⟨hq, q⟩
  · obtain ⟨its, rv, p, hz⟩ := I1.list hq
    refine wpAny_pyIter_list p.isList ?_
    refine ⟨s1.heap.objs.size, [s1.heap.objs.size], _, _, H1, rfl, I1.kept (t' := s1.toks) fun b o e => Heap.get?_push_of_some _ e, turn_list a _, ⟨_, Heap.get?_push_size _ rfl, rfl, rfl⟩, fun b hb => ?_, q⟩
    have e : b = s1.heap.objs.size := by simpa using hb
    subst e
    exact I1.fpOk (Nat.le_refl _) (I1.hok.fresh (Nat.le_refl _))
  · obtain ⟨its, rv, p, hz⟩ := I1.tuple hq
    refine wpAny_pyIter_tuple (show s1.heap.IsTuple a its.toArray from p) ?_
    refine ⟨s1.heap.objs.size, [s1.heap.objs.size], _, _, H1, rfl, I1.kept (t' := s1.toks) fun b o e => Heap.get?_push_of_some _ e, turn_tuple a _, ⟨_, Heap.get?_push_size _ rfl, rfl, rfl⟩, fun b hb => ?_, q⟩
    have e : b = s1.heap.objs.size := by simpa using hb
    subst e
    exact I1.fpOk (Nat.le_refl _) (I1.hok.fresh (Nat.le_refl _))
theorem hu9 {A : Around} {k : Nat} (hr : Room k A) : A.units + 9 < cLine := by have := hr.un; omega
end
end ND

set_option Elab.async false
set_option linter.all false
set_option maxRecDepth 100000
set_option maxHeartbeats 4000000
/-! name = {k: v for ..}: the block is run with the store. -/
namespace DCx
open PySem PySem.W L2
open Sem (wp)
section
variable {X : Cx}
theorem swd_true {kx vx : Expr} {gs : List Comprehension} {scope : Scope} {pos py : Pos} {y : Str} {l : Nat} {env : Env} (hk : env.scope.kind = .function) (hy : env.scope.names.lookup y = some .local) (hl : (py.line == pos.line) = true)
    (ha : (scope.names.any fun (n, k) => n == y && (k == .local || k == .cell)) = false) : swapsWith (.DictComp kx vx gs scope pos) (some (.Name y py)) l env = pure true := by
  have ky : env.kindOf y = some .local := hy
  have hb : env.blockKind = .function := by unfold Env.blockKind; rw [hk]; rfl
  unfold swapsWith
  simp only [hb, ky, ha, Expr.pos, hl]
  rfl
theorem ps_setDc {i : Nat} {y : Str} {py : Pos} {kx vx tg iter : Expr} {ifs : List Expr} {scope : Scope} {own : List (Str × Nat)} {pos spos : Pos} {wi : TI} {g : TG} {tt : TT} {tk tv : TE} (hc : X.calm = true) (hN : X.N.Nodup) (hy : X.N[i]? = some y) (hyl : X.env.scope.names.lookup y = some .local)
    (hsw : swapsWith (.DictComp kx vx [⟨tg, iter, ifs, 0⟩] scope pos) (some (.Name y py)) spos.line X.env = pure true) (hi : PI X tg iter wi) (ok : BlkOk X.N X.env.scope scope own)
    (hg : ∀ (s : Shared) (H : Hp) (C : Addr) (cl : List (Str × Addr)) (fp : List Addr), PG (X.blk s H scope (compEnvC scope cl C X.env) fp) tg g) (ht : ∀ (s : Shared) (H : Hp) (C : Addr) (cl : List (Str × Addr)) (fp : List Addr), PTs (X.blk s H scope (compEnvC scope cl C X.env) fp) ifs tt)
    (hk : ∀ (s : Shared) (H : Hp) (C : Addr) (cl : List (Str × Addr)) (fp : List Addr), PE (X.blk s H scope (compEnvC scope cl C X.env) fp) kx tk)
    (he : ∀ (s : Shared) (H : Hp) (C : Addr) (cl : List (Str × Addr)) (fp : List Addr), PE (X.blk s H scope (compEnvC scope cl C X.env) fp) vx tv) (hs : ∀ x, foldedSetIterable iter X.env x = pure x := by intro _; rfl) :
    PS X (.Assign [.Name y py] (.DictComp kx vx [⟨tg, iter, ifs, 0⟩] scope pos) spos) (tAsg (tDc wi g tt tk tv (own.map (·.2))) (gName i)) := by
  refine ⟨fun pins s σ H D I h => ?_⟩
  rw [exec_Assign_Name_used _ _ _ _ hsw]
  refine wpAny_bind (wpAny_standAt (wpAny_bind ?_))
  show wpAny _ X.A (do let _ ← comprehension (.DictComp kx vx [⟨tg, iter, ifs, 0⟩] scope pos) scope X.env (firstIterPos [⟨tg, iter, ifs, 0⟩] pos) newDict false (eval iter X.env) (some (assign (.Name y py) X.env))) _ _ s
  have h : tDc wi g tt tk tv (own.map (·.2)) σ H (fun x H1 => gName i x σ H1 D.nx) := h
  refine wpAny_bind (thn (dc_core (Qf := fun _ s' => SP X pins D .next s') hc hN I hi ok hg ht hk he hs h fun L C s' m H' I' q hn f => ?_) fun _ s' hq => wpAny_pure (wpAny_pure hq))
  show wpAny _ _ (assign (.Name y py) X.env (.ref L)) _ _ _
  refine wpAny_assign_Name (store_ok2 (v := V.ref L) I' hN hy (.inl hyl) rfl (fun s2 I2 ⟨a, sb, ha⟩ => ?_) (.inr hyl))
  obtain ⟨f0, f1, f2, f3, f4, f5⟩ := f
  have haC : C ≠ a := by
    rcases ha with z | z
    · rw [z]; exact f1
    · exact fun e => f4 y a z e.symm
  refine ⟨m, hn.sameBut sb haC, fun h3 sb3 => ?_⟩
  exact ⟨_, H', I2.turned (t' := s2.toks) (fun b o hb e => (sb3.2 b hb).trans e) f0 f1 f3 f4 f5, q⟩
end
end DCx

set_option Elab.async false
set_option linter.all false
set_option maxRecDepth 100000
set_option maxHeartbeats 4000000
/-! {k: v for a in A for b in B}: two walks, no tests. -/
namespace DC2
open PySem PySem.Spec PyProof.Rows L2
section
variable {kx vx ta ia tb ib : Expr} {scope : Scope} {pos : Pos} {it acc : Value} {env : Env}
/-- the comprehension -/
abbrev two (kx vx ta ia tb ib : Expr) (scope : Scope) (pos : Pos) : Expr := .DictComp kx vx [⟨ta, ia, [], 0⟩, ⟨tb, ib, [], 0⟩] scope pos
theorem turnA : compTurn (two kx vx ta ia tb ib scope pos) 0 it acc env = (do
      standAt ia.pos
      match ← pyNext it with
      | none => pure (.done .next)
      | some u => do
        letOwnedTupleGo ta it u
        assign ta env u
        let y ← eval ib env
        standAt ib.pos
        let y' ← foldedSetIterable ib env y
        let _ ← runOwn (.compStart (two kx vx ta ia tb ib scope pos) 1 (← holding [y'] (pyIter y')) acc env) env
        again (.compLoop (two kx vx ta ia tb ib scope pos) 0 it acc env)) := by rfl
theorem turnB {D : Addr} : compTurn (two kx vx ta ia tb ib scope pos) 1 it (.ref D) env = (do
      standAt ib.pos
      match ← pyNext it with
      | none => pure (.done .next)
      | some u => do
        letOwnedTupleGo tb it u
        assign tb env u
        (do
          let k ← eval kx env
          let z ← holding [k] (eval vx env)
          standAt { kx.pos with endLine := vx.pos.endLine, endCol := vx.pos.endCol }
          holding [k, z] (dictSet D k z))
        again (.compLoop (two kx vx ta ia tb ib scope pos) 1 it (.ref D) env)) := by rfl
end
section
variable {P : Program} {w : World} {A : Around} {R : Result → Shared → Prop} {s : Shared} {kx vx ta ia tb ib : Expr} {scope : Scope} {pos : Pos} {it : Value} {D : Addr} {env : Env}
/-- what is wanted where an error leaves -/
abbrev Er (P : Program) (w : World) (A : Around) (env : Env) (R : Result → Shared → Prop) : Value → Shared → Prop := notedBy (model P w) A env fun x s' => R (.error x) s'
theorem loopA (hf : ∀ y, foldedSetIterable ib env y = pure y) (J : Nat → Shared → Prop)
    (go : ∀ n s, J n s → wpAny (model P w) A (pyNext it) (fun r s₁ => match r with
      | none => R (.ok .next) s₁
      | some u => wpAny (model P w) A (letOwnedTupleGo ta it u) (fun _ s₂ => wpAny (model P w) A (assign ta env u) (fun _ s₃ => wpAny (model P w) A (eval ib env) (fun y s₄ => wpAny (model P w) A (pyIter y) (fun it1 s₅ =>
              codeAny (model P w) A (.compStart (two kx vx ta ia tb ib scope pos) 1 it1 (.ref D) env) (fun r s' => match r with
                | .ok _ => ∃ m, m < n ∧ J m s'
                | .error _ => False) s₅) (Er P w A env R) s₄) (Er P w A env R) s₃) (Er P w A env R) s₂) (Er P w A env R) s₁) (Er P w A env R) s)
    (n : Nat) (h : J n s) : codeAny (model P w) A (.compLoop (two kx vx ta ia tb ib scope pos) 0 it (.ref D) env) R s := by
  refine codeAny_loop rfl J (fun n s hJ => ?_) n h
  show wpAny _ A ((compTurn (two kx vx ta ia tb ib scope pos) 0 it (.ref D) env).onRaise (fun x => do noteFrame x env; theTreesLotGoes x)) _ _ s
  refine wpAny_noted ?_
  rw [turnA]
  refine wpAny_bind (wpAny_standAt (wpAny_bind (wpAny_mono (go n s hJ) (fun r s₁ h₁ => ?_) fun _ _ z => z)))
  cases r with
  | none => exact wpAny_pure h₁
  | some u =>
    refine wpAny_bind (wpAny_mono h₁ (fun _ s₂ h₂ => wpAny_bind (wpAny_mono h₂ (fun _ s₃ h₃ => wpAny_bind (wpAny_mono h₃ (fun y s₄ h₄ => ?_) fun _ _ z => z)) fun _ _ z => z)) fun _ _ z => z)
    refine wpAny_bind (wpAny_standAt (wpAny_bind (wpAny_of_eq (hf y) (wpAny_bind (wpAny_holding (wpAny_mono h₄ (fun it1 s₅ h₅ => wpAny_bind (wpAny_runOwn ?_)) fun _ _ z => z))))))
    rw [Around.mark_none]
    refine codeAny_mono h₅ fun r s' hr => ?_
    cases r with
    | ok f => first | exact wpAny_pure ⟨rfl, hr⟩ | exact wpAny_bind (wpAny_pure (wpAny_pure ⟨rfl, hr⟩))
    | error e => exact hr.elim
theorem loopB (J : Nat → Shared → Prop)
    (go : ∀ n s, J n s → wpAny (model P w) A (pyNext it) (fun r s₁ => match r with
      | none => R (.ok .next) s₁
      | some u => wpAny (model P w) A (letOwnedTupleGo tb it u) (fun _ s₂ => wpAny (model P w) A (assign tb env u) (fun _ s₃ => wpAny (model P w) A (eval kx env) (fun k s₄ => wpAny (model P w) A (eval vx env) (fun z s₅ =>
              wpAny (model P w) A (dictSet D k z) (fun _ s₆ => ∃ m, m < n ∧ J m s₆) (Er P w A env R) s₅) (Er P w A env R) s₄) (Er P w A env R) s₃) (Er P w A env R) s₂) (Er P w A env R) s₁) (Er P w A env R) s)
    (n : Nat) (h : J n s) : codeAny (model P w) A (.compLoop (two kx vx ta ia tb ib scope pos) 1 it (.ref D) env) R s := by
  refine codeAny_loop rfl J (fun n s hJ => ?_) n h
  show wpAny _ A ((compTurn (two kx vx ta ia tb ib scope pos) 1 it (.ref D) env).onRaise (fun x => do noteFrame x env; theTreesLotGoes x)) _ _ s
  refine wpAny_noted ?_
  rw [turnB]
  refine wpAny_bind (wpAny_standAt (wpAny_bind (wpAny_mono (go n s hJ) (fun r s₁ h₁ => ?_) fun _ _ z => z)))
  cases r with
  | none => exact wpAny_pure h₁
  | some u =>
    refine wpAny_bind (wpAny_mono h₁ (fun _ s₂ h₂ => wpAny_bind (wpAny_mono h₂ (fun _ s₃ h₃ => wpAny_bind (wpAny_bind (wpAny_mono h₃ (fun k s₄ h₄ => ?_) fun _ _ z => z))) fun _ _ z => z)) fun _ _ z => z)
    exact wpAny_bind (wpAny_holding (wpAny_mono h₄ (fun z s₅ h₅ => wpAny_bind (wpAny_standAt (wpAny_holding (wpAny_mono h₅ (fun _ s₆ h₆ => wpAny_pure ⟨rfl, h₆⟩) fun _ _ z => z)))) fun _ _ z => z))
theorem startB (h0 : codeAny (model P w) A (.compLoop (two kx vx ta ia tb ib scope pos) 1 it (.ref D) env) R s)
    (h : wpAny (model P w) A (pyIter it) (fun it' s' => codeAny (model P w) A (.compLoop (two kx vx ta ia tb ib scope pos) 1 it' (.ref D) env) R s') (Er P w A env R) s) :
    codeAny (model P w) A (.compStart (two kx vx ta ia tb ib scope pos) 1 it (.ref D) env) R s := by
  refine codeAny_of_tree ?_
  show wpAny _ _ ((compStart (two kx vx ta ia tb ib scope pos) 1 it (.ref D) env).onRaise (fun x => do noteFrame x env; standAt theWindowsPlace)) _ _ s
  refine wpAny_notedAt ?_
  unfold compStart
  show wpAny _ _ (ask >>= _) _ _ s
  refine wpAny_bind (wpAny_askSetting (wpAny_ite ?_))
  split
  · first | exact wpAny_bind (wpAny_pure (wpAny_pure (And.intro rfl h0))) | exact wpAny_pure (And.intro rfl h0)
  · have hm := fun (x : Sem (Value × Unit)) => x
    refine wpAny_bind (wpAny_rule ?_)
    show wpAny _ _ (standAt ib.pos >>= _) _ _ s
    exact wpAny_bind (wpAny_standAt (wpAny_bind (wpAny_mono h (fun it' s' h' => wpAny_pure (And.intro rfl h')) fun _ _ x => x)))
end
section
variable {X : Cx}
/-- the reading: W for the outer walk, W1 for the inner one; vs all names of the comprehension, vs1 those of the second target -/
def tDc2 (wa : TI) (ga : TG) (wb : TI) (gb : TG) (tk tv : TE) (vs vs1 : List Nat) : TE := fun σ H Q => wa σ H fun Ja H1 => ∀ D, H1 D = none → ∃ W : Nat → Nat → Hp → Prop, (∃ m, W 0 m (upd H1 D (.dK []))) ∧ ∀ i m H, W i m H →
  (Ja.stop i H ∧ Q (.ref D) H) ∨ (Ja.go i H ∧ ∃ Nx : Hp → Prop, (∀ H', Nx H' → ∃ m', m' < m ∧ W (i + 1) m' H') ∧ ∀ x H', Ja.yld i H x H' → ga x (wipe σ vs) H' fun σ2 H2 => wipe σ2 vs = wipe σ vs ∧
    wb σ2 H2 fun Jb H4 => ∃ W1 : Nat → Nat → Hp → Prop, (∃ m, W1 0 m H4) ∧ ∀ j k H, W1 j k H →
      (Jb.stop j H ∧ Nx H) ∨ (Jb.go j H ∧ ∃ Nx1 : Hp → Prop, (∀ H', Nx1 H' → ∃ k', k' < k ∧ W1 (j + 1) k' H') ∧ ∀ x H', Jb.yld j H x H' → gb x (wipe σ2 vs1) H' fun σ3 H5 => wipe σ3 vs1 = wipe σ2 vs1 ∧
        tk σ3 H5 fun y H6 => tv σ3 H6 fun z H7 => ∃ kvs k, y = kV k ∧ H7 D = some (.dK kvs) ∧ kvs.length < sizeLine ∧ Nx1 (upd H7 D (.dK (putK kvs k z)))))
/-- a piece of the block serves wherever the block stands -/
abbrev InBlk (X : Cx) (scope : Scope) (p : Cx → Prop) : Prop := ∀ (s : Shared) (H : Hp) (C : Addr) (cl : List (Str × Addr)) (fp : List Addr), p (X.blk s H scope (compEnvC scope cl C X.env) fp)
theorem core {pins : List (Addr × Obj)} {s : Shared} {σ : L2.St} {H : Hp} {Q : VK} {kx vx ta ia tb ib : Expr} {scope : Scope} {own : List (Str × Nat)} {vs1 : List Nat} {pos pos' : Pos} {wa wb : TI} {ga gb : TG} {tk tv : TE} {use : Option (Value → Sem Unit)} {Qf : Value → Shared → Prop}
    (hc : X.calm = true) (hN : X.N.Nodup) (I : Inv X pins σ H s) (hi : PI X ta ia wa) (ok : BlkOk X.N X.env.scope scope own) (hv : ∀ i ∈ vs1, i ∈ own.map (·.2))
    (hga : InBlk X scope fun Y => PG Y ta ga) (hib : InBlk X scope fun Y => PI Y tb ib wb) (hgb : InBlk X scope fun Y => PG Y tb gb) (hk : InBlk X scope fun Y => PE Y kx tk) (hz : InBlk X scope fun Y => PE Y vx tv)
    (fa : ∀ x, foldedSetIterable ia X.env x = pure x) (fb : ∀ env x, foldedSetIterable ib env x = pure x) (h : tDc2 wa ga wb gb tk tv (own.map (·.2)) vs1 σ H Q)
    (fin : ∀ D C s' m H', Inv X pins σ H' s' → Q (.ref D) H' → s'.heap.Ns C m → FpOk X pins H' C → compPost (model X.prog X.w) X.A X.xe use Qf (.ref D) C (.ok .next) s') :
    wpAny (model X.prog X.w) X.A (comprehension (two kx vx ta ia tb ib scope pos) scope X.env pos' newDict false (eval ia X.env) use) Qf X.xe s := by
  have free : ∀ y ∈ scope.names, y.2 = .free → ∃ c, X.env.cells.lookup y.1 = some c := fun y hy e => (ok.free y hy e).elim (fun z => I.ok.has _ (.inl z)) fun z => I.ok.has _ (.inr z)
  refine wpAny_comprehension_free (use := use) rfl fa (closure_ok free) ok.kind (fun y hy e => by rw [ok.uniq y hy, e]) (thn (hi.run pins s σ H _ I h) fun xv s1 hx => thn hx fun itv s2 h2 => ?_)
  obtain ⟨it, fp, tn, Ja, H2, e, I2, T, st2, f2, q⟩ := h2
  subst e
  refine wpAny_newObj_type (newEnv_comp ?_)
  generalize hD : s2.heap.objs.size = D
  obtain ⟨W, ⟨m0, w0⟩, turn⟩ := q D (I2.hok.fresh (Nat.le_of_eq hD))
  generalize hs3 : ({ s2 with heap := s2.heap.push { cls := .type "dict", data := .dict #[] } } : Shared) = s3
  have h3 : s3.heap = s2.heap.push { cls := .type "dict", data := .dict #[] } := by rw [← hs3]
  have I3 : Inv X pins σ (upd H2 D (.dK [])) s3 := by
    rw [← hs3]
    exact I2.laid (t' := s2.toks) (fun b o e => Heap.get?_push_of_some _ e) (Nat.le_of_eq hD) (hD ▸ dk_empty s2.heap I2.big)
  have lt2 : ∀ b ∈ fp, b < s2.heap.objs.size := fun b hb => let ⟨_, e, _⟩ := T.obj _ _ st2 b hb; Heap.lt_size e
  have f3 : ∀ b ∈ fp, FpOk X pins (upd H2 D (.dK [])) b ∧ b < s3.heap.objs.size := fun b hb =>
    ⟨⟨by rw [upd_ne (by rw [← hD]; exact Nat.ne_of_lt (lt2 b hb))]; exact (f2 b hb).1, (f2 b hb).2⟩, by rw [h3, Heap.size_push]; exact Nat.lt_succ_of_lt (lt2 b hb)⟩
  have I4 := block_start I3 ok hN f3
  have pga := hga s3 (upd H2 D (.dK [])) s3.heap.objs.size (cellsFrom (s3.heap.objs.size + 1) scope.names (cloFrom X.env.cells scope.names [])) fp
  have pib := hib s3 (upd H2 D (.dK [])) s3.heap.objs.size (cellsFrom (s3.heap.objs.size + 1) scope.names (cloFrom X.env.cells scope.names [])) fp
  have pgb := hgb s3 (upd H2 D (.dK [])) s3.heap.objs.size (cellsFrom (s3.heap.objs.size + 1) scope.names (cloFrom X.env.cells scope.names [])) fp
  have pk := hk s3 (upd H2 D (.dK [])) s3.heap.objs.size (cellsFrom (s3.heap.objs.size + 1) scope.names (cloFrom X.env.cells scope.names [])) fp
  have pz := hz s3 (upd H2 D (.dK [])) s3.heap.objs.size (cellsFrom (s3.heap.objs.size + 1) scope.names (cloFrom X.env.cells scope.names [])) fp
  have st3 : tn 0 s3.heap := T.keep _ _ _ st2 fun b _ o e => by rw [h3]; exact Heap.get?_push_of_some _ e
  show codeAny _ _ (.compStart (two kx vx ta ia tb ib scope pos) 0 (.ref it) (.ref D) (compEnvC scope (cellsFrom (s3.heap.objs.size + 1) scope.names (cloFrom X.env.cells scope.names [])) s3.heap.objs.size X.env)) (compPost (model X.prog X.w) X.A X.xe use Qf (.ref D) s3.heap.objs.size) { s3 with heap := pushCells (s3.heap.push { cls := .type "dict", data := .dict #[] }) scope.names }
  have nfp : ∀ b ∈ fp, (upd H2 D (.dK [])) b = none := fun b hb => (f3 b hb).1.1
  generalize hce : compEnvC scope (cellsFrom (s3.heap.objs.size + 1) scope.names (cloFrom X.env.cells scope.names [])) s3.heap.objs.size X.env = ce at I4 pga pib pgb pk pz ⊢
  have cL : ce.locals = s3.heap.objs.size := hce ▸ rfl
  generalize hH3 : upd H2 D (.dK []) = H3 at I3 I4 pga pib pgb pk pz w0 nfp f3
  generalize hs4 : ({ s3 with heap := pushCells (s3.heap.push { cls := .type "dict", data := .dict #[] }) scope.names } : Shared) = s4 at I4 ⊢
  have st4 : tn 0 s4.heap := T.keep _ _ _ st3 fun b _ o e => hs4 ▸ pushCells_keeps _ _ _ _ (Heap.get?_push_of_some _ e)
  generalize hY : X.blk s3 H3 scope ce fp = Y at I4 pga pib pgb pk pz
  have yp : Y.prog = X.prog := hY ▸ rfl
  have yw : Y.w = X.w := hY ▸ rfl
  have yK : Y.K = X.K := hY ▸ rfl
  subst hY
  generalize hvs : own.map (·.2) = vs at hv h I4 turn
  have stat : ∀ {σ' : L2.St} {H' : Hp} {s' : Shared}, Inv (X.blk s3 H3 scope ce fp) [] σ' H' s' → (∀ b ∈ fp, H' b = none) → ∀ b ∈ fp, FpOk (X.blk s3 H3 scope ce fp) [] H' b := fun {σ' H' s'} I' hn b hb =>
    ⟨hn b hb, (I'.ok.exf b hb).1, I'.ok.exfs b hb, .inl hb, (I'.ok.exf b hb).2, fun p hp => by cases hp⟩
  have loop : codeAny (model X.prog X.w) X.A (.compLoop (two kx vx ta ia tb ib scope pos) 0 (.ref it) (.ref D) ce) (compPost (model X.prog X.w) X.A X.xe use Qf (.ref D) s3.heap.objs.size) s4 := by
    refine loopA (fb ce) (fun n s' => ∃ i H', Inv (X.blk s3 H3 scope ce fp) [] (wipe σ vs) H' s' ∧ tn i s'.heap ∧ (∀ b ∈ fp, H' b = none) ∧ W i n H') ?_ m0 ⟨0, H3, I4, st4, nfp, w0⟩
    rintro n s5 ⟨i, H5, I5, st5, n5, w5⟩
    rcases turn i n H5 w5 with ⟨stop, qq⟩ | ⟨go, Nx, hNx, step⟩
    · refine thnF (T.done (X.blk s3 H3 scope ce fp) rfl rfl rfl hc i [] s5 _ H5 (fun _ _ => False) I5 (stat I5 n5) st5 stop) fun r s6 ⟨hr, I6⟩ => ?_
      subst hr
      have I7 : Inv X pins σ H5 s6 := I3.call' (ch := fp) I6.os I6.base I6.hok I6.bare fun b hb => let z := (f3 b hb).1.2; ⟨z.2.2.1, z.1, z.2.2.2.1, z.2.2.2.2⟩
      have nC : H5 s3.heap.objs.size = none := cL ▸ I6.free
      obtain ⟨m, hn, _⟩ := I6.loc
      have hn : s6.heap.Ns ce.locals m := hn
      exact fin D s3.heap.objs.size s6 m H5 I7 qq (cL ▸ hn) (I3.fpOk (Nat.le_refl _) nC)
    · refine thnF (T.item (X.blk s3 H3 scope ce fp) rfl rfl rfl hc i [] s5 _ H5 (fun _ _ => False) I5 (stat I5 n5) st5 go) fun r s6 ⟨u, hr, h6⟩ => ?_
      subst hr
      refine thnF h6 fun _ s7 ⟨x, H7, I7, r7, y7, st7, n7⟩ => ?_
      refine thnF (pga.run _ s7 _ H7 x u _ (I7.pinned (stat I7 n7) (T.obj _ _ st7)) r7 (step x H7 y7)) fun _ s8 ⟨σ8, H8, I8, hw8, q8⟩ => ?_
      have k8 : ∀ (j : Nat) v, (wipe σ vs)[j]? = some (some v) → (wipe σ8 vs1)[j]? = some (some v) := fun j v e => by
        rw [← hw8] at e
        obtain ⟨e1, e2⟩ := wipe_some e
        rw [wipe_out fun z => e2 (hv j z)]
        exact e1
      have l8 : (wipe σ vs).length = (wipe σ8 vs1).length := by rw [wipe_length σ8, ← hw8, wipe_length]
      -- the outer turn ends
      have close : ∀ {s' : Shared} {H' : Hp}, Inv (X.blk s3 H3 scope ce fp) ([] ++ pinsAt fp s7.heap) (wipe σ8 vs1) H' s' → Nx H' →
          ∃ m, m < n ∧ ∃ i H', Inv (X.blk s3 H3 scope ce fp) [] (wipe σ vs) H' s' ∧ tn i s'.heap ∧ (∀ b ∈ fp, H' b = none) ∧ W i m H' := fun {s' H'} I' nx => by
        obtain ⟨m', hm, w'⟩ := hNx H' nx
        have pin' : ∀ b ∈ fp, ∀ o, s7.heap.get? b = some o → s'.heap.get? b = some o ∧ H' b = none := fun b hb o e =>
          let z := I'.pin (b, o) (List.mem_append_right _ (List.mem_append_right _ (mem_pinsAt hb e))); ⟨z.1, z.2.1⟩
        exact ⟨m', hm, i + 1, H', (I'.unpinned (pins := [])).weak l8 k8, T.keep _ _ _ st7 fun b hb o e => (pin' b hb o e).1, fun b hb => let ⟨o, e, _⟩ := T.obj _ _ st7 b hb; (pin' b hb o e).2, w'⟩
      refine thnF (pib.run _ s8 σ8 H8 _ I8 q8) fun xv s10 hx => thnF hx fun itv s11 h11 => ?_
      obtain ⟨it1, fp1, tn1, Jb, H11, e1, I11, T1, st11, f11, W1, ⟨m1, w1⟩, turn1⟩ := h11
      subst e1
      have stat1 : ∀ {H' : Hp}, (∀ b ∈ fp1, H' b = none) → ∀ b ∈ fp1, FpOk (X.blk s3 H3 scope ce fp) ([] ++ pinsAt fp s7.heap) H' b := fun hn b hb => ⟨hn b hb, (f11 b hb).2⟩
      have inner : codeAny (model X.prog X.w) X.A (.compLoop (two kx vx ta ia tb ib scope pos) 1 (.ref it1) (.ref D) ce)
          (fun r s' => match r with
            | .ok _ => ∃ m, m < n ∧ ∃ i H', Inv (X.blk s3 H3 scope ce fp) [] (wipe σ vs) H' s' ∧ tn i s'.heap ∧ (∀ b ∈ fp, H' b = none) ∧ W i m H'
            | .error _ => False) s11 := by
        refine loopB (fun k s' => ∃ j H', Inv (X.blk s3 H3 scope ce fp) ([] ++ pinsAt fp s7.heap) (wipe σ8 vs1) H' s' ∧ tn1 j s'.heap ∧ (∀ b ∈ fp1, H' b = none) ∧ W1 j k H') ?_ m1 ⟨0, H11, I11.weak (wipe_length _ _) (fun j v e => (wipe_some e).1), st11, fun b hb => (f11 b hb).1, w1⟩
        rintro k s12 ⟨j, H12, I12, st12, n12, w12⟩
        rcases turn1 j k H12 w12 with ⟨stop1, nx1⟩ | ⟨go1, Nx1, hNx1, step1⟩
        · refine thnF (T1.done (X.blk s3 H3 scope ce fp) rfl rfl rfl hc j _ s12 (wipe σ8 vs1) H12 (fun _ _ => False) I12 (stat1 n12) st12 stop1) fun r s13 ⟨hr, I13⟩ => ?_
          subst hr
          exact close I13 nx1
        · refine thnF (T1.item (X.blk s3 H3 scope ce fp) rfl rfl rfl hc j _ s12 (wipe σ8 vs1) H12 (fun _ _ => False) I12 (stat1 n12) st12 go1) fun r s13 ⟨u1, hr, h13⟩ => ?_
          subst hr
          refine thnF h13 fun _ s14 ⟨x1, H14, I14, r14, y14, st14, n14⟩ => ?_
          refine thnF (pgb.run _ s14 (wipe σ8 vs1) H14 x1 u1 _ (I14.pinned (stat1 n14) (T1.obj _ _ st14)) r14 (step1 x1 H14 y14)) fun _ s15 ⟨σ15, H15, I15, hw15, q15⟩ => ?_
          refine thnF (pk.run _ s15 σ15 H15 _ I15 q15) fun kv s16 ⟨yk, H16, I16, r16, q16⟩ => ?_
          refine thnF (pz.run _ s16 σ15 H16 _ I16 q16) fun zv s17 ⟨yz, H17, I17, r17, kvs, ke, ek, hD17, hz17, nx⟩ => ?_
          subst ek
          refine d_dictSet (X := X.blk s3 H3 scope ce fp) I17 hD17 hz17 r16 r17 fun s18 I18 => ?_
          obtain ⟨m', hm, w'⟩ := hNx1 _ nx
          have pin' : ∀ b ∈ fp1, ∀ o, s14.heap.get? b = some o → s18.heap.get? b = some o ∧ (upd H17 D (.dK (putK kvs ke yz))) b = none := fun b hb o e =>
            let z := I18.pin (b, o) (List.mem_append_right _ (List.mem_append_right _ (mem_pinsAt hb e))); ⟨z.1, z.2.1⟩
          exact ⟨m', hm, j + 1, _, I18.unpinned.weak (by rw [← hw15, wipe_length]) (fun j v e => by rw [← hw15] at e; exact (wipe_some e).1), T1.keep _ _ _ st14 fun b hb o e => (pin' b hb o e).1, fun b hb => let ⟨o, e, _⟩ := T1.obj _ _ st14 b hb; (pin' b hb o e).2, w'⟩
      exact startB inner (T1.self X.A 0 _ _ _ st11 inner)
  exact codeAny_compStart_dict loop (T.self X.A 0 _ _ _ st4 loop)
theorem pe_dc2 {kx vx ta ia tb ib : Expr} {scope : Scope} {own : List (Str × Nat)} {vs1 : List Nat} {pos : Pos} {wa wb : TI} {ga gb : TG} {tk tv : TE} (hc : X.calm = true) (hN : X.N.Nodup) (hi : PI X ta ia wa) (ok : BlkOk X.N X.env.scope scope own) (hv : ∀ i ∈ vs1, i ∈ own.map (·.2))
    (hga : InBlk X scope fun Y => PG Y ta ga) (hib : InBlk X scope fun Y => PI Y tb ib wb) (hgb : InBlk X scope fun Y => PG Y tb gb) (hk : InBlk X scope fun Y => PE Y kx tk) (hz : InBlk X scope fun Y => PE Y vx tv)
    (fa : ∀ x, foldedSetIterable ia X.env x = pure x := by intro _; rfl) (fb : ∀ env x, foldedSetIterable ib env x = pure x := by intro _ _; rfl) :
    PE X (.DictComp kx vx [⟨ta, ia, [], 0⟩, ⟨tb, ib, [], 0⟩] scope pos) (tDc2 wa ga wb gb tk tv (own.map (·.2)) vs1) := by
  refine ⟨fun pins s σ H Q I h => ?_⟩
  rw [arm_eval_DictComp]
  refine core hc hN I hi ok hv hga hib hgb hk hz fa fb h fun D C s' m H' I' q hn f => ⟨m, hn, fun h'' sb => ?_⟩
  exact ⟨.ref D, H', I'.turned (t' := s'.toks) (fun b o hb e => (sb.2 b hb).trans e) f.1 f.2.1 f.2.2.2.1 f.2.2.2.2.1 f.2.2.2.2.2, rfl, q⟩
/-! ### a walk of a tuple, of a list, of a range: T x H Nx is one turn -/
theorem walk_t {K : PySem.W.Frag} {a : Addr} {xs : List V} {T : V → Hp → (Hp → Prop) → Prop} {H0 : Hp} {Qd : Hp → Prop} (Pv : Nat → Hp → Prop) (h0 : Pv 0 H0) (hl : ∀ i H, i ≤ xs.length → Pv i H → SqT K H a xs)
    (hs : ∀ i x H, xs[i]? = some x → Pv i H → T x H (Pv (i + 1))) (hd : ∀ H, Pv xs.length H → Qd H) :
    ∃ W : Nat → Nat → Hp → Prop, (∃ m, W 0 m H0) ∧ ∀ i m H, W i m H →
      ((Itt K a).stop i H ∧ Qd H) ∨ ((Itt K a).go i H ∧ ∃ Nx : Hp → Prop, (∀ H', Nx H' → ∃ m', m' < m ∧ W (i + 1) m' H') ∧ ∀ x H', (Itt K a).yld i H x H' → T x H' Nx) := by
  refine ⟨fun i m H => m = xs.length - i ∧ i ≤ xs.length ∧ Pv i H, ⟨xs.length, (Nat.sub_zero _).symm, Nat.zero_le _, h0⟩, ?_⟩
  rintro i m H ⟨rfl, hi, p⟩
  have q := hl i H hi p
  rcases Nat.lt_or_ge i xs.length with c | c
  · refine .inr ⟨⟨xs, xs[i], q, List.getElem?_eq_getElem c⟩, Pv (i + 1), fun H' p' => ⟨xs.length - (i + 1), by omega, rfl, c, p'⟩, ?_⟩
    rintro x H' ⟨e, y⟩
    subst e
    exact hs i x _ (y xs q) p
  · have e : i = xs.length := by omega
    subst e
    exact .inl ⟨⟨xs, q, Nat.le_refl _⟩, hd H p⟩
theorem walk_l {K : PySem.W.Frag} {a : Addr} {xs : List V} {T : V → Hp → (Hp → Prop) → Prop} {H0 : Hp} {Qd : Hp → Prop} (Pv : Nat → Hp → Prop) (h0 : Pv 0 H0) (hl : ∀ i H, i ≤ xs.length → Pv i H → SqL K H a xs)
    (hs : ∀ i x H, xs[i]? = some x → Pv i H → T x H (Pv (i + 1))) (hd : ∀ H, Pv xs.length H → Qd H) :
    ∃ W : Nat → Nat → Hp → Prop, (∃ m, W 0 m H0) ∧ ∀ i m H, W i m H →
      ((Itl K a).stop i H ∧ Qd H) ∨ ((Itl K a).go i H ∧ ∃ Nx : Hp → Prop, (∀ H', Nx H' → ∃ m', m' < m ∧ W (i + 1) m' H') ∧ ∀ x H', (Itl K a).yld i H x H' → T x H' Nx) := by
  refine ⟨fun i m H => m = xs.length - i ∧ i ≤ xs.length ∧ Pv i H, ⟨xs.length, (Nat.sub_zero _).symm, Nat.zero_le _, h0⟩, ?_⟩
  rintro i m H ⟨rfl, hi, p⟩
  have q := hl i H hi p
  rcases Nat.lt_or_ge i xs.length with c | c
  · refine .inr ⟨⟨xs, xs[i], q, List.getElem?_eq_getElem c⟩, Pv (i + 1), fun H' p' => ⟨xs.length - (i + 1), by omega, rfl, c, p'⟩, ?_⟩
    rintro x H' ⟨e, y⟩
    subst e
    exact hs i x _ (y xs q) p
  · have e : i = xs.length := by omega
    subst e
    exact .inl ⟨⟨xs, q, Nat.le_refl _⟩, hd H p⟩
end
end DC2

set_option Elab.async false
set_option linter.all false
set_option maxRecDepth 100000
set_option maxHeartbeats 4000000
/-! tuple * 1: the tuple itself. -/
namespace Ew
open PySem PySem.Spec PyProof.Rows L2
theorem tuple_mulW1 (l : Addr) (items : Array Value) (n : Nat) (dd : Option Addr) (sl : Array (Option Value)) (u : Tok) :
    Meets (Builtin.«tuple.__mul__» ⟨[.ref l, .int 1 u], []⟩) (fun _ R s => s.heap.get? l = some { cls := .type "tuple", dict := dd, data := .seq items n, slots := sl } ∧ R (.ok (.ret (Value.ref l))) s) :=
  .of_wp fun prog w A R s h => by
    obtain ⟨hp, g, d, tk, os⟩ := s
    obtain ⟨hl, h⟩ := h
    have f1 := AutoSeq1.idx_int
    have c1 : (items.isEmpty || (1 : Int) == 1) = true := by simp
    wp_walk using wpAny_loadPart' hl
    repeat (first
      | (refine wpAny_ite_false (decide_eq_false (by decide)) ?_; wp_walk using wpAny_loadPart' hl)
      | (refine wpAny_ite_true (decide_eq_true (by simp)) ?_; wp_walk using wpAny_loadPart' hl))
    exact ⟨_, rfl, h⟩
def rRepT1 (K : PySem.W.Frag) : R2 := fun x y H Q => ∃ l xs, x = .ref l ∧ y = .int 1 ∧ SqT K H l xs ∧ Q (.ref l) H
theorem op_repT1 {X : Cx} : OpR X (binaryOp .Mult) (rRepT1 X.K) := by
  intro pins s σ H x y v u Q I rx ry h
  obtain ⟨l, xs, rfl, rfl, hT, q⟩ := h
  cases rx
  obtain ⟨t, rfl⟩ := ry
  obtain ⟨its, r, ⟨⟨cls, dd, data, sl⟩, ho, hc, n, hd⟩, hs⟩ := I.tuple hT
  simp only at hc hd
  subst hc hd
  refine wpAny_binaryOp_repeat_ref (T := "tuple") (U := "int") (by decide) ⟨_, ho, rfl⟩ (fun s' => typeIs_int s' 1 t) noFill_tuple_mul F.fills_int_mul F.slot_int_rmul repeat_tuple F.slot_int_index.lookup
    (call_meets F.slot_int_rmul (typeIs_int s 1 t) F.entry_int_rmul (F.args_int_rmul_2 _ _) (int_rmul_tuple 1 t l its.toArray n dd sl)
      ⟨ho, rfl, ⟨_, ho, rfl⟩, call_meets F.slot_tuple_mul ⟨_, ho, rfl⟩ F.entry_tuple_mul (F.args_tuple_mul_2 _ _) (tuple_mulW1 l its.toArray n dd sl t) ⟨ho, ?_⟩⟩)
  exact ⟨.ref l, H, I, rfl, q⟩
end Ew

set_option Elab.async false
set_option linter.all false
set_option maxRecDepth 100000
set_option maxHeartbeats 4000000
/-! sorted(t) of a tuple of ints. -/
namespace STx
open PySem PySem.W L2 PySem.Spec PyProof.Rows
open Sem (wp)
section
variable {prog : Program} {w : World} {A : Around} {E : Value → Shared → Prop} {s : Shared}
/-- what a tuple holds is collected -/
theorem gathered {t : Addr} {us : List Value} {Q : List Value → Shared → Prop} (ht : s.heap.IsTuple t us.toArray) (hz : us.length ≤ sizeLine)
    (q : Q us { s with heap := (s.heap.push (seqObj "list" #[] 0)).update s.heap.objs.size (Obj.mapSeq (· ++ us.toArray)) }) : wpAny (model prog w) A (collect (.ref t)) Q E s := by
  obtain ⟨ob, h1, h2, m, h3⟩ := id ht
  unfold collect
  refine wpAny_bind (wpAny_runValue (codeAny_builtin entry_proto_collect' ?_)); show wpAny _ _ (do again (.builtin "list.__iadd__" ⟨[← newList [], .ref t], []⟩)) _ _ s
  refine wpAny_bind (wpAny_newList (wpAny_pure ⟨Code.quiet_builtin _ (by decide +kernel), codeAny_builtin entry_list_iadd' ?_⟩)); show wpAny _ _ (Builtin.List.listExtendWith (.ref s.heap.objs.size) (.ref t) (.ref s.heap.objs.size)) _ _ { s with heap := s.heap.push (seqObj "list" #[] 0) }
  unfold Builtin.List.listExtendWith
  have h1' : (s.heap.push (seqObj "list" #[] 0)).get? t = some ob := Heap.get?_push_of_some _ h1
  refine wpAny_bind (wpAny_typeOf (T := "tuple") ⟨ob, h1', h2⟩ ?_); have e : (Value.type "tuple" == Value.type "tuple") = true := by rfl
  rw [if_pos (by rw [e]; simp)]; refine wpAny_bind (listItems_at h1' h3 ?_); refine wpAny_bind (listItems_at (xs := #[]) (n := 0) (Heap.get?_push_size _ rfl) rfl ?_); rw [if_neg (by simp)]
  refine wpAny_bind (listUpdate_at (xs := #[]) (n := 0) (Heap.get?_push_size _ rfl) rfl ?_ (Nat.zero_le _) (by show (#[] ++ us.toArray).size ≤ sizeLine + 1; simp only [Array.size_append, List.size_toArray, List.length_nil]; omega)); refine wpAny_pure ?_
  show wpAny (model prog w) A (do let o ← load s.heap.objs.size; match o.data with | .seq xs _ => pure xs.toList | _ => unsupported "internal:collect") Q E { s with heap := (s.heap.push (seqObj "list" #[] 0)).update s.heap.objs.size (Obj.mapSeq (· ++ us.toArray)) }
  refine wpAny_bind (wpAny_load (get?_update_seq (Heap.get?_push_size _ rfl) _) ?_); show wpAny _ _ (pure ((#[] : Array Value) ++ us.toArray).toList) Q E _
  rw [show ((#[] : Array Value) ++ us.toArray).toList = us by simp]; exact wpAny_pure q
theorem sorted_tup {t : Addr} {us : List Value} {lt : Value → Value → Bool} {Q : Value → Shared → Prop} (O : SrtO.Swo lt) (ht : s.heap.IsTuple t us.toArray) (hz : us.length ≤ sizeLine)
    (hS : 2 ≤ us.length → ∀ (g : Heap) (a : Addr), g.get? a = some (seqObj "list" us.toArray 0) → (∀ b o, s.heap.get? b = some o → b ≠ a ∧ g.get? b = some o) → SrtO.SortableO prog w A.in1.in1 { s with heap := g } a us lt)
    (q : ∀ out : List Value, SrtO.Srtd lt out → SrtO.Stb lt out us → Q (.ref (s.heap.objs.size + 1)) { s with heap := sortedAll s.heap us out.toArray }) :
    wpAny (model prog w) A (call (.builtin "sorted") [.ref t]) Q E s := by
  refine Calls.call_function_entry kind_sorted plain_sorted entry_sorted (args_sorted1 _) ?_; unfold Builtin.«sorted»
  refine wpAny_bind (m := checkCount "sorted" 1 1 _) (wpAny_pure ?_); refine wpAny_bind (gathered ht hz ?_); refine wpAny_bind (wpAny_newList ?_ hz)
  have e1 : ((s.heap.push (seqObj "list" #[] 0)).update s.heap.objs.size (Obj.mapSeq (· ++ us.toArray))).objs.size = s.heap.objs.size + 1 := by
    rw [Heap.size_update, size_push']
  have e2 : (((s.heap.push (seqObj "list" #[] 0)).update s.heap.objs.size (Obj.mapSeq (· ++ us.toArray))).push (seqObj "list" us.toArray 0)).get? (s.heap.objs.size + 1) = some (seqObj "list" us.toArray 0) := by
    rw [← e1]; exact Heap.get?_push_size _ rfl
  have e3 : ∀ b o, s.heap.get? b = some o → b ≠ s.heap.objs.size + 1 ∧ (((s.heap.push (seqObj "list" #[] 0)).update s.heap.objs.size (Obj.mapSeq (· ++ us.toArray))).push (seqObj "list" us.toArray 0)).get? b = some o := fun b o g => by
    have hb : b < s.heap.objs.size := Heap.lt_size g
    refine ⟨Nat.ne_of_lt (Nat.lt_succ_of_lt hb), Heap.get?_push_of_some _ ?_⟩
    rw [Heap.get?_update_ne _ _ _ _ (Nat.ne_of_lt hb)]; exact Heap.get?_push_of_some _ g
  show wpAny _ _ _ _ _ { s with heap := ((s.heap.push (seqObj "list" #[] 0)).update s.heap.objs.size (Obj.mapSeq (· ++ us.toArray))).push (seqObj "list" us.toArray 0) }
  rw [e1]; refine wpAny_bind (wpAny_holding (wpAny_call_entry slot_list_sort ⟨_, e2, rfl⟩ entry_list_sort (SrtO.list_sort_ord O e2 hz (fun h2 => hS h2 _ _ e2 e3) fun out hs hb => ⟨_, rfl, ?_⟩) (args_list_sort _)))
  exact wpAny_pure ⟨_, rfl, q out hs hb⟩
end
section
variable {X : Cx}
/-- sorted(xs), xs a list or a tuple of ints -/
def rSortA (K : PySem.W.Frag) : List V → Hp → VK → Prop := fun vs H Q => ∃ (a : Addr) (ns : List Int), vs = [V.ref a] ∧ (SqL K H a (ns.map V.int) ∨ SqT K H a (ns.map V.int)) ∧
  ∀ (ms : List Int) (p : Addr), ms.Perm ns → ms.Pairwise (· ≤ ·) → H p = none → Q (.ref p) (upd H p (.lst (ms.map V.int)))
theorem cr_sortedA : CallR X (.builtin "sorted") (rSortA X.K) := by
  intro pins s σ H vs us Q I r h
  obtain ⟨a, ns, rfl, hs | hs, q⟩ := h
  · exact cr_sortedI pins s σ H _ us Q I r ⟨a, ns, rfl, hs, q⟩
  · obtain ⟨its, rv, ht, hz⟩ := I.tuple hs
    rw [Vals.ref1 r]
    have rin := rv.ints
    refine sorted_tup SrtO.swo_int (show s.heap.IsTuple a its.toArray from ht) (by rw [← rv.length]; exact hz) (fun h2 g a' _ _ => SrtO.ints_sortable rin h2) fun out h1 h2 => ?_
    obtain ⟨k1, k2, k3⟩ := SrtO.ints_out rin h1 h2
    obtain ⟨ep, at_⟩ := PyProof.Rows.sortedAll_at s.heap its out.toArray
    have len : ((out.map SrtO.iv).map V.int).length ≤ sizeLine := by
      rw [List.length_map, k2.length_eq]; rw [List.length_map] at hz; exact hz
    exact ⟨.ref _, upd H (s.heap.objs.size + 1) (.lst ((out.map SrtO.iv).map V.int)), I.laid (t' := s.toks) (fun _ _ => PyProof.Rows.sortedAll_old) (Nat.le_succ _) ⟨len, out, ep, vals_of_ints k1, at_⟩, rfl, q _ _ k2 k3 (I.hok.fresh (Nat.le_succ _))⟩
end
end STx

set_option Elab.async false
set_option linter.all false
set_option maxRecDepth 100000
set_option maxHeartbeats 4000000
/-! Lists of whole numbers: sorted, the least k, the sums. -/
namespace KM
open PySem L2 Ew
abbrev nV (ns : List Nat) : List V := ns.map fun (n : Nat) => V.int (n : Int)
def sortN (ns : List Nat) : List Nat := (PySem.W.sortI (ns.map fun (n : Nat) => (n : Int))).map Int.toNat
theorem sortN_of {ns : List Nat} {ns' : List Int} (hp : ns'.Perm (ns.map fun (n : Nat) => (n : Int))) (hs : ns'.Pairwise (· ≤ ·)) : ns' = (sortN ns).map fun (n : Nat) => (n : Int) := by
  have e := PySem.W.eq_sortI hp hs
  unfold sortN
  rw [← e, List.map_map]
  refine (List.map_id _).symm.trans (List.map_congr_left fun x hx => ?_)
  obtain ⟨n, _, rfl⟩ := List.mem_map.mp (hp.mem_iff.mp hx)
  show (n : Int) = ((n : Int).toNat : Int)
  rw [Int.toNat_natCast]
theorem int_map (ns : List Nat) : (ns.map fun (n : Nat) => (n : Int)).map V.int = nV ns := by
  rw [List.map_map]; rfl
theorem id_nat (ns : List Nat) : (ns.map fun (n : Nat) => (n : Int)).map Int.toNat = ns := by
  rw [List.map_map]
  exact (List.map_congr_left fun n _ => Int.toNat_natCast n).trans (List.map_id _)
theorem sortN_perm (ns : List Nat) : (sortN ns).Perm ns := by
  have h := (PySem.W.sortI_perm (ns.map fun (n : Nat) => (n : Int))).map Int.toNat
  rw [id_nat] at h
  exact h
theorem sortN_rises (ns : List Nat) : (sortN ns).Pairwise (· ≤ ·) :=
  (PySem.W.sortI_rises (ns.map fun (n : Nat) => (n : Int))).map Int.toNat fun a b hab => by omega
/-- what rises and holds the same is the sorted list -/
theorem sortN_eq {ns ms : List Nat} (hp : ms.Perm ns) (hs : ms.Pairwise (· ≤ ·)) : ms = sortN ns := by
  have e := sortN_of (ns := ns) (ns' := ms.map fun (n : Nat) => (n : Int)) (hp.map _) (hs.map (S := fun (a b : Int) => a ≤ b) _ fun a b hab => by omega)
  have e3 := congrArg (List.map Int.toNat) e
  rwa [id_nat, id_nat] at e3
theorem sortN_congr {ns ms : List Nat} (hp : ms.Perm ns) : sortN ms = sortN ns := sortN_eq ((sortN_perm ms).trans hp) (sortN_rises ms)
theorem sortN_self {ns : List Nat} (hs : ns.Pairwise (· ≤ ·)) : sortN ns = ns := (sortN_eq (.refl _) hs).symm
theorem sortN_len (ns : List Nat) : (sortN ns).length = ns.length := (sortN_perm ns).length_eq
def topN (k : Nat) (ns : List Nat) : List Nat := (sortN ns).take k
theorem topN_congr {k : Nat} {ns ms : List Nat} (hp : ms.Perm ns) : topN k ms = topN k ns := by unfold topN; rw [sortN_congr hp]
theorem topN_rises (k : Nat) (ns : List Nat) : (topN k ns).Pairwise (· ≤ ·) := (sortN_rises ns).sublist (List.take_sublist _ _)
theorem topN_len (k : Nat) (ns : List Nat) : (topN k ns).length ≤ k := List.length_take_le _ _
theorem topN_self {k : Nat} {ns : List Nat} (hs : ns.Pairwise (· ≤ ·)) (hl : ns.length ≤ k) : topN k ns = ns := by
  unfold topN; rw [sortN_self hs, List.take_of_length_le hl]
/-- what many lesser ones stand ahead of does not matter -/
theorem topN_drop {k : Nat} {Y Z : List Nat} (h : ∀ z ∈ Z, k ≤ Y.countP fun y => decide (y ≤ z)) : topN k (Y ++ Z) = topN k Y := by
  rcases Nat.lt_or_ge Y.length k with hk | hk
  · have hz : Z = [] := by
      rcases Z with _ | ⟨z, Z⟩
      · rfl
      · have h1 := h z (List.mem_cons_self ..)
        have h2 := List.countP_le_length (p := fun y => decide (y ≤ z)) (l := Y)
        omega
    rw [hz, List.append_nil]
  · have hS := sortN_rises Y
    have hP := sortN_perm Y
    have hl : (sortN Y).length = Y.length := hP.length_eq
    have split_ : (sortN Y).take k ++ (sortN Y).drop k = sortN Y := List.take_append_drop k _
    have low : ∀ z ∈ Z, ∀ p ∈ (sortN Y).take k, p ≤ z := fun z hz p hp => by
      refine Nat.not_lt.mp fun hlt => ?_
      have hc := h z hz
      rw [← hP.countP_eq, ← split_, List.countP_append] at hc
      obtain ⟨i, hi⟩ := List.mem_iff_getElem?.mp hp
      have hik : i < ((sortN Y).take k).length := (List.getElem?_eq_some_iff.mp hi).1
      have hi' : (sortN Y)[i]? = some p := by
        rw [List.getElem?_take] at hi
        split at hi
        · exact hi
        · cases hi
      have hin : i < (sortN Y).length := (List.getElem?_eq_some_iff.mp hi').1
      have hk2 : i < k := by
        have := List.length_take_le k (sortN Y)
        omega
      have c1 : (sortN Y).countP (fun y => decide (y ≤ z)) ≤ i := by
        rw [← List.take_append_drop i (sortN Y), List.countP_append]
        have a1 := List.countP_le_length (p := fun y => decide (y ≤ z)) (l := (sortN Y).take i)
        have a2 : ((sortN Y).drop i).countP (fun y => decide (y ≤ z)) = 0 := by
          refine List.countP_eq_zero.mpr fun y hy => ?_
          have hd : (sortN Y).drop i = p :: (sortN Y).drop (i + 1) := by
            rw [List.drop_eq_getElem_cons hin]
            congr 1
            rw [List.getElem?_eq_getElem hin] at hi'
            exact Option.some.inj hi'
          have hpw := hS.sublist (List.drop_sublist i (sortN Y))
          rw [hd] at hy hpw
          rcases List.mem_cons.mp hy with rfl | hy
          · simp; omega
          · have := (List.pairwise_cons.mp hpw).1 y hy
            simp; omega
        have a3 := List.length_take_le i (sortN Y)
        omega
      have c2 := hP.countP_eq (p := fun y => decide (y ≤ z))
      rw [← List.countP_append, split_] at hc
      omega
    have e : sortN (Y ++ Z) = (sortN Y).take k ++ sortN ((sortN Y).drop k ++ Z) := by
      refine (sortN_eq ?_ ?_).symm
      · have p1 := (sortN_perm ((sortN Y).drop k ++ Z)).append_left ((sortN Y).take k)
        rw [← List.append_assoc, split_] at p1
        exact p1.trans (hP.append_right Z)
      · refine List.pairwise_append.mpr ⟨hS.sublist (List.take_sublist _ _), sortN_rises _, fun a ha b hb => ?_⟩
        rcases List.mem_append.mp ((sortN_perm _).mem_iff.mp hb) with h1 | h1
        · rw [← split_] at hS
          exact (List.pairwise_append.mp hS).2.2 a ha b h1
        · exact low b h1 a ha
    unfold topN
    rw [e, List.take_append_of_le_length (by rw [List.length_take, hl]; omega), List.take_take, Nat.min_self]
/-- the least k and the rest -/
theorem topN_split (k : Nat) (ns : List Nat) : ∃ R, ns.Perm (topN k ns ++ R) ∧ ∀ r ∈ R, (topN k ns).length = k ∧ ∀ p ∈ topN k ns, p ≤ r := by
  refine ⟨(sortN ns).drop k, ?_, fun r hr => ⟨?_, fun p hp => ?_⟩⟩
  · unfold topN
    rw [List.take_append_drop]
    exact (sortN_perm ns).symm
  · have := List.length_pos_of_mem hr
    rw [List.length_drop] at this
    unfold topN
    rw [List.length_take]
    omega
  · have h := sortN_rises ns
    rw [← List.take_append_drop k (sortN ns)] at h
    exact (List.pairwise_append.mp h).2.2 p hp r hr
theorem topN_app (k : Nat) (a b : List Nat) : topN k (topN k a ++ b) = topN k (a ++ b) := by
  obtain ⟨R, hp, hr⟩ := topN_split k a
  have p2 : (a ++ b).Perm ((topN k a ++ b) ++ R) := by
    refine (hp.append_right b).trans ?_
    rw [List.append_assoc, List.append_assoc]
    exact List.Perm.append_left _ List.perm_append_comm
  rw [topN_congr p2]
  refine (topN_drop fun z hz => ?_).symm
  obtain ⟨h1, h2⟩ := hr z hz
  rw [List.countP_append, List.countP_eq_length.mpr (fun p hp => by simpa using h2 p hp), h1]
  omega
theorem topN_app_r (k : Nat) (a b : List Nat) : topN k (a ++ topN k b) = topN k (a ++ b) := by
  rw [topN_congr (List.perm_append_comm (l₁ := a)), topN_app, topN_congr List.perm_append_comm]
def sumsN (a b : List Nat) : List Nat := a.flatMap fun x => b.map fun y => x + y
theorem sums_nil (b : List Nat) : sumsN [] b = [] := rfl
theorem sums_cons (x : Nat) (a b : List Nat) : sumsN (x :: a) b = (b.map fun y => x + y) ++ sumsN a b := rfl
theorem sums_app (a a' b : List Nat) : sumsN (a ++ a') b = sumsN a b ++ sumsN a' b := List.flatMap_append
theorem sums_perm {a a' : List Nat} (b : List Nat) (h : a.Perm a') : (sumsN a b).Perm (sumsN a' b) := h.flatMap_right _
theorem sums_nil_r : ∀ a : List Nat, sumsN a [] = []
  | [] => rfl
  | x :: a => by rw [sums_cons, sums_nil_r a]; rfl
theorem sums_cons_r (y : Nat) (b : List Nat) : ∀ a : List Nat, (sumsN a (y :: b)).Perm ((a.map fun x => x + y) ++ sumsN a b)
  | [] => .refl _
  | x :: a => by
    rw [sums_cons, sums_cons, List.map_cons, List.map_cons, List.cons_append, List.cons_append]
    refine List.Perm.cons _ ((List.Perm.append_left _ (sums_cons_r y b a)).trans ?_)
    rw [← List.append_assoc, ← List.append_assoc]
    exact List.Perm.append_right _ List.perm_append_comm
theorem sums_comm : ∀ a b : List Nat, (sumsN a b).Perm (sumsN b a)
  | [], b => by rw [sums_nil_r]; exact .refl _
  | x :: a, b => by
    have h := sums_cons_r x a b
    rw [show (b.map fun y => y + x) = b.map fun y => x + y from List.map_congr_left fun y _ => Nat.add_comm y x] at h
    exact (List.Perm.append_left _ (sums_comm a b)).trans h.symm
theorem sums_app_r (a b c : List Nat) : (sumsN a (b ++ c)).Perm (sumsN a b ++ sumsN a c) :=
  (sums_comm _ _).trans ((by rw [sums_app]; exact (sums_comm b a).append (sums_comm c a) : (sumsN (b ++ c) a).Perm _))
theorem sums_map (x : Nat) (c : List Nat) : ∀ b : List Nat, sumsN (b.map fun y => x + y) c = (sumsN b c).map fun z => x + z
  | [] => rfl
  | y :: b => by
    rw [List.map_cons, sums_cons, sums_cons, List.map_append, sums_map x c b, List.map_map]
    congr 1
    exact List.map_congr_left fun z _ => Nat.add_assoc x y z
theorem sums_assoc (b c : List Nat) : ∀ a : List Nat, sumsN (sumsN a b) c = sumsN a (sumsN b c)
  | [] => rfl
  | x :: a => by rw [sums_cons, sums_app, sums_map, sums_cons, sums_assoc b c a]
theorem sums_count {q : Nat → Bool} {y : Nat} {b : List Nat} (hy : y ∈ b) : ∀ {P : List Nat}, (∀ p ∈ P, q (p + y) = true) → P.length ≤ (sumsN P b).countP q
  | [], _ => Nat.zero_le _
  | p :: P, h => by
    have ih := sums_count hy (P := P) fun p' hp' => h p' (List.mem_cons_of_mem _ hp')
    rw [sums_cons, List.countP_append, List.length_cons]
    have : 0 < (b.map fun y => p + y).countP q := List.countP_pos_iff.mpr ⟨p + y, List.mem_map.mpr ⟨y, hy, rfl⟩, h p (List.mem_cons_self ..)⟩
    omega
theorem topN_sums (k : Nat) (a b : List Nat) : topN k (sumsN (topN k a) b) = topN k (sumsN a b) := by
  obtain ⟨R, hp, hr⟩ := topN_split k a
  have p2 : (sumsN a b).Perm (sumsN (topN k a) b ++ sumsN R b) := by
    rw [← sums_app]
    exact sums_perm b hp
  rw [topN_congr p2]
  refine (topN_drop fun z hz => ?_).symm
  obtain ⟨r, hrR, hz2⟩ := List.mem_flatMap.mp hz
  obtain ⟨y, hy, rfl⟩ := List.mem_map.mp hz2
  obtain ⟨h1, h2⟩ := hr r hrR
  have := sums_count (q := fun s => decide (s ≤ r + y)) hy (P := topN k a) fun p hp => by
    have := h2 p hp
    simp
    omega
  omega
theorem topN_sums_r (k : Nat) (a b : List Nat) : topN k (sumsN a (topN k b)) = topN k (sumsN a b) := by
  rw [topN_congr (sums_comm a _), topN_sums, topN_congr (sums_comm b a)]
/-! ### the semiring -/
def plN (k : Nat) (a b : List Nat) : List Nat := topN k (a ++ b)
def tmN (k : Nat) (a b : List Nat) : List Nat := topN k (sumsN a b)
theorem tm_pl (k : Nat) (a b c : List Nat) : tmN k a (plN k b c) = plN k (tmN k a b) (tmN k a c) := by
  unfold tmN plN
  rw [topN_sums_r, topN_app, topN_app_r]
  exact topN_congr (sums_app_r a b c)
theorem tm_tm (k : Nat) (a b c : List Nat) : tmN k a (tmN k b c) = tmN k (tmN k a b) c := by
  unfold tmN
  rw [topN_sums_r, topN_sums, sums_assoc]
theorem pl_pl (k : Nat) (a b c : List Nat) : plN k a (plN k b c) = plN k (plN k a b) c := by
  unfold plN
  rw [topN_app_r, topN_app, List.append_assoc]
structure ElN (k : Nat) (a : List Nat) : Prop where
  up : a.Pairwise (· ≤ ·)
  len : a.length ≤ k
theorem el_top (k : Nat) (ns : List Nat) : ElN k (topN k ns) := ⟨topN_rises _ _, topN_len _ _⟩
theorem tm_one {k : Nat} {a : List Nat} (h : ElN k a) : tmN k a [0] = a := by
  unfold tmN
  have e : sumsN [0] a = a := by
    rw [sums_cons, sums_nil, List.append_nil]
    exact (List.map_congr_left fun y _ => Nat.zero_add y).trans (List.map_id _)
  have p := sums_comm a [0]
  rw [e] at p
  rw [topN_congr p]
  exact topN_self h.up h.len
theorem tm_zero (k : Nat) (a : List Nat) : tmN k a [] = [] := by
  unfold tmN
  rw [sums_nil_r]
  exact topN_self .nil (Nat.zero_le _)
theorem pl_zero {k : Nat} {a : List Nat} (h : ElN k a) : plN k a [] = a := by
  unfold plN
  rw [List.append_nil]
  exact topN_self h.up h.len
/-! ### the star -/
def stepN (k : Nat) (a t : List Nat) : List Nat := plN k [0] (tmN k a t)
def iterN (k : Nat) (a : List Nat) : Nat → List Nat
  | 0 => [0]
  | i + 1 => stepN k a (iterN k a i)
def starN (k : Nat) (a : List Nat) : List Nat := if 0 ∈ a then List.replicate k 0 else iterN k a k
theorem step_eq (k : Nat) (a t : List Nat) : stepN k a t = topN k (0 :: sumsN a t) := topN_app_r k [0] _
theorem sort_zero (ns : List Nat) : sortN (0 :: ns) = 0 :: sortN ns :=
  (sortN_eq (List.Perm.cons 0 (sortN_perm ns)) (List.pairwise_cons.mpr ⟨fun _ _ => Nat.zero_le _, sortN_rises ns⟩)).symm
theorem step_take {k m : Nat} {a u v : List Nat} (hu : u.Pairwise (· ≤ ·)) (hv : v.Pairwise (· ≤ ·)) (h : u.take m = v.take m) : (stepN k a u).take (m + 1) = (stepN k a v).take (m + 1) := by
  have key : ∀ w : List Nat, w.Pairwise (· ≤ ·) → (stepN k a w).take (m + 1) = (0 :: topN m (sumsN a (w.take m))).take k := fun w hw => by
    rw [step_eq]
    show ((sortN (0 :: sumsN a w)).take k).take (m + 1) = _
    rw [sort_zero, List.take_take, Nat.min_comm, ← List.take_take, List.take_succ_cons]
    have : (sortN (sumsN a w)).take m = topN m (sumsN a (w.take m)) := by
      show topN m (sumsN a w) = _
      rw [← topN_sums_r m a w, show topN m w = w.take m by unfold topN; rw [sortN_self hw]]
    rw [this]
  rw [key u hu, key v hv, h]
theorem iter_el {k : Nat} (hk : 1 ≤ k) (a : List Nat) : ∀ i, ElN k (iterN k a i)
  | 0 => ⟨List.pairwise_singleton _ _, hk⟩
  | _ + 1 => el_top _ _
theorem iter_take {k : Nat} (hk : 1 ≤ k) (a : List Nat) : ∀ i, (iterN k a i).take (i + 1) = (iterN k a (i + 1)).take (i + 1)
  | 0 => by
    show _ = (stepN k a [0]).take 1
    rw [step_eq]
    show _ = ((sortN (0 :: sumsN a [0])).take k).take 1
    rw [sort_zero, List.take_take, show min 1 k = 1 by omega]
    rfl
  | i + 1 => step_take (iter_el hk a i).up (iter_el hk a (i + 1)).up (iter_take hk a i)
theorem iter_fix {k : Nat} (hk : 1 ≤ k) (a : List Nat) : stepN k a (iterN k a k) = iterN k a k := by
  have h := iter_take hk a k
  rw [List.take_of_length_le (by have := (iter_el hk a k).len; omega), List.take_of_length_le (by have := (iter_el hk a (k + 1)).len; omega)] at h
  exact h.symm
theorem zeros_fix {k : Nat} {a : List Nat} (h0 : 0 ∈ a) : stepN k a (List.replicate k 0) = List.replicate k 0 := by
  rw [step_eq]
  obtain ⟨s, t, rfl⟩ := List.append_of_mem h0
  have p : (0 :: sumsN (s ++ 0 :: t) (List.replicate k 0)).Perm (List.replicate k 0 ++ (0 :: sumsN (s ++ t) (List.replicate k 0))) := by
    have p1 : (s ++ 0 :: t).Perm (0 :: (s ++ t)) := List.perm_middle
    have p2 := sums_perm (List.replicate k 0) p1
    rw [sums_cons, show ((List.replicate k 0).map fun y => 0 + y) = List.replicate k 0 by rw [List.map_replicate]] at p2
    exact (List.Perm.cons 0 p2).trans List.perm_middle.symm
  rw [topN_congr p, topN_drop fun z _ => by rw [List.countP_eq_length.mpr fun y hy => by rw [List.eq_of_mem_replicate hy]; simp]; rw [List.length_replicate]; exact Nat.le_refl _]
  exact topN_self (List.pairwise_replicate.mpr (.inr (Nat.le_refl _))) (by rw [List.length_replicate]; exact Nat.le_refl _)
theorem star_fix {k : Nat} (hk : 1 ≤ k) (a : List Nat) : plN k [0] (tmN k a (starN k a)) = starN k a := by
  unfold starN
  split
  · rename_i h; exact zeros_fix h
  · exact iter_fix hk a
theorem star_el {k : Nat} (hk : 1 ≤ k) (a : List Nat) : ElN k (starN k a) := by
  unfold starN
  split
  · exact ⟨List.pairwise_replicate.mpr (.inr (Nat.le_refl _)), by rw [List.length_replicate]; exact Nat.le_refl _⟩
  · exact iter_el hk a k
end KM

set_option Elab.async false
set_option linter.all false
set_option maxRecDepth 100000
set_option maxHeartbeats 4000000
/-! tuple * n from 1 on; == and != of lists, tuples of whole numbers; walks that do anything. -/
namespace KM
open PySem PySem.W L2 Ew
section
variable {X : Cx}
def rRepA (K : PySem.W.Frag) : R2 := fun x y H Q => ∃ l k xs, x = .ref l ∧ y = .int k ∧ SqT K H l xs ∧ xs ≠ [] ∧ 1 ≤ k ∧ k ≤ 1000 ∧ xs.length ≤ 1000 ∧ (k = 1 → Q (.ref l) H) ∧ (2 ≤ k → ∀ p, H p = none → Q (.ref p) (upd H p (.tup (List.replicate k.toNat xs).flatten)))
theorem op_repA : OpR X (binaryOp .Mult) (rRepA X.K) := by
  intro pins s σ H x y v u Q I rx ry h
  obtain ⟨l, k, xs, rfl, rfl, hT, hne, h1, h2, hz, q1, q2⟩ := h
  by_cases c : k = 1
  · subst c
    exact op_repT1 pins s σ H _ _ v u Q I rx ry ⟨l, xs, rfl, rfl, hT, q1 rfl⟩
  · exact op_repT pins s σ H _ _ v u Q I rx ry ⟨l, k, xs, rfl, rfl, hT, hne, by omega, h2, hz, q2 (by omega)⟩
abbrev dN (ns : List Nat) : List PyData := ns.map fun (n : Nat) => .int (n : Int)
theorem dp_nums {K : PySem.W.Frag} {H : Hp} : ∀ ns : List Nat, DpAll K H (nV ns) (dN ns)
  | [] => .nil
  | n :: ns => .cons (.int _) (dp_nums ns)
theorem eqv_nums : ∀ ns ms : List Nat, PyData.eqvAll (dN ns) (dN ms) = decide (ns = ms)
  | [], [] => rfl
  | [], _ :: _ => rfl
  | _ :: _, [] => rfl
  | n :: ns, m :: ms => by
    show (((n : Int) == (m : Int)) && PyData.eqvAll (dN ns) (dN ms)) = _
    rw [eqv_nums ns ms]
    by_cases a : n = m
    · subst a
      by_cases b : ns = ms
      · subst b; simp
      · simp [b]
    · have : ((n : Int) == (m : Int)) = false := beq_eq_false_iff_ne.mpr (by omega)
      rw [this]
      simp [a]
theorem lay_nums : ∀ ns : List Nat, PyData.canLayAll0 (dN ns) = true
  | [] => rfl
  | n :: ns => by
    show (true && PyData.canLayAll0 (dN ns)) = true
    rw [lay_nums ns]; rfl
theorem dep_nums : ∀ ns : List Nat, PyData.depthAll (dN ns) = 0
  | [] => rfl
  | n :: ns => by
    show max 0 (PyData.depthAll (dN ns)) = 0
    rw [dep_nums ns]; rfl
theorem shT (ns : List Nat) : SeqAt.shaped (.tuple (dN ns)) = true := by
  unfold SeqAt.shaped
  rw [show PyData.canLay0 (.tuple (dN ns)) = PyData.canLayAll0 (dN ns) from rfl, lay_nums, show PyData.depth (.tuple (dN ns)) = PyData.depthAll (dN ns) + 1 from rfl, dep_nums]
  rfl
theorem shL (ns : List Nat) : SeqAt.shaped (.list (dN ns)) = true := by
  unfold SeqAt.shaped
  rw [show PyData.canLay0 (.list (dN ns)) = PyData.canLayAll0 (dN ns) from rfl, lay_nums, show PyData.depth (.list (dN ns)) = PyData.depthAll (dN ns) + 1 from rfl, dep_nums]
  rfl
/-- two tuples, or two lists, of whole numbers -/
def rNums (K : PySem.W.Frag) (neg : Bool) : R2 := fun x y H Q => ∃ a b ns ms, x = .ref a ∧ y = .ref b ∧ ((SqT K H a (nV ns) ∧ SqT K H b (nV ms)) ∨ (SqL K H a (nV ns) ∧ SqL K H b (nV ms))) ∧ Q (.bl (if neg then !decide (ns = ms) else decide (ns = ms))) H
theorem op_eqNums (hu : X.A.units + 64 < cLine) : OpR X (compareOp .Eq) (rNums X.K false) := by
  intro pins s σ H x y v u Q I rx ry h
  obtain ⟨a, b, ns, ms, rfl, rfl, ⟨h1, h2⟩ | ⟨h1, h2⟩, q⟩ := h
  · refine op_eqD hu pins s σ H _ _ v u Q I rx ry ⟨.tuple (dN ns), .tuple (dN ms), .tup h1 (dp_nums _), .tup h2 (dp_nums _), shT _, shT _, ?_⟩
    rw [show PyData.eqv (.tuple (dN ns)) (.tuple (dN ms)) = PyData.eqvAll (dN ns) (dN ms) from rfl, eqv_nums]
    exact q
  · refine op_eqD hu pins s σ H _ _ v u Q I rx ry ⟨.list (dN ns), .list (dN ms), .lst h1 (dp_nums _), .lst h2 (dp_nums _), shL _, shL _, ?_⟩
    rw [show PyData.eqv (.list (dN ns)) (.list (dN ms)) = PyData.eqvAll (dN ns) (dN ms) from rfl, eqv_nums]
    exact q
theorem op_neNums (hu : X.A.units + 64 < cLine) : OpR X (compareOp .NotEq) (rNums X.K true) := by
  intro pins s σ H x y v u Q I rx ry h
  obtain ⟨a, b, ns, ms, rfl, rfl, ⟨h1, h2⟩ | ⟨h1, h2⟩, q⟩ := h
  · refine op_neD hu pins s σ H _ _ v u Q I rx ry ⟨.tuple (dN ns), .tuple (dN ms), .tup h1 (dp_nums _), .tup h2 (dp_nums _), shT _, shT _, ?_⟩
    rw [show PyData.eqv (.tuple (dN ns)) (.tuple (dN ms)) = PyData.eqvAll (dN ns) (dN ms) from rfl, eqv_nums]
    exact q
  · refine op_neD hu pins s σ H _ _ v u Q I rx ry ⟨.list (dN ns), .list (dN ms), .lst h1 (dp_nums _), .lst h2 (dp_nums _), shL _, shL _, ?_⟩
    rw [show PyData.eqv (.list (dN ns)) (.list (dN ms)) = PyData.eqvAll (dN ns) (dN ms) from rfl, eqv_nums]
    exact q
end
/-- a walk through a tuple, whatever a turn does -/
theorem wk_tup {K : PySem.W.Frag} {a : Addr} {xs : List V} {Qd : Hp → Prop} {H0 : Hp} {B : V → Hp → (Hp → Prop) → Prop} (Pv : Nat → Hp → Prop) (h0 : Pv 0 H0) (hl : ∀ i H, i ≤ xs.length → Pv i H → SqT K H a xs) (hs : ∀ i x H, xs[i]? = some x → Pv i H → B x H (Pv (i + 1))) (hd : ∀ H, Pv xs.length H → Qd H) :
    ∃ W : Nat → Nat → Hp → Prop, (∃ m, W 0 m H0) ∧ ∀ i m H, W i m H → ((Itt K a).stop i H ∧ Qd H) ∨ ((Itt K a).go i H ∧ ∃ Nx : Hp → Prop, (∀ H', Nx H' → ∃ m', m' < m ∧ W (i + 1) m' H') ∧ ∀ x H', (Itt K a).yld i H x H' → B x H' Nx) := by
  refine ⟨fun i m H => m = xs.length - i ∧ i ≤ xs.length ∧ Pv i H, ⟨xs.length, by simp, Nat.zero_le _, h0⟩, ?_⟩
  rintro i m H ⟨rfl, hi, p⟩
  have q := hl i H hi p
  by_cases c : i < xs.length
  · refine .inr ⟨⟨xs, xs[i], q, by simp [c]⟩, Pv (i + 1), fun H' p' => ⟨xs.length - (i + 1), by omega, rfl, c, p'⟩, fun x H' y => ?_⟩
    obtain ⟨rfl, y⟩ := y
    exact hs i x _ (y xs q) p
  · obtain rfl : i = xs.length := by omega
    exact .inl ⟨⟨xs, q, Nat.le_refl _⟩, hd H p⟩
theorem nV_flat : ∀ ps : List Nat, (nV ps).all flatV = true
  | [] => rfl
  | p :: ps => nV_flat ps
theorem inV_nV (m : Nat) : ∀ ps : List Nat, inV (.int (m : Int)) (nV ps) = decide (m ∈ ps)
  | [] => rfl
  | p :: ps => by
    have ih := inV_nV m ps
    have e : inV (.int (m : Int)) (nV (p :: ps)) = (eqV (.int (p : Int)) (.int (m : Int)) || inV (.int (m : Int)) (nV ps)) := rfl
    rw [e, ih]
    by_cases c : p = m
    · subst c; simp [eqV]
    · have c' : ¬ m = p := fun z => c z.symm
      have e2 : eqV (.int (p : Int)) (.int (m : Int)) = false := by simp [eqV]; omega
      rw [e2]
      simp [c']
theorem nV_app (a b : List Nat) : nV a ++ nV b = nV (a ++ b) := List.map_append.symm
theorem nV_len (a : List Nat) : (nV a).length = a.length := List.length_map _
theorem nV_at {a : List Nat} {i : Nat} {x : V} (h : (nV a)[i]? = some x) : ∃ n : Nat, a[i]? = some n ∧ x = .int (n : Int) := by
  rw [List.getElem?_map] at h
  obtain ⟨n, h1, h2⟩ := Option.map_eq_some_iff.mp h
  exact ⟨n, h1, h2.symm⟩
theorem cut_to (ns : List Nat) (k : Nat) : cutV (nV ns) none (some (k : Int)) = nV (ns.take k) := by
  unfold cutV
  rw [HT.sIx_none, HT.sIx_nat, List.drop_zero, Nat.sub_zero, nV_len, ← List.map_take]
  rcases Nat.le_total k ns.length with h | h
  · rw [Nat.min_eq_left h]
  · rw [Nat.min_eq_right h, List.take_length, List.take_of_length_le h]
end KM

set_option Elab.async false
set_option linter.all false
set_option maxRecDepth 100000
set_option maxHeartbeats 4000000
/-! k in d, k not in d of a dict with int and text keys -/
namespace L2
open PySem PySem.Spec PyProof.Rows
section
variable {X : Cx}
def rNotD : R2 := fun y x H Q => ∃ a o, x = .ref a ∧ DGet H a y o ∧ Q (.bl (!o.isSome)) H
theorem op_notD (hu : X.A.units + 1 < cLine) : OpR X (compareOp .NotIn) rNotD := by
  intro pins s σ H y x u v Q I ry rx h
  obtain ⟨a, o, rfl, g, q⟩ := h
  cases rx
  exact d_notIn hu I g ry fun s3 I3 => ⟨.bl (!o.isSome), H, I3, rfl, q⟩
def rInD : R2 := fun y x H Q => ∃ a o, x = .ref a ∧ DGet H a y o ∧ Q (.bl o.isSome) H
theorem op_inD (hu : X.A.units + 1 < cLine) : OpR X (compareOp .In) rInD := by
  intro pins s σ H y x u v Q I ry rx h
  obtain ⟨a, o, rfl, g, q⟩ := h
  cases rx
  exact d_in hu I g ry fun s3 I3 => ⟨.bl o.isSome, H, I3, rfl, q⟩
end
end L2

set_option Elab.async false
set_option linter.all false
set_option maxRecDepth 100000
set_option maxHeartbeats 4000000
/-! all / any of a generator expression over a text that may end early -/
namespace Tb
open PySem L2 Ew EwG GxR
theorem gwb_str {x : Str} {k : Nat} {te : TE} {vs : List Nat} {σ : L2.St} {e : Bool} {Q : VK} {H2 : Hp} (b : Nat → Bool) (hw : ∀ x, wipe ((wipe σ vs).set k (some x)) vs = wipe σ vs)
    (hs : ∀ (i : Nat) (c : Nat) (Kt : VK), x.cps[i]? = some c → Kt (.bl (b i)) H2 → te ((wipe σ vs).set k (some (.str ⟨#[c]⟩))) H2 Kt) (hd : (∀ i, i < x.cps.size → b i = e) → Q (.bl e) H2) (hx : ∀ i, i < x.cps.size → b i = (!e) → Q (.bl (!e)) H2) :
    ∃ W : Nat → Nat → Hp → Prop, (∃ m, W 0 m H2) ∧ GW (Its x) (gName k) te vs σ e Q W := by
  refine ⟨fun i m H => m = x.cps.size - i ∧ i ≤ x.cps.size ∧ H = H2 ∧ ∀ j, j < i → b j = e, ⟨x.cps.size, by simp, Nat.zero_le _, rfl, fun j h => absurd h (Nat.not_lt_zero _)⟩, ?_⟩
  rintro i m H ⟨rfl, hi, rfl, ha⟩
  by_cases hlt : i < x.cps.size
  · refine .inr ⟨hlt, fun y H' yl => ?_⟩
    obtain ⟨e1, c, hc, rfl⟩ := yl
    subst e1
    refine ⟨hw _, ?_⟩
    refine hs i c _ hc ⟨b i, rfl, fun z => ⟨x.cps.size - (i + 1), by omega, rfl, hlt, rfl, fun j hj => ?_⟩, fun z => ?_⟩
    · by_cases h : j < i
      · exact ha j h
      · rw [show j = i by omega]; exact z
    · have z' := ne_not z
      rw [z']
      exact hx i hlt z'
  · have e1 : i = x.cps.size := by omega
    subst e1
    exact .inl ⟨Nat.le_refl _, hd ha⟩
end Tb

set_option Elab.async false
set_option linter.all false
set_option maxRecDepth 100000
set_option maxHeartbeats 4000000
namespace K01
open PySem L2 Ew Tb GxR ND PK
def topS (i : Nat) : Stmt := PySem.Challenge.pw_everyworth_k01_facts.main.body.getD i (.Pass ⟨0, 0, 0, 0⟩)
abbrev s_is_integer : Stmt := (topS 8)
theorem sc_is_integer : FnScope ["thing"] ["thing"] (defScope s_is_integer) := ⟨rfl, rfl, rfl, by decide +kernel, rfl, by decide +kernel, by decide +kernel⟩
abbrev s_is_between : Stmt := (topS 9)
theorem sc_is_between : FnScope ["thing", "low", "high"] ["thing", "low", "high"] (defScope s_is_between) := ⟨rfl, rfl, rfl, by decide +kernel, rfl, by decide +kernel, by decide +kernel⟩
abbrev s_is_name : Stmt := (topS 12)
theorem sc_is_name : FnScope ["thing", "letter"] ["thing"] (defScope s_is_name) := ⟨rfl, rfl, rfl, by decide +kernel, rfl, by decide +kernel, by decide +kernel⟩
abbrev s_Facts_init : Stmt := (inClass (topS 15) 0)
theorem sc_Facts_init : FnScope ["self", "tables", "table"] ["self", "tables"] (defScope s_Facts_init) := ⟨rfl, rfl, rfl, by decide +kernel, rfl, by decide +kernel, by decide +kernel⟩
abbrev s_Facts_tables : Stmt := (inClass (topS 15) 1)
theorem sc_Facts_tables : FnScope ["self"] ["self"] (defScope s_Facts_tables) := ⟨rfl, rfl, rfl, by decide +kernel, rfl, by decide +kernel, by decide +kernel⟩
abbrev s_Facts_arity : Stmt := (inClass (topS 15) 2)
theorem sc_Facts_arity : FnScope ["self", "table"] ["self", "table"] (defScope s_Facts_arity) := ⟨rfl, rfl, rfl, by decide +kernel, rfl, by decide +kernel, by decide +kernel⟩
abbrev s_Facts_add : Stmt := (inClass (topS 15) 3)
theorem sc_Facts_add : FnScope ["self", "table", "row", "arity", "number"] ["self", "table", "row"] (defScope s_Facts_add) := ⟨rfl, rfl, rfl, by decide +kernel, rfl, by decide +kernel, by decide +kernel⟩
abbrev s_Facts_give_up : Stmt := (inClass (topS 15) 4)
theorem sc_Facts_give_up : FnScope ["self", "number"] ["self", "number"] (defScope s_Facts_give_up) := ⟨rfl, rfl, rfl, by decide +kernel, rfl, by decide +kernel, by decide +kernel⟩
abbrev s_Facts_bring_back : Stmt := (inClass (topS 15) 5)
theorem sc_Facts_bring_back : FnScope ["self", "number"] ["self", "number"] (defScope s_Facts_bring_back) := ⟨rfl, rfl, rfl, by decide +kernel, rfl, by decide +kernel, by decide +kernel⟩
abbrev s_Facts_fact : Stmt := (inClass (topS 15) 6)
theorem sc_Facts_fact : FnScope ["self", "number"] ["self", "number"] (defScope s_Facts_fact) := ⟨rfl, rfl, rfl, by decide +kernel, rfl, by decide +kernel, by decide +kernel⟩
abbrev s_Facts_is_there : Stmt := (inClass (topS 15) 7)
theorem sc_Facts_is_there : FnScope ["self", "number"] ["self", "number"] (defScope s_Facts_is_there) := ⟨rfl, rfl, rfl, by decide +kernel, rfl, by decide +kernel, by decide +kernel⟩
abbrev s_Facts_find : Stmt := (inClass (topS 15) 8)
theorem sc_Facts_find : FnScope ["self", "table", "row"] ["self", "table", "row"] (defScope s_Facts_find) := ⟨rfl, rfl, rfl, by decide +kernel, rfl, by decide +kernel, by decide +kernel⟩
abbrev s_Facts_rows : Stmt := (inClass (topS 15) 9)
theorem sc_Facts_rows : FnScope ["self", "table", "numbers", "number"] ["self", "table"] (defScope s_Facts_rows) := ⟨rfl, rfl, rfl, by decide +kernel, rfl, by decide +kernel, by decide +kernel⟩
abbrev s_Facts_count : Stmt := (inClass (topS 15) 10)
theorem sc_Facts_count : FnScope ["self"] ["self"] (defScope s_Facts_count) := ⟨rfl, rfl, rfl, by decide +kernel, rfl, by decide +kernel, by decide +kernel⟩
abbrev s_Facts_copy : Stmt := (inClass (topS 15) 11)
theorem sc_Facts_copy : FnScope ["self", "twin", "table", "row", "number"] ["self"] (defScope s_Facts_copy) := ⟨rfl, rfl, rfl, by decide +kernel, rfl, by decide +kernel, by decide +kernel⟩
abbrev s_Facts_need_table : Stmt := (inClass (topS 15) 12)
theorem sc_Facts_need_table : FnScope ["self", "table"] ["self", "table"] (defScope s_Facts_need_table) := ⟨rfl, rfl, rfl, by decide +kernel, rfl, by decide +kernel, by decide +kernel⟩
abbrev s_Facts_need_fact : Stmt := (inClass (topS 15) 13)
theorem sc_Facts_need_fact : FnScope ["self", "number"] ["self", "number"] (defScope s_Facts_need_fact) := ⟨rfl, rfl, rfl, by decide +kernel, rfl, by decide +kernel, by decide +kernel⟩
abbrev s_checked : Stmt := (topS 16)
theorem sc_checked : FnScope ["tables", "arities", "name", "arity"] ["tables"] (defScope s_checked) := ⟨rfl, rfl, rfl, by decide +kernel, rfl, by decide +kernel, by decide +kernel⟩
abbrev s_law_pot : Stmt := (topS 18)
theorem sc_law_pot : FnScope ["script", "seed", "cell"] ["script"] (defScope s_law_pot) := ⟨rfl, rfl, rfl, by decide +kernel, rfl, by decide +kernel, by decide +kernel⟩
abbrev s_law_next : Stmt := (topS 19)
theorem sc_law_next : FnScope ["pot", "limit", "cell", "found", "mixed"] ["pot", "limit"] (defScope s_law_next) := ⟨rfl, rfl, rfl, by decide +kernel, rfl, by decide +kernel, by decide +kernel⟩
abbrev s_law_is_int : Stmt := (topS 20)
theorem sc_law_is_int : FnScope ["value"] ["value"] (defScope s_law_is_int) := ⟨rfl, rfl, rfl, by decide +kernel, rfl, by decide +kernel, by decide +kernel⟩
abbrev s_law_same : Stmt := (topS 21)
theorem sc_law_same : FnScope ["found", "value", "k"] ["found", "value"] (defScope s_law_same) := ⟨rfl, rfl, rfl, by decide +kernel, rfl, by decide +kernel, by decide +kernel⟩
abbrev s_law_do : Stmt := (topS 22)
theorem sc_law_do : FnScope ["facts", "kind", "table", "row", "number", "e", "pair"] ["facts", "kind", "table", "row", "number"] (defScope s_law_do) := ⟨rfl, rfl, rfl, by decide +kernel, rfl, by decide +kernel, by decide +kernel⟩
abbrev s_law_due : Stmt := (topS 23)
theorem sc_law_due : FnScope ["tables", "rows", "kind", "table", "row", "number", "places", "k"] ["tables", "rows", "kind", "table", "row", "number"] (defScope s_law_due) := ⟨rfl, rfl, rfl, by decide +kernel, rfl, by decide +kernel, by decide +kernel⟩
abbrev s_law_right : Stmt := (topS 24)
theorem sc_law_right : FnScope ["facts", "tables", "rows", "pair", "due", "k"] ["facts", "tables", "rows"] (defScope s_law_right) := ⟨rfl, rfl, rfl, by decide +kernel, rfl, by decide +kernel, by decide +kernel⟩
abbrev s_law : Stmt := (topS 25)
theorem sc_law : FnScope ["script", "pot", "tables", "facts", "rows", "kept", "k", "kind", "table", "width", "row", "number", "found", "pair", "bad", "j"] ["script"] (defScope s_law) := ⟨rfl, rfl, rfl, by decide +kernel, rfl, by decide +kernel, by decide +kernel⟩
local macro_rules | `(tactic| walk_at "len") => `(tactic| first | (intro h; obtain ⟨_, e, _⟩ := h; rw [e]; rfl) | (intro h; obtain ⟨_, _, e, _⟩ := h; rw [e]; rfl) | (intro h; obtain ⟨_, _, _, e, _⟩ := h; rw [e]; rfl) | (intro h; obtain ⟨_, _, _, _, e, _⟩ := h; rw [e]; rfl) | (intro h; obtain ⟨_, _, _, _, _, e, _⟩ := h; rw [e]; rfl) | (intro h; obtain ⟨_, _, _, _, _, _, e, _⟩ := h; rw [e]; rfl) | (intro h; obtain ⟨_, _, _, _, _, _, _, e, _⟩ := h; rw [e]; rfl) | (intro h; exact h.elim))
structure Ad where
  WorthError : Addr
  InvalidArgument : Addr
  UnknownTable : Addr
  UnknownFact : Addr
  DuplicateFact : Addr
  WrongState : Addr
  Facts : Addr
inductive Err | arg | tab | fact | dup | state
  deriving DecidableEq
def Ad.err (ad : Ad) : Err → Addr
  | .arg => ad.InvalidArgument
  | .tab => ad.UnknownTable
  | .fact => ad.UnknownFact
  | .dup => ad.DuplicateFact
  | .state => ad.WrongState
def Err.word : Err → Str
  | .arg => "argument!"
  | .tab => "table!"
  | .fact => "fact!"
  | .dup => "double!"
  | .state => "state!"
structure Txt (K : PySem.W.Frag) (mg : Str → Option Value) (ad : Ad) : Prop where
  z_isinstance : mg "isinstance" = none
  z_int : mg "int" = none
  z_bool : mg "bool" = none
  z_str : mg "str" = none
  z_list : mg "list" = none
  z_tuple : mg "tuple" = none
  z_abs : mg "abs" = none
  z_len : mg "len" = none
  z_range : mg "range" = none
  z_all : mg "all" = none
  z_dict : mg "dict" = none
  z_min : mg "min" = none
  g_LONGEST_NAME : ∃ t, mg "LONGEST_NAME" = some (.int 12 t)
  g_LARGEST_ARITY : ∃ t, mg "LARGEST_ARITY" = some (.int 4 t)
  g_WorthError : mg "WorthError" = some (.ref ad.WorthError)
  g_Facts : mg "Facts" = some (.ref ad.Facts)
  g_InvalidArgument : mg "InvalidArgument" = some (.ref ad.InvalidArgument)
  x_InvalidArgument : PySem.W.excIn K ad.InvalidArgument [.type "ValueError", .type "Exception", .type "BaseException", .type "object"] "ValueError.__new__" = true
  k_InvalidArgument : PySem.W.keepIn K (.ref ad.InvalidArgument) = true
  b_InvalidArgument : PySem.W.subIn K (.ref ad.InvalidArgument) (.type "BaseException") = some true
  t_InvalidArgument : PySem.W.typeIn K (.ref ad.InvalidArgument) = some (.type "type")
  g_UnknownTable : mg "UnknownTable" = some (.ref ad.UnknownTable)
  x_UnknownTable : PySem.W.excIn K ad.UnknownTable [.type "ValueError", .type "Exception", .type "BaseException", .type "object"] "ValueError.__new__" = true
  k_UnknownTable : PySem.W.keepIn K (.ref ad.UnknownTable) = true
  b_UnknownTable : PySem.W.subIn K (.ref ad.UnknownTable) (.type "BaseException") = some true
  t_UnknownTable : PySem.W.typeIn K (.ref ad.UnknownTable) = some (.type "type")
  g_UnknownFact : mg "UnknownFact" = some (.ref ad.UnknownFact)
  x_UnknownFact : PySem.W.excIn K ad.UnknownFact [.type "ValueError", .type "Exception", .type "BaseException", .type "object"] "ValueError.__new__" = true
  k_UnknownFact : PySem.W.keepIn K (.ref ad.UnknownFact) = true
  b_UnknownFact : PySem.W.subIn K (.ref ad.UnknownFact) (.type "BaseException") = some true
  t_UnknownFact : PySem.W.typeIn K (.ref ad.UnknownFact) = some (.type "type")
  g_DuplicateFact : mg "DuplicateFact" = some (.ref ad.DuplicateFact)
  x_DuplicateFact : PySem.W.excIn K ad.DuplicateFact [.type "ValueError", .type "Exception", .type "BaseException", .type "object"] "ValueError.__new__" = true
  k_DuplicateFact : PySem.W.keepIn K (.ref ad.DuplicateFact) = true
  b_DuplicateFact : PySem.W.subIn K (.ref ad.DuplicateFact) (.type "BaseException") = some true
  t_DuplicateFact : PySem.W.typeIn K (.ref ad.DuplicateFact) = some (.type "type")
  g_WrongState : mg "WrongState" = some (.ref ad.WrongState)
  x_WrongState : PySem.W.excIn K ad.WrongState [.type "ValueError", .type "Exception", .type "BaseException", .type "object"] "ValueError.__new__" = true
  k_WrongState : PySem.W.keepIn K (.ref ad.WrongState) = true
  b_WrongState : PySem.W.subIn K (.ref ad.WrongState) (.type "BaseException") = some true
  t_WrongState : PySem.W.typeIn K (.ref ad.WrongState) = some (.type "type")
  ec : ∀ e, ExcC K (ad.err e)
  em : ∀ e, PySem.W.exmOne K (.ref (ad.err e)) (.ref ad.WorthError) = some true
  ki : ∀ e e', PySem.W.kitOne K (.ref (ad.err e)) (.ref (ad.err e')) = some (decide (e = e'))
  c_Facts : Cls K ad.Facts
  n_arities : NoAttr K ad.Facts "_arities"
  n_pairs : NoAttr K ad.Facts "_pairs"
  n_states : NoAttr K ad.Facts "_states"
  n_numbers : NoAttr K ad.Facts "_numbers"
  n_in_table : NoAttr K ad.Facts "_in_table"
/-! ### the law's own draws -/
/-- all but what stands at a is as it was -/
def Fr1 (a : Addr) (H H' : Hp) : Prop := ∀ b o, b ≠ a → H b = some o → H' b = some o
theorem Fr1.refl (a : Addr) (H : Hp) : Fr1 a H H := fun _ _ _ h => h
theorem Fr1.trans {a : Addr} {H H1 H2 : Hp} (x : Fr1 a H H1) (y : Fr1 a H1 H2) : Fr1 a H H2 := fun b o n h => y b o n (x b o n h)
theorem Fr1.upd {a : Addr} {H H1 : Hp} {o : HO} (x : Fr1 a H H1) : Fr1 a H (upd H1 a o) := fun b u n h => by rw [upd_ne n]; exact x b u n h
theorem Fr1.of {a : Addr} {H H1 : Hp} (x : Same H H1) : Fr1 a H H1 := fun b o _ h => x b o h
theorem Fr1.new {a p : Addr} {H H1 : Hp} {o : HO} (x : Fr1 a H H1) (h : H p = none) : Fr1 a H (L2.upd H1 p o) := fun b u n e => by rw [upd_ne (ne_of_none e h)]; exact x b u n e
theorem same_new {p : Addr} {H H1 : Hp} {o : HO} (x : Same H H1) (h : H p = none) : Same H (L2.upd H1 p o) := fun b u e => by rw [upd_ne (ne_of_none e h)]; exact x b u e
/-- the pot: what is drawn from -/
def PotAt (H : Hp) (a : Addr) : Prop := ∃ (b : Addr) (ns : List Int) (i c sd : Int), H a = some (.lst [.ref b, .int i, .int c, .int sd]) ∧ H b = some (.lst (ns.map V.int)) ∧ b ≠ a ∧ 0 ≤ i ∧ 0 ≤ c ∧ 0 ≤ sd
theorem PotAt.same {H H' : Hp} {a : Addr} (p : PotAt H a) (s : Same H H') : PotAt H' a := by
  obtain ⟨b, ns, i, c, sd, h1, h2, h3, h4⟩ := p
  exact ⟨b, ns, i, c, sd, s _ _ h1, s _ _ h2, h3, h4⟩
/-- the same, its list at b -/
def PotB (H : Hp) (a b : Addr) : Prop := ∃ (ns : List Int) (i c sd : Int), H a = some (.lst [.ref b, .int i, .int c, .int sd]) ∧ H b = some (.lst (ns.map V.int)) ∧ b ≠ a ∧ 0 ≤ i ∧ 0 ≤ c ∧ 0 ≤ sd
theorem PotB.at_ {H : Hp} {a b : Addr} (p : PotB H a b) : PotAt H a := let ⟨ns, i, c, sd, h⟩ := p; ⟨b, ns, i, c, sd, h⟩
theorem PotAt.b_ {H : Hp} {a : Addr} (p : PotAt H a) : ∃ b, PotB H a b := let ⟨b, ns, i, c, sd, h⟩ := p; ⟨b, ns, i, c, sd, h⟩
theorem PotB.same {H H' : Hp} {a b : Addr} (p : PotB H a b) (s : Same H H') : PotB H' a b := by
  obtain ⟨ns, i, c, sd, h1, h2, h3⟩ := p
  exact ⟨ns, i, c, sd, s _ _ h1, s _ _ h2, h3⟩
theorem PotB.but {H H' : Hp} {a b : Addr} (p : PotB H a b) (h1 : H' a = H a) (h2 : H' b = H b) : PotB H' a b := by
  obtain ⟨ns, i, c, sd, e1, e2, h3⟩ := p
  exact ⟨ns, i, c, sd, h1.trans e1, h2.trans e2, h3⟩
theorem PotAt.some {H : Hp} {a : Addr} (p : PotAt H a) : ∃ o, H a = some o := by
  obtain ⟨b, ns, i, c, sd, h1, _⟩ := p
  exact ⟨_, h1⟩
def spPot (K : PySem.W.Frag) : Sp := fun vs H Q _ => ∃ (a : Addr) (ns : List Int), vs = [.ref a] ∧ SqL K H a (ns.map V.int) ∧ ns.length ≤ 63 ∧ ∀ H' p, Same H H' → H p = none → PotAt H' p → Q (.ref p) H'
def spNext : Sp := fun vs H Q _ => ∃ a lim, vs = [.ref a, .int lim] ∧ PotAt H a ∧ 0 < lim ∧ lim.natAbs < 2 ^ 250 ∧ ∀ H' r, Fr1 a H H' → PotAt H' a → 0 ≤ r → r < lim → (∀ b, PotB H a b → PotB H' a b) → Q (.int r) H'
section
variable {P : Program} {w : World} {K : PySem.W.Frag} {mg : Str → Option Value} {base : Heap} {ad : Ad}
theorem ok_law_pot  {f : Addr} {fd : FuncData} (F : Fun K "_law_pot" "_law_pot" s_law_pot f fd) (T : Txt K mg ad) : FnOk P w K mg base (L2.CX P w) 1 f fd ["script"] (spPot K) := by
  refine F.okX sc_law_pot (fun vs H Q E => ?_) (fun cdv A outer s H vs Q E hr h => ?_)
  · walk_at "len"
  ·
    obtain ⟨a, ns, rfl, hS, hl, k⟩ := h
    refine ⟨_, (pss_cons (ps_set (i := 1) sc_law_pot.nd rfl (by first | exact Or.inl rfl | exact Or.inr rfl) pe_int)
      (pss_cons (ps_for (passes_of rfl) rfl (pi_list (pv 0)) (pg_name (i := 2) sc_law_pot.nd rfl (by first | exact Or.inl rfl | exact Or.inr rfl)) (pss_one (ps_set (i := 1) sc_law_pot.nd rfl (by first | exact Or.inl rfl | exact Or.inr rfl) (pe_op op_mod (pe_callTy call_int1 (by rfl) T.z_int (by decide +kernel) (pa_cons (pe_op op_add (pe_op op_mul (pv 1) pe_int) (pv 2)) pa_nil)) pe_int))))
      (pss_one (ps_ret (pe_lst (pa_cons (pe_callTy call_list_of (by rfl) T.z_list (by decide +kernel) (pa_cons (pv 0) pa_nil)) (pa_cons pe_int (pa_cons pe_int (pa_cons (pv 1) pa_nil))))))))), ?_⟩
    refine ⟨_, rfl, a, rfl, ⟨_, hS⟩, for_list (K := K) (a := a) (xs := ns.map V.int) (fun i σ H2 => ∃ (sd : Int) (v : Option V), σ = [some (.ref a), some (.int sd), v] ∧ 0 ≤ sd ∧ H2 = H)
      ⟨1, none, rfl, by decide, rfl⟩ (fun i σ H2 _ ⟨_, _, _, _, e⟩ => by rw [e]; exact hS) ?_ ?_⟩
    · rintro i y σ H2 hi ⟨sd, v, rfl, hsd, rfl⟩
      obtain ⟨z, rfl⟩ : ∃ z, y = V.int z := by
        rw [List.getElem?_map] at hi
        cases e : ns[i]? with
        | none =>
          rw [e] at hi
          cases hi
        | some z =>
          rw [e] at hi
          exact ⟨z, (Option.some.inj hi).symm⟩
      refine ⟨_, rfl, _, _, rfl, rfl, .inr ⟨by decide, by decide⟩, _, rfl, _, _, rfl, rfl, .inl ⟨_, rfl, _, _, rfl, rfl, (by show (0 : Int) < 2147483647; decide), ?_⟩⟩
      exact ⟨_, _, rfl, Int.emod_nonneg _ (by decide), rfl⟩
    · rintro σ H2 ⟨sd, v, rfl, hsd, rfl⟩
      refine ⟨_, rfl, a, _, rfl, .inl hS, fun l hl1 => ⟨_, rfl, (by show 4 ≤ sizeLine; decide), fun p hp => ?_⟩⟩
      have npl : p ≠ l := by
        intro z
        subst z
        rw [upd_same] at hp
        cases hp
      have hp0 : H2 p = none := by rw [upd_ne npl] at hp; exact hp
      exact k _ p (same_new (same_new (Same.refl _) hl1) hp0) hp0 ⟨l, ns, 0, 0, sd, upd_same, by rw [upd_ne (Ne.symm npl), upd_same], Ne.symm npl, by decide, by decide, hsd⟩
theorem ok_law_next  {f : Addr} {fd : FuncData} (F : Fun K "_law_next" "_law_next" s_law_next f fd) (T : Txt K mg ad) : FnOk P w K mg base (L2.CX P w) 1 f fd ["pot", "limit"] (spNext) := by
  refine F.okX sc_law_next (fun vs H Q E => ?_) (fun cdv A outer s H vs Q E hr h => ?_)
  · walk_at "len"
  ·
    obtain ⟨a, lim, rfl, ⟨b, ns, i, c, sd, h1, h2, h3, h4, h5, h6⟩, hl0, hl1, k⟩ := h
    have k2 : ∀ H' r, Fr1 a H H' → PotB H' a b → 0 ≤ r → r < lim → Q (.int r) H' := fun H' r fr hpb r0 r1 => k H' r fr hpb.at_ r0 r1 fun b' hb' => by
      obtain ⟨ns', i', c', sd', e1, _⟩ := hb'
      rw [h1] at e1
      injection e1 with e1
      injection e1 with e1
      injection e1 with e1 _
      injection e1 with e1
      subst e1
      exact hpb
    have hr1 : ∀ x : Int, 0 ≤ x % lim ∧ x % lim < lim := fun x => ⟨Int.emod_nonneg _ (by omega), Int.emod_lt_of_pos _ hl0⟩
    refine ⟨_, (C8.pss_cut (ps_if (PW.pt (pw_and (pt_cmpR op_eq (pe_ix ix_list (pv 0) pe_int (fun _ _ => rfl)) pe_int (nomark _)) (pw_and1 (pt_cmpR op_lt (pe_ix ix_list (pv 0) pe_int (fun _ _ => rfl)) (pe_callB call_len (by rfl) T.z_len (by decide +kernel) (pa_cons (pe_ix ix_list (pv 0) pe_int (fun _ _ => rfl)) pa_nil)) (nomark _))))) (pss_cons (ps_set (i := 2) sc_law_next.nd rfl (by first | exact Or.inl rfl | exact Or.inr rfl) (pe_callB call_abs (by rfl) T.z_abs (by decide +kernel) (pa_cons (pe_callTy call_int1 (by rfl) T.z_int (by decide +kernel) (pa_cons (pe_ix ix_list (pe_ix ix_list (pv 0) pe_int (fun _ _ => rfl)) (pe_ix ix_list (pv 0) pe_int (fun _ _ => rfl)) (fun _ _ => rfl)) pa_nil)) pa_nil)))
      (pss_cons (ps_asg (pe_op op_add (pe_ix ix_list (pv 0) pe_int (fun _ _ => rfl)) pe_int) (pg_sub (pv 0) pe_int set_list))
      (pss_cons (ps_if (pt_cmpR op_lt (pv 2) (pe_op op_pow pe_int pe_int) (nomark _)) (pss_one (ps_ret (pe_op op_mod (pe_callTy call_int1 (by rfl) T.z_int (by decide +kernel) (pa_cons (pv 2) pa_nil)) (pv 1)))) pss_nil)
      (pss_one (ps_asg (pv 2) (pg_sub (pv 0) pe_int set_list)))))) pss_nil)
      (C8.pss_cut (ps_if (pt_cmpR op_gt (pe_ix ix_list (pv 0) pe_int (fun _ _ => rfl)) pe_int (nomark _)) (pss_cons (ps_set (i := 3) sc_law_next.nd rfl (by first | exact Or.inl rfl | exact Or.inr rfl) (pe_op op_mod (pe_callTy call_int1 (by rfl) T.z_int (by decide +kernel) (pa_cons (pe_ix ix_list (pv 0) pe_int (fun _ _ => rfl)) pa_nil)) (pv 1)))
      (pss_cons (ps_asg (pe_op op_fdivW (pe_ix ix_list (pv 0) pe_int (fun _ _ => rfl)) (pv 1)) (pg_sub (pv 0) pe_int set_list))
      (pss_one (ps_ret (pv 3))))) pss_nil)
      (pss_cons (ps_asg (pe_op op_mod (pe_callTy call_int1 (by rfl) T.z_int (by decide +kernel) (pa_cons (pe_op op_add (pe_op op_mul (pe_ix ix_list (pv 0) pe_int (fun _ _ => rfl)) pe_int) pe_int) pa_nil)) pe_int) (pg_sub (pv 0) pe_int set_list))
      (pss_cons (ps_set (i := 4) sc_law_next.nd rfl (by first | exact Or.inl rfl | exact Or.inr rfl) (pe_op op_mod (pe_callTy call_int1 (by rfl) T.z_int (by decide +kernel) (pa_cons (pe_op op_add (pe_op op_mul (pe_ix ix_list (pv 0) pe_int (fun _ _ => rfl)) pe_int) (pe_op op_fdiv (pe_ix ix_list (pv 0) pe_int (fun _ _ => rfl)) pe_int)) pa_nil)) pe_int))
      (pss_one (ps_ret (pe_op op_mod (pe_callTy call_int1 (by rfl) T.z_int (by decide +kernel) (pa_cons (pv 4) pa_nil)) (pv 1)))))))), ?_⟩
    refine ⟨fun σ H' => ∃ (i' c' : Int) (v : Option V), σ = [some (.ref a), some (.int lim), v, none, none] ∧ H' a = some (.lst [.ref b, .int i', .int c', .int sd]) ∧ Fr1 a H H' ∧ 0 ≤ i' ∧ 0 ≤ c', ?_, ?_⟩
    · -- if pot[2] == 0 and pot[1] < len(pot[0])
      refine ⟨_, rfl, a, _, _, _, rfl, rfl, SqL.of h1, (by rfl), rfl, _, rfl, ?_⟩
      by_cases c0 : ¬ c = 0
      · have e : decide (V.int c = V.int 0) = false := by simp [c0]
        rw [e]
        refine iteF (iteF ?_)
        exact ⟨i, c, none, rfl, h1, Fr1.refl _ _, h4, h5⟩
      · have c0' : c = 0 := by omega
        subst c0'
        refine iteT ?_
        refine ⟨_, rfl, a, _, _, _, rfl, rfl, SqL.of h1, (by rfl), _, rfl, a, _, _, _, rfl, rfl, SqL.of h1, (by rfl), .ref b, ns.length, rfl, Or.inl ⟨_, SqL.of h2, by rw [List.length_map]⟩, _, _, rfl, rfl, _, rfl, ?_⟩
        by_cases c1 : ¬ i < (ns.length : Int)
        · rw [decide_eq_false c1]
          exact iteF ⟨i, 0, none, rfl, h1, Fr1.refl _ _, h4, h5⟩
        · have c1 : i < (ns.length : Int) := by omega
          rw [decide_eq_true c1]
          refine iteT ?_
          -- cell
          obtain ⟨z, hz⟩ : ∃ z, ns[i.toNat]? = some z := ⟨ns[i.toNat]'(by omega), List.getElem?_eq_getElem _⟩
          have hz' : (ns.map V.int)[i.toNat]? = some (.int z) := by rw [List.getElem?_map, hz]; rfl
          refine ⟨_, rfl, a, _, _, _, rfl, rfl, SqL.of h1, (by rfl), _, rfl, a, _, _, _, rfl, rfl, SqL.of h1, (by rfl), b, _, _, _, rfl, rfl, SqL.of h2, at_of (by omega) hz', .inl ⟨_, rfl, _, rfl, ?_⟩⟩
          have hcell : 0 ≤ (if z < 0 then -z else z) := by split <;> omega
          generalize (if z < 0 then -z else z) = cell at hcell ⊢
          -- pot[1] = pot[1] + 1
          refine ⟨_, rfl, a, _, _, _, rfl, rfl, SqL.of h1, (by rfl), _, _, rfl, rfl, _, rfl, a, _, _, 1, rfl, rfl, h1, (by rfl), ?_⟩
          -- if cell < 10 ** 18
          refine ⟨_, rfl, _, _, rfl, rfl, ⟨by decide, by decide, by decide⟩, _, _, rfl, rfl, _, rfl, ?_⟩
          refine ite2 (fun _ => ?_) (fun _ => ?_)
          · refine ⟨_, rfl, .inl ⟨_, rfl, _, rfl, _, _, rfl, rfl, hl0, ?_⟩⟩
            exact k2 _ _ (Fr1.refl _ _).upd ⟨ns, i + 1, 0, sd, upd_same, by rw [upd_ne h3]; exact h2, h3, by omega, by decide, h6⟩ (hr1 _).1 (hr1 _).2
          · refine ⟨_, rfl, _, rfl, a, _, _, 2, rfl, rfl, upd_same, (by rfl), ?_⟩
            exact ⟨i + 1, cell, _, rfl, upd_same, (Fr1.refl _ _).upd.upd, by omega, hcell⟩
    · rintro σ H1 ⟨i', c', v, rfl, g1, fr, hi', hc'⟩
      have g2 : H1 b = some (.lst (ns.map V.int)) := fr b _ h3 h2
      refine ⟨fun σ H' => ∃ (v v' : Option V), σ = [some (.ref a), some (.int lim), v, v', none] ∧ H' = H1, ?_, ?_⟩
      · -- if pot[2] > 0
        refine ⟨_, rfl, a, _, _, _, rfl, rfl, SqL.of g1, (by rfl), _, _, rfl, rfl, _, rfl, ?_⟩
        refine ite2 (fun _ => ?_) (fun _ => ?_)
        · refine ⟨_, rfl, a, _, _, _, rfl, rfl, SqL.of g1, (by rfl), .inl ⟨_, rfl, _, rfl, _, _, rfl, rfl, hl0, ?_⟩⟩
          refine ⟨_, rfl, a, _, _, _, rfl, rfl, SqL.of g1, (by rfl), _, rfl, _, _, rfl, rfl, wide_div hl0 hl1 (by decide) (by decide), _, rfl, a, _, _, 2, rfl, rfl, g1, (by rfl), _, rfl, ?_⟩
          exact k2 _ _ fr.upd ⟨ns, i', c' / lim, sd, upd_same, by rw [upd_ne h3]; exact g2, h3, hi', Int.ediv_nonneg hc' (by omega), h6⟩ (hr1 _).1 (hr1 _).2
        · exact ⟨v, none, rfl, rfl⟩
      · rintro σ H2 ⟨v, v', rfl, rfl⟩
        refine ⟨_, rfl, a, _, _, _, rfl, rfl, SqL.of g1, (by rfl), _, _, rfl, rfl, .inr ⟨by decide, by decide⟩, _, _, rfl, rfl, .inl ⟨_, rfl, _, _, rfl, rfl, (by show (0 : Int) < 2147483647; decide), _, rfl, a, _, _, 3, rfl, rfl, g1, (by rfl), ?_⟩⟩
        refine ⟨_, rfl, a, _, _, _, rfl, rfl, SqL.of upd_same, (by rfl), _, _, rfl, rfl, .inr ⟨by decide, by decide⟩, _, rfl, a, _, _, _, rfl, rfl, SqL.of upd_same, (by rfl), _, _, rfl, rfl, ⟨by decide, by decide⟩, _, _, rfl, rfl, .inl ⟨_, rfl, _, _, rfl, rfl, (by show (0 : Int) < 2147483629; decide), ?_⟩⟩
        refine ⟨_, rfl, .inl ⟨_, rfl, _, rfl, _, _, rfl, rfl, hl0, ?_⟩⟩
        exact k2 _ _ fr.upd ⟨ns, i', c', _, upd_same, by rw [upd_ne h3]; exact g2, h3, hi', hc', Int.emod_nonneg _ (by decide)⟩ (hr1 _).1 (hr1 _).2
end
end K01

set_option Elab.async false
set_option linter.all false
set_option maxRecDepth 100000
set_option maxHeartbeats 4000000
namespace K01
open PySem L2 Ew Tb GxR ND PK
local macro_rules | `(tactic| walk_at "len") => `(tactic| first | (intro h; obtain ⟨_, e, _⟩ := h; rw [e]; rfl) | (intro h; obtain ⟨_, _, e, _⟩ := h; rw [e]; rfl) | (intro h; obtain ⟨_, _, _, e, _⟩ := h; rw [e]; rfl) | (intro h; obtain ⟨_, _, _, _, e, _⟩ := h; rw [e]; rfl) | (intro h; obtain ⟨_, _, _, _, _, e, _⟩ := h; rw [e]; rfl) | (intro h; obtain ⟨_, _, _, _, _, _, e, _⟩ := h; rw [e]; rfl) | (intro h; obtain ⟨_, _, _, _, _, _, _, e, _⟩ := h; rw [e]; rfl) | (intro h; obtain ⟨_, _, _, _, _, _, _, _, e, _⟩ := h; rw [e]; rfl) | (intro h; obtain ⟨_, _, _, _, _, _, _, _, _, e, _⟩ := h; rw [e]; rfl) | (intro h; obtain ⟨_, _, _, _, _, _, _, _, _, _, e, _⟩ := h; rw [e]; rfl) | (intro h; obtain ⟨_, _, _, _, _, _, _, _, _, _, _, e, _⟩ := h; rw [e]; rfl) | (intro h; obtain ⟨_, _, _, _, _, _, _, _, _, _, _, _, e, _⟩ := h; rw [e]; rfl) | (intro h; obtain ⟨_, _, _, _, _, _, _, _, _, _, _, _, _, e, _⟩ := h; rw [e]; rfl))
local macro_rules | `(tactic| walk_at "len") => `(tactic| first | (intro h; obtain ⟨_, _, _, _, _, _, _, _, e, _⟩ := h; rw [e]; rfl) | (intro h; obtain ⟨_, _, _, _, _, _, _, _, _, e, _⟩ := h; rw [e]; rfl) | (intro h; obtain ⟨_, _, _, _, _, _, _, _, _, _, e, _⟩ := h; rw [e]; rfl) | (intro h; obtain ⟨_, _, _, _, _, _, _, _, _, _, _, e, _⟩ := h; rw [e]; rfl) | (intro h; obtain ⟨_, _, _, _, _, _, _, _, _, _, _, _, e, _⟩ := h; rw [e]; rfl) | (intro h; obtain ⟨_, _, _, _, _, _, _, _, _, _, _, _, _, e, _⟩ := h; rw [e]; rfl) | (intro h; obtain ⟨_, _, _, _, _, _, _, _, _, _, _, _, _, _, e, _⟩ := h; rw [e]; rfl) | (intro h; obtain ⟨_, _, _, _, _, _, _, _, _, _, _, _, _, _, _, e, _⟩ := h; rw [e]; rfl) | (intro h; obtain ⟨_, _, _, _, _, _, _, _, _, _, _, _, _, _, _, _, e, _⟩ := h; rw [e]; rfl) | (intro h; obtain ⟨_, _, _, _, _, _, _, _, _, _, _, _, _, _, _, _, _, e, _⟩ := h; rw [e]; rfl))
/-! ### a store of facts -/
abbrev Fac := Str × List NestedKey × Bool
def fk (x : Fac) : NestedKey := .tup [.text x.1, .tup x.2.1]
def keysF (fs : List Fac) : List NestedKey := fs.map fk
theorem fk_inj {a b : Fac} (h : fk a = fk b) : a.1 = b.1 ∧ a.2.1 = b.2.1 := by
  unfold fk at h
  injection h with h
  injection h with h1 h2
  injection h1 with h1
  injection h2 with h2 _
  injection h2 with h2
  exact ⟨h1, h2⟩
def kvL (n : Nat) (ks : List NestedKey) : List (NestedKey × V) := (ks.zipIdx n).map fun z => (z.1, V.int (z.2 : Int))
theorem valV_kvL (k : NestedKey) : ∀ (ks : List NestedKey) (n : Nat), valV (kvL n ks) k = if k ∈ ks then some (.int ((n + ks.idxOf k : Nat) : Int)) else none
  | [], n => rfl
  | a :: ks, n => by
    have ih := valV_kvL k ks (n + 1)
    have e : kvL n (a :: ks) = (a, V.int (n : Int)) :: kvL (n + 1) ks := rfl
    rw [e]
    by_cases c : a = k
    · subst c
      rw [valV_pos rfl, if_pos (List.mem_cons_self ..), List.idxOf_cons_self]
      rfl
    · rw [valV_neg c, ih, show (a :: ks).idxOf k = ks.idxOf k + 1 by rw [List.idxOf_cons, show (a == k) = false from beq_eq_false_iff_ne.mpr c]; rfl]
      by_cases m : k ∈ ks
      · rw [if_pos m, if_pos (List.mem_cons_of_mem _ m)]
        congr 3; omega
      · rw [if_neg m, if_neg (fun z => by rcases List.mem_cons.mp z with z | z; exact c z.symm; exact m z)]
theorem kvL_app (ks : List NestedKey) (k : NestedKey) : kvL 0 (ks ++ [k]) = kvL 0 ks ++ [(k, V.int (ks.length : Int))] := by
  unfold kvL
  rw [List.zipIdx_append, List.map_append, Nat.zero_add]
  rfl
theorem put_kvL {ks : List NestedKey} {k : NestedKey} (h : ¬ k ∈ ks) : putK (kvL 0 ks) k (.int (ks.length : Int)) = kvL 0 (ks ++ [k]) := by
  rw [putK_new _ (by rw [valV_kvL, if_neg h]), kvL_app]
theorem kvL_len (ks : List NestedKey) (n : Nat) : (kvL n ks).length = ks.length := by unfold kvL; rw [List.length_map, List.length_zipIdx]
abbrev Tabs := List (Str × Nat)
def kvA (tabs : Tabs) : List (Key × V) := tabs.map fun x => (.inr x.1, .int (x.2 : Int))
def arOf : Tabs → Str → Option Nat
  | [], _ => none
  | (n, a) :: r, t => if n = t then some a else arOf r t
theorem valV_kvA (t : Str) : ∀ tabs : Tabs, valV (kvA tabs) (.inr t) = (arOf tabs t).map fun a => V.int (a : Int)
  | [] => rfl
  | (n, a) :: r => by
    have e : kvA ((n, a) :: r) = (.inr n, V.int (a : Int)) :: kvA r := rfl
    rw [e, arOf]
    by_cases c : n = t
    · subst c; rw [valV_pos rfl, if_pos rfl]; rfl
    · rw [valV_neg (fun z => c (by injection z)), if_neg c, valV_kvA t r]
def kvT (tabs : Tabs) (ls : List Addr) : List (Key × V) := (tabs.zip ls).map fun x => (.inr x.1.1, .ref x.2)
/-- the list of a table -/
def lsOf : Tabs → List Addr → Str → Option Addr
  | (n, _) :: r, l :: ls, t => if n = t then some l else lsOf r ls t
  | _, _, _ => none
theorem valV_kvT (t : Str) : ∀ (tabs : Tabs) (ls : List Addr), valV (kvT tabs ls) (.inr t) = (lsOf tabs ls t).map V.ref
  | [], ls => by cases ls <;> rfl
  | (n, a) :: r, [] => rfl
  | (n, a) :: r, l :: ls => by
    have e : kvT ((n, a) :: r) (l :: ls) = (.inr n, V.ref l) :: kvT r ls := rfl
    rw [e, lsOf]
    by_cases c : n = t
    · subst c; rw [valV_pos rfl, if_pos rfl]; rfl
    · rw [valV_neg (fun z => c (by injection z)), if_neg c, valV_kvT t r ls]
theorem ls_some {t : Str} : ∀ {tabs : Tabs} {ls : List Addr} {a : Nat}, ls.length = tabs.length → arOf tabs t = some a → ∃ l, lsOf tabs ls t = some l ∧ l ∈ ls
  | (n, b) :: r, l :: ls, a, hl, h => by
    rw [arOf] at h
    rw [lsOf]
    by_cases c : n = t
    · rw [if_pos c]; exact ⟨l, rfl, List.mem_cons_self ..⟩
    · rw [if_neg c] at h ⊢
      obtain ⟨l', h1, h2⟩ := ls_some (by simpa using hl) h
      exact ⟨l', h1, List.mem_cons_of_mem _ h2⟩
  | [], _, _, _, h => nomatch h
  | _ :: _, [], _, hl, _ => by simp at hl
/-- the numbers of the facts of a table, from n on -/
def inT (t : Str) : Nat → List Fac → List Nat
  | _, [] => []
  | n, x :: fs => if x.1 = t then n :: inT t (n + 1) fs else inT t (n + 1) fs
theorem inT_app (t : Str) (x : Fac) : ∀ (fs : List Fac) (n : Nat), inT t n (fs ++ [x]) = inT t n fs ++ (if x.1 = t then [n + fs.length] else [])
  | [], n => by
    show (if x.1 = t then [n] else []) = [] ++ _
    rw [List.nil_append]; rfl
  | y :: fs, n => by
    have ih := inT_app t x fs (n + 1)
    rw [List.cons_append, inT, inT, ih, show n + 1 + fs.length = n + (y :: fs).length by rw [List.length_cons]; omega]
    by_cases c : y.1 = t
    · rw [if_pos c, if_pos c]; rfl
    · rw [if_neg c, if_neg c]
theorem inT_mem {t : Str} {i : Nat} : ∀ {fs : List Fac} {n : Nat}, i ∈ inT t n fs ↔ ∃ j x, i = n + j ∧ fs[j]? = some x ∧ x.1 = t
  | [], n => ⟨fun h => (nomatch h), fun ⟨j, x, _, h, _⟩ => by simp at h⟩
  | y :: fs, n => by
    rw [inT]
    have ih := inT_mem (t := t) (i := i) (fs := fs) (n := n + 1)
    constructor
    · intro h
      by_cases c : y.1 = t
      · rw [if_pos c] at h
        rcases List.mem_cons.mp h with rfl | h
        · exact ⟨0, y, rfl, rfl, c⟩
        · obtain ⟨j, x, h1, h2, h3⟩ := ih.mp h
          exact ⟨j + 1, x, by omega, h2, h3⟩
      · rw [if_neg c] at h
        obtain ⟨j, x, h1, h2, h3⟩ := ih.mp h
        exact ⟨j + 1, x, by omega, h2, h3⟩
    · rintro ⟨j, x, h1, h2, h3⟩
      cases j with
      | zero =>
        cases h2
        rw [if_pos h3, h1]; exact List.mem_cons_self ..
      | succ j =>
        have hm := ih.mpr ⟨j, x, by omega, h2, h3⟩
        split
        · exact List.mem_cons_of_mem _ hm
        · exact hm
def setB : List Fac → Nat → Bool → List Fac
  | [], _, _ => []
  | x :: fs, 0, b => (x.1, x.2.1, b) :: fs
  | x :: fs, n + 1, b => x :: setB fs n b
theorem keysF_set (b : Bool) : ∀ (fs : List Fac) (n : Nat), keysF (setB fs n b) = keysF fs
  | [], n => rfl
  | x :: fs, 0 => rfl
  | x :: fs, n + 1 => by
    show fk x :: keysF (setB fs n b) = fk x :: keysF fs
    rw [keysF_set b fs n]
theorem inT_set (t : Str) (b : Bool) : ∀ (fs : List Fac) (n m : Nat), inT t m (setB fs n b) = inT t m fs
  | [], n, m => rfl
  | x :: fs, 0, m => rfl
  | x :: fs, n + 1, m => by
    have ih := inT_set t b fs n (m + 1)
    show inT t m (x :: setB fs n b) = _
    rw [inT, inT, ih]
def bls (fs : List Fac) : List V := fs.map fun x => .bl x.2.2
theorem states_set (b : Bool) : ∀ (fs : List Fac) (n : Nat), bls (setB fs n b) = (bls fs).set n (.bl b)
  | [], n => rfl
  | x :: fs, 0 => rfl
  | x :: fs, n + 1 => by
    show V.bl x.2.2 :: bls (setB fs n b) = V.bl x.2.2 :: (bls fs).set n (.bl b)
    rw [states_set b fs n]
theorem setB_len (b : Bool) : ∀ (fs : List Fac) (n : Nat), (setB fs n b).length = fs.length
  | [], n => rfl
  | x :: fs, 0 => rfl
  | x :: fs, n + 1 => by
    show (setB fs n b).length + 1 = fs.length + 1
    rw [setB_len b fs n]
theorem setB_dp (b : Bool) : ∀ (fs : List Fac) (n : Nat), (∀ x ∈ fs, NestedKey.depthAll x.2.1 ≤ 1) → ∀ x ∈ setB fs n b, NestedKey.depthAll x.2.1 ≤ 1
  | [], n, h => h
  | x :: fs, 0, h => fun y hy => by
    rcases List.mem_cons.mp hy with rfl | hy
    · exact h x (List.mem_cons_self ..)
    · exact h y (List.mem_cons_of_mem _ hy)
  | x :: fs, n + 1, h => fun y hy => by
    rcases List.mem_cons.mp hy with rfl | hy
    · exact h _ (List.mem_cons_self ..)
    · exact setB_dp b fs n (fun z hz => h z (List.mem_cons_of_mem _ hz)) y hy
abbrev nV (ns : List Nat) : List V := ns.map fun (n : Nat) => V.int (n : Int)
abbrev fF (ar pr st nu it : Addr) : List (Str × V) := putF "_in_table" (.ref it) (putF "_numbers" (.ref nu) (putF "_states" (.ref st) (putF "_pairs" (.ref pr) (putF "_arities" (.ref ar) []))))
section
variable (ar pr st nu it : Addr)
theorem fF_ar : (fF ar pr st nu it).lookup ("_arities" : Str) = some (.ref ar) := by rw [lookup_putF, if_neg (by decide), lookup_putF, if_neg (by decide), lookup_putF, if_neg (by decide), lookup_putF, if_neg (by decide), lookup_putF, if_pos rfl]
theorem fF_pr : (fF ar pr st nu it).lookup ("_pairs" : Str) = some (.ref pr) := by rw [lookup_putF, if_neg (by decide), lookup_putF, if_neg (by decide), lookup_putF, if_neg (by decide), lookup_putF, if_pos rfl]
theorem fF_st : (fF ar pr st nu it).lookup ("_states" : Str) = some (.ref st) := by rw [lookup_putF, if_neg (by decide), lookup_putF, if_neg (by decide), lookup_putF, if_pos rfl]
theorem fF_nu : (fF ar pr st nu it).lookup ("_numbers" : Str) = some (.ref nu) := by rw [lookup_putF, if_neg (by decide), lookup_putF, if_pos rfl]
theorem fF_it : (fF ar pr st nu it).lookup ("_in_table" : Str) = some (.ref it) := by rw [lookup_putF, if_pos rfl]
theorem fF_no {m : Str} (h1 : ¬ m = "_arities") (h2 : ¬ m = "_pairs") (h3 : ¬ m = "_states") (h4 : ¬ m = "_numbers") (h5 : ¬ m = "_in_table") : (fF ar pr st nu it).lookup m = none := by
  rw [lookup_putF, if_neg h5, lookup_putF, if_neg h4, lookup_putF, if_neg h3, lookup_putF, if_neg h2, lookup_putF, if_neg h1]; rfl
end
structure FA where
  dx : Addr
  ar : Addr
  pr : Addr
  st : Addr
  nu : Addr
  it : Addr
  ls : List Addr
/-- what a change may touch -/
def FA.own (A : FA) (b : Addr) : Prop := b = A.pr ∨ b = A.st ∨ b = A.nu ∨ b ∈ A.ls
abbrev FA.fs_ (A : FA) : List (Str × V) := fF A.ar A.pr A.st A.nu A.it
/-- the names are different; no name twice -/
structure FO (P : Program) (w : World) (H : Hp) (C f : Addr) (A : FA) (tabs : Tabs) (fs : List Fac) : Prop where
  ins : H f = some (.ins C A.dx A.fs_)
  har : H A.ar = some (.dK (kvA tabs))
  hpr : ∃ ts : List Addr, H A.pr = some (.lst (ts.map V.ref)) ∧ Kys H (keysF fs) (ts.map V.ref)
  hst : H A.st = some (.lst (bls fs))
  hnu : ND.At P w H A.nu (kvL 0 (keysF fs))
  hit : H A.it = some (.dK (kvT tabs A.ls))
  lz : A.ls.length = tabs.length
  li : ∀ t l, lsOf tabs A.ls t = some l → H l = some (.lst (nV (inT t 0 fs)))
  nd : (A.pr :: A.st :: A.ls).Nodup
  kd : (keysF fs).Nodup
  dp : ∀ x ∈ fs, NestedKey.depthAll x.2.1 ≤ 1
  le : fs.length ≤ 100
  tl : tabs.length ≤ 10
/-- all but what is the store's own is as it was -/
def FrF (A : FA) (H H' : Hp) : Prop := ∀ b o, ¬ A.own b → H b = some o → H' b = some o
theorem FrF.of {A : FA} {H H' : Hp} (s : Same H H') : FrF A H H' := fun b o _ e => s b o e
theorem FrF.trans {A : FA} {H H1 H2 : Hp} (x : FrF A H H1) (y : FrF A H1 H2) : FrF A H H2 := fun b o n e => y b o n (x b o n e)
section
variable {P : Program} {w : World} {H H' : Hp} {C f : Addr} {A : FA} {tabs : Tabs} {fs : List Fac}
theorem FO.same (x : FO P w H C f A tabs fs) (s : Same H H') : FO P w H' C f A tabs fs :=
  ⟨s _ _ x.ins, s _ _ x.har, let ⟨ts, h1, h2⟩ := x.hpr; ⟨ts, s _ _ h1, h2.keeps fun b ys e => s _ _ e⟩, s _ _ x.hst, x.hnu.keeps (fun u e => s _ _ e) (fun b ys e => s _ _ e), s _ _ x.hit, x.lz, fun t l h => s _ _ (x.li t l h), x.nd, x.kd, x.dp, x.le, x.tl⟩
theorem ls_mem {t : Str} {l : Addr} : ∀ {tabs : Tabs} {ls : List Addr}, lsOf tabs ls t = some l → l ∈ ls
  | (n, a) :: r, m :: ls, h => by
    rw [lsOf] at h
    by_cases c : n = t
    · rw [if_pos c] at h; cases h; exact List.mem_cons_self ..
    · rw [if_neg c] at h; exact List.mem_cons_of_mem _ (ls_mem h)
  | [], ls, h => by cases ls <;> cases h
  | _ :: _, [], h => nomatch h
/-- what stands in the store's own places -/
theorem FO.at_own (x : FO P w H C f A tabs fs) {b : Addr} (h : A.own b) (hl : ∀ l ∈ A.ls, ∃ xs, H l = some (.lst xs)) : (∃ xs, H b = some (.lst xs)) ∨ ∃ φ, H b = some (.ext φ) := by
  rcases h with rfl | rfl | rfl | h
  · obtain ⟨ts, h1, _⟩ := x.hpr; exact .inl ⟨_, h1⟩
  · exact .inl ⟨_, x.hst⟩
  · obtain ⟨φ, e⟩ := x.hnu.ext; exact .inr ⟨φ, e⟩
  · exact .inl (hl b h)
end
end K01

set_option Elab.async false
set_option linter.all false
set_option maxRecDepth 100000
set_option maxHeartbeats 4000000
namespace K01
open PySem L2 Ew Tb GxR ND PK
local macro_rules | `(tactic| walk_at "len") => `(tactic| first | (intro h; obtain ⟨_, e, _⟩ := h; rw [e]; rfl) | (intro h; obtain ⟨_, _, e, _⟩ := h; rw [e]; rfl) | (intro h; obtain ⟨_, _, _, e, _⟩ := h; rw [e]; rfl) | (intro h; obtain ⟨_, _, _, _, e, _⟩ := h; rw [e]; rfl) | (intro h; obtain ⟨_, _, _, _, _, e, _⟩ := h; rw [e]; rfl) | (intro h; obtain ⟨_, _, _, _, _, _, e, _⟩ := h; rw [e]; rfl) | (intro h; obtain ⟨_, _, _, _, _, _, _, e, _⟩ := h; rw [e]; rfl) | (intro h; obtain ⟨_, _, _, _, _, _, _, _, e, _⟩ := h; rw [e]; rfl) | (intro h; obtain ⟨_, _, _, _, _, _, _, _, _, e, _⟩ := h; rw [e]; rfl) | (intro h; obtain ⟨_, _, _, _, _, _, _, _, _, _, e, _⟩ := h; rw [e]; rfl) | (intro h; obtain ⟨_, _, _, _, _, _, _, _, _, _, _, e, _⟩ := h; rw [e]; rfl) | (intro h; obtain ⟨_, _, _, _, _, _, _, _, _, _, _, _, e, _⟩ := h; rw [e]; rfl) | (intro h; obtain ⟨_, _, _, _, _, _, _, _, _, _, _, _, _, e, _⟩ := h; rw [e]; rfl))
local macro_rules | `(tactic| walk_at "len") => `(tactic| first | (intro h; obtain ⟨_, _, _, _, _, _, _, _, e, _⟩ := h; rw [e]; rfl) | (intro h; obtain ⟨_, _, _, _, _, _, _, _, _, e, _⟩ := h; rw [e]; rfl) | (intro h; obtain ⟨_, _, _, _, _, _, _, _, _, _, e, _⟩ := h; rw [e]; rfl) | (intro h; obtain ⟨_, _, _, _, _, _, _, _, _, _, _, e, _⟩ := h; rw [e]; rfl) | (intro h; obtain ⟨_, _, _, _, _, _, _, _, _, _, _, _, e, _⟩ := h; rw [e]; rfl) | (intro h; obtain ⟨_, _, _, _, _, _, _, _, _, _, _, _, _, e, _⟩ := h; rw [e]; rfl) | (intro h; obtain ⟨_, _, _, _, _, _, _, _, _, _, _, _, _, _, e, _⟩ := h; rw [e]; rfl) | (intro h; obtain ⟨_, _, _, _, _, _, _, _, _, _, _, _, _, _, _, e, _⟩ := h; rw [e]; rfl) | (intro h; obtain ⟨_, _, _, _, _, _, _, _, _, _, _, _, _, _, _, _, e, _⟩ := h; rw [e]; rfl) | (intro h; obtain ⟨_, _, _, _, _, _, _, _, _, _, _, _, _, _, _, _, _, e, _⟩ := h; rw [e]; rfl))
section
variable {P : Program} {w : World} {K : PySem.W.Frag} {mg : Str → Option Value} {base : Heap} {ad : Ad}
def spNeedT (P : Program) (w : World) (ad : Ad) : Sp := fun vs H Q E => ∃ f A tabs fs, ∃ t : Str, vs = [.ref f, .str t] ∧ FO P w H ad.Facts f A tabs fs ∧ (arOf tabs t ≠ none → Q .non H) ∧ (arOf tabs t = none → E (.ref ad.UnknownTable) none H)
theorem ok_Facts_need_table  {f : Addr} {fd : FuncData} (F : Fun K "_need_table" "Facts._need_table" s_Facts_need_table f fd) (T : Txt K mg ad) : FnOk P w K mg base (L2.CX P w) 1 f fd ["self", "table"] (spNeedT P w ad) := by
  refine F.okX sc_Facts_need_table (fun vs H Q E => ?_) (fun cdv A outer s H vs Q E hr h => ?_)
  · walk_at "len"
  ·
    obtain ⟨f0, A0, tabs, fs, t, rfl, fo, k1, k2⟩ := h
    refine ⟨_, (pss_one (ps_if (pt_cmpR (op_notD (hu_of hr)) (pv 1) (pe_fld (pv 0) rfl) (by rfl)) (pss_one (ps_raise rfl (takes_of rfl rfl rfl rfl) (pmk_own PySem.F.excBase_ValueError T.x_UnknownTable T.g_UnknownTable T.k_UnknownTable (raises_own T.b_UnknownTable T.t_UnknownTable) (by rfl)))) pss_nil)), ?_⟩
    refine ⟨_, rfl, _, rfl, f0, ad.Facts, A0.dx, A0.fs_, _, rfl, fo.ins, T.c_Facts, T.n_arities, fF_ar .., A0.ar, _, rfl, DGet.k (k := .inr t) fo.har, ?_⟩
    rw [valV_kvA]
    cases h : arOf tabs t with
    | none => exact ⟨_, rfl, iteT (k2 h)⟩
    | some a => exact ⟨_, rfl, iteF (k1 (by rw [h]; exact fun z => nomatch z))⟩
def spNeedF (P : Program) (w : World) (ad : Ad) : Sp := fun vs H Q E => ∃ f A tabs fs, ∃ n : Int, vs = [.ref f, .int n] ∧ FO P w H ad.Facts f A tabs fs ∧ (0 ≤ n ∧ n < fs.length → Q .non H) ∧ (¬ (0 ≤ n ∧ n < fs.length) → E (.ref ad.UnknownFact) none H)
theorem ok_Facts_need_fact  {f : Addr} {fd : FuncData} (F : Fun K "_need_fact" "Facts._need_fact" s_Facts_need_fact f fd) (T : Txt K mg ad) : FnOk P w K mg base (L2.CX P w) 1 f fd ["self", "number"] (spNeedF P w ad) := by
  refine F.okX sc_Facts_need_fact (fun vs H Q E => ?_) (fun cdv A outer s H vs Q E hr h => ?_)
  · walk_at "len"
  ·
    obtain ⟨f0, A0, tabs, fs, n, rfl, fo, k1, k2⟩ := h
    refine ⟨_, (pss_one (ps_if (pt_not (pt_chain op_le op_lt pe_int (pv 1) (pe_callB call_len (by rfl) T.z_len (by decide +kernel) (pa_cons (pe_fld (pv 0) rfl) pa_nil)))) (pss_one (ps_raise rfl (takes_of rfl rfl rfl rfl) (pmk_own PySem.F.excBase_ValueError T.x_UnknownFact T.g_UnknownFact T.k_UnknownFact (raises_own T.b_UnknownFact T.t_UnknownFact) (by rfl)))) pss_nil)), ?_⟩
    obtain ⟨ts, hp, hk⟩ := fo.hpr
    have hl : ts.length = fs.length := by have := kys_len hk; unfold keysF at this; rw [List.length_map, List.length_map] at this; exact this.symm
    refine ⟨_, rfl, _, _, rfl, rfl, _, rfl, ?_⟩
    refine ite2 (fun c => ?_) (fun c => ?_)
    · have c1 : 0 ≤ n := by simpa using c
      refine ⟨_, rfl, f0, ad.Facts, A0.dx, A0.fs_, _, rfl, fo.ins, T.c_Facts, T.n_pairs, fF_pr .., .ref A0.pr, _, rfl, .inl ⟨_, SqL.of hp, rfl⟩, _, _, rfl, rfl, _, rfl, ?_⟩
      rw [List.length_map, hl]
      by_cases c2 : n < (fs.length : Nat)
      · rw [decide_eq_true c2]; exact iteF (k1 ⟨c1, c2⟩)
      · rw [decide_eq_false c2]; exact iteT (k2 fun z => c2 z.2)
    · have c1 : ¬ 0 ≤ n := by simpa using c
      exact ⟨_, rfl, iteT (k2 fun z => c1 z.1)⟩
def spArity (P : Program) (w : World) (ad : Ad) : Sp := fun vs H Q E => ∃ f A tabs fs, ∃ t : Str, vs = [.ref f, .str t] ∧ FO P w H ad.Facts f A tabs fs ∧ (∀ a, arOf tabs t = some a → Q (.int (a : Nat)) H) ∧ (arOf tabs t = none → E (.ref ad.UnknownTable) none H)
theorem ok_Facts_arity (m_need_table : MetX P w K mg base 1 ad.Facts "_need_table" (spNeedT P w ad)) {f : Addr} {fd : FuncData} (F : Fun K "arity" "Facts.arity" s_Facts_arity f fd) (T : Txt K mg ad) : FnOk P w K mg base (L2.CX P w) 2 f fd ["self", "table"] (spArity P w ad) := by
  refine F.okX sc_Facts_arity (fun vs H Q E => ?_) (fun cdv A outer s H vs Q E hr h => ?_)
  · walk_at "len"
  ·
    obtain ⟨f0, A0, tabs, fs, t, rfl, fo, k1, k2⟩ := h
    refine ⟨_, (pss_cons (ps_expr (pd_meth hr (takes_of rfl rfl rfl rfl) (pv 0) (pa_cons (pv 1) pa_nil)))
      (pss_one (ps_ret (pe_dget (hu_of hr) (pe_fld (pv 0) rfl) (pv 1) (fun _ _ => rfl))))), ?_⟩
    refine go_sq ⟨_, rfl, f0, ad.Facts, A0.dx, A0.fs_, 1, _, rfl, fo.ins, fF_no _ _ _ _ _ (by decide) (by decide) (by decide) (by decide) (by decide), by decide, m_need_table, _, rfl, f0, A0, tabs, fs, t, rfl, fo, fun h => go_nx ?_, k2⟩
    cases e : arOf tabs t with
    | none => exact absurd e h
    | some a =>
      refine ⟨_, rfl, f0, ad.Facts, A0.dx, A0.fs_, _, rfl, fo.ins, T.c_Facts, T.n_arities, fF_ar .., _, rfl, A0.ar, .int (a : Nat), rfl, ?_, k1 a e⟩
      have := DGet.k (k := .inr t) fo.har
      rw [valV_kvA, e] at this
      exact this
def spCount (P : Program) (w : World) (ad : Ad) : Sp := fun vs H Q E => ∃ f A tabs fs, vs = [.ref f] ∧ FO P w H ad.Facts f A tabs fs ∧ Q (.int (fs.length : Nat)) H
theorem ok_Facts_count  {f : Addr} {fd : FuncData} (F : Fun K "count" "Facts.count" s_Facts_count f fd) (T : Txt K mg ad) : FnOk P w K mg base (L2.CX P w) 1 f fd ["self"] (spCount P w ad) := by
  refine F.okX sc_Facts_count (fun vs H Q E => ?_) (fun cdv A outer s H vs Q E hr h => ?_)
  · walk_at "len"
  ·
    obtain ⟨f0, A0, tabs, fs, rfl, fo, k⟩ := h
    refine ⟨_, (pss_one (ps_ret (pe_callB call_len (by rfl) T.z_len (by decide +kernel) (pa_cons (pe_fld (pv 0) rfl) pa_nil)))), ?_⟩
    obtain ⟨ts, hp, hk⟩ := fo.hpr
    have hl : ts.length = fs.length := by have := kys_len hk; unfold keysF at this; rw [List.length_map, List.length_map] at this; exact this.symm
    refine ⟨_, rfl, f0, ad.Facts, A0.dx, A0.fs_, _, rfl, fo.ins, T.c_Facts, T.n_pairs, fF_pr .., .ref A0.pr, _, rfl, .inl ⟨_, SqL.of hp, rfl⟩, ?_⟩
    rw [List.length_map, hl]
    exact k
def spIsThere (P : Program) (w : World) (ad : Ad) : Sp := fun vs H Q E => ∃ f A tabs fs, ∃ n : Int, vs = [.ref f, .int n] ∧ FO P w H ad.Facts f A tabs fs ∧ (∀ (i : Nat) x, n = (i : Int) → fs[i]? = some x → Q (.bl x.2.2) H) ∧ (¬ (0 ≤ n ∧ n < fs.length) → E (.ref ad.UnknownFact) none H)
theorem ok_Facts_is_there (m_need_fact : MetX P w K mg base 1 ad.Facts "_need_fact" (spNeedF P w ad)) {f : Addr} {fd : FuncData} (F : Fun K "is_there" "Facts.is_there" s_Facts_is_there f fd) (T : Txt K mg ad) : FnOk P w K mg base (L2.CX P w) 2 f fd ["self", "number"] (spIsThere P w ad) := by
  refine F.okX sc_Facts_is_there (fun vs H Q E => ?_) (fun cdv A outer s H vs Q E hr h => ?_)
  · walk_at "len"
  ·
    obtain ⟨f0, A0, tabs, fs, n, rfl, fo, k1, k2⟩ := h
    refine ⟨_, (pss_cons (ps_expr (pd_meth hr (takes_of rfl rfl rfl rfl) (pv 0) (pa_cons (pv 1) pa_nil)))
      (pss_one (ps_ret (pe_ix ix_list (pe_fld (pv 0) rfl) (pv 1) (fun _ _ => rfl))))), ?_⟩
    refine go_sq ⟨_, rfl, f0, ad.Facts, A0.dx, A0.fs_, 1, _, rfl, fo.ins, fF_no _ _ _ _ _ (by decide) (by decide) (by decide) (by decide) (by decide), by decide, m_need_fact, _, rfl, f0, A0, tabs, fs, n, rfl, fo, fun h => go_nx ?_, k2⟩
    obtain ⟨i, rfl⟩ : ∃ i : Nat, n = (i : Int) := ⟨n.toNat, by omega⟩
    have hi : i < fs.length := by omega
    have hx : fs[i]? = some fs[i] := List.getElem?_eq_getElem hi
    exact ⟨_, rfl, f0, ad.Facts, A0.dx, A0.fs_, _, rfl, fo.ins, T.c_Facts, T.n_states, fF_st .., _, rfl, A0.st, _, _, _, rfl, rfl, SqL.of fo.hst, at_of (j := i) rfl (by unfold bls; rw [List.getElem?_map, hx]; rfl), k1 i _ rfl hx⟩
def spFactM (P : Program) (w : World) (ad : Ad) : Sp := fun vs H Q E => ∃ f A tabs fs, ∃ n : Int, vs = [.ref f, .int n] ∧ FO P w H ad.Facts f A tabs fs ∧ (∀ (i : Nat) x v, n = (i : Int) → fs[i]? = some x → Ky H (fk x) v → Q v H) ∧ (¬ (0 ≤ n ∧ n < fs.length) → E (.ref ad.UnknownFact) none H)
theorem ok_Facts_fact (m_need_fact : MetX P w K mg base 1 ad.Facts "_need_fact" (spNeedF P w ad)) {f : Addr} {fd : FuncData} (F : Fun K "fact" "Facts.fact" s_Facts_fact f fd) (T : Txt K mg ad) : FnOk P w K mg base (L2.CX P w) 2 f fd ["self", "number"] (spFactM P w ad) := by
  refine F.okX sc_Facts_fact (fun vs H Q E => ?_) (fun cdv A outer s H vs Q E hr h => ?_)
  · walk_at "len"
  ·
    obtain ⟨f0, A0, tabs, fs, n, rfl, fo, k1, k2⟩ := h
    refine ⟨_, (pss_cons (ps_expr (pd_meth hr (takes_of rfl rfl rfl rfl) (pv 0) (pa_cons (pv 1) pa_nil)))
      (pss_one (ps_ret (pe_ix ix_list (pe_fld (pv 0) rfl) (pv 1) (fun _ _ => rfl))))), ?_⟩
    refine go_sq ⟨_, rfl, f0, ad.Facts, A0.dx, A0.fs_, 1, _, rfl, fo.ins, fF_no _ _ _ _ _ (by decide) (by decide) (by decide) (by decide) (by decide), by decide, m_need_fact, _, rfl, f0, A0, tabs, fs, n, rfl, fo, fun h => go_nx ?_, k2⟩
    obtain ⟨i, rfl⟩ : ∃ i : Nat, n = (i : Int) := ⟨n.toNat, by omega⟩
    have hi : i < fs.length := by omega
    have hx : fs[i]? = some fs[i] := List.getElem?_eq_getElem hi
    obtain ⟨ts, hp, hk⟩ := fo.hpr
    have hl : ts.length = fs.length := by have := kys_len hk; unfold keysF at this; rw [List.length_map, List.length_map] at this; exact this.symm
    have ht : (ts.map V.ref)[i]? = some (.ref (ts[i]'(by omega))) := by rw [List.getElem?_map, List.getElem?_eq_getElem (by omega)]; rfl
    exact ⟨_, rfl, f0, ad.Facts, A0.dx, A0.fs_, _, rfl, fo.ins, T.c_Facts, T.n_pairs, fF_pr .., _, rfl, A0.pr, _, _, _, rfl, rfl, SqL.of hp, at_of (j := i) rfl ht, k1 i _ _ rfl hx (kys_at hk i (by unfold keysF; rw [List.getElem?_map, hx]; rfl) ht)⟩
end
end K01

set_option Elab.async false
set_option linter.all false
set_option maxRecDepth 100000
set_option maxHeartbeats 4000000
namespace K01
open PySem L2 Ew Tb GxR ND PK
local macro_rules | `(tactic| walk_at "len") => `(tactic| first | (intro h; obtain ⟨_, e, _⟩ := h; rw [e]; rfl) | (intro h; obtain ⟨_, _, e, _⟩ := h; rw [e]; rfl) | (intro h; obtain ⟨_, _, _, e, _⟩ := h; rw [e]; rfl) | (intro h; obtain ⟨_, _, _, _, e, _⟩ := h; rw [e]; rfl) | (intro h; obtain ⟨_, _, _, _, _, e, _⟩ := h; rw [e]; rfl) | (intro h; obtain ⟨_, _, _, _, _, _, e, _⟩ := h; rw [e]; rfl) | (intro h; obtain ⟨_, _, _, _, _, _, _, e, _⟩ := h; rw [e]; rfl) | (intro h; obtain ⟨_, _, _, _, _, _, _, _, e, _⟩ := h; rw [e]; rfl) | (intro h; obtain ⟨_, _, _, _, _, _, _, _, _, e, _⟩ := h; rw [e]; rfl) | (intro h; obtain ⟨_, _, _, _, _, _, _, _, _, _, e, _⟩ := h; rw [e]; rfl) | (intro h; obtain ⟨_, _, _, _, _, _, _, _, _, _, _, e, _⟩ := h; rw [e]; rfl) | (intro h; obtain ⟨_, _, _, _, _, _, _, _, _, _, _, _, e, _⟩ := h; rw [e]; rfl) | (intro h; obtain ⟨_, _, _, _, _, _, _, _, _, _, _, _, _, e, _⟩ := h; rw [e]; rfl))
local macro_rules | `(tactic| walk_at "len") => `(tactic| first | (intro h; obtain ⟨_, _, _, _, _, _, _, _, e, _⟩ := h; rw [e]; rfl) | (intro h; obtain ⟨_, _, _, _, _, _, _, _, _, e, _⟩ := h; rw [e]; rfl) | (intro h; obtain ⟨_, _, _, _, _, _, _, _, _, _, e, _⟩ := h; rw [e]; rfl) | (intro h; obtain ⟨_, _, _, _, _, _, _, _, _, _, _, e, _⟩ := h; rw [e]; rfl) | (intro h; obtain ⟨_, _, _, _, _, _, _, _, _, _, _, _, e, _⟩ := h; rw [e]; rfl) | (intro h; obtain ⟨_, _, _, _, _, _, _, _, _, _, _, _, _, e, _⟩ := h; rw [e]; rfl) | (intro h; obtain ⟨_, _, _, _, _, _, _, _, _, _, _, _, _, _, e, _⟩ := h; rw [e]; rfl) | (intro h; obtain ⟨_, _, _, _, _, _, _, _, _, _, _, _, _, _, _, e, _⟩ := h; rw [e]; rfl) | (intro h; obtain ⟨_, _, _, _, _, _, _, _, _, _, _, _, _, _, _, _, e, _⟩ := h; rw [e]; rfl) | (intro h; obtain ⟨_, _, _, _, _, _, _, _, _, _, _, _, _, _, _, _, _, e, _⟩ := h; rw [e]; rfl))
section
variable {P : Program} {w : World} {K : PySem.W.Frag} {mg : Str → Option Value} {base : Heap} {ad : Ad}
theorem keysF_len (fs : List Fac) : (keysF fs).length = fs.length := List.length_map _
theorem fk_dep {t : Str} {ks : List NestedKey} (h : NestedKey.depthAll ks ≤ 1) : (NestedKey.tup [.text t, .tup ks]).depth ≤ 8 := by
  simp only [NestedKey.depth, NestedKey.depthAll]
  omega
theorem row_ref {H : Hp} {ks : List NestedKey} {v : V} (h : Ky H (.tup ks) v) : ∃ a, v = .ref a := let ⟨a, _, e, _⟩ := ky_tup h; ⟨a, e⟩
def spFind (P : Program) (w : World) (ad : Ad) : Sp := fun vs H Q E => ∃ f A tabs fs, ∃ (t : Str) (ks : List NestedKey) (row : V), vs = [.ref f, .str t, row] ∧ FO P w H ad.Facts f A tabs fs ∧ Ky H (.tup ks) row ∧ NestedKey.depthAll ks ≤ 1 ∧ (arOf tabs t = none → E (.ref ad.UnknownTable) none H) ∧
  (arOf tabs t ≠ none → ∀ H', Same H H' → Q (if .tup [.text t, .tup ks] ∈ keysF fs then .int ((keysF fs).idxOf (.tup [.text t, .tup ks]) : Nat) else .non) H')
theorem ok_Facts_find (m_need_table : MetX P w K mg base 1 ad.Facts "_need_table" (spNeedT P w ad)) {f : Addr} {fd : FuncData} (F : Fun K "find" "Facts.find" s_Facts_find f fd) (T : Txt K mg ad) : FnOk P w K mg base (L2.CX P w) 2 f fd ["self", "table", "row"] (spFind P w ad) := by
  refine F.okX sc_Facts_find (fun vs H Q E => ?_) (fun cdv A outer s H vs Q E hr h => ?_)
  · walk_at "len"
  ·
    obtain ⟨f0, A0, tabs, fs, t, ks, row, rfl, fo, kr, hd, k2, k1⟩ := h
    refine ⟨_, (pss_cons (ps_expr (pd_meth hr (takes_of rfl rfl rfl rfl) (pv 0) (pa_cons (pv 1) pa_nil)))
      (pss_one (ps_ret (ND.pe_nget1 (ND.hu9 hr) (pe_fld (pv 0) rfl) (pe_tup (pa_cons (pv 1) (pa_cons (pv 2) pa_nil))) ⟨rfl, rfl, rfl, rfl⟩)))), ?_⟩
    refine go_sq ⟨_, rfl, f0, ad.Facts, A0.dx, A0.fs_, 1, _, rfl, fo.ins, fF_no _ _ _ _ _ (by decide) (by decide) (by decide) (by decide) (by decide), by decide, m_need_table, _, rfl, f0, A0, tabs, fs, t, rfl, fo, fun h => go_nx ?_, k2⟩
    obtain ⟨ra, rfl⟩ := row_ref kr
    refine ⟨_, rfl, f0, ad.Facts, A0.dx, A0.fs_, _, rfl, fo.ins, T.c_Facts, T.n_numbers, fF_nu .., A0.nu, _, rfl, fo.hnu.rd, _, rfl, _, rfl, (show 2 ≤ sizeLine by decide), fun p hp => ?_⟩
    have s1 := same_new (o := .tup [.str t, .ref ra]) (Same.refl H) hp
    have hv := valV_kvL (.tup [.text t, .tup ks]) (keysF fs) 0
    have kk : Ky (upd H p (.tup [.str t, .ref ra])) (.tup [.text t, .tup ks]) (.ref p) := .tup upd_same (.cons (.str _) (.cons (kr.keeps fun b ys e => s1 _ _ e) .nil))
    refine ⟨_, ⟨_, _, p, (fo.same s1).hnu.rd, rfl, kk, fk_dep hd, hv.symm⟩, ?_⟩
    have := k1 h _ s1
    rw [show ((if NestedKey.tup [.text t, .tup ks] ∈ keysF fs then some (V.int ((0 + (keysF fs).idxOf (.tup [.text t, .tup ks]) : Nat) : Int)) else none).getD .non) = (if NestedKey.tup [.text t, .tup ks] ∈ keysF fs then .int ((keysF fs).idxOf (.tup [.text t, .tup ks]) : Nat) else .non) by
      split
      · rw [Nat.zero_add]; rfl
      · rfl]
    exact this
def thr (fs : List Fac) (i : Nat) : Bool := ((fs[i]?).map fun x => x.2.2).getD false
/-- the rows that are told of a table -/
def RowsAt (H : Hp) (fs : List Fac) (is : List Nat) (xs : List V) : Prop := xs.length = is.length ∧ ∀ (j i : Nat), is[j]? = some i → ∃ p r x, xs[j]? = some (.ref p) ∧ H p = some (.tup [.int (i : Int), .ref r]) ∧ fs[i]? = some x ∧ Ky H (.tup x.2.1) (.ref r)
theorem RowsAt.snoc {H : Hp} {fs : List Fac} {is : List Nat} {xs : List V} {i : Nat} {p r : Addr} {x : Fac} (h : RowsAt H fs is xs) (h1 : H p = some (.tup [.int (i : Int), .ref r])) (h2 : fs[i]? = some x) (h3 : Ky H (.tup x.2.1) (.ref r)) : RowsAt H fs (is ++ [i]) (xs ++ [.ref p]) := by
  refine ⟨by rw [List.length_append, List.length_append, h.1]; rfl, fun j i' hj => ?_⟩
  rcases Nat.lt_or_ge j is.length with c | c
  · rw [List.getElem?_append_left c] at hj
    obtain ⟨p', r', x', e1, e2⟩ := h.2 j i' hj
    exact ⟨p', r', x', by rw [List.getElem?_append_left (by rw [h.1]; exact c)]; exact e1, e2⟩
  · have hj0 : j = is.length := by
      have := (List.getElem?_eq_some_iff.mp hj).1
      rw [List.length_append, List.length_singleton] at this
      omega
    subst hj0
    rw [List.getElem?_append_right (Nat.le_refl _), Nat.sub_self] at hj
    cases hj
    exact ⟨p, r, x, by rw [← h.1, List.getElem?_append_right (Nat.le_refl _), Nat.sub_self]; rfl, h1, h2, h3⟩
theorem RowsAt.keeps {H H' : Hp} {fs : List Fac} {is : List Nat} {xs : List V} (h : RowsAt H fs is xs) (ht : ∀ b ys, H b = some (.tup ys) → H' b = some (.tup ys)) : RowsAt H' fs is xs :=
  ⟨h.1, fun j i hj => let ⟨p, r, x, e1, e2, e3, e4⟩ := h.2 j i hj; ⟨p, r, x, e1, ht _ _ e2, e3, e4.keeps ht⟩⟩
def spRows (P : Program) (w : World) (ad : Ad) : Sp := fun vs H Q E => ∃ f A tabs fs, ∃ (t : Str), vs = [.ref f, .str t] ∧ FO P w H ad.Facts f A tabs fs ∧ (arOf tabs t = none → E (.ref ad.UnknownTable) none H) ∧
  (arOf tabs t ≠ none → ∀ H' l xs, Same H H' → H l = none → H' l = some (.lst xs) → RowsAt H' fs ((inT t 0 fs).filter (thr fs)) xs → Q (.ref l) H')
theorem ok_Facts_rows (m_need_table : MetX P w K mg base 1 ad.Facts "_need_table" (spNeedT P w ad)) {f : Addr} {fd : FuncData} (F : Fun K "rows" "Facts.rows" s_Facts_rows f fd) (T : Txt K mg ad) : FnOk P w K mg base (L2.CX P w) 2 f fd ["self", "table"] (spRows P w ad) := by
  refine F.okX sc_Facts_rows (fun vs H Q E => ?_) (fun cdv A outer s H vs Q E hr h => ?_)
  · walk_at "len"
  ·
    obtain ⟨f0, A0, tabs, fs, t, rfl, fo, k2, k1⟩ := h
    refine ⟨_, (pss_cons (ps_expr (pd_meth hr (takes_of rfl rfl rfl rfl) (pv 0) (pa_cons (pv 1) pa_nil)))
      (pss_cons (ps_setLc (i := 2) (own := [("number", 3)]) rfl sc_Facts_rows.nd rfl rfl (sw_true rfl rfl rfl (by decide +kernel)) (pi_list (pe_dget (hu_of hr) (pe_fld (pv 0) rfl) (pv 1) (fun _ _ => rfl))) (blkOk_by (by kernel_rfl)) (fun _ _ _ _ _ => (pg_name (i := 3) sc_Facts_rows.nd rfl (by first | exact Or.inl rfl | exact Or.inr rfl))) (fun _ _ _ _ _ => (pts_one (pt_val (pe_ix (kix_list (K := K)) (kpe_fld (K := K) (pv 0) rfl) (pv 3) (fun _ _ => rfl))))) (fun _ _ _ _ _ => (pv 3)))
      (pss_one (ps_ret (pe_lc (own := [("number", 3)]) (tt := tYes) rfl sc_Facts_rows.nd (pi_list (pv 2)) (blkOk_by (by kernel_rfl)) (fun _ _ _ _ _ => (pg_name (i := 3) sc_Facts_rows.nd rfl (by first | exact Or.inl rfl | exact Or.inr rfl))) (fun _ _ _ _ _ => pts_nil) (fun _ _ _ _ _ => (pe_tup (pa_cons (pv 3) (pa_cons (pe_ix (kix_tup (K := K)) (pe_ix (kix_list (K := K)) (kpe_fld (K := K) (pv 0) rfl) (pv 3) (fun _ _ => rfl)) pe_int (fun _ _ => rfl)) pa_nil))))))))), ?_⟩
    refine go_sq ⟨_, rfl, f0, ad.Facts, A0.dx, A0.fs_, 1, _, rfl, fo.ins, fF_no _ _ _ _ _ (by decide) (by decide) (by decide) (by decide) (by decide), by decide, m_need_table, _, rfl, f0, A0, tabs, fs, t, rfl, fo, fun h => go_nx ?_, k2⟩
    cases ea : arOf tabs t with
    | none => exact absurd ea h
    | some a =>
    have k1 := k1 h
    obtain ⟨l, hl, hm⟩ := ls_some fo.lz ea
    have hli := fo.li t l hl
    have get_ : DGet H A0.it (.str t) (some (.ref l)) := by
      have := DGet.k (k := .inr t) fo.hit
      rw [valV_kvT, hl] at this
      exact this
    refine go_seq ⟨_, rfl, f0, ad.Facts, A0.dx, A0.fs_, _, rfl, fo.ins, T.c_Facts, T.n_in_table, fF_it .., _, rfl, A0.it, .ref l, rfl, get_, l, rfl, ⟨_, SqL.of hli⟩, fun D hD => ?_⟩
    have hlen : (inT t 0 fs).length ≤ 1000 := by
      have : ∀ (fs : List Fac) (n : Nat), (inT t n fs).length ≤ fs.length := fun fs => by
        induction fs with
        | nil => exact fun _ => Nat.le_refl _
        | cons x fs ih =>
          intro n
          rw [inT]
          have := ih (n + 1)
          split <;> simp only [List.length_cons] <;> omega
      have h1 := this fs 0
      have := fo.le
      omega
    refine lc_list (K := K) (xs := nV (inT t 0 fs)) (fun i H' => Same H H' ∧ H' D = some (.lst (nV (((inT t 0 fs).take i).filter (thr fs))))) ⟨same_new (Same.refl _) hD, upd_same⟩ (fun i H' _ ⟨s', _⟩ => SqL.of (s' _ _ hli)) (fun i y H' hy ⟨s', e'⟩ => ?_) (fun H2 ⟨s2, e2⟩ => ?_)
    · obtain ⟨n0, hn, rfl⟩ : ∃ n0 : Nat, (inT t 0 fs)[i]? = some n0 ∧ y = .int (n0 : Int) := by
        rw [List.getElem?_map] at hy
        obtain ⟨n, h1, h2⟩ := Option.map_eq_some_iff.mp hy
        exact ⟨n, h1, h2.symm⟩
      obtain ⟨j, x, hj, hx, _⟩ := inT_mem.mp (List.mem_of_getElem? hn)
      rw [Nat.zero_add] at hj
      subst hj
      have ht : thr fs n0 = x.2.2 := by unfold thr; rw [hx]; rfl
      have etk : ((inT t 0 fs).take (i + 1)).filter (thr fs) = ((inT t 0 fs).take i).filter (thr fs) ++ (if x.2.2 = true then [n0] else []) := by
        rw [List.take_add_one, hn, List.filter_append]
        congr 1
        show List.filter (thr fs) [n0] = _
        rw [List.filter_cons, ht]; rfl
      refine ⟨rfl, _, rfl, f0, ad.Facts, A0.dx, A0.fs_, _, rfl, s' _ _ fo.ins, T.c_Facts, T.n_states, fF_st .., _, rfl, A0.st, _, _, .bl x.2.2, rfl, rfl, SqL.of (s' _ _ fo.hst), at_of (j := n0) rfl (by unfold bls; rw [List.getElem?_map, hx]; rfl), x.2.2, rfl, ?_⟩
      refine ite2 (fun c => ?_) (fun c => ?_)
      · refine ⟨_, rfl, _, e', ?_, same_but hD s' but_app, ?_⟩
        · rw [List.length_map]
          have := List.length_filter_le (thr fs) ((inT t 0 fs).take i)
          have := List.length_take_le i (inT t 0 fs)
          have h2 : ((inT t 0 fs).take i).length ≤ (inT t 0 fs).length := by rw [List.length_take]; omega
          exact Nat.lt_of_le_of_lt (by omega : _ ≤ 1000) (by decide)
        · rw [upd_same, etk, if_pos c]
          show _ = some (HO.lst (List.map _ _))
          rw [List.map_append]; rfl
      · refine ⟨s', ?_⟩
        rw [etk, if_neg c, List.append_nil]
        exact e'
    · rw [List.length_map, List.take_length] at e2
      have flen : ((inT t 0 fs).filter (thr fs)).length ≤ 1000 := Nat.le_trans (List.length_filter_le _ _) hlen
      have fmem : ∀ i ∈ (inT t 0 fs).filter (thr fs), ∃ x, fs[i]? = some x := fun i hi => by
        obtain ⟨j, x, hj, hx, _⟩ := inT_mem.mp (List.mem_filter.mp hi).1
        rw [Nat.zero_add] at hj
        exact ⟨x, hj ▸ hx⟩
      generalize (inT t 0 fs).filter (thr fs) = is at e2 k1 flen fmem
      refine go_name rfl (go_ret ⟨_, rfl, D, rfl, ⟨_, SqL.of e2⟩, fun D2 hD2 => ?_⟩)
      have nD : H D2 = none := by
        cases z : H D2 with
        | none => rfl
        | some u => rw [s2 _ _ z] at hD2; cases hD2
      refine lc_list (K := K) (xs := nV is) (fun i H' => Same H2 H' ∧ ∃ xs, H' D2 = some (.lst xs) ∧ RowsAt H' fs (is.take i) xs) ⟨same_new (Same.refl _) hD2, [], upd_same, rfl, fun j i h => by simp at h⟩ (fun i H' _ ⟨s', _⟩ => SqL.of (s' _ _ e2)) (fun i y H' hy ⟨s', xs, e', r'⟩ => ?_) (fun H3 ⟨s3, xs, e3, r3⟩ => ?_)
      · obtain ⟨n0, hn, rfl⟩ : ∃ n0 : Nat, is[i]? = some n0 ∧ y = .int (n0 : Int) := by
          rw [List.getElem?_map] at hy
          obtain ⟨n, h1, h2⟩ := Option.map_eq_some_iff.mp hy
          exact ⟨n, h1, h2.symm⟩
        obtain ⟨x, hx⟩ := fmem n0 (List.mem_of_getElem? hn)
        have hi := (List.getElem?_eq_some_iff.mp hn).1
        obtain ⟨ts, hp, hk⟩ := fo.hpr
        have hl2 : ts.length = fs.length := by have := kys_len hk; unfold keysF at this; rw [List.length_map, List.length_map] at this; exact this.symm
        have hn0 := (List.getElem?_eq_some_iff.mp hx).1
        have ht : (ts.map V.ref)[n0]? = some (.ref (ts[n0]'(by omega))) := by rw [List.getElem?_map, List.getElem?_eq_getElem (by omega)]; rfl
        have kx := kys_at hk n0 (by unfold keysF; rw [List.getElem?_map, hx]; rfl) ht
        have s0 : Same H H' := fun b o e => s' _ _ (s2 _ _ e)
        obtain ⟨q, u, v, eq, hq, k1', k2'⟩ := ky_pair kx
        obtain ⟨r, rfl⟩ := row_ref k2'
        rw [eq] at ht
        have xl : xs.length = i := by rw [r'.1, List.length_take]; omega
        refine ⟨rfl, yes_then (iteT ⟨_, rfl, _, rfl, f0, ad.Facts, A0.dx, A0.fs_, _, rfl, s0 _ _ fo.ins, T.c_Facts, T.n_pairs, fF_pr .., _, rfl, A0.pr, _, _, _, rfl, rfl, SqL.of (s0 _ _ hp), at_of (j := n0) rfl ht, q, _, _, .ref r, rfl, rfl, SqT.of (s0 _ _ hq), at_of (j := 1) rfl rfl, (show 2 ≤ sizeLine by decide), fun p hp' => ?_⟩)⟩
        have s4 := same_new (o := .tup [.int (n0 : Int), .ref r]) (Same.refl H') hp'
        have e4 := s4 _ _ e'
        refine ⟨xs, e4, by rw [xl]; exact Nat.lt_of_le_of_lt (by omega : _ ≤ 1000) (by decide), same_but hD2 (fun b o z => s4 _ _ (s' _ _ z)) but_app, _, upd_same, ?_⟩
        rw [List.take_add_one, hn]
        have keep : ∀ c ys, (upd H' p (.tup [.int (n0 : Int), .ref r])) c = some (.tup ys) → (upd (upd H' p (.tup [.int (n0 : Int), .ref r])) D2 (.lst (xs ++ [.ref p]))) c = some (.tup ys) := fun c ys e => by
          rw [upd_ne (ne_of e e4 (fun z => nomatch z))]; exact e
        exact RowsAt.snoc (r'.keeps fun c ys e => keep _ _ (s4 _ _ e)) (keep _ _ upd_same) hx (k2'.keeps fun c ys e => keep _ _ (s4 _ _ (s0 _ _ e)))
      · rw [List.length_map, List.take_length] at r3
        exact k1 _ D2 xs (fun b o e => s3 _ _ (s2 _ _ e)) nD e3 r3
end
end K01

set_option Elab.async false
set_option linter.all false
set_option maxRecDepth 100000
set_option maxHeartbeats 4000000
namespace K01
open PySem L2 Ew Tb GxR ND PK
local macro_rules | `(tactic| walk_at "len") => `(tactic| first | (intro h; obtain ⟨_, e, _⟩ := h; rw [e]; rfl) | (intro h; obtain ⟨_, _, e, _⟩ := h; rw [e]; rfl) | (intro h; obtain ⟨_, _, _, e, _⟩ := h; rw [e]; rfl) | (intro h; obtain ⟨_, _, _, _, e, _⟩ := h; rw [e]; rfl) | (intro h; obtain ⟨_, _, _, _, _, e, _⟩ := h; rw [e]; rfl) | (intro h; obtain ⟨_, _, _, _, _, _, e, _⟩ := h; rw [e]; rfl) | (intro h; obtain ⟨_, _, _, _, _, _, _, e, _⟩ := h; rw [e]; rfl) | (intro h; obtain ⟨_, _, _, _, _, _, _, _, e, _⟩ := h; rw [e]; rfl) | (intro h; obtain ⟨_, _, _, _, _, _, _, _, _, e, _⟩ := h; rw [e]; rfl) | (intro h; obtain ⟨_, _, _, _, _, _, _, _, _, _, e, _⟩ := h; rw [e]; rfl) | (intro h; obtain ⟨_, _, _, _, _, _, _, _, _, _, _, e, _⟩ := h; rw [e]; rfl) | (intro h; obtain ⟨_, _, _, _, _, _, _, _, _, _, _, _, e, _⟩ := h; rw [e]; rfl) | (intro h; obtain ⟨_, _, _, _, _, _, _, _, _, _, _, _, _, e, _⟩ := h; rw [e]; rfl))
local macro_rules | `(tactic| walk_at "len") => `(tactic| first | (intro h; obtain ⟨_, _, _, _, _, _, _, _, e, _⟩ := h; rw [e]; rfl) | (intro h; obtain ⟨_, _, _, _, _, _, _, _, _, e, _⟩ := h; rw [e]; rfl) | (intro h; obtain ⟨_, _, _, _, _, _, _, _, _, _, e, _⟩ := h; rw [e]; rfl) | (intro h; obtain ⟨_, _, _, _, _, _, _, _, _, _, _, e, _⟩ := h; rw [e]; rfl) | (intro h; obtain ⟨_, _, _, _, _, _, _, _, _, _, _, _, e, _⟩ := h; rw [e]; rfl) | (intro h; obtain ⟨_, _, _, _, _, _, _, _, _, _, _, _, _, e, _⟩ := h; rw [e]; rfl) | (intro h; obtain ⟨_, _, _, _, _, _, _, _, _, _, _, _, _, _, e, _⟩ := h; rw [e]; rfl) | (intro h; obtain ⟨_, _, _, _, _, _, _, _, _, _, _, _, _, _, _, e, _⟩ := h; rw [e]; rfl) | (intro h; obtain ⟨_, _, _, _, _, _, _, _, _, _, _, _, _, _, _, _, e, _⟩ := h; rw [e]; rfl) | (intro h; obtain ⟨_, _, _, _, _, _, _, _, _, _, _, _, _, _, _, _, _, e, _⟩ := h; rw [e]; rfl))
section
variable {P : Program} {w : World} {K : PySem.W.Frag} {mg : Str → Option Value} {base : Heap} {ad : Ad}
theorem FO.nst {H : Hp} {C f : Addr} {A : FA} {tabs : Tabs} {fs : List Fac} (x : FO P w H C f A tabs fs) : A.pr ≠ A.st ∧ (∀ l ∈ A.ls, l ≠ A.st) ∧ (∀ l ∈ A.ls, l ≠ A.pr) ∧ A.ls.Nodup := by
  obtain ⟨h1, h2⟩ := List.nodup_cons.mp x.nd
  obtain ⟨h3, h4⟩ := List.nodup_cons.mp h2
  exact ⟨fun e => h1 (e ▸ List.mem_cons_self ..), fun l hl e => h3 (e ▸ hl), fun l hl e => h1 (e ▸ List.mem_cons_of_mem _ hl), h4⟩
/-- a state is set -/
theorem FO.set {H : Hp} {C f : Addr} {A : FA} {tabs : Tabs} {fs : List Fac} (x : FO P w H C f A tabs fs) (i : Nat) (b : Bool) : FrF A H (upd H A.st (.lst ((bls fs).set i (.bl b)))) ∧ FO P w (upd H A.st (.lst ((bls fs).set i (.bl b)))) C f A tabs (setB fs i b) := by
  obtain ⟨n1, n2, n3, n4⟩ := x.nst
  have nl : ∀ {q u}, H q = some u → (∀ xs, u ≠ .lst xs) → q ≠ A.st := fun e h z => by subst z; rw [x.hst] at e; exact h _ (Option.some.inj e).symm
  have tk : ∀ c ys, H c = some (.tup ys) → upd H A.st (.lst ((bls fs).set i (.bl b))) c = some (.tup ys) := fun c ys e => by rw [upd_ne (nl e (fun _ z => nomatch z))]; exact e
  obtain ⟨ts, h1, h2⟩ := x.hpr
  obtain ⟨φ, hφ⟩ := x.hnu.ext
  refine ⟨fun c o n e => by rw [upd_ne (fun z => n (.inr (.inl z)))]; exact e, ⟨?_, ?_, ⟨ts, ?_, ?_⟩, ?_, ?_, ?_, x.lz, fun t l h => ?_, x.nd, by rw [keysF_set]; exact x.kd, setB_dp b fs i x.dp, by rw [setB_len]; exact x.le, x.tl⟩⟩
  · rw [upd_ne (nl x.ins (fun _ z => nomatch z))]; exact x.ins
  · rw [upd_ne (nl x.har (fun _ z => nomatch z))]; exact x.har
  · rw [upd_ne n1]; exact h1
  · rw [keysF_set]; exact h2.keeps tk
  · rw [upd_same, states_set]
  · rw [keysF_set]; exact x.hnu.keeps (fun u e => by rw [upd_ne (nl hφ (fun _ z => nomatch z))]; exact e) tk
  · rw [upd_ne (nl x.hit (fun _ z => nomatch z))]; exact x.hit
  · rw [upd_ne (n2 l (ls_mem h)), inT_set]; exact x.li t l h
def spGive (P : Program) (w : World) (ad : Ad) (b : Bool) : Sp := fun vs H Q E => ∃ f A tabs fs, ∃ n : Int, vs = [.ref f, .int n] ∧ FO P w H ad.Facts f A tabs fs ∧ (¬ (0 ≤ n ∧ n < fs.length) → E (.ref ad.UnknownFact) none H) ∧
  (∀ (i : Nat) x, n = (i : Int) → fs[i]? = some x → (x.2.2 = b → E (.ref ad.WrongState) none H) ∧ (x.2.2 ≠ b → ∀ H', FrF A H H' → FO P w H' ad.Facts f A tabs (setB fs i b) → Q .non H'))
theorem ixN_n {n j : Nat} (hj : j < n) : ixN n (j : Int) = some j := by
  unfold ixN
  rw [if_pos (by omega), if_pos (by omega), Int.toNat_natCast]
theorem ok_Facts_give_up (m_is_there : MetX P w K mg base 2 ad.Facts "is_there" (spIsThere P w ad)) {f : Addr} {fd : FuncData} (F : Fun K "give_up" "Facts.give_up" s_Facts_give_up f fd) (T : Txt K mg ad) : FnOk P w K mg base (L2.CX P w) 3 f fd ["self", "number"] (spGive P w ad false) := by
  refine F.okX sc_Facts_give_up (fun vs H Q E => ?_) (fun cdv A outer s H vs Q E hr h => ?_)
  · walk_at "len"
  ·
    obtain ⟨f0, A0, tabs, fs, n, rfl, fo, k2, k1⟩ := h
    refine ⟨_, (pss_cons (ps_if (pt_not (pt_val (pd_meth hr (takes_of rfl rfl rfl rfl) (pv 0) (pa_cons (pv 1) pa_nil)))) (pss_one (ps_raise rfl (takes_of rfl rfl rfl rfl) (pmk_own PySem.F.excBase_ValueError T.x_WrongState T.g_WrongState T.k_WrongState (raises_own T.b_WrongState T.t_WrongState) (by rfl)))) pss_nil)
      (pss_one (ps_asg pe_bl (pg_sub (pe_fld (pv 0) rfl) (pv 1) set_list)))), ?_⟩
    refine go_sq ⟨_, rfl, f0, ad.Facts, A0.dx, A0.fs_, 2, _, rfl, fo.ins, fF_no _ _ _ _ _ (by decide) (by decide) (by decide) (by decide) (by decide), by decide, m_is_there, _, rfl, f0, A0, tabs, fs, n, rfl, fo, fun i x e hx => ?_, k2⟩
    subst e
    obtain ⟨ke, kq⟩ := k1 i x rfl hx
    refine ⟨x.2.2, rfl, ?_⟩
    cases hb : x.2.2 with
    | false => exact iteT (ke hb)
    | true =>
      have hi := (List.getElem?_eq_some_iff.mp hx).1
      obtain ⟨fr, fo2⟩ := fo.set i false
      exact iteF (go_next ⟨_, rfl, f0, ad.Facts, A0.dx, A0.fs_, _, rfl, fo.ins, T.c_Facts, T.n_states, fF_st .., _, rfl, A0.st, _, _, i, rfl, rfl, fo.hst, by unfold bls; rw [List.length_map]; exact ixN_n hi, kq (by rw [hb]; decide) _ fr fo2⟩)
theorem ok_Facts_bring_back (m_is_there : MetX P w K mg base 2 ad.Facts "is_there" (spIsThere P w ad)) {f : Addr} {fd : FuncData} (F : Fun K "bring_back" "Facts.bring_back" s_Facts_bring_back f fd) (T : Txt K mg ad) : FnOk P w K mg base (L2.CX P w) 3 f fd ["self", "number"] (spGive P w ad true) := by
  refine F.okX sc_Facts_bring_back (fun vs H Q E => ?_) (fun cdv A outer s H vs Q E hr h => ?_)
  · walk_at "len"
  ·
    obtain ⟨f0, A0, tabs, fs, n, rfl, fo, k2, k1⟩ := h
    refine ⟨_, (pss_cons (ps_if (pt_val (pd_meth hr (takes_of rfl rfl rfl rfl) (pv 0) (pa_cons (pv 1) pa_nil))) (pss_one (ps_raise rfl (takes_of rfl rfl rfl rfl) (pmk_own PySem.F.excBase_ValueError T.x_WrongState T.g_WrongState T.k_WrongState (raises_own T.b_WrongState T.t_WrongState) (by rfl)))) pss_nil)
      (pss_one (ps_asg pe_bl (pg_sub (pe_fld (pv 0) rfl) (pv 1) set_list)))), ?_⟩
    refine go_sq ⟨_, rfl, f0, ad.Facts, A0.dx, A0.fs_, 2, _, rfl, fo.ins, fF_no _ _ _ _ _ (by decide) (by decide) (by decide) (by decide) (by decide), by decide, m_is_there, _, rfl, f0, A0, tabs, fs, n, rfl, fo, fun i x e hx => ?_, k2⟩
    subst e
    obtain ⟨ke, kq⟩ := k1 i x rfl hx
    refine ⟨x.2.2, rfl, ?_⟩
    cases hb : x.2.2 with
    | true => exact iteT (ke hb)
    | false =>
      have hi := (List.getElem?_eq_some_iff.mp hx).1
      obtain ⟨fr, fo2⟩ := fo.set i true
      exact iteF (go_next ⟨_, rfl, f0, ad.Facts, A0.dx, A0.fs_, _, rfl, fo.ins, T.c_Facts, T.n_states, fF_st .., _, rfl, A0.st, _, _, i, rfl, rfl, fo.hst, by unfold bls; rw [List.length_map]; exact ixN_n hi, kq (by rw [hb]; decide) _ fr fo2⟩)
theorem ls_inj {t t' : Str} {l : Addr} : ∀ {tabs : Tabs} {ls : List Addr}, ls.Nodup → lsOf tabs ls t = some l → lsOf tabs ls t' = some l → t = t'
  | (n, a) :: r, m :: ls, nd, h1, h2 => by
    obtain ⟨n1, n2⟩ := List.nodup_cons.mp nd
    rw [lsOf] at h1 h2
    by_cases c1 : n = t
    · by_cases c2 : n = t'
      · rw [← c1, c2]
      · rw [if_pos c1] at h1
        rw [if_neg c2] at h2
        cases h1
        exact absurd (ls_mem h2) n1
    · rw [if_neg c1] at h1
      by_cases c2 : n = t'
      · rw [if_pos c2] at h2
        cases h2
        exact absurd (ls_mem h1) n1
      · rw [if_neg c2] at h2
        exact ls_inj n2 h1 h2
  | [], ls, _, h1, _ => by cases ls <;> cases h1
  | _ :: _, [], _, h1, _ => nomatch h1
/-- what a fact's adding is refused for -/
def addE (tabs : Tabs) (fs : List Fac) (t : Str) (ks : List NestedKey) : Option Err := match arOf tabs t with
  | none => some .tab
  | some a => if ks.length ≠ a then some .arg else if .tup [.text t, .tup ks] ∈ keysF fs then some .dup else none
def spAdd (P : Program) (w : World) (ad : Ad) : Sp := fun vs H Q E => ∃ f A tabs fs, ∃ (t : Str) (ks : List NestedKey) (row : V), vs = [.ref f, .str t, row] ∧ FO P w H ad.Facts f A tabs fs ∧ Ky H (.tup ks) row ∧ NestedKey.depthAll ks ≤ 1 ∧ fs.length < 100 ∧
  (∀ e, addE tabs fs t ks = some e → ∀ H', Same H H' → E (.ref (ad.err e)) none H') ∧
  (addE tabs fs t ks = none → ∀ H', FrF A H H' → FO P w H' ad.Facts f A tabs (fs ++ [(t, ks, true)]) → Q (.int (fs.length : Nat)) H')
theorem ok_Facts_add (m_arity : MetX P w K mg base 2 ad.Facts "arity" (spArity P w ad)) {f : Addr} {fd : FuncData} (F : Fun K "add" "Facts.add" s_Facts_add f fd) (T : Txt K mg ad) : FnOk P w K mg base (L2.CX P w) 3 f fd ["self", "table", "row"] (spAdd P w ad) := by
  refine F.okX sc_Facts_add (fun vs H Q E => ?_) (fun cdv A outer s H vs Q E hr h => ?_)
  · walk_at "len"
  ·
    obtain ⟨f0, A0, tabs, fs, t, ks, row, rfl, fo, kr, hd, hl100, ke, kq⟩ := h
    refine ⟨_, (pss_cons (ps_set (i := 3) sc_Facts_add.nd rfl (by first | exact Or.inl rfl | exact Or.inr rfl) (pd_meth hr (takes_of rfl rfl rfl rfl) (pv 0) (pa_cons (pv 1) pa_nil)))
      (pss_cons (ps_if (pt_cmpR op_ne (pe_callB call_len (by rfl) T.z_len (by decide +kernel) (pa_cons (pv 2) pa_nil)) (pv 3) (nomark _)) (pss_one (ps_raise rfl (takes_of rfl rfl rfl rfl) (pmk_own PySem.F.excBase_ValueError T.x_InvalidArgument T.g_InvalidArgument T.k_InvalidArgument (raises_own T.b_InvalidArgument T.t_InvalidArgument) (by rfl)))) pss_nil)
      (pss_cons (ps_if (pt_cmpR (ND.op_inN (ND.hu9 hr)) (pe_tup (pa_cons (pv 1) (pa_cons (pv 2) pa_nil))) (pe_fld (pv 0) rfl) (by rfl)) (pss_one (ps_raise rfl (takes_of rfl rfl rfl rfl) (pmk_own PySem.F.excBase_ValueError T.x_DuplicateFact T.g_DuplicateFact T.k_DuplicateFact (raises_own T.b_DuplicateFact T.t_DuplicateFact) (by rfl)))) pss_nil)
      (pss_cons (ps_set (i := 4) sc_Facts_add.nd rfl (by first | exact Or.inl rfl | exact Or.inr rfl) (pe_callB call_len (by rfl) T.z_len (by decide +kernel) (pa_cons (pe_fld (pv 0) rfl) pa_nil)))
      (pss_cons (ND.ps_nput (ND.hu9 hr) (pe_fld (pv 0) rfl) (pe_tup (pa_cons (pv 1) (pa_cons (pv 2) pa_nil))) (pv 4) rfl)
      (pss_cons (ps_expr (pe_bm PySem.F.plainAttrs_list PySem.F.slot_list_append PySem.F.type_list_append mt_append (pe_fld (pv 0) rfl) (pa_cons (pe_tup (pa_cons (pv 1) (pa_cons (pv 2) pa_nil))) pa_nil)))
      (pss_cons (ps_expr (pe_bm PySem.F.plainAttrs_list PySem.F.slot_list_append PySem.F.type_list_append mt_append (pe_fld (pv 0) rfl) (pa_cons pe_bl pa_nil)))
      (pss_cons (ps_expr (pe_bm PySem.F.plainAttrs_list PySem.F.slot_list_append PySem.F.type_list_append mt_append (pe_dget (hu_of hr) (pe_fld (pv 0) rfl) (pv 1) (fun _ _ => rfl)) (pa_cons (pv 4) pa_nil)))
      (pss_one (ps_ret (pv 4))))))))))), ?_⟩
    obtain ⟨ra, rxs, rfl, er, kx⟩ := ky_tup kr
    have rl : rxs.length = ks.length := (kys_len kx).symm
    refine go_seq ⟨_, rfl, f0, ad.Facts, A0.dx, A0.fs_, 2, _, rfl, fo.ins, fF_no _ _ _ _ _ (by decide) (by decide) (by decide) (by decide) (by decide), by decide, m_arity, _, rfl, f0, A0, tabs, fs, t, rfl, fo, fun a ea => go_name rfl ?_, fun en => ke .tab (by unfold addE; rw [en]) H (Same.refl _)⟩
    refine go_sq ⟨_, rfl, .ref ra, _, rfl, .inr ⟨_, SqT.of er, rfl⟩, _, rfl, rfl, _, rfl, ?_⟩
    rw [rl]
    by_cases c1 : ks.length = a
    · rw [show decide (V.int (ks.length : Int) = V.int (a : Int)) = true from decide_eq_true (by rw [c1])]
      refine iteF (go_nx ?_)
      refine go_sq ⟨_, rfl, _, rfl, (show 2 ≤ sizeLine by decide), fun p hp => ?_⟩
      have s1 := same_new (o := .tup [.str t, .ref ra]) (Same.refl H) hp
      have fo1 := fo.same s1
      have kk1 : Ky (upd H p (.tup [.str t, .ref ra])) (.tup [.text t, .tup ks]) (.ref p) := .tup upd_same (.cons (.str _) (.cons (kr.keeps fun b ys e => s1 _ _ e) .nil))
      generalize upd H p (.tup [.str t, .ref ra]) = H1 at s1 fo1 kk1
      have hv := valV_kvL (.tup [.text t, .tup ks]) (keysF fs) 0
      refine ⟨_, rfl, f0, ad.Facts, A0.dx, A0.fs_, _, rfl, fo1.ins, T.c_Facts, T.n_numbers, fF_nu .., A0.nu, _, rfl, ⟨_, _, p, fo1.hnu.rd, rfl, kk1, fk_dep hd, hv.symm⟩, _, rfl, ?_⟩
      by_cases c2 : NestedKey.tup [.text t, .tup ks] ∈ keysF fs
      · rw [if_pos c2]
        refine iteT (ke .dup ?_ _ s1)
        unfold addE
        rw [ea]
        show (if ks.length ≠ a then some Err.arg else _) = _
        rw [if_neg (fun z => z c1), if_pos c2]
      · rw [if_neg c2]
        refine iteF (go_nx ?_)
        have kq := kq (by unfold addE; rw [ea]; show (if ks.length ≠ a then some Err.arg else _) = _; rw [if_neg (fun z => z c1), if_neg c2])
        obtain ⟨ts, hp1, hk1⟩ := fo1.hpr
        have hl : ts.length = fs.length := by have := kys_len hk1; unfold keysF at this; rw [List.length_map, List.length_map] at this; exact this.symm
        refine go_seq ⟨_, rfl, f0, ad.Facts, A0.dx, A0.fs_, _, rfl, fo1.ins, T.c_Facts, T.n_pairs, fF_pr .., .ref A0.pr, _, rfl, .inl ⟨_, SqL.of hp1, rfl⟩, go_name rfl ?_⟩
        rw [List.length_map, hl]
        refine go_sq ⟨_, rfl, _, rfl, f0, ad.Facts, A0.dx, A0.fs_, _, rfl, fo1.ins, T.c_Facts, T.n_numbers, fF_nu .., _, rfl, _, rfl, (show 2 ≤ sizeLine by decide), fun p2 hp2 => ?_⟩
        have t2 : Same H1 (upd H1 p2 (.tup [.str t, .ref ra])) := same_new (Same.refl _) hp2
        have fo2 := fo1.same t2
        have s2 : Same H (upd H1 p2 (.tup [.str t, .ref ra])) := fun b o e => t2 _ _ (s1 _ _ e)
        have kk2 : Ky (upd H1 p2 (.tup [.str t, .ref ra])) (.tup [.text t, .tup ks]) (.ref p2) := .tup upd_same (.cons (.str _) (.cons (kr.keeps fun b ys e => s2 _ _ e) .nil))
        generalize upd H1 p2 (.tup [.str t, .ref ra]) = H2 at fo2 s2 kk2
        refine ⟨A0.nu, rfl, _, _, p2, fo2.hnu, rfl, kk2, fk_dep hd, by rw [kvL_len, keysF_len]; exact Nat.lt_of_le_of_lt (by omega : _ ≤ 1000) (by decide), fun φ hφ => ?_⟩
        rw [show (fs.length : Int) = ((keysF fs).length : Int) by rw [keysF_len], put_kvL c2, show keysF fs ++ [.tup [.text t, .tup ks]] = keysF (fs ++ [(t, ks, true)]) by unfold keysF; rw [List.map_append]; rfl] at hφ
        obtain ⟨φ0, hφ0⟩ := fo2.hnu.ext
        have s3 : ∀ b o, b ≠ A0.nu → H b = some o → (upd H2 A0.nu (.ext φ)) b = some o := fun b o nb e => by rw [upd_ne nb]; exact s2 _ _ e
        have new2 : ∀ {q u}, H q = some u → (∀ φ, u ≠ .ext φ) → q ≠ A0.nu := fun {q u} e h z => by subst z; rw [s2 _ _ e] at hφ0; exact h _ (Option.some.inj hφ0)
        generalize upd H2 A0.nu (.ext φ) = H3 at hφ s3
        obtain ⟨n1, n2, n3, n4⟩ := fo.nst
        obtain ⟨ts', hpr0, hk0⟩ := fo.hpr
        have hl0 : ts'.length = fs.length := by have := kys_len hk0; unfold keysF at this; rw [List.length_map, List.length_map] at this; exact this.symm
        have npn : A0.pr ≠ A0.nu := new2 hpr0 (fun _ z => nomatch z)
        have nsn : A0.st ≠ A0.nu := new2 fo.hst (fun _ z => nomatch z)
        have hpr3 := s3 _ _ npn hpr0
        have fin3 := s3 _ _ (new2 fo.ins (fun _ z => nomatch z)) fo.ins
        -- pairs
        refine go_nx ?_
        refine go_sq ⟨_, rfl, f0, ad.Facts, A0.dx, A0.fs_, _, rfl, fin3, T.c_Facts, T.n_pairs, fF_pr .., .inl ⟨rfl, _, SqL.of hpr3⟩, _, rfl, _, rfl, (show 2 ≤ sizeLine by decide), fun p3 hp3 => ?_⟩
        have u3 := same_new (o := .tup [.str t, .ref ra]) (Same.refl H3) hp3
        refine ⟨A0.pr, _, _, rfl, rfl, u3 _ _ hpr3, by rw [List.length_map, hl0]; exact Nat.lt_of_le_of_lt (by omega : _ ≤ 1000) (by decide), go_nx ?_⟩
        have s4 : ∀ b o, b ≠ A0.nu → b ≠ A0.pr → H b = some o → (upd (upd H3 p3 (.tup [.str t, .ref ra])) A0.pr (.lst (ts'.map V.ref ++ [.ref p3]))) b = some o := fun b o nb np e => by rw [upd_ne np]; exact u3 _ _ (s3 _ _ nb e)
        have np3 : p3 ≠ A0.pr := (ne_of_none hpr3 hp3).symm
        have hp34 : (upd (upd H3 p3 (.tup [.str t, .ref ra])) A0.pr (.lst (ts'.map V.ref ++ [.ref p3]))) p3 = some (.tup [.str t, .ref ra]) := by rw [upd_ne np3]; exact upd_same
        have hpr4 : (upd (upd H3 p3 (.tup [.str t, .ref ra])) A0.pr (.lst (ts'.map V.ref ++ [.ref p3]))) A0.pr = some (.lst (ts'.map V.ref ++ [.ref p3])) := upd_same
        have tk4 : ∀ b ys, H3 b = some (.tup ys) → (upd (upd H3 p3 (.tup [.str t, .ref ra])) A0.pr (.lst (ts'.map V.ref ++ [.ref p3]))) b = some (.tup ys) := fun b ys e => by rw [upd_ne (ne_of e hpr3 (fun z => nomatch z))]; exact u3 _ _ e
        have nu4 : ND.At P w (upd (upd H3 p3 (.tup [.str t, .ref ra])) A0.pr (.lst (ts'.map V.ref ++ [.ref p3]))) A0.nu (kvL 0 (keysF (fs ++ [(t, ks, true)]))) := hφ.keeps (fun u e => by rw [upd_ne (Ne.symm npn)]; exact u3 _ _ e) tk4
        generalize upd (upd H3 p3 (.tup [.str t, .ref ra])) A0.pr (.lst (ts'.map V.ref ++ [.ref p3])) = H4 at s4 hp34 hpr4 nu4
        -- states
        have hst4 := s4 _ _ nsn (Ne.symm n1) fo.hst
        have fin4 := s4 _ _ (new2 fo.ins (fun _ z => nomatch z)) (ne_of fo.ins hpr0 (fun z => nomatch z)) fo.ins
        refine go_sq ⟨_, rfl, f0, ad.Facts, A0.dx, A0.fs_, _, rfl, fin4, T.c_Facts, T.n_states, fF_st .., .inl ⟨rfl, _, SqL.of hst4⟩, A0.st, _, _, rfl, rfl, hst4, by unfold bls; rw [List.length_map]; exact Nat.lt_of_le_of_lt (by omega : _ ≤ 1000) (by decide), go_nx ?_⟩
        have s5 : ∀ b o, b ≠ A0.nu → b ≠ A0.pr → b ≠ A0.st → H b = some o → (upd H4 A0.st (.lst (bls fs ++ [.bl true]))) b = some o := fun b o nb np ns e => by rw [upd_ne ns]; exact s4 _ _ nb np e
        have np3s : p3 ≠ A0.st := ne_of hp34 hst4 (fun z => nomatch z)
        have hp35 : (upd H4 A0.st (.lst (bls fs ++ [.bl true]))) p3 = some (.tup [.str t, .ref ra]) := by rw [upd_ne np3s]; exact hp34
        have hpr5 : (upd H4 A0.st (.lst (bls fs ++ [.bl true]))) A0.pr = some (.lst (ts'.map V.ref ++ [.ref p3])) := by rw [upd_ne n1]; exact hpr4
        have hst5 : (upd H4 A0.st (.lst (bls fs ++ [.bl true]))) A0.st = some (.lst (bls fs ++ [.bl true])) := upd_same
        have nu5 : ND.At P w (upd H4 A0.st (.lst (bls fs ++ [.bl true]))) A0.nu (kvL 0 (keysF (fs ++ [(t, ks, true)]))) := nu4.keeps (fun u e => by rw [upd_ne (Ne.symm nsn)]; exact e) fun b ys e => by rw [upd_ne (ne_of e hst4 (fun z => nomatch z))]; exact e
        generalize upd H4 A0.st (.lst (bls fs ++ [.bl true])) = H5 at s5 hp35 hpr5 hst5 nu5
        -- in the table
        obtain ⟨l, hlo, hlm⟩ := ls_some fo.lz ea
        have hli := fo.li t l hlo
        have nln : l ≠ A0.nu := new2 hli (fun _ z => nomatch z)
        have hl5 := s5 _ _ nln (n3 l hlm) (n2 l hlm) hli
        have nit : A0.it ≠ A0.nu ∧ A0.it ≠ A0.pr ∧ A0.it ≠ A0.st ∧ A0.it ≠ l := ⟨new2 fo.hit (fun _ z => nomatch z), ne_of fo.hit hpr0 (fun z => nomatch z), ne_of fo.hit fo.hst (fun z => nomatch z), ne_of fo.hit hli (fun z => nomatch z)⟩
        have hit5 := s5 _ _ nit.1 nit.2.1 nit.2.2.1 fo.hit
        have get_ : DGet H5 A0.it (.str t) (some (.ref l)) := by
          have := DGet.k (k := .inr t) hit5
          rw [valV_kvT, hlo] at this
          exact this
        have fin5 := s5 _ _ (new2 fo.ins (fun _ z => nomatch z)) (ne_of fo.ins hpr0 (fun z => nomatch z)) (ne_of fo.ins fo.hst (fun z => nomatch z)) fo.ins
        have inl : (inT t 0 fs).length ≤ fs.length := by
          have : ∀ (fs : List Fac) (n : Nat), (inT t n fs).length ≤ fs.length := fun fs => by
            induction fs with
            | nil => exact fun _ => Nat.le_refl _
            | cons x fs ih =>
              intro n
              rw [inT]
              have := ih (n + 1)
              split <;> simp only [List.length_cons] <;> omega
          exact this fs 0
        refine go_sq ⟨_, rfl, f0, ad.Facts, A0.dx, A0.fs_, _, rfl, fin5, T.c_Facts, T.n_in_table, fF_it .., _, rfl, A0.it, .ref l, rfl, get_, .inl ⟨rfl, _, SqL.of hl5⟩, _, rfl, l, _, _, rfl, rfl, hl5, by rw [List.length_map]; exact Nat.lt_of_le_of_lt (by omega : _ ≤ 1000) (by decide), go_nx (go_ret ⟨_, rfl, ?_⟩)⟩
        have s6 : ∀ b o, b ≠ A0.nu → b ≠ A0.pr → b ≠ A0.st → b ≠ l → H b = some o → (upd H5 l (.lst (nV (inT t 0 fs) ++ [.int (fs.length : Nat)]))) b = some o := fun b o nb np ns nl e => by rw [upd_ne nl]; exact s5 _ _ nb np ns e
        have tk6 : ∀ b ys, H b = some (.tup ys) → (upd H5 l (.lst (nV (inT t 0 fs) ++ [.int (fs.length : Nat)]))) b = some (.tup ys) := fun b ys e => s6 _ _ (new2 e (fun _ z => nomatch z)) (ne_of e hpr0 (fun z => nomatch z)) (ne_of e fo.hst (fun z => nomatch z)) (ne_of e hli (fun z => nomatch z)) e
        refine kq _ (fun b o nb e => s6 _ _ (fun z => nb (.inr (.inr (.inl z)))) (fun z => nb (.inl z)) (fun z => nb (.inr (.inl z))) (fun z => nb (.inr (.inr (.inr (z ▸ hlm))))) e) ?_
        have np3l : p3 ≠ l := ne_of hp35 hl5 (fun z => nomatch z)
        refine ⟨?_, ?_, ⟨ts' ++ [p3], ?_, ?_⟩, ?_, ?_, ?_, fo.lz, fun t' l' h' => ?_, fo.nd, ?_, fun x hx => ?_, by rw [List.length_append, List.length_singleton]; omega, fo.tl⟩
        · exact s6 _ _ (new2 fo.ins (fun _ z => nomatch z)) (ne_of fo.ins hpr0 (fun z => nomatch z)) (ne_of fo.ins fo.hst (fun z => nomatch z)) (ne_of fo.ins hli (fun z => nomatch z)) fo.ins
        · exact s6 _ _ (new2 fo.har (fun _ z => nomatch z)) (ne_of fo.har hpr0 (fun z => nomatch z)) (ne_of fo.har fo.hst (fun z => nomatch z)) (ne_of fo.har hli (fun z => nomatch z)) fo.har
        · rw [upd_ne (Ne.symm (n3 l hlm)), hpr5, List.map_append]; rfl
        · unfold keysF
          rw [List.map_append, List.map_append]
          refine kys_app (hk0.keeps tk6) (.cons (.tup (by rw [upd_ne np3l]; exact hp35) (.cons (.str _) (.cons (kr.keeps tk6) .nil))) .nil)
        · rw [upd_ne (Ne.symm (n2 l hlm)), hst5]
          unfold bls
          rw [List.map_append]; rfl
        · exact nu5.keeps (fun u e => by rw [upd_ne (Ne.symm nln)]; exact e) fun b ys e => by rw [upd_ne (ne_of e hl5 (fun z => nomatch z))]; exact e
        · exact s6 _ _ nit.1 nit.2.1 nit.2.2.1 nit.2.2.2 fo.hit
        · have hm' := ls_mem h'
          rw [inT_app]
          by_cases cl : l' = l
          · subst cl
            obtain rfl := ls_inj n4 hlo h'
            rw [upd_same, if_pos rfl, Nat.zero_add]
            show _ = some (HO.lst (List.map _ _))
            rw [List.map_append]; rfl
          · have ct : ¬ t = t' := fun z => by subst z; rw [hlo] at h'; exact cl (Option.some.inj h').symm
            have hli' := fo.li t' l' h'
            rw [if_neg ct, List.append_nil]
            exact s6 _ _ (new2 hli' (fun _ z => nomatch z)) (n3 l' hm') (n2 l' hm') cl hli'
        · unfold keysF
          rw [List.map_append]
          refine List.nodup_append.mpr ⟨fo.kd, by simp, fun a ha b hb z => c2 ?_⟩
          rw [List.mem_map] at hb
          obtain ⟨y, hy, rfl⟩ := hb
          rw [List.mem_singleton.mp hy] at z
          rw [z] at ha
          exact ha
        · rcases List.mem_append.mp hx with h | h
          · exact fo.dp x h
          · rw [List.mem_singleton.mp h]; exact hd
    · rw [show decide (V.int (ks.length : Int) = V.int (a : Int)) = false from decide_eq_false fun z => c1 (by injection z with z; omega)]
      refine iteT (ke .arg ?_ _ (Same.refl _))
      unfold addE
      rw [ea]
      show (if ks.length ≠ a then some Err.arg else _) = _
      rw [if_pos c1]
end
end K01

set_option Elab.async false
set_option linter.all false
set_option maxRecDepth 100000
set_option maxHeartbeats 4000000
namespace K01
open PySem L2 Ew Tb GxR ND PK
local macro_rules | `(tactic| walk_at "len") => `(tactic| first | (intro h; obtain ⟨_, e, _⟩ := h; rw [e]; rfl) | (intro h; obtain ⟨_, _, e, _⟩ := h; rw [e]; rfl) | (intro h; obtain ⟨_, _, _, e, _⟩ := h; rw [e]; rfl) | (intro h; obtain ⟨_, _, _, _, e, _⟩ := h; rw [e]; rfl) | (intro h; obtain ⟨_, _, _, _, _, e, _⟩ := h; rw [e]; rfl) | (intro h; obtain ⟨_, _, _, _, _, _, e, _⟩ := h; rw [e]; rfl) | (intro h; obtain ⟨_, _, _, _, _, _, _, e, _⟩ := h; rw [e]; rfl) | (intro h; obtain ⟨_, _, _, _, _, _, _, _, e, _⟩ := h; rw [e]; rfl) | (intro h; obtain ⟨_, _, _, _, _, _, _, _, _, e, _⟩ := h; rw [e]; rfl) | (intro h; obtain ⟨_, _, _, _, _, _, _, _, _, _, e, _⟩ := h; rw [e]; rfl) | (intro h; obtain ⟨_, _, _, _, _, _, _, _, _, _, _, e, _⟩ := h; rw [e]; rfl) | (intro h; obtain ⟨_, _, _, _, _, _, _, _, _, _, _, _, e, _⟩ := h; rw [e]; rfl) | (intro h; obtain ⟨_, _, _, _, _, _, _, _, _, _, _, _, _, e, _⟩ := h; rw [e]; rfl))
local macro_rules | `(tactic| walk_at "len") => `(tactic| first | (intro h; obtain ⟨_, _, _, _, _, _, _, _, e, _⟩ := h; rw [e]; rfl) | (intro h; obtain ⟨_, _, _, _, _, _, _, _, _, e, _⟩ := h; rw [e]; rfl) | (intro h; obtain ⟨_, _, _, _, _, _, _, _, _, _, e, _⟩ := h; rw [e]; rfl) | (intro h; obtain ⟨_, _, _, _, _, _, _, _, _, _, _, e, _⟩ := h; rw [e]; rfl) | (intro h; obtain ⟨_, _, _, _, _, _, _, _, _, _, _, _, e, _⟩ := h; rw [e]; rfl) | (intro h; obtain ⟨_, _, _, _, _, _, _, _, _, _, _, _, _, e, _⟩ := h; rw [e]; rfl) | (intro h; obtain ⟨_, _, _, _, _, _, _, _, _, _, _, _, _, _, e, _⟩ := h; rw [e]; rfl) | (intro h; obtain ⟨_, _, _, _, _, _, _, _, _, _, _, _, _, _, _, e, _⟩ := h; rw [e]; rfl) | (intro h; obtain ⟨_, _, _, _, _, _, _, _, _, _, _, _, _, _, _, _, e, _⟩ := h; rw [e]; rfl) | (intro h; obtain ⟨_, _, _, _, _, _, _, _, _, _, _, _, _, _, _, _, _, e, _⟩ := h; rw [e]; rfl))
section
variable {P : Program} {w : World} {K : PySem.W.Frag} {mg : Str → Option Value} {base : Heap} {ad : Ad}
def letOk (c : Nat) : Bool := !decide ([c] < ("a" : Str).cps.toList) && !decide (("z" : Str).cps.toList < [c])
def nameOk (x : Str) : Bool := decide (1 ≤ x.length) && decide (x.length ≤ 12) && x.cps.toList.all letOk
def spIsName (PP : Addr) : Sp := fun vs H Q _ => ∃ x : Str, vs = [.str x] ∧ x.length ≤ 1000 ∧ TabG H PP ∧ ∀ H', FrT H H' → Q (.bl (nameOk x)) H'
theorem ok_is_name  {f cc PP : Addr} {fd : FuncData} (F : FunC K "is_name" "is_name" s_is_name f fd cc) (TB : GxR.TabB base mg cc PP) (T : Txt K mg ad) : FnOk P w K mg base (L2.CX P w) 2 f fd ["thing"] (spIsName PP) := by
  refine F.okX sc_is_name (fun vs H Q E => ?_) (fun A outer s H vs Q E hr h => ?_)
  · walk_at "len"
  ·
    obtain ⟨x, rfl, xl, tg, k⟩ := h
    refine ⟨_, (pss_cons (ps_if (PW.pt (pw_or (pt_not (pt_val (pe_callB call_isi (by rfl) T.z_isinstance (by decide +kernel) (pa_cons (pv 0) (pa_cons (pe_bltn (v := .ty "str") (by rfl) T.z_str (by decide +kernel) rfl) pa_nil))))) (pw_or1 (pt_not (pt_chain op_le op_le pe_int (pe_callB call_len (by rfl) T.z_len (by decide +kernel) (pa_cons (pv 0) pa_nil)) (pe_gint (by rfl) T.g_LONGEST_NAME)))))) (pss_one (ps_ret pe_bl)) pss_nil)
      (pss_one (ps_ret (EwG.pe_all (own := [("letter", 1)]) hr (by rfl) T.z_all TB rfl sc_is_name.nd (blkOk_by (by kernel_rfl)) (by decide +kernel) rfl rfl (pi_str (pv 0)) (fun _ _ _ _ _ _ _ => (pg_name (i := 1) sc_is_name.nd rfl (by first | exact Or.inl rfl | exact Or.inr rfl))) (fun _ _ _ _ _ _ _ hr => (pe_chain op_le_str op_le_str pe_str (pv 1) pe_str)))))), ?_⟩
    refine go_sq ⟨_, rfl, _, _, _, _, true, rfl, .ty _, .base (.str x), kit_ty (by decide +kernel), true, rfl, ?_⟩
    refine iteF ?_
    refine ⟨_, rfl, .str x, _, rfl, ⟨Nat.le_trans xl (by decide), rfl⟩, _, _, rfl, rfl, _, rfl, ?_⟩
    have kf : nameOk x = false → Q (.bl false) H := fun z => z ▸ k H (FrT.refl _)
    refine ite2 (fun c1 => ?_) (fun c1 => ?_)
    · obtain ⟨tl, htl⟩ := T.g_LONGEST_NAME
      refine ⟨_, _, rfl, rfl, _, rfl, ?_⟩
      by_cases c2 : x.length ≤ 12
      · rw [decide_eq_true (show ((x.length : Nat) : Int) ≤ 12 by omega)]
        refine iteF (go_next ?_)
        refine ⟨_, rfl, x, rfl, tg, fun H2 htb => ?_⟩
        have f2 := FrT.tab tg htb
        have at_ : ∀ (i c : Nat), x.cps[i]? = some c → x.cps.toList.getD i 0 = c := fun i c h => by
          rw [List.getD_eq_getElem?_getD, Array.getElem?_toList, h]; rfl
        have kk := k H2 f2
        have hn : nameOk x = x.cps.toList.all letOk := by
          unfold nameOk
          rw [decide_eq_true (show 1 ≤ x.length by have := of_decide_eq_true c1; omega), decide_eq_true c2]; rfl
        rw [hn] at kk
        refine gwb_str (fun i => letOk (x.cps.toList.getD i 0)) (fun _ => rfl) (fun i c Kt hc kt => ?_) (fun hall => ?_) (fun i hi hb => ?_)
        · have hg := at_ i c hc
          rw [hg] at kt
          refine ⟨_, rfl, _, _, rfl, rfl, _, rfl, ?_⟩
          refine ite2 (fun d1 => ?_) (fun d1 => ?_)
          · refine ⟨_, _, rfl, rfl, ?_⟩
            rw [show letOk c = (!decide (("z" : Str).cps.toList < [c])) by unfold letOk; rw [show (!decide ([c] < ("a" : Str).cps.toList)) = true from d1]; rfl] at kt
            exact kt
          · rw [show letOk c = false by unfold letOk; rw [show (!decide ([c] < ("a" : Str).cps.toList)) = false from by simpa using d1]; rfl] at kt
            exact kt
        · rw [show x.cps.toList.all letOk = true from List.all_eq_true.mpr fun c hc => by
            obtain ⟨i, hi⟩ := List.getElem?_of_mem hc
            have hlt := (List.getElem?_eq_some_iff.mp hi).1
            have := hall i (by simpa using hlt)
            rw [List.getD_eq_getElem?_getD, hi] at this
            exact this] at kk
          exact kk
        · rw [show x.cps.toList.all letOk = false from by
            refine Bool.eq_false_iff.mpr fun z => ?_
            have hlt : i < x.cps.toList.length := by simpa using hi
            have h1 := List.all_eq_true.mp z _ (List.getElem_mem hlt)
            rw [List.getD_eq_getElem?_getD, List.getElem?_eq_getElem hlt] at hb
            rw [show letOk x.cps.toList[i] = !true from hb] at h1
            cases h1] at kk
          exact kk
      · rw [decide_eq_false (show ¬ ((x.length : Nat) : Int) ≤ 12 by omega)]
        exact iteT (kf (by unfold nameOk; rw [decide_eq_false c2, Bool.and_false]; rfl))
    · exact ⟨_, rfl, iteT (kf (by unfold nameOk; rw [decide_eq_false (fun z => c1 (decide_eq_true (by omega)))]; rfl))⟩
def spIsInt : Sp := fun vs H Q _ => ∃ v, vs = [v] ∧ ((∃ i, v = .int i ∧ Q (.bl true) H) ∨ (∃ x, v = .str x ∧ Q (.bl false) H) ∨ (∃ b, v = .bl b ∧ Q (.bl false) H) ∨ (v = .non ∧ Q (.bl false) H) ∨ (∃ p xs, v = .ref p ∧ H p = some (.tup xs) ∧ Q (.bl false) H) ∨ (∃ p xs, v = .ref p ∧ H p = some (.lst xs) ∧ Q (.bl false) H))
theorem ok_is_integer  {f : Addr} {fd : FuncData} (F : Fun K "is_integer" "is_integer" s_is_integer f fd) (T : Txt K mg ad) : FnOk P w K mg base (L2.CX P w) 1 f fd ["thing"] (spIsInt) := by
  refine F.okX sc_is_integer (fun vs H Q E => ?_) (fun cdv A outer s H vs Q E hr h => ?_)
  · walk_at "len"
  ·
    obtain ⟨v, rfl, h⟩ := h
    refine ⟨_, (pss_one (ps_ret (pe_and (pe_callB call_isi (by rfl) T.z_isinstance (by decide +kernel) (pa_cons (pv 0) (pa_cons (pe_bltn (v := .ty "int") (by rfl) T.z_int (by decide +kernel) rfl) pa_nil))) (pe_one (pe_not (pe_callB call_isi (by rfl) T.z_isinstance (by decide +kernel) (pa_cons (pv 0) (pa_cons (pe_bltn (v := .ty "bool") (by rfl) T.z_bool (by decide +kernel) rfl) pa_nil)))))))), ?_⟩
    rcases h with ⟨i, rfl, k⟩ | ⟨x, rfl, k⟩ | ⟨b, rfl, k⟩ | ⟨rfl, k⟩ | ⟨p, xs, rfl, e, k⟩ | ⟨p, xs, rfl, e, k⟩
    · refine ⟨_, rfl, _, _, _, _, true, rfl, .ty _, .base (.int i), kit_ty (by decide +kernel), true, rfl, iteT ?_⟩
      exact ⟨_, rfl, _, _, _, _, false, rfl, .ty _, .base (.int i), kit_ty (by decide +kernel), false, rfl, k⟩
    · exact ⟨_, rfl, _, _, _, _, false, rfl, .ty _, .base (.str x), kit_ty (by decide +kernel), false, rfl, iteF k⟩
    · refine ⟨_, rfl, _, _, _, _, true, rfl, .ty _, .base (.bl b), kit_ty (by decide +kernel), true, rfl, iteT ?_⟩
      exact ⟨_, rfl, _, _, _, _, true, rfl, .ty _, .base (.bl b), kit_ty (by decide +kernel), true, rfl, k⟩
    · exact ⟨_, rfl, _, _, _, _, false, rfl, .ty _, .base .non, kit_ty (by decide +kernel), false, rfl, iteF k⟩
    · exact ⟨_, rfl, _, _, _, _, false, rfl, .ty _, .base (.tup e), kit_ty (by decide +kernel), false, rfl, iteF k⟩
    · exact ⟨_, rfl, _, _, _, _, false, rfl, .ty _, .base (.lst e), kit_ty (by decide +kernel), false, rfl, iteF k⟩
theorem ok_law_is_int  {f : Addr} {fd : FuncData} (F : Fun K "_law_is_int" "_law_is_int" s_law_is_int f fd) (T : Txt K mg ad) : FnOk P w K mg base (L2.CX P w) 1 f fd ["value"] (spIsInt) := by
  refine F.okX sc_law_is_int (fun vs H Q E => ?_) (fun cdv A outer s H vs Q E hr h => ?_)
  · walk_at "len"
  ·
    obtain ⟨v, rfl, h⟩ := h
    refine ⟨_, (pss_one (ps_ret (pe_and (pe_callB call_isi (by rfl) T.z_isinstance (by decide +kernel) (pa_cons (pv 0) (pa_cons (pe_bltn (v := .ty "int") (by rfl) T.z_int (by decide +kernel) rfl) pa_nil))) (pe_one (pe_not (pe_callB call_isi (by rfl) T.z_isinstance (by decide +kernel) (pa_cons (pv 0) (pa_cons (pe_bltn (v := .ty "bool") (by rfl) T.z_bool (by decide +kernel) rfl) pa_nil)))))))), ?_⟩
    rcases h with ⟨i, rfl, k⟩ | ⟨x, rfl, k⟩ | ⟨b, rfl, k⟩ | ⟨rfl, k⟩ | ⟨p, xs, rfl, e, k⟩ | ⟨p, xs, rfl, e, k⟩
    · refine ⟨_, rfl, _, _, _, _, true, rfl, .ty _, .base (.int i), kit_ty (by decide +kernel), true, rfl, iteT ?_⟩
      exact ⟨_, rfl, _, _, _, _, false, rfl, .ty _, .base (.int i), kit_ty (by decide +kernel), false, rfl, k⟩
    · exact ⟨_, rfl, _, _, _, _, false, rfl, .ty _, .base (.str x), kit_ty (by decide +kernel), false, rfl, iteF k⟩
    · refine ⟨_, rfl, _, _, _, _, true, rfl, .ty _, .base (.bl b), kit_ty (by decide +kernel), true, rfl, iteT ?_⟩
      exact ⟨_, rfl, _, _, _, _, true, rfl, .ty _, .base (.bl b), kit_ty (by decide +kernel), true, rfl, k⟩
    · exact ⟨_, rfl, _, _, _, _, false, rfl, .ty _, .base .non, kit_ty (by decide +kernel), false, rfl, iteF k⟩
    · exact ⟨_, rfl, _, _, _, _, false, rfl, .ty _, .base (.tup e), kit_ty (by decide +kernel), false, rfl, iteF k⟩
    · exact ⟨_, rfl, _, _, _, _, false, rfl, .ty _, .base (.lst e), kit_ty (by decide +kernel), false, rfl, iteF k⟩
def spIsBet : Sp := fun vs H Q _ => ∃ i lo hi : Int, vs = [.int i, .int lo, .int hi] ∧ Q (.bl (decide (lo ≤ i ∧ i ≤ hi))) H
theorem ok_is_between (c_is_integer : CalX P w K mg base 1 "is_integer" spIsInt) {f : Addr} {fd : FuncData} (F : Fun K "is_between" "is_between" s_is_between f fd) (T : Txt K mg ad) : FnOk P w K mg base (L2.CX P w) 2 f fd ["thing", "low", "high"] (spIsBet) := by
  refine F.okX sc_is_between (fun vs H Q E => ?_) (fun cdv A outer s H vs Q E hr h => ?_)
  · walk_at "len"
  ·
    obtain ⟨i, lo, hi, rfl, k⟩ := h
    refine ⟨_, (pss_one (ps_ret (pe_and (pc_call c_is_integer hr (by first | decide | omega) (takes_of rfl rfl rfl rfl) (by rfl) (pa_cons (pv 0) pa_nil)) (pe_one (pe_chain op_le op_le (pv 1) (pv 0) (pv 2)))))), ?_⟩
    refine ⟨_, rfl, _, rfl, .inl ⟨i, rfl, true, rfl, iteT ?_⟩⟩
    refine ⟨_, rfl, _, rfl, _, _, rfl, rfl, _, rfl, ?_⟩
    refine ite2 (fun c1 => ?_) (fun c1 => ?_)
    · have c1' : lo ≤ i := by simpa using c1
      refine ⟨_, rfl, _, _, rfl, rfl, ?_⟩
      rw [show decide (lo ≤ i ∧ i ≤ hi) = decide (i ≤ hi) by simp [c1']] at k
      exact k
    · have c1' : ¬ lo ≤ i := by simpa using c1
      rw [show decide (lo ≤ i ∧ i ≤ hi) = false by simp [c1']] at k
      exact k
end
end K01

set_option Elab.async false
set_option linter.all false
set_option maxRecDepth 100000
set_option maxHeartbeats 4000000
namespace K01
open PySem L2 Ew Tb GxR ND PK
local macro_rules | `(tactic| walk_at "len") => `(tactic| first | (intro h; obtain ⟨_, e, _⟩ := h; rw [e]; rfl) | (intro h; obtain ⟨_, _, e, _⟩ := h; rw [e]; rfl) | (intro h; obtain ⟨_, _, _, e, _⟩ := h; rw [e]; rfl) | (intro h; obtain ⟨_, _, _, _, e, _⟩ := h; rw [e]; rfl) | (intro h; obtain ⟨_, _, _, _, _, e, _⟩ := h; rw [e]; rfl) | (intro h; obtain ⟨_, _, _, _, _, _, e, _⟩ := h; rw [e]; rfl) | (intro h; obtain ⟨_, _, _, _, _, _, _, e, _⟩ := h; rw [e]; rfl) | (intro h; obtain ⟨_, _, _, _, _, _, _, _, e, _⟩ := h; rw [e]; rfl) | (intro h; obtain ⟨_, _, _, _, _, _, _, _, _, e, _⟩ := h; rw [e]; rfl) | (intro h; obtain ⟨_, _, _, _, _, _, _, _, _, _, e, _⟩ := h; rw [e]; rfl) | (intro h; obtain ⟨_, _, _, _, _, _, _, _, _, _, _, e, _⟩ := h; rw [e]; rfl) | (intro h; obtain ⟨_, _, _, _, _, _, _, _, _, _, _, _, e, _⟩ := h; rw [e]; rfl) | (intro h; obtain ⟨_, _, _, _, _, _, _, _, _, _, _, _, _, e, _⟩ := h; rw [e]; rfl))
local macro_rules | `(tactic| walk_at "len") => `(tactic| first | (intro h; obtain ⟨_, _, _, _, _, _, _, _, e, _⟩ := h; rw [e]; rfl) | (intro h; obtain ⟨_, _, _, _, _, _, _, _, _, e, _⟩ := h; rw [e]; rfl) | (intro h; obtain ⟨_, _, _, _, _, _, _, _, _, _, e, _⟩ := h; rw [e]; rfl) | (intro h; obtain ⟨_, _, _, _, _, _, _, _, _, _, _, e, _⟩ := h; rw [e]; rfl) | (intro h; obtain ⟨_, _, _, _, _, _, _, _, _, _, _, _, e, _⟩ := h; rw [e]; rfl) | (intro h; obtain ⟨_, _, _, _, _, _, _, _, _, _, _, _, _, e, _⟩ := h; rw [e]; rfl) | (intro h; obtain ⟨_, _, _, _, _, _, _, _, _, _, _, _, _, _, e, _⟩ := h; rw [e]; rfl) | (intro h; obtain ⟨_, _, _, _, _, _, _, _, _, _, _, _, _, _, _, e, _⟩ := h; rw [e]; rfl) | (intro h; obtain ⟨_, _, _, _, _, _, _, _, _, _, _, _, _, _, _, _, e, _⟩ := h; rw [e]; rfl) | (intro h; obtain ⟨_, _, _, _, _, _, _, _, _, _, _, _, _, _, _, _, _, e, _⟩ := h; rw [e]; rfl))
section
variable {P : Program} {w : World} {K : PySem.W.Frag} {mg : Str → Option Value} {base : Heap} {ad : Ad}
def okZ (z : Str × Int) : Bool := nameOk z.1 && decide (1 ≤ z.2 ∧ z.2 ≤ 4)
def goodZ (zs : List (Str × Int)) : Prop := ∀ (i : Nat) (z : Str × Int), zs[i]? = some z → okZ z = true ∧ ¬ z.1 ∈ (zs.take i).map Prod.fst
def kvI (zs : List (Str × Int)) : List (Key × V) := zs.map fun x => (.inr x.1, V.int x.2)
theorem valV_kvI (t : Str) : ∀ zs : List (Str × Int), (valV (kvI zs) (.inr t)).isSome = decide (t ∈ zs.map Prod.fst)
  | [] => rfl
  | (n, a) :: r => by
    have e : kvI ((n, a) :: r) = (.inr n, .int a) :: kvI r := rfl
    rw [e]
    by_cases c : n = t
    · subst c; rw [valV_pos rfl, decide_eq_true (show n ∈ ((n, a) :: r).map Prod.fst from List.mem_cons_self ..)]; rfl
    · rw [valV_neg (fun z => c (by injection z)), valV_kvI t r]
      refine decide_eq_decide.mpr ⟨fun h => List.mem_cons_of_mem _ h, fun h => ?_⟩
      rcases List.mem_cons.mp h with h | h
      · exact absurd h.symm c
      · exact h
theorem put_kvI {zs : List (Str × Int)} {z : Str × Int} (h : ¬ z.1 ∈ zs.map Prod.fst) : putK (kvI zs) (.inr z.1) (.int z.2) = kvI (zs ++ [z]) := by
  have := valV_kvI z.1 zs
  rw [decide_eq_false h] at this
  rw [putK_new _ (Option.not_isSome_iff_eq_none.mp (by rw [this]; decide))]
  unfold kvI
  rw [List.map_append]; rfl
def TabsAt (H : Hp) (zs : List (Str × Int)) (xs : List V) : Prop := xs.length = zs.length ∧ ∀ (i : Nat) (z : Str × Int), zs[i]? = some z → ∃ q, xs[i]? = some (V.ref q) ∧ H q = some (.tup [V.str z.1, V.int z.2])
theorem frT_off {H H' : Hp} {x : Addr} {o : HO} (f : FrT H H') (h : H x = none) (ht : ∀ ps, H' x ≠ some (.tbl ps)) : FrT H (upd H' x o) := by
  refine ⟨fun b u e n => ?_, fun P t => ?_⟩
  · rw [upd_ne (fun (z : b = x) => by rw [z, h] at e; cases e)]
    exact f.keep b u e n
  · obtain ⟨ps, e, t⟩ := f.tabs P t
    refine ⟨ps, ?_, t⟩
    rw [upd_ne (fun (z : P = x) => ht ps (by rw [← z]; exact e))]
    exact e
def spChecked (ad : Ad) (PP : Addr) : Sp := fun vs H Q E => ∃ t xs, ∃ zs : List (Str × Int), vs = [V.ref t] ∧ H t = some (.lst xs) ∧ TabsAt H zs xs ∧ zs.length ≤ 10 ∧ (∀ z : Str × Int, z ∈ zs → z.1.length ≤ 1000) ∧ TabG H PP ∧
  (goodZ zs → ∀ H' d, FrT H H' → H d = none → H' d = some (.dK (kvI zs)) → Q (.ref d) H') ∧ (¬ goodZ zs → ∀ H', FrT H H' → E (.ref ad.InvalidArgument) none H')
theorem ok_checked (c_is_name : CalX P w K mg base 2 "is_name" (spIsName PP)) (c_is_between : CalX P w K mg base 2 "is_between" spIsBet) {f : Addr} {fd : FuncData} (F : Fun K "_checked" "_checked" s_checked f fd) (T : Txt K mg ad) : FnOk P w K mg base (L2.CX P w) 3 f fd ["tables"] (spChecked ad PP) := by
  refine F.okX sc_checked (fun vs H Q E => ?_) (fun cdv A outer s H vs Q E hr h => ?_)
  · walk_at "len"
  ·
    obtain ⟨t, xs, zs, rfl, ht, ta, zl, zx, tg, kq, ke⟩ := h
    refine ⟨_, (pss_cons (ps_set (i := 1) sc_checked.nd rfl (by first | exact Or.inl rfl | exact Or.inr rfl) pe_dnewK)
      (pss_cons (ps_for (passes_of rfl) rfl (pi_list (pv 0)) (pg_tup rfl (pgs_cons (pg_name (i := 2) sc_checked.nd rfl (by first | exact Or.inl rfl | exact Or.inr rfl)) (pgs_cons (pg_name (i := 3) sc_checked.nd rfl (by first | exact Or.inl rfl | exact Or.inr rfl)) pgs_nil))) (pss_cons (ps_if (PW.pt (pw_or (pt_not (pt_val (pc_call c_is_name hr (by first | decide | omega) (takes_of rfl rfl rfl rfl) (by rfl) (pa_cons (pv 2) pa_nil)))) (pw_or1 (pt_cmpR (op_inD (hu_of hr)) (pv 2) (pv 1) (by rfl))))) (pss_one (ps_raise rfl (takes_of rfl rfl rfl rfl) (pmk_own PySem.F.excBase_ValueError T.x_InvalidArgument T.g_InvalidArgument T.k_InvalidArgument (raises_own T.b_InvalidArgument T.t_InvalidArgument) (by rfl)))) pss_nil)
      (pss_cons (ps_if (pt_not (pt_val (pc_call c_is_between hr (by first | decide | omega) (takes_of rfl rfl rfl rfl) (by rfl) (pa_cons (pv 3) (pa_cons pe_int (pa_cons (pe_gint (by rfl) T.g_LARGEST_ARITY) pa_nil)))))) (pss_one (ps_raise rfl (takes_of rfl rfl rfl rfl) (pmk_own PySem.F.excBase_ValueError T.x_InvalidArgument T.g_InvalidArgument T.k_InvalidArgument (raises_own T.b_InvalidArgument T.t_InvalidArgument) (by rfl)))) pss_nil)
      (pss_one (ps_dput (hu_of hr) (pv 1) (pv 2) (pv 3) rfl)))))
      (pss_one (ps_ret (pv 1))))), ?_⟩
    refine go_seq (fun d hd => go_name rfl ?_)
    have s1 : Same H (upd H d (.dK [])) := same_new (Same.refl _) hd
    refine go_sq ?_
    refine ⟨_, rfl, t, rfl, ⟨_, SqL.of (s1 _ _ ht)⟩, ?_⟩
    have f1 := FrT.of s1
    refine for_list (K := K) (a := t) (xs := xs) (fun i σ H' => ∃ v2 v3, σ = [some (.ref t), some (.ref d), v2, v3] ∧ FrT H H' ∧ H' d = some (.dK (kvI (zs.take i))) ∧ ∀ j z, j < i → zs[j]? = some z → okZ z = true ∧ ¬ z.1 ∈ (zs.take j).map Prod.fst)
      ⟨none, none, rfl, f1, upd_same, fun _ _ h => absurd h (Nat.not_lt_zero _)⟩ (fun i σ H' _ ⟨_, _, _, f, _⟩ => SqL.of (f.lst ht)) ?_ ?_
    · rintro i y σ H1 hy ⟨v2, v3, rfl, f2, ed, ok⟩
      have hi : i < zs.length := by rw [← ta.1]; exact (List.getElem?_eq_some_iff.mp hy).1
      obtain ⟨z, hz⟩ : ∃ z, zs[i]? = some z := ⟨_, List.getElem?_eq_getElem hi⟩
      obtain ⟨q, hq, eq⟩ := ta.2 i z hz
      rw [hy] at hq
      cases hq
      have hzm : z ∈ zs := List.mem_of_getElem? hz
      have bad : ¬ (okZ z = true ∧ ¬ z.1 ∈ (zs.take i).map Prod.fst) → ¬ goodZ zs := fun h g => h (g i z hz)
      have hlt : (zs.take i).length ≤ i := List.length_take_le i zs
      refine ⟨q, _, rfl, SqT.of (f2.tup eq), rfl, _, _, rfl, go_name rfl ⟨_, _, rfl, go_name rfl ⟨rfl, ?_⟩⟩⟩
      refine go_sq ⟨_, rfl, z.1, rfl, zx z hzm, f2.tabs _ tg, fun H2 f3 => ⟨_, rfl, ?_⟩⟩
      have f4 := f2.trans f3
      have ed2 := f3.keep _ _ ed (fun ps z => nomatch z)
      cases hn : nameOk z.1 with
      | false => exact iteT (iteT (ke (bad fun g => by unfold okZ at g; rw [hn] at g; exact Bool.false_ne_true g.1) _ f4))
      | true =>
        refine iteF ⟨_, rfl, _, rfl, d, _, rfl, DGet.k (k := .inr z.1) ed2, ?_⟩
        rw [valV_kvI]
        by_cases c1 : z.1 ∈ (zs.take i).map Prod.fst
        · rw [decide_eq_true c1]
          exact ⟨_, rfl, iteT (ke (bad fun g => g.2 c1) _ f4)⟩
        · rw [decide_eq_false c1]
          refine ⟨_, rfl, iteF (go_nx (go_sq ⟨_, rfl, z.2, 1, 4, rfl, _, rfl, ?_⟩))⟩
          by_cases c2 : 1 ≤ z.2 ∧ z.2 ≤ 4
          · rw [decide_eq_true c2]
            refine iteF (go_nx ⟨_, rfl, _, rfl, _, rfl, d, _, rfl, DPut.k (k := .inr z.1) ed2 ?_, ?_⟩)
            · unfold kvI
              rw [List.length_map]
              exact Nat.lt_of_le_of_lt (by omega : _ ≤ 1000) (by decide)
            · have f5 : FrT H (upd H2 d (.dK (putK (kvI (zs.take i)) (.inr z.1) (.int z.2)))) := frT_off f4 hd (fun ps e => by rw [ed2] at e; cases e)
              refine ⟨_, _, rfl, f5, ?_, fun j z' hj hz' => ?_⟩
              · rw [upd_same, put_kvI c1, List.take_add_one, hz]; rfl
              · rcases Nat.lt_or_ge j i with h | h
                · exact ok j z' h hz'
                · obtain rfl : j = i := by omega
                  rw [hz] at hz'
                  cases hz'
                  exact ⟨by unfold okZ; rw [hn, decide_eq_true c2]; rfl, c1⟩
          · rw [decide_eq_false c2]
            exact iteT (ke (bad fun g => by have := g.1; unfold okZ at this; rw [decide_eq_false c2, Bool.and_false] at this; cases this) _ f4)
    · rintro σ H1 ⟨v2, v3, rfl, f2, ed, ok⟩
      have el : xs.length = zs.length := ta.1
      rw [el, List.take_length] at ed
      refine go_nx (go_ret ⟨_, rfl, kq (fun i z hz => ok i z (by rw [el]; exact (List.getElem?_eq_some_iff.mp hz).1) hz) _ d f2 hd ed⟩)
end
end K01

set_option Elab.async false
set_option linter.all false
set_option maxRecDepth 100000
set_option maxHeartbeats 4000000
namespace K01
open PySem L2 Ew Tb GxR ND PK
local macro_rules | `(tactic| walk_at "len") => `(tactic| first | (intro h; obtain ⟨_, e, _⟩ := h; rw [e]; rfl) | (intro h; obtain ⟨_, _, e, _⟩ := h; rw [e]; rfl) | (intro h; obtain ⟨_, _, _, e, _⟩ := h; rw [e]; rfl) | (intro h; obtain ⟨_, _, _, _, e, _⟩ := h; rw [e]; rfl) | (intro h; obtain ⟨_, _, _, _, _, e, _⟩ := h; rw [e]; rfl) | (intro h; obtain ⟨_, _, _, _, _, _, e, _⟩ := h; rw [e]; rfl) | (intro h; obtain ⟨_, _, _, _, _, _, _, e, _⟩ := h; rw [e]; rfl) | (intro h; obtain ⟨_, _, _, _, _, _, _, _, e, _⟩ := h; rw [e]; rfl) | (intro h; obtain ⟨_, _, _, _, _, _, _, _, _, e, _⟩ := h; rw [e]; rfl) | (intro h; obtain ⟨_, _, _, _, _, _, _, _, _, _, e, _⟩ := h; rw [e]; rfl) | (intro h; obtain ⟨_, _, _, _, _, _, _, _, _, _, _, e, _⟩ := h; rw [e]; rfl) | (intro h; obtain ⟨_, _, _, _, _, _, _, _, _, _, _, _, e, _⟩ := h; rw [e]; rfl) | (intro h; obtain ⟨_, _, _, _, _, _, _, _, _, _, _, _, _, e, _⟩ := h; rw [e]; rfl))
local macro_rules | `(tactic| walk_at "len") => `(tactic| first | (intro h; obtain ⟨_, _, _, _, _, _, _, _, e, _⟩ := h; rw [e]; rfl) | (intro h; obtain ⟨_, _, _, _, _, _, _, _, _, e, _⟩ := h; rw [e]; rfl) | (intro h; obtain ⟨_, _, _, _, _, _, _, _, _, _, e, _⟩ := h; rw [e]; rfl) | (intro h; obtain ⟨_, _, _, _, _, _, _, _, _, _, _, e, _⟩ := h; rw [e]; rfl) | (intro h; obtain ⟨_, _, _, _, _, _, _, _, _, _, _, _, e, _⟩ := h; rw [e]; rfl) | (intro h; obtain ⟨_, _, _, _, _, _, _, _, _, _, _, _, _, e, _⟩ := h; rw [e]; rfl) | (intro h; obtain ⟨_, _, _, _, _, _, _, _, _, _, _, _, _, _, e, _⟩ := h; rw [e]; rfl) | (intro h; obtain ⟨_, _, _, _, _, _, _, _, _, _, _, _, _, _, _, e, _⟩ := h; rw [e]; rfl) | (intro h; obtain ⟨_, _, _, _, _, _, _, _, _, _, _, _, _, _, _, _, e, _⟩ := h; rw [e]; rfl) | (intro h; obtain ⟨_, _, _, _, _, _, _, _, _, _, _, _, _, _, _, _, _, e, _⟩ := h; rw [e]; rfl))
section
variable {P : Program} {w : World} {K : PySem.W.Frag} {mg : Str → Option Value} {base : Heap} {ad : Ad}
theorem dc_keys {d : Addr} {o : Obj} {kvs0 : List (Key × V)} {g : TG} {tt : TT} {tk tv : TE} {vs : List Nat} {σ : L2.St} {H1 : Hp} {D : Addr} {Qd : Hp → Prop} (Pv : Nat → Hp → Prop) (h0 : Pv 0 (upd H1 D (.dK []))) (hl : ∀ i H, i ≤ kvs0.length → Pv i H → H d = some (.frz o (.dK kvs0)))
    (hs : ∀ i k v H, kvs0[i]? = some (k, v) → Pv i H → g (kV k) (wipe σ vs) H fun σ2 H2 => wipe σ2 vs = wipe σ vs ∧ tt σ2 H2 fun b H3 =>
      if b = true then tk σ2 H3 fun y H4 => tv σ2 H4 fun z H5 => ∃ kvs k, y = kV k ∧ H5 D = some (.dK kvs) ∧ kvs.length < sizeLine ∧ Pv (i + 1) (upd H5 D (.dK (putK kvs k z))) else Pv (i + 1) H3) (hd : ∀ H, Pv kvs0.length H → Qd H) :
    ∃ W : Nat → Nat → Hp → Prop, (∃ m, W 0 m (upd H1 D (.dK []))) ∧ ∀ i m H, W i m H →
      ((Itk d o kvs0).stop i H ∧ Qd H) ∨ ((Itk d o kvs0).go i H ∧ ∃ Nx : Hp → Prop, (∀ H', Nx H' → ∃ m', m' < m ∧ W (i + 1) m' H') ∧ ∀ x H', (Itk d o kvs0).yld i H x H' → g x (wipe σ vs) H' fun σ2 H2 => wipe σ2 vs = wipe σ vs ∧ tt σ2 H2 fun b H3 =>
        if b = true then tk σ2 H3 fun y H4 => tv σ2 H4 fun z H5 => ∃ kvs k, y = kV k ∧ H5 D = some (.dK kvs) ∧ kvs.length < sizeLine ∧ Nx (upd H5 D (.dK (putK kvs k z))) else Nx H3) := by
  refine ⟨fun i m H => m = kvs0.length - i ∧ i ≤ kvs0.length ∧ Pv i H, ⟨kvs0.length, by simp, Nat.zero_le _, h0⟩, ?_⟩
  rintro i m H ⟨rfl, hi, p⟩
  have q := hl i H hi p
  by_cases hlt : i < kvs0.length
  · refine .inr ⟨⟨q, hlt⟩, Pv (i + 1), fun H' p' => ⟨kvs0.length - (i + 1), by omega, rfl, hlt, p'⟩, ?_⟩
    rintro x H' ⟨rfl, k, v, e, rfl⟩
    exact hs i k v _ e p
  · have e : i = kvs0.length := by omega
    subst e
    exact .inl ⟨⟨q, Nat.le_refl _⟩, hd H p⟩
theorem ls_none {t : Str} : ∀ {tabs : Tabs} {ls : List Addr}, ¬ t ∈ tabs.map Prod.fst → lsOf tabs ls t = none
  | [], ls, _ => by cases ls <;> rfl
  | (n, a) :: r, [], _ => rfl
  | (n, a) :: r, l :: ls, h => by
    rw [lsOf, if_neg (fun z : n = t => h (by rw [← z]; exact List.mem_cons_self ..))]
    exact ls_none fun z => h (List.mem_cons_of_mem _ z)
theorem kvT_snoc {tabs : Tabs} {ls : List Addr} {n : Str} {a : Nat} {l : Addr} (hl : ls.length = tabs.length) (h : ¬ n ∈ tabs.map Prod.fst) : putK (kvT tabs ls) (.inr n) (.ref l) = kvT (tabs ++ [(n, a)]) (ls ++ [l]) := by
  rw [putK_new _ (by rw [valV_kvT, ls_none h]; rfl)]
  unfold kvT
  rw [List.zip_append hl.symm, List.map_append]; rfl
/-- the tables with whole numbers -/
def tabZ (tabs : Tabs) : List (Str × Int) := tabs.map fun x => (x.1, (x.2 : Int))
theorem kvI_tabZ (tabs : Tabs) : kvI (tabZ tabs) = kvA tabs := by unfold kvI tabZ kvA; rw [List.map_map]; rfl
theorem tabZ_names (tabs : Tabs) (i : Nat) : ((tabZ tabs).take i).map Prod.fst = (tabs.take i).map Prod.fst := by unfold tabZ; rw [← List.map_take, List.map_map]; rfl
/-- all but y is as it was, the tables too -/
structure FrX (y : Addr) (H H' : Hp) : Prop where
  keep : ∀ b o, b ≠ y → H b = some o → (∀ ps, o ≠ .tbl ps) → H' b = some o
  tabs : ∀ PP, PP ≠ y → TabG H PP → TabG H' PP
theorem FrX.trans {y : Addr} {H H1 H2 : Hp} (a : FrX y H H1) (b : FrX y H1 H2) : FrX y H H2 := ⟨fun c o n e z => b.keep c o n (a.keep c o n e z) z, fun PP n t => b.tabs PP n (a.tabs PP n t)⟩
theorem FrX.of {y : Addr} {H H' : Hp} (s : FrT H H') : FrX y H H' := ⟨fun c o _ e z => s.keep c o e z, fun PP _ t => s.tabs PP t⟩
theorem FrX.set {y : Addr} {H : Hp} {o : HO} : FrX y H (upd H y o) := ⟨fun c u n e _ => by rw [upd_ne n]; exact e, fun PP n t => by obtain ⟨ps, e, t⟩ := t; exact ⟨ps, by rw [upd_ne n]; exact e, t⟩⟩
/-- the store's places are new -/
def FA.new (A : FA) (H : Hp) : Prop := ∀ b, A.own b → ∀ u, H b = some u → ∃ ps, u = .tbl ps
theorem off_of {y : Addr} {H H' : Hp} {b : Addr} (f : FrX y H H') (n : b ≠ y) (h : H' b = none) : ∀ u, H b = some u → ∃ ps, u = .tbl ps := fun u e => by
  by_cases c : ∃ ps, u = .tbl ps
  · exact c
  · rw [f.keep b u n e (fun ps z => c ⟨ps, z⟩)] at h; cases h
theorem stepF {Hk : Hp} {p f0 : Addr} {u v w : HO} (hp : Hk p = none) (hf : Hk f0 = some w) (hw : ∀ ps, w ≠ .tbl ps) : FrX f0 Hk (upd (upd Hk p u) f0 v) ∧ (∀ b o, b ≠ f0 → Hk b = some o → (upd (upd Hk p u) f0 v) b = some o) ∧ (upd (upd Hk p u) f0 v) p = some u ∧ (upd (upd Hk p u) f0 v) f0 = some v ∧ p ≠ f0 := by
  have n : p ≠ f0 := (ne_of_none hf hp).symm
  have s := same_new (o := u) (Same.refl Hk) hp
  exact ⟨(FrX.of (FrT.of s)).trans .set, fun b o nb e => by rw [upd_ne nb]; exact s _ _ e, by rw [upd_ne n]; exact upd_same, upd_same, n⟩
def spFInit (P : Program) (w : World) (ad : Ad) (PP : Addr) : Sp := fun vs H Q E => ∃ f dx t xs, ∃ zs : List (Str × Int), vs = [V.ref f, V.ref t] ∧ H f = some (.ins ad.Facts dx []) ∧ H t = some (.lst xs) ∧ TabsAt H zs xs ∧ zs.length ≤ 10 ∧ (∀ z : Str × Int, z ∈ zs → z.1.length ≤ 1000) ∧ TabG H PP ∧
  (∀ tabs, zs = tabZ tabs → goodZ zs → ∀ H' A, FrX f H H' → A.new H → FO P w H' ad.Facts f A tabs [] → Q .non H') ∧ (¬ goodZ zs → ∀ H', FrX f H H' → E (.ref ad.InvalidArgument) none H')
theorem ok_Facts_init (c_checked : CalX P w K mg base 3 "_checked" (spChecked ad PP)) {f : Addr} {fd : FuncData} (F : Fun K "__init__" "Facts.__init__" s_Facts_init f fd) (T : Txt K mg ad) : FnOk P w K mg base (L2.CX P w) 4 f fd ["self", "tables"] (spFInit P w ad PP) := by
  refine F.okX sc_Facts_init (fun vs H Q E => ?_) (fun cdv A outer s H vs Q E hr h => ?_)
  · walk_at "len"
  ·
    obtain ⟨f0, dx, t, xs, zs, rfl, hf, ht, ta, zl, zx, tg, kq, ke⟩ := h
    refine ⟨_, (pss_cons (ps_fld (pv 0) (pc_call c_checked hr (by first | decide | omega) (takes_of rfl rfl rfl rfl) (by rfl) (pa_cons (pv 1) pa_nil)) rfl)
      (pss_cons (ps_fld (pv 0) (pe_lst pa_nil) rfl)
      (pss_cons (ps_fld (pv 0) (pe_lst pa_nil) rfl)
      (pss_cons (ps_fld (pv 0) ND.pe_nnew rfl)
      (pss_one (ps_fld (pv 0) (pe_lock (pe_dc (own := [("table", 2)]) (tt := tYes) rfl sc_Facts_init.nd (L2.pi_keys (pe_fld (pv 0) rfl)) (blkOk_by (by kernel_rfl)) (fun _ _ _ _ _ => (pg_name (i := 2) sc_Facts_init.nd rfl (by first | exact Or.inl rfl | exact Or.inr rfl))) (fun _ _ _ _ _ => pts_nil) (fun _ _ _ _ _ => (pv 2)) (fun _ _ _ _ _ => (pe_lst pa_nil)))) rfl)))))), ?_⟩
    refine go_sq ⟨_, rfl, t, xs, zs, rfl, ht, ta, zl, zx, tg, fun gz H1 ar f1 har0 har => ?_, fun bz H1 f1 => ke bz H1 (.of f1)⟩
    obtain ⟨tabs, htabs⟩ : ∃ tabs : Tabs, zs = tabZ tabs := ⟨zs.map fun z => (z.1, z.2.toNat), by
      unfold tabZ
      rw [List.map_map]
      conv => lhs; rw [← List.map_id zs]
      refine List.map_congr_left fun z hz => ?_
      obtain ⟨i, hi⟩ := List.getElem?_of_mem hz
      have h1 := (gz i z hi).1
      unfold okZ at h1
      rw [Bool.and_eq_true, decide_eq_true_eq] at h1
      obtain ⟨n, a⟩ := z
      show (n, a) = (n, ((a.toNat : Nat) : Int))
      rw [Int.toNat_of_nonneg (by have := h1.2.1; show 0 ≤ a; omega)]⟩
    have kq := kq tabs htabs gz
    rw [htabs, kvI_tabZ] at har
    have tl : tabs.length ≤ 10 := by have := congrArg List.length htabs; unfold tabZ at this; rw [List.length_map] at this; omega
    have hf1 := f1.ins hf
    have nar : ar ≠ f0 := (ne_of_none hf har0).symm
    refine ⟨_, rfl, f0, ad.Facts, dx, [], rfl, hf1, T.c_Facts, T.n_arities, (by show 0 < 1000; decide), go_nx ?_⟩
    have x1 : FrX f0 H (upd H1 f0 (.ins ad.Facts dx (putF "_arities" (.ref ar) []))) := (FrX.of f1).trans .set
    have i2 : (upd H1 f0 (.ins ad.Facts dx (putF "_arities" (.ref ar) []))) f0 = some (.ins ad.Facts dx (putF "_arities" (.ref ar) [])) := upd_same
    have a2 : (upd H1 f0 (.ins ad.Facts dx (putF "_arities" (.ref ar) []))) ar = some (.dK (kvA tabs)) := by rw [upd_ne nar]; exact har
    generalize upd H1 f0 (.ins ad.Facts dx (putF "_arities" (.ref ar) [])) = H2 at x1 i2 a2
    -- pairs
    refine go_sq ⟨(show 0 ≤ sizeLine by decide), fun pr hpr => ⟨_, rfl, f0, ad.Facts, dx, _, rfl, (same_new (Same.refl H2) hpr) _ _ i2, T.c_Facts, T.n_pairs, (by show 1 < 1000; decide), go_nx ?_⟩⟩
    have off1 := off_of x1 (ne_of_none i2 hpr).symm hpr
    obtain ⟨y, k, p3, i3, npr⟩ := stepF (u := .lst []) (v := .ins ad.Facts dx (putF "_pairs" (.ref pr) (putF "_arities" (.ref ar) []))) hpr i2 (fun _ z => nomatch z)
    have x3 := x1.trans y
    have a3 := k _ _ nar a2
    generalize upd (upd H2 pr (.lst [])) f0 (.ins ad.Facts dx (putF "_pairs" (.ref pr) (putF "_arities" (.ref ar) []))) = H3 at x3 i3 a3 p3
    clear k y
    -- states
    refine go_sq ⟨(show 0 ≤ sizeLine by decide), fun st hst => ⟨_, rfl, f0, ad.Facts, dx, _, rfl, (same_new (Same.refl H3) hst) _ _ i3, T.c_Facts, T.n_states, (by show 2 < 1000; decide), go_nx ?_⟩⟩
    have off2 := off_of x3 (ne_of_none i3 hst).symm hst
    have nps : pr ≠ st := ne_of_none p3 hst
    obtain ⟨y, k, s4, i4, nst⟩ := stepF (u := .lst []) (v := .ins ad.Facts dx (putF "_states" (.ref st) (putF "_pairs" (.ref pr) (putF "_arities" (.ref ar) [])))) hst i3 (fun _ z => nomatch z)
    have x4 := x3.trans y
    have a4 := k _ _ nar a3
    have p4 := k _ _ npr p3
    generalize upd (upd H3 st (.lst [])) f0 (.ins ad.Facts dx (putF "_states" (.ref st) (putF "_pairs" (.ref pr) (putF "_arities" (.ref ar) [])))) = H4 at x4 i4 a4 p4 s4
    clear k y
    -- numbers
    refine go_sq ?_
    intro nu φ hnu hA
    refine ⟨_, rfl, f0, ad.Facts, dx, _, rfl, (same_new (Same.refl H4) hnu) _ _ i4, T.c_Facts, T.n_numbers, (by show 3 < 1000; decide), go_nx ?_⟩
    have off3 := off_of x4 (ne_of_none i4 hnu).symm hnu
    obtain ⟨y, k, n5, i5, nnu⟩ := stepF (u := .ext φ) (v := .ins ad.Facts dx (putF "_numbers" (.ref nu) (putF "_states" (.ref st) (putF "_pairs" (.ref pr) (putF "_arities" (.ref ar) []))))) hnu i4 (fun _ z => nomatch z)
    have x5 := x4.trans y
    have a5 := k _ _ nar a4
    have p5 := k _ _ npr p4
    have s5 := k _ _ nst s4
    have A5 : ND.At P w (upd (upd H4 nu (.ext φ)) f0 (.ins ad.Facts dx (putF "_numbers" (.ref nu) (putF "_states" (.ref st) (putF "_pairs" (.ref pr) (putF "_arities" (.ref ar) [])))))) nu [] := hA.keeps (fun u e => by rw [upd_ne nnu]; exact e) fun b ys e => by
      rw [upd_ne (ne_of e ((same_new (Same.refl H4) hnu) _ _ i4) (fun z => nomatch z))]; exact e
    generalize upd (upd H4 nu (.ext φ)) f0 (.ins ad.Facts dx (putF "_numbers" (.ref nu) (putF "_states" (.ref st) (putF "_pairs" (.ref pr) (putF "_arities" (.ref ar) []))))) = H5 at x5 i5 a5 p5 s5 n5 A5
    clear k y hA
    -- the tables' lists
    refine ⟨ar, _, a5, trivial, fun od => ?_⟩
    refine ⟨_, rfl, f0, ad.Facts, dx, _, _, rfl, (by rw [upd_ne (Ne.symm nar)]; exact i5), T.c_Facts, T.n_arities, (by rw [lookup_putF, if_neg (by decide), lookup_putF, if_neg (by decide), lookup_putF, if_neg (by decide), lookup_putF, if_pos rfl]), ar, od, rfl, .inl ⟨kvA tabs, upd_same, fun D hD => ?_⟩⟩
    have uniq : ∀ (i : Nat) n a, tabs[i]? = some (n, a) → ¬ n ∈ (tabs.take i).map Prod.fst := fun i n a h => by
      rw [← tabZ_names, ← htabs]
      exact (gz i (n, (a : Int)) (by rw [htabs]; unfold tabZ; rw [List.getElem?_map, h]; rfl)).2
    have nDa : D ≠ ar := fun z => by rw [z, upd_same] at hD; cases hD
    have hD5 : H5 D = none := by rw [upd_ne nDa] at hD; exact hD
    have eL : (upd H5 ar (.frz od (.dK (kvA tabs)))) ar = some (.frz od (.dK (kvA tabs))) := upd_same
    have kL : ∀ b o, b ≠ ar → H5 b = some o → (upd H5 ar (.frz od (.dK (kvA tabs)))) b = some o := fun b o n e => by rw [upd_ne n]; exact e
    have nL : ∀ b, (upd H5 ar (.frz od (.dK (kvA tabs)))) b = none → H5 b = none := fun b e => by
      rw [upd_ne (fun z => by rw [z, upd_same] at e; cases e)] at e; exact e
    generalize upd H5 ar (.frz od (.dK (kvA tabs))) = HL at eL kL nL hD
    have lk : (kvA tabs).length = tabs.length := by unfold kvA; rw [List.length_map]
    refine dc_keys (fun i H' => ∃ ls : List Addr, ls.length = i ∧ (∀ b o, b ≠ D → HL b = some o → H' b = some o) ∧ H' D = some (.dK (kvT (tabs.take i) ls)) ∧ (∀ l ∈ ls, H' l = some (.lst [])) ∧ ls.Nodup ∧ ∀ l ∈ ls, HL l = none ∧ l ≠ D)
      ⟨[], rfl, fun b o n e => by rw [upd_ne n]; exact e, upd_same, (fun _ h => nomatch h), List.nodup_nil, (fun _ h => nomatch h)⟩ (fun i H' _ ⟨_, _, k, _⟩ => k _ _ (Ne.symm nDa) eL) (fun i key v H' hk ⟨ls, el, k, ed, il, nd, fr⟩ => ?_) (fun H6 ⟨ls, el, k, ed, il, nd, fr⟩ => ?_)
    · have hi : i < tabs.length := by rw [← lk]; exact (List.getElem?_eq_some_iff.mp hk).1
      unfold kvA at hk
      rw [List.getElem?_map] at hk
      obtain ⟨⟨n, a⟩, hna, e⟩ := Option.map_eq_some_iff.mp hk
      cases e
      refine ⟨rfl, yes_then (iteT ⟨_, rfl, (show 0 ≤ sizeLine by decide), fun l hl => ?_⟩)⟩
      have s' := same_new (o := .lst []) (Same.refl H') hl
      have nlD : l ≠ D := (ne_of_none ed hl).symm
      refine ⟨_, .inr n, rfl, s' _ _ ed, ?_, ls ++ [l], by rw [List.length_append, el]; rfl, fun b o n e => by rw [upd_ne n]; exact s' _ _ (k b o n e), ?_, fun l' h => ?_, ?_, fun l' h => ?_⟩
      · unfold kvT
        rw [List.length_map, List.length_zip, el, List.length_take]
        exact Nat.lt_of_le_of_lt (by omega : _ ≤ 1000) (by decide)
      · rw [upd_same, kvT_snoc (a := a) (by rw [el, List.length_take]; omega) (uniq i n a hna), List.take_add_one, hna]; rfl
      · rcases List.mem_append.mp h with h | h
        · rw [upd_ne (fr l' h).2]; exact s' _ _ (il l' h)
        · rw [List.mem_singleton.mp h, upd_ne nlD]; exact upd_same
      · refine List.nodup_append.mpr ⟨nd, by simp, fun x hx y hy z => ?_⟩
        rw [List.mem_singleton.mp hy] at z
        rw [← z, il x hx] at hl; cases hl
      · rcases List.mem_append.mp h with h | h
        · exact fr l' h
        · rw [List.mem_singleton.mp h]
          refine ⟨?_, nlD⟩
          cases z : HL l with
          | none => rfl
          | some u => rw [k l u nlD z] at hl; cases hl
    · rw [lk] at el ed
      rw [List.take_length] at ed
      refine ⟨k _ _ (Ne.symm nDa) eL, ?_⟩
      have k7 : Same H5 (upd H6 ar (.dK (kvA tabs))) := fun b o e => by
        by_cases c : b = ar
        · subst c; rw [upd_same]; rw [a5] at e; exact e
        · rw [upd_ne c]
          refine k b o (fun z => by rw [z, hD5] at e; cases e) (kL b o c e)
      have nla : ∀ l ∈ ls, l ≠ ar := fun l h z => by have := (fr l h).1; rw [z, eL] at this; cases this
      have ed7 : (upd H6 ar (.dK (kvA tabs))) D = some (.dK (kvT tabs ls)) := by rw [upd_ne nDa]; exact ed
      have il7 : ∀ l ∈ ls, (upd H6 ar (.dK (kvA tabs))) l = some (.lst []) := fun l h => by rw [upd_ne (nla l h)]; exact il l h
      have f5 : ∀ l ∈ ls, H5 l = none := fun l h => nL l (fr l h).1
      generalize upd H6 ar (.dK (kvA tabs)) = H7 at k7 ed7 il7
      refine ⟨_, rfl, f0, ad.Facts, dx, _, rfl, k7 _ _ i5, T.c_Facts, T.n_in_table, (by show 4 < 1000; decide), ?_⟩
      have nlf : ∀ l ∈ ls, l ≠ f0 := fun l h z => by have := f5 l h; rw [z, i5] at this; cases this
      have nDf : D ≠ f0 := fun z => by rw [z, i5] at hD5; cases hD5
      have k8 : ∀ b o, b ≠ f0 → H5 b = some o → (upd H7 f0 (.ins ad.Facts dx (putF "_in_table" (.ref D) (putF "_numbers" (.ref nu) (putF "_states" (.ref st) (putF "_pairs" (.ref pr) (putF "_arities" (.ref ar) []))))))) b = some o := fun b o n e => by rw [upd_ne n]; exact k7 _ _ e
      refine kq _ ⟨dx, ar, pr, st, nu, D, ls⟩ ((x5.trans (.of (.of k7))).trans .set) (fun b hb => ?_) ⟨upd_same, k8 _ _ nar a5, ⟨[], k8 _ _ npr p5, .nil⟩, k8 _ _ nst s5, A5.keeps (fun u e => k8 _ _ nnu e) (fun b ys e => k8 _ _ (ne_of e i5 (fun z => nomatch z)) e), by rw [upd_ne nDf]; exact ed7, el, fun t' l h => ?_, ?_, List.nodup_nil, (fun _ h => nomatch h), Nat.zero_le _, tl⟩
      · rcases hb with rfl | rfl | rfl | h
        · exact off1
        · exact off2
        · exact off3
        · exact off_of x5 (nlf b h) (f5 b h)
      · have h' := ls_mem h
        rw [upd_ne (nlf l h')]
        exact il7 l h'
      · refine List.nodup_cons.mpr ⟨fun h => ?_, List.nodup_cons.mpr ⟨fun h => ?_, nd⟩⟩
        · rcases List.mem_cons.mp h with h | h
          · exact nps h
          · have := f5 _ h; rw [p5] at this; cases this
        · have := f5 _ h; rw [s5] at this; cases this
end
end K01

set_option Elab.async false
set_option linter.all false
set_option maxRecDepth 100000
set_option maxHeartbeats 4000000
namespace K01
open PySem L2 Ew Tb GxR ND PK
local macro_rules | `(tactic| walk_at "len") => `(tactic| first | (intro h; obtain ⟨_, e, _⟩ := h; rw [e]; rfl) | (intro h; obtain ⟨_, _, e, _⟩ := h; rw [e]; rfl) | (intro h; obtain ⟨_, _, _, e, _⟩ := h; rw [e]; rfl) | (intro h; obtain ⟨_, _, _, _, e, _⟩ := h; rw [e]; rfl) | (intro h; obtain ⟨_, _, _, _, _, e, _⟩ := h; rw [e]; rfl) | (intro h; obtain ⟨_, _, _, _, _, _, e, _⟩ := h; rw [e]; rfl) | (intro h; obtain ⟨_, _, _, _, _, _, _, e, _⟩ := h; rw [e]; rfl) | (intro h; obtain ⟨_, _, _, _, _, _, _, _, e, _⟩ := h; rw [e]; rfl) | (intro h; obtain ⟨_, _, _, _, _, _, _, _, _, e, _⟩ := h; rw [e]; rfl) | (intro h; obtain ⟨_, _, _, _, _, _, _, _, _, _, e, _⟩ := h; rw [e]; rfl) | (intro h; obtain ⟨_, _, _, _, _, _, _, _, _, _, _, e, _⟩ := h; rw [e]; rfl) | (intro h; obtain ⟨_, _, _, _, _, _, _, _, _, _, _, _, e, _⟩ := h; rw [e]; rfl) | (intro h; obtain ⟨_, _, _, _, _, _, _, _, _, _, _, _, _, e, _⟩ := h; rw [e]; rfl))
local macro_rules | `(tactic| walk_at "len") => `(tactic| first | (intro h; obtain ⟨_, _, _, _, _, _, _, _, e, _⟩ := h; rw [e]; rfl) | (intro h; obtain ⟨_, _, _, _, _, _, _, _, _, e, _⟩ := h; rw [e]; rfl) | (intro h; obtain ⟨_, _, _, _, _, _, _, _, _, _, e, _⟩ := h; rw [e]; rfl) | (intro h; obtain ⟨_, _, _, _, _, _, _, _, _, _, _, e, _⟩ := h; rw [e]; rfl) | (intro h; obtain ⟨_, _, _, _, _, _, _, _, _, _, _, _, e, _⟩ := h; rw [e]; rfl) | (intro h; obtain ⟨_, _, _, _, _, _, _, _, _, _, _, _, _, e, _⟩ := h; rw [e]; rfl) | (intro h; obtain ⟨_, _, _, _, _, _, _, _, _, _, _, _, _, _, e, _⟩ := h; rw [e]; rfl) | (intro h; obtain ⟨_, _, _, _, _, _, _, _, _, _, _, _, _, _, _, e, _⟩ := h; rw [e]; rfl) | (intro h; obtain ⟨_, _, _, _, _, _, _, _, _, _, _, _, _, _, _, _, e, _⟩ := h; rw [e]; rfl) | (intro h; obtain ⟨_, _, _, _, _, _, _, _, _, _, _, _, _, _, _, _, _, e, _⟩ := h; rw [e]; rfl))
section
variable {P : Program} {w : World} {K : PySem.W.Frag} {mg : Str → Option Value} {base : Heap} {ad : Ad}
section
variable {H0 H H' : Hp} {C f : Addr} {A : FA} {tabs : Tabs} {fs : List Fac}
theorem FO.frt (x : FO P w H C f A tabs fs) (s : FrT H H') : FO P w H' C f A tabs fs :=
  ⟨s.ins x.ins, s.keep _ _ x.har (fun _ z => nomatch z), let ⟨ts, h1, h2⟩ := x.hpr; ⟨ts, s.lst h1, h2.keeps fun b ys e => s.tup e⟩, s.lst x.hst, let ⟨φ, e⟩ := x.hnu.ext; x.hnu.keeps (fun u z => s.keep _ _ z (fun ps q => by rw [q] at z; rw [z] at e; cases e)) (fun b ys e => s.tup e), s.keep _ _ x.hit (fun _ z => nomatch z), x.lz, fun t l h => s.lst (x.li t l h), x.nd, x.kd, x.dp, x.le, x.tl⟩
theorem ls_back {l : Addr} : ∀ {tabs : Tabs} {ls : List Addr}, (tabs.map Prod.fst).Nodup → ls.length = tabs.length → l ∈ ls → ∃ t, lsOf tabs ls t = some l
  | (n, a) :: r, m :: ls, nd, hl, h => by
    obtain ⟨n1, n2⟩ := List.nodup_cons.mp nd
    rcases List.mem_cons.mp h with rfl | h
    · exact ⟨n, by rw [lsOf, if_pos rfl]⟩
    · obtain ⟨t, e⟩ := ls_back n2 (by simpa using hl) h
      refine ⟨t, ?_⟩
      rw [lsOf, if_neg ?_]
      · exact e
      · intro z
        subst z
        have : lsOf r ls n = none := ls_none n1
        rw [this] at e; cases e
  | [], [], _, _, h => nomatch h
  | [], _ :: _, _, hl, _ => by simp at hl
theorem good_nodup {tabs : Tabs} (h : goodZ (tabZ tabs)) : (tabs.map Prod.fst).Nodup := by
  refine List.pairwise_iff_getElem.mpr fun i j hi hj hij e => ?_
  rw [List.length_map] at hi hj
  rw [List.getElem_map, List.getElem_map] at e
  have := (h j ((tabs[j]).1, ((tabs[j]).2 : Int)) (by unfold tabZ; rw [List.getElem?_map, List.getElem?_eq_getElem hj]; rfl)).2
  rw [tabZ_names] at this
  refine this ?_
  rw [← e]
  exact List.mem_map_of_mem (List.mem_take_iff_getElem.mpr ⟨i, by omega, rfl⟩)
theorem FO.own_at (x : FO P w H C f A tabs fs) (nt : (tabs.map Prod.fst).Nodup) {c : Addr} (hc : A.own c) : ∃ o, H c = some o ∧ ∀ ps, o ≠ .tbl ps := by
  rcases hc with rfl | rfl | rfl | h
  · obtain ⟨ts, h1, _⟩ := x.hpr; exact ⟨_, h1, fun _ z => nomatch z⟩
  · exact ⟨_, x.hst, fun _ z => nomatch z⟩
  · obtain ⟨φ, e⟩ := x.hnu.ext; exact ⟨_, e, fun _ z => nomatch z⟩
  · obtain ⟨t, e⟩ := ls_back nt x.lz h
    exact ⟨_, x.li t c e, fun _ z => nomatch z⟩
/-- what a new store does leaves the older things alone -/
theorem FrF.frt (x : FO P w H C f A tabs fs) (nt : (tabs.map Prod.fst).Nodup) (nw : A.new H0) (a : FrT H0 H) (b : FrF A H H') : FrT H0 H' := by
  refine ⟨fun c o e n => b c o (fun z => ?_) (a.keep c o e n), fun PP t => ?_⟩
  · obtain ⟨ps, q⟩ := nw c z o e
    exact n ps q
  · obtain ⟨ps, e, t'⟩ := a.tabs PP t
    refine ⟨ps, b _ _ (fun z => ?_) e, t'⟩
    obtain ⟨o, e', n⟩ := x.own_at nt z
    rw [e] at e'
    exact n ps (Option.some.inj e').symm
theorem FrX.frt {y dy : Addr} {o1 o2 : HO} (x : FrX y (upd (upd H dy o1) y o2) H') (h1 : H y = none) (h2 : H dy = none) : FrT H H' := by
  refine ⟨fun b o e n => x.keep b o (fun z => ?_) ?_ n, fun PP t => x.tabs PP (fun z => ?_) ?_⟩
  · rw [z, h1] at e; cases e
  · rw [upd_ne (fun z => by rw [z, h1] at e; cases e), upd_ne (fun z => by rw [z, h2] at e; cases e)]; exact e
  · obtain ⟨ps, e, _⟩ := t
    rw [z, h1] at e; cases e
  · obtain ⟨ps, e, t'⟩ := t
    exact ⟨ps, by rw [upd_ne (fun z => by rw [z, h1] at e; cases e), upd_ne (fun z => by rw [z, h2] at e; cases e)]; exact e, t'⟩
end
theorem tabsAt_of {H' : Hp} : ∀ {ts : List Addr} {tabs : Tabs}, Paired (fun (t : Addr) (q : Key × V) => H' t = some (.tup [kV q.1, q.2])) ts (kvA tabs) → TabsAt H' (tabZ tabs) (ts.map V.ref) := by
  intro ts tabs h
  have key : ∀ {ts : List Addr} {tabs : Tabs}, Paired (fun (t : Addr) (q : Key × V) => H' t = some (.tup [kV q.1, q.2])) ts (kvA tabs) → ts.length = tabs.length ∧ ∀ (i : Nat) (z : Str × Int), (tabZ tabs)[i]? = some z → ∃ q, ts[i]? = some q ∧ H' q = some (.tup [V.str z.1, V.int z.2]) := by
    intro ts
    induction ts with
    | nil =>
      intro tabs h
      cases tabs with
      | nil => exact ⟨rfl, fun i z h => by simp [tabZ] at h⟩
      | cons a r => cases h
    | cons t ts ih =>
      intro tabs h
      cases tabs with
      | nil => cases h
      | cons a r =>
        have h' : Paired (fun (t : Addr) (q : Key × V) => H' t = some (.tup [kV q.1, q.2])) (t :: ts) ((.inr a.1, .int (a.2 : Int)) :: kvA r) := h
        cases h' with
        | cons q r2 =>
          obtain ⟨e1, e2⟩ := ih r2
          refine ⟨by rw [List.length_cons, List.length_cons, e1], fun i z hz => ?_⟩
          cases i with
          | zero => cases hz; exact ⟨t, rfl, q⟩
          | succ i => exact e2 i z hz
  obtain ⟨e1, e2⟩ := key h
  refine ⟨by unfold tabZ; rw [List.length_map, List.length_map, e1], fun i z hz => ?_⟩
  obtain ⟨q, h1, h2⟩ := e2 i z hz
  exact ⟨q, by rw [List.getElem?_map, h1]; rfl, h2⟩
theorem TabsAt.frt {H H' : Hp} {zs : List (Str × Int)} {xs : List V} (x : TabsAt H zs xs) (f : FrT H H') : TabsAt H' zs xs := ⟨x.1, fun i z h => let ⟨q, e1, e2⟩ := x.2 i z h; ⟨q, e1, f.tup e2⟩⟩
def spTabs (P : Program) (w : World) (ad : Ad) : Sp := fun vs H Q _ => ∃ f A tabs fs, vs = [.ref f] ∧ FO P w H ad.Facts f A tabs fs ∧ ∀ H' p xs, Same H H' → H p = none → H' p = some (.lst xs) → TabsAt H' (tabZ tabs) xs → Q (.ref p) H'
theorem ok_Facts_tables  {f : Addr} {fd : FuncData} (F : Fun K "tables" "Facts.tables" s_Facts_tables f fd) (T : Txt K mg ad) : FnOk P w K mg base (L2.CX P w) 2 f fd ["self"] (spTabs P w ad) := by
  refine F.okX sc_Facts_tables (fun vs H Q E => ?_) (fun cdv A outer s H vs Q E hr h => ?_)
  · walk_at "len"
  ·
    obtain ⟨f0, A, tabs, fs, rfl, fo, kq⟩ := h
    refine ⟨_, (pss_one (ps_ret (LiI.pe_listItems rfl (pe_fld (pv 0) rfl) (by rfl) T.z_list (by decide +kernel)))), ?_⟩
    refine ⟨_, rfl, f0, ad.Facts, A.dx, A.fs_, _, rfl, fo.ins, T.c_Facts, T.n_arities, fF_ar .., A.ar, _, rfl, fo.har, fun H' p ts s hp _ _ e pr => kq H' p _ s hp e (tabsAt_of pr)⟩
theorem tabZ_inj {a b : Tabs} (h : tabZ a = tabZ b) : b = a := by
  have : Function.Injective (fun x : Str × Nat => (x.1, (x.2 : Int))) := fun x y e => by
    obtain ⟨x1, x2⟩ := x
    obtain ⟨y1, y2⟩ := y
    injection e with e1 e2
    have e1' : x1 = y1 := e1
    have e2' : (x2 : Int) = (y2 : Int) := e2
    rw [e1', Int.ofNat_inj.mp e2']
  exact (List.map_inj_right (fun x y e => this e)).mp h.symm
def allT (fs : List Fac) : List Fac := fs.map fun x => (x.1, x.2.1, true)
theorem keysF_allT (fs : List Fac) : keysF (allT fs) = keysF fs := by unfold keysF allT; rw [List.map_map]; rfl
theorem setB_get (b : Bool) : ∀ (fs : List Fac) (n j : Nat), (setB fs n b)[j]? = if j = n then fs[j]?.map (fun x => (x.1, x.2.1, b)) else fs[j]?
  | [], n, j => by simp [setB]
  | x :: fs, 0, 0 => rfl
  | x :: fs, 0, j + 1 => rfl
  | x :: fs, n + 1, 0 => rfl
  | x :: fs, n + 1, j + 1 => by
    show (setB fs n b)[j]? = _
    rw [setB_get b fs n j]
    by_cases c : j = n
    · rw [if_pos c, if_pos (by omega)]; rfl
    · rw [if_neg c, if_neg (by omega)]; rfl
def spCopy (P : Program) (w : World) (ad : Ad) (PP : Addr) : Sp := fun vs H Q E => ∃ f A tabs, ∃ fs : List Fac, vs = [V.ref f] ∧ FO P w H ad.Facts f A tabs fs ∧ goodZ (tabZ tabs) ∧ (∀ z : Str × Int, z ∈ tabZ tabs → z.1.length ≤ 1000) ∧ TabG H PP ∧ fs.length < 100 ∧ (∀ x ∈ fs, arOf tabs x.1 = some x.2.1.length) ∧
  ∀ H' f' A', FrT H H' → H f' = none → A'.new H → FO P w H' ad.Facts f' A' tabs fs → Q (.ref f') H'
theorem ok_Facts_copy (m_tables : MetX P w K mg base 2 ad.Facts "tables" (spTabs P w ad)) (m_count : MetX P w K mg base 1 ad.Facts "count" (spCount P w ad)) (m_add : MetX P w K mg base 3 ad.Facts "add" (spAdd P w ad)) (m_give : MetX P w K mg base 3 ad.Facts "give_up" (spGive P w ad false)) (mk_Facts : MakX P w K mg base 4 "Facts" ad.Facts (spFInit P w ad PP)) {f : Addr} {fd : FuncData} (F : Fun K "copy" "Facts.copy" s_Facts_copy f fd) (T : Txt K mg ad) : FnOk P w K mg base (L2.CX P w) 6 f fd ["self"] (spCopy P w ad PP) := by
  refine F.okX sc_Facts_copy (fun vs H Q E => ?_) (fun cdv A outer s H vs Q E hr h => ?_)
  · walk_at "len"
  ·
    obtain ⟨f0, A, tabs, fs, rfl, fo, gz, zx, tg, hl, har, kq⟩ := h
    refine ⟨_, (pss_cons (ps_set (i := 1) sc_Facts_copy.nd rfl (by first | exact Or.inl rfl | exact Or.inr rfl) (pd_make hr (takes_of rfl rfl rfl rfl) (by rfl) (pa_cons (pd_meth0 hr (takes_of rfl rfl rfl rfl) (pv 0)) pa_nil)))
      (pss_cons (ps_for (passes_of rfl) rfl (pi_list (pe_callTy call_list_of (by rfl) T.z_list (by decide +kernel) (pa_cons (pe_fld (pv 0) rfl) pa_nil))) (pg_tup rfl (pgs_cons (pg_name (i := 2) sc_Facts_copy.nd rfl (by first | exact Or.inl rfl | exact Or.inr rfl)) (pgs_cons (pg_name (i := 3) sc_Facts_copy.nd rfl (by first | exact Or.inl rfl | exact Or.inr rfl)) pgs_nil))) (pss_one (ps_expr (pd_meth hr (takes_of rfl rfl rfl rfl) (pv 1) (pa_cons (pv 2) (pa_cons (pv 3) pa_nil))))))
      (pss_cons (ps_for (passes_of rfl) rfl (pi_range1 (by rfl) T.z_range (pa_cons (pd_meth0 hr (takes_of rfl rfl rfl rfl) (pv 0)) pa_nil)) (pg_name (i := 4) sc_Facts_copy.nd rfl (by first | exact Or.inl rfl | exact Or.inr rfl)) (pss_one (ps_if (pt_not (pt_val (pe_ix ix_list (pe_fld (pv 0) rfl) (pv 4) (fun _ _ => rfl)))) (pss_one (ps_expr (pd_meth hr (takes_of rfl rfl rfl rfl) (pv 1) (pa_cons (pv 4) pa_nil)))) pss_nil)))
      (pss_one (ps_ret (pv 1)))))), ?_⟩
    refine go_seq ⟨4, ad.Facts, _, by decide, mk_Facts, _, rfl, f0, ad.Facts, A.dx, A.fs_, 2, _, rfl, fo.ins, fF_no _ _ _ _ _ (by decide) (by decide) (by decide) (by decide) (by decide), by decide, m_tables, f0, A, tabs, fs, rfl, fo, fun H1 p xs s1 hp e1 ta => ?_⟩
    intro y dy hy hdy ndy
    have nt := good_nodup gz
    have sy : Same H1 (upd H1 dy (HO.own y)) := same_new (Same.refl _) hdy
    have sy2 : Same H1 (upd (upd H1 dy (HO.own y)) y (HO.ins ad.Facts dy [])) := fun b o e => same_new (o := .ins ad.Facts dy []) (Same.refl _) (show (upd H1 dy (HO.own y)) y = none by rw [upd_ne (Ne.symm ndy)]; exact hy) _ _ (sy _ _ e)
    have hy0 : H y = none := by cases z : H y with | none => rfl | some u => rw [s1 _ _ z] at hy; cases hy
    have tzl : (tabZ tabs).length ≤ 10 := by unfold tabZ; rw [List.length_map]; exact fo.tl
    refine ⟨y, dy, p, xs, tabZ tabs, rfl, upd_same, sy2 _ _ e1, ta.frt (.of sy2), tzl, zx, (FrT.of sy2).tabs _ ((FrT.of s1).tabs _ tg), fun tabs' et gz' H2 A2 x2 nw2 fo2 => ⟨rfl, go_name rfl ?_⟩, fun bz => absurd gz bz⟩
    obtain rfl := (tabZ_inj et).symm
    have f2 : FrT H H2 := (FrT.of s1).trans (x2.frt hy hdy)
    have nw : A2.new H := fun b hb u e => nw2 b hb u (sy2 _ _ (s1 _ _ e))
    clear nw2 x2 sy sy2 et gz'
    have fo' := fo.frt f2
    obtain ⟨ts, hpr, hkp⟩ := fo.hpr
    have hlt : ts.length = fs.length := by have := kys_len hkp; unfold keysF at this; rw [List.length_map, List.length_map] at this; exact this.symm
    refine go_sq ⟨_, rfl, f0, ad.Facts, A.dx, A.fs_, _, rfl, fo'.ins, T.c_Facts, T.n_pairs, fF_pr .., A.pr, _, rfl, .inl (SqL.of (f2.lst hpr)), fun L hL => ?_⟩
    have s3 := same_new (o := .lst (ts.map V.ref)) (Same.refl H2) hL
    refine ⟨L, rfl, ⟨_, SqL.of upd_same⟩, ?_⟩
    refine for_list (K := K) (a := L) (xs := ts.map V.ref) (fun i σ H' => ∃ v2 v3, σ = [some (.ref f0), some (.ref y), v2, v3, none] ∧ FrT H H' ∧ H' L = some (.lst (ts.map V.ref)) ∧ FO P w H' ad.Facts y A2 tabs (allT (fs.take i)))
      ⟨none, none, rfl, f2.trans (.of s3), upd_same, fo2.same s3⟩ (fun i σ H' _ ⟨_, _, _, _, e, _⟩ => SqL.of e) ?_ ?_
    · rintro i q σ H3 hq ⟨v2, v3, rfl, f3, eL, fo3⟩
      have hi : i < fs.length := by rw [← hlt, ← List.length_map (as := ts) (f := V.ref)]; exact (List.getElem?_eq_some_iff.mp hq).1
      obtain ⟨⟨t, ks, bb⟩, hx⟩ : ∃ x, fs[i]? = some x := ⟨_, List.getElem?_eq_getElem hi⟩
      have kx := kys_at hkp i (by unfold keysF; rw [List.getElem?_map, hx]; rfl) hq
      obtain ⟨qa, u, v, rfl, hqa, k1, k2⟩ := ky_pair kx
      cases k1
      have hxm := List.mem_of_getElem? hx
      refine ⟨qa, _, rfl, SqT.of (f3.tup hqa), rfl, _, _, rfl, go_name rfl ⟨_, _, rfl, go_name rfl ⟨rfl, ?_⟩⟩⟩
      have tk : (fs.take (i + 1)) = fs.take i ++ [(t, ks, bb)] := by rw [List.take_add_one, hx]; rfl
      have none_ : addE tabs (allT (fs.take i)) t ks = none := by
        unfold addE
        rw [har _ hxm]
        show (if ks.length ≠ ks.length then some Err.arg else _) = _
        rw [if_neg (fun z => z rfl), keysF_allT, if_neg]
        intro z
        have nd := fo.kd
        rw [← List.take_append_drop i fs] at nd
        unfold keysF at nd z
        rw [List.map_append] at nd
        refine (List.nodup_append.mp nd).2.2 _ z (fk (t, ks, bb)) (List.mem_map_of_mem ?_) rfl
        rw [List.drop_eq_getElem_cons hi]
        rw [List.getElem?_eq_getElem hi] at hx
        rw [Option.some.inj hx]
        exact List.mem_cons_self ..
      have hl3 : (allT (fs.take i)).length = i := by unfold allT; rw [List.length_map, List.length_take]; omega
      refine ⟨_, rfl, y, ad.Facts, A2.dx, A2.fs_, 3, _, rfl, fo3.ins, fF_no _ _ _ _ _ (by decide) (by decide) (by decide) (by decide) (by decide), by decide, m_add, _, rfl, _, rfl, y, A2, tabs, _, t, ks, v, rfl, fo3, k2.keeps (fun b ys e => f3.tup e), fo.dp _ hxm, by omega, fun e he => absurd he (by rw [none_]; exact fun z => nomatch z), fun _ H4 fr fo4 => go_nx ?_⟩
      refine ⟨_, _, rfl, FrF.frt fo3 nt nw f3 fr, fr _ _ (fun z => ?_) eL, ?_⟩
      · obtain ⟨o, e, _⟩ := fo2.own_at nt z
        rw [e] at hL; cases hL
      · rw [tk]
        unfold allT
        rw [List.map_append]
        exact fo4
    · rintro σ H3 ⟨v2, v3, rfl, f3, eL, fo3⟩
      rw [List.length_map, hlt, List.take_length] at fo3
      refine go_nx (go_sq ?_)
      have foS := fo.frt f3
      refine ⟨_, rfl, f0, ad.Facts, A.dx, A.fs_, 1, _, rfl, foS.ins, fF_no _ _ _ _ _ (by decide) (by decide) (by decide) (by decide) (by decide), by decide, m_count, f0, A, tabs, _, rfl, foS, ?_⟩
      refine ⟨_, rfl, by omega, by omega, ?_⟩
      rw [show ((fs.length : Int)).toNat = fs.length from Int.toNat_natCast _]
      refine for_range (lo := 0) (n := fs.length) (fun i σ H' => ∃ (v2 v3 v4 : Option V) (gs : List Fac), σ = [some (.ref f0), some (.ref y), v2, v3, v4] ∧ FrT H H' ∧ FO P w H' ad.Facts y A2 tabs gs ∧ gs.length = fs.length ∧ ∀ j x, fs[j]? = some x → gs[j]? = some (x.1, x.2.1, if j < i then x.2.2 else true))
        ⟨v2, v3, none, _, rfl, f3, fo3, by unfold allT; rw [List.length_map], fun j x hx => by unfold allT; rw [List.getElem?_map, hx, if_neg (Nat.not_lt_zero _)]; rfl⟩ ?_ ?_
      · rintro i σ H4 hi ⟨v2, v3, v4, gs, rfl, f4, fo4, gl, gg⟩
        refine go_name rfl ?_
        have foS := fo.frt f4
        obtain ⟨x, hx⟩ : ∃ x, fs[i]? = some x := ⟨_, List.getElem?_eq_getElem hi⟩
        have hgx := gg i x hx
        rw [if_neg (Nat.lt_irrefl _)] at hgx
        refine ⟨_, rfl, f0, ad.Facts, A.dx, A.fs_, _, rfl, foS.ins, T.c_Facts, T.n_states, fF_st .., _, rfl, A.st, _, _, .bl x.2.2, rfl, rfl, SqL.of foS.hst, at_of (j := i) (by rw [Int.zero_add]) (by unfold bls; rw [List.getElem?_map, hx]; rfl), x.2.2, rfl, ?_⟩
        cases hb : x.2.2 with
        | true =>
          refine iteF (go_nx ⟨_, _, _, gs, rfl, f4, fo4, gl, fun j x' hx' => ?_⟩)
          rw [gg j x' hx']
          by_cases c : j = i
          · subst c
            rw [hx] at hx'
            cases hx'
            rw [if_neg (Nat.lt_irrefl _), if_pos (Nat.lt_succ_self _), hb]
          · by_cases c2 : j < i
            · rw [if_pos c2, if_pos (by omega)]
            · rw [if_neg c2, if_neg (by omega)]
        | false =>
          refine iteT ⟨_, rfl, y, ad.Facts, A2.dx, A2.fs_, 3, _, rfl, fo4.ins, fF_no _ _ _ _ _ (by decide) (by decide) (by decide) (by decide) (by decide), by decide, m_give, _, rfl, y, A2, tabs, gs, _, rfl, fo4, fun z => absurd (⟨by omega, by rw [gl]; omega⟩) z, fun i' x' ei hx' => ?_⟩
          obtain rfl : i' = i := by omega
          rw [hgx] at hx'
          cases hx'
          refine ⟨fun z => by (cases (show true = false from z)), fun _ H5 fr fo5 => go_nx ⟨_, _, _, _, rfl, FrF.frt fo4 nt nw f4 fr, fo5, by rw [setB_len, gl], fun j x' hx' => ?_⟩⟩
          rw [setB_get, gg j x' hx']
          by_cases c : j = i'
          · subst c
            rw [hx] at hx'
            cases hx'
            rw [if_pos rfl, if_pos (Nat.lt_succ_self _), hb]; rfl
          · rw [if_neg c]
            by_cases c2 : j < i'
            · rw [if_pos c2, if_pos (by omega)]
            · rw [if_neg c2, if_neg (by omega)]
      · rintro σ H4 ⟨v2, v3, v4, gs, rfl, f4, fo4, gl, gg⟩
        refine go_nx (go_ret ⟨_, rfl, kq H4 y A2 f4 hy0 nw ?_⟩)
        obtain rfl : fs = gs := List.ext_getElem? fun j => by
          by_cases c : j < fs.length
          · have hx := List.getElem?_eq_getElem c
            rw [hx, gg j _ hx, if_pos c]
          · rw [List.getElem?_eq_none (by omega), List.getElem?_eq_none (by omega)]
        exact fo4
end
end K01

set_option Elab.async false
set_option linter.all false
set_option maxRecDepth 100000
set_option maxHeartbeats 2000000
/-! FRN: a walk over a list that returns ahead of the list's end (also within an except suite, where the end can't be read). -/
namespace L2
open PySem PySem.Spec PyProof.Rows
/-- each turn that can begin begins ahead of the end -/
def tForN (K : PySem.W.Frag) (tl : TE) (g : TG) (tb : TS) : TS := fun D σ H => tl σ H fun x H1 => ∃ (a : Addr) (xs : List V) (Pv : Nat → St → Hp → Prop), x = .ref a ∧ Pv 0 σ H1 ∧ (∀ i σ H, Pv i σ H → i < xs.length ∧ SqL K H a xs) ∧
  ∀ i y σ H, xs[i]? = some y → Pv i σ H → g y σ H fun σ2 H2 => tb { D with nx := Pv (i + 1), ct := Pv (i + 1), bk := D.nx } σ2 H2
section
variable {X : Cx} {tg : Expr}
theorem ps_forN {iter : Expr} {body : List Stmt} {tl : TE} {g : TG} {tb : TS} {pos : Pos} (hp : PassesOwn (model X.prog X.w) X.A X.env X.xe) (hl : PE X iter tl) (hg : PG X tg g) (hb : PSs X body tb)
    (hs : ∀ x, foldedSetIterable iter X.env x = pure x := by intro _; rfl) : PS X (.For tg iter body [] pos) (tForN X.K tl g tb) := by
  refine ⟨fun pins s σ H D I h => ?_⟩
  refine wpAny_For (thn (hl.run pins s σ H _ I h) fun v s1 ⟨x, H1, I1, r1, q1⟩ => ?_) hs
  obtain ⟨a, xs, Pv, rfl, h0, hP, step⟩ := q1
  cases r1
  obtain ⟨its0, rv0, pl0, hz0⟩ := I1.list (hP 0 σ H1 h0).2
  refine wpAny_pyIter_list pl0.isList ?_
  generalize hit : s1.heap.objs.size = it
  have I2 : Inv X pins σ H1 { s1 with heap := s1.heap.push { cls := .type "list_iterator", data := .fields #[.ref a, .int 0 0] } } := I1.kept (t' := s1.toks) fun b o e => Heap.get?_push_of_some _ e
  have st0 : (s1.heap.push { cls := .type "list_iterator", data := .fields #[.ref a, .int 0 0] }).IsListIter it a 0 := ⟨_, hit ▸ Heap.get?_push_size _ rfl, rfl, rfl⟩
  have fk : FpOk X pins H1 it := hit ▸ I1.fpOk (Nat.le_refl _) (I1.hok.fresh (Nat.le_refl _))
  have stat : ∀ {H' : Hp}, H' it = none → ∀ b ∈ [it], FpOk X pins H' b := fun {H'} hn b hb => by
    obtain rfl : b = it := by simpa using hb
    exact ⟨hn, fk.2⟩
  have objs : ∀ {i : Nat} {h : Heap}, h.IsListIter it a i → ∀ b ∈ [it], ∃ o, h.get? b = some o ∧ ∀ v, o.data ≠ .cell v := fun {i h} st b hb => by
    obtain rfl : b = it := by simpa using hb
    obtain ⟨o, e, c, d⟩ := st
    exact ⟨o, e, fun v z => by rw [d] at z; cases z⟩
  have again : ∀ {i : Nat} {h' : Heap} {s7 : Shared} {σ7 : St} {H7 : Hp}, h'.IsListIter it a (i + 1) → i < xs.length → Inv X (pins ++ pinsAt [it] h') σ7 H7 s7 → Pv (i + 1) σ7 H7 → ∃ m, m < xs.length - i ∧ ∃ i σ' H', Inv X pins σ' H' s7 ∧ s7.heap.IsListIter it a i ∧ H' it = none ∧ m = xs.length - i ∧ Pv i σ' H' := fun {i h' s7 σ7 H7} st hi I7 p7 => by
    have pin : ∀ o, h'.get? it = some o → s7.heap.get? it = some o := fun o e => (I7.pin (it, o) (List.mem_append_right _ (List.mem_append_right _ (mem_pinsAt (by simp) e)))).1
    obtain ⟨o, e, _⟩ := id st
    exact ⟨_, by omega, i + 1, σ7, H7, I7.unpinned, st.at pin, (I7.pin (it, o) (List.mem_append_right _ (List.mem_append_right _ (mem_pinsAt (by simp) e)))).2.1, rfl, p7⟩
  refine codeAny_forLoop_any (fun n s' => ∃ i σ' H', Inv X pins σ' H' s' ∧ s'.heap.IsListIter it a i ∧ H' it = none ∧ n = xs.length - i ∧ Pv i σ' H') ?_ (xs.length - 0) ⟨0, σ, H1, I2, st0, fk.1, rfl, h0⟩
  rintro n s3 ⟨i, σ3, H3, I3, st3, fr3, rfl, p3⟩
  obtain ⟨hi, hq⟩ := hP i σ3 H3 p3
  obtain ⟨its, rv, p, hz⟩ := I3.list hq
  obtain ⟨u, hu, ru⟩ := rv.get (List.getElem?_eq_getElem hi)
  obtain ⟨f0, f1, f2, f3, f4, f5⟩ := stat fr3 it (by simp)
  refine wpAny_passesOwn hp (wpAny_pyNext_list_item st3 p.isList (x := u) (by simpa using hu) fun h' st' sb => ?_)
  have I4 : Inv X pins σ3 H3 { s3 with heap := h' } := I3.turned (t' := s3.toks) (fun b o hb e => (sb.2 b hb).trans e) f0 f1 f3 f4 f5
  obtain ⟨o, e, c, d⟩ := id st'
  refine wpAny_passesOwn hp (go_of (s := { s3 with heap := h' }) e c d (by decide) ?_)
  have I5 := I4.pinned (stat fr3) (objs st')
  refine wpAny_passesOwn hp (thn (hg.run _ _ σ3 H3 xs[i] u _ I5 ru (step i xs[i] σ3 H3 (List.getElem?_eq_getElem hi) p3)) fun _ s6 ⟨σ6, H6, I6, q6⟩ => ?_)
  refine wpAny_passesOwn hp (thn (hb.run _ s6 σ6 H6 _ I6 q6) fun f s7 q7 => ?_)
  cases f with
  | next => obtain ⟨σ7, H7, I7, n7⟩ := q7; exact again st' hi I7 n7
  | cont => obtain ⟨σ7, H7, I7, n7⟩ := q7; exact again st' hi I7 n7
  | brk => obtain ⟨σ7, H7, I7, q7⟩ := q7; exact ⟨σ7, H7, I7.unpinned, q7⟩
  | ret v => obtain ⟨x7, σ7, H7, I7, r7, q7⟩ := q7; exact ⟨x7, σ7, H7, I7.unpinned, r7, q7⟩
end
end L2

set_option Elab.async false
set_option linter.all false
set_option maxRecDepth 100000
set_option maxHeartbeats 4000000
namespace K01
open PySem L2 Ew Tb GxR ND PK
local macro_rules | `(tactic| walk_at "len") => `(tactic| first | (intro h; obtain ⟨_, e, _⟩ := h; rw [e]; rfl) | (intro h; obtain ⟨_, _, e, _⟩ := h; rw [e]; rfl) | (intro h; obtain ⟨_, _, _, e, _⟩ := h; rw [e]; rfl) | (intro h; obtain ⟨_, _, _, _, e, _⟩ := h; rw [e]; rfl) | (intro h; obtain ⟨_, _, _, _, _, e, _⟩ := h; rw [e]; rfl) | (intro h; obtain ⟨_, _, _, _, _, _, e, _⟩ := h; rw [e]; rfl) | (intro h; obtain ⟨_, _, _, _, _, _, _, e, _⟩ := h; rw [e]; rfl) | (intro h; obtain ⟨_, _, _, _, _, _, _, _, e, _⟩ := h; rw [e]; rfl) | (intro h; obtain ⟨_, _, _, _, _, _, _, _, _, e, _⟩ := h; rw [e]; rfl) | (intro h; obtain ⟨_, _, _, _, _, _, _, _, _, _, e, _⟩ := h; rw [e]; rfl) | (intro h; obtain ⟨_, _, _, _, _, _, _, _, _, _, _, e, _⟩ := h; rw [e]; rfl) | (intro h; obtain ⟨_, _, _, _, _, _, _, _, _, _, _, _, e, _⟩ := h; rw [e]; rfl) | (intro h; obtain ⟨_, _, _, _, _, _, _, _, _, _, _, _, _, e, _⟩ := h; rw [e]; rfl))
local macro_rules | `(tactic| walk_at "len") => `(tactic| first | (intro h; obtain ⟨_, _, _, _, _, _, _, _, e, _⟩ := h; rw [e]; rfl) | (intro h; obtain ⟨_, _, _, _, _, _, _, _, _, e, _⟩ := h; rw [e]; rfl) | (intro h; obtain ⟨_, _, _, _, _, _, _, _, _, _, e, _⟩ := h; rw [e]; rfl) | (intro h; obtain ⟨_, _, _, _, _, _, _, _, _, _, _, e, _⟩ := h; rw [e]; rfl) | (intro h; obtain ⟨_, _, _, _, _, _, _, _, _, _, _, _, e, _⟩ := h; rw [e]; rfl) | (intro h; obtain ⟨_, _, _, _, _, _, _, _, _, _, _, _, _, e, _⟩ := h; rw [e]; rfl) | (intro h; obtain ⟨_, _, _, _, _, _, _, _, _, _, _, _, _, _, e, _⟩ := h; rw [e]; rfl) | (intro h; obtain ⟨_, _, _, _, _, _, _, _, _, _, _, _, _, _, _, e, _⟩ := h; rw [e]; rfl) | (intro h; obtain ⟨_, _, _, _, _, _, _, _, _, _, _, _, _, _, _, _, e, _⟩ := h; rw [e]; rfl) | (intro h; obtain ⟨_, _, _, _, _, _, _, _, _, _, _, _, _, _, _, _, _, e, _⟩ := h; rw [e]; rfl))
section
variable {P : Program} {w : World} {K : PySem.W.Frag} {mg : Str → Option Value} {base : Heap} {ad : Ad}
section
variable {X : Cx} {j : Nat} {x : Str} {p pos : Pos} {e : Expr} {es : List Expr} {t : TA} {W : WX}
theorem pd_makeT {P : Program} {w : World} {K : PySem.W.Frag} {mg : Str → Option Value} {base : Heap} (hX : X.prog = P ∧ X.w = w ∧ X.K = K ∧ X.mg = mg ∧ X.base = base) (hr : Room j X.A) (tk : Takes X W) (hg : Gl X x) (ha : PA X (e :: es) t)
    (hdb : (x == ("__debug__" : Str)) = false := by decide) (he : starEach (e :: es) X.env = (false, eval e X.env) :: starEach es X.env := by rfl) (hpl : (backTo pos (starEach es X.env)).any (·.1) = false := by rfl) :
    PE X (.Call (.Name x p) (e :: es) [] pos) (tMakeD P w K mg base j x W t) := by
  obtain ⟨rfl, rfl, rfl, rfl, rfl⟩ := hX
  exact pd_make hr tk hg ha hdb he hpl
end
theorem esc_trick {G : Prop} (Qe : Err → Hp → Prop) (R : Err → Hp → Prop) (main : (∀ e H', Qe e H' → R e H') → G) (h : ∀ e H', Qe e H' → R e H') : G := main h
inductive Res | non | num (n : Nat) | pair (t : Str) (ks : List NestedKey) | err (e : Err)
def RV (H : Hp) : Res → V → Prop
  | .non, v => v = .non
  | .num n, v => v = .int (n : Int)
  | .pair t ks, v => Ky H (.tup [.text t, .tup ks]) v
  | .err e, v => v = .str e.word
def fsAt (fs : List Fac) (n : Int) : Option Fac := if 0 ≤ n then fs[n.toNat]? else none
def doR (tabs : Tabs) (fs : List Fac) (kind : Int) (t : Str) (ks : List NestedKey) (n : Int) : Res × List Fac :=
  if kind = 0 then match addE tabs fs t ks with
    | some e => (.err e, fs)
    | none => (.num fs.length, fs ++ [(t, ks, true)])
  else if kind = 1 ∨ kind = 2 then match fsAt fs n with
    | none => (.err .fact, fs)
    | some x => if x.2.2 = decide (kind = 2) then (.err .state, fs) else (.non, setB fs n.toNat (decide (kind = 2)))
  else if kind = 3 then match fsAt fs n with
    | none => (.err .fact, fs)
    | some x => (.pair x.1 x.2.1, fs)
  else if arOf tabs t = none then (.err .tab, fs)
  else if .tup [.text t, .tup ks] ∈ keysF fs then (.num ((keysF fs).idxOf (.tup [.text t, .tup ks])), fs) else (.non, fs)
theorem fsAt_none {fs : List Fac} {n : Int} (h : ¬ (0 ≤ n ∧ n < fs.length)) : fsAt fs n = none := by
  unfold fsAt
  by_cases c : 0 ≤ n
  · rw [if_pos c]
    exact List.getElem?_eq_none (by omega)
  · rw [if_neg c]
theorem fsAt_some {fs : List Fac} {n : Int} {i : Nat} {x : Fac} (e : n = (i : Int)) (h : fs[i]? = some x) : fsAt fs n = some x := by
  unfold fsAt
  rw [e, if_pos (by omega), Int.toNat_natCast, h]
def esL : List Err := [.tab, .arg, .dup, .fact, .state]
def spDo (P : Program) (w : World) (ad : Ad) (PP : Addr) : Sp := fun vs H Q _ => ∃ (fv : V) (kind : Int) (t : Str) (rv : V) (n : Int), vs = [fv, .int kind, .str t, rv, .int n] ∧
  ((∃ f A tabs fs ks, 0 ≤ kind ∧ kind ≤ 4 ∧ fv = .ref f ∧ FO P w H ad.Facts f A tabs fs ∧ Ky H (.tup ks) rv ∧ NestedKey.depthAll ks ≤ 1 ∧ fs.length < 100 ∧
    ∀ H' v, FrF A H H' → FO P w H' ad.Facts f A tabs (doR tabs fs kind t ks n).2 → RV H' (doR tabs fs kind t ks n).1 v → Q v H') ∨
   (kind = 5 ∧ okZ (t, n) = false ∧ t.length ≤ 1000 ∧ TabG H PP ∧ ∀ H', FrT H H' → Q (.str "argument!") H'))
theorem ok_law_do (m_add : MetX P w K mg base 3 ad.Facts "add" (spAdd P w ad)) (m_give : MetX P w K mg base 3 ad.Facts "give_up" (spGive P w ad false)) (m_back : MetX P w K mg base 3 ad.Facts "bring_back" (spGive P w ad true)) (m_fact : MetX P w K mg base 3 ad.Facts "fact" (spFactM P w ad)) (m_find : MetX P w K mg base 3 ad.Facts "find" (spFind P w ad)) (mk_Facts : MakX P w K mg base 4 "Facts" ad.Facts (spFInit P w ad PP)) {f : Addr} {fd : FuncData} (F : Fun K "_law_do" "_law_do" s_law_do f fd) (T : Txt K mg ad) : FnOk P w K mg base (L2.CX P w) 7 f fd ["facts", "kind", "table", "row", "number"] (spDo P w ad PP) := by
  refine F.okX sc_law_do (fun vs H Q E => ?_) (fun cdv A outer s H vs Q E hr h => ?_)
  · walk_at "len"
  ·
    obtain ⟨fv, kind, t, rv, n, rfl, h⟩ := h
    refine ⟨_, (pss_cons (ps_tryD (i := 5) rfl rfl sc_law_do.nd rfl rfl ⟨rfl, by decide, .inl T.g_WorthError⟩ (takes_of rfl rfl rfl rfl))
      (pss_one (ps_ret pe_str))), ?_⟩
    rcases h with ⟨f0, A, tabs, fs, ks, k0, k4, rfl, fo, kr, hd, hl, kq⟩ | ⟨rfl, bz, xl, tg, kq⟩
    · obtain ⟨ra, rxs, rfl, er, kx⟩ := ky_tup kr
      have kr' : Ky H (.tup ks) (.ref ra) := .tup er kx
      refine go_sq ?_
      intro pn1 xe1 tk1 po1
      refine ⟨_, (pss_cons (ps_if (pt_cmpR op_eq (pv 1) pe_int (nomark _)) (pss_one (ps_ret (pd_meth hr tk1 (pv 0) (pa_cons (pv 2) (pa_cons (pv 3) pa_nil))))) pss_nil)
      (pss_cons (ps_if (pt_cmpR op_eq (pv 1) pe_int (nomark _)) (pss_one (ps_ret (pd_meth hr tk1 (pv 0) (pa_cons (pv 4) pa_nil)))) pss_nil)
      (pss_cons (ps_if (pt_cmpR op_eq (pv 1) pe_int (nomark _)) (pss_one (ps_ret (pd_meth hr tk1 (pv 0) (pa_cons (pv 4) pa_nil)))) pss_nil)
      (pss_cons (ps_if (pt_cmpR op_eq (pv 1) pe_int (nomark _)) (pss_one (ps_ret (pd_meth hr tk1 (pv 0) (pa_cons (pv 4) pa_nil)))) pss_nil)
      (pss_cons (ps_if (pt_cmpR op_eq (pv 1) pe_int (nomark _)) (pss_one (ps_ret (pd_meth hr tk1 (pv 0) (pa_cons (pv 2) (pa_cons (pv 3) pa_nil))))) pss_nil)
      (pss_one (ps_ret (pd_makeT (P := P) (w := w) (K := K) (mg := mg) (base := base) (x := "Facts") ⟨rfl, rfl, rfl, rfl, rfl⟩ hr tk1 (by rfl) (pa_cons (pe_lst (pa_cons (pe_tup (pa_cons (pv 2) (pa_cons (pv 4) pa_nil))) pa_nil)) pa_nil))))))))), ?_⟩
      apply esc_trick (fun e H' => ∀ H'', Same H' H'' → Q (.str e.word) H'')
      · intro esc
        refine go_sq ⟨_, rfl, rfl, _, rfl, ?_⟩
        refine ite2 (fun c0 => ?_) (fun c0 => ?_)
        · have c0' : kind = 0 := by injection of_decide_eq_true c0
          refine ⟨_, rfl, f0, ad.Facts, A.dx, A.fs_, 3, _, rfl, fo.ins, fF_no _ _ _ _ _ (by decide) (by decide) (by decide) (by decide) (by decide), by decide, m_add, _, rfl, _, rfl, f0, A, tabs, fs, t, ks, _, rfl, fo, kr', hd, hl, fun e he H' s' => esc e H' ?_, fun he H' fr fo' => ?_⟩
          · intro H'' s''
            have hdo : doR tabs fs kind t ks n = (.err e, fs) := by unfold doR; rw [if_pos c0', he]
            have s3 : Same H H'' := fun b o z => s'' _ _ (s' _ _ z)
            exact kq H'' _ (.of s3) (by rw [hdo]; exact fo.same s3) (by rw [hdo]; rfl)
          · have hdo : doR tabs fs kind t ks n = (.num fs.length, fs ++ [(t, ks, true)]) := by unfold doR; rw [if_pos c0', he]
            exact kq H' _ fr (by rw [hdo]; exact fo') (by rw [hdo]; rfl)
        have c0' : ¬ kind = 0 := fun z => c0 (decide_eq_true (by rw [z]))
        refine go_nx (go_sq ⟨_, rfl, rfl, _, rfl, ?_⟩)
        refine ite2 (fun c1 => ?_) (fun c1 => ?_)
        · have c1' : kind = 1 := by injection of_decide_eq_true c1
          refine ⟨_, rfl, f0, ad.Facts, A.dx, A.fs_, 3, _, rfl, fo.ins, fF_no _ _ _ _ _ (by decide) (by decide) (by decide) (by decide) (by decide), by decide, m_give, _, rfl, f0, A, tabs, fs, n, rfl, fo, fun hn => esc .fact H fun H'' s'' => ?_, fun i x en hx => ⟨fun hb => esc .state H fun H'' s'' => ?_, fun hb H' fr fo' => ?_⟩⟩
          · have hdo : doR tabs fs kind t ks n = (.err .fact, fs) := by unfold doR; rw [if_neg c0', if_pos (.inl c1'), fsAt_none hn]
            exact kq H'' _ (.of s'') (by rw [hdo]; exact fo.same s'') (by rw [hdo]; rfl)
          · have hdo : doR tabs fs kind t ks n = (.err .state, fs) := by
              unfold doR
              rw [if_neg c0', if_pos (.inl c1'), fsAt_some en hx]
              show (if x.2.2 = decide (kind = 2) then _ else _) = _
              rw [if_pos (by rw [hb, c1']; rfl)]
            exact kq H'' _ (.of s'') (by rw [hdo]; exact fo.same s'') (by rw [hdo]; rfl)
          · have hdo : doR tabs fs kind t ks n = (.non, setB fs i false) := by
              unfold doR
              rw [if_neg c0', if_pos (.inl c1'), fsAt_some en hx]
              show (if x.2.2 = decide (kind = 2) then _ else _) = _
              rw [if_neg (fun z => hb (by rw [z, c1']; rfl)), c1', en, Int.toNat_natCast]; rfl
            exact kq H' _ fr (by rw [hdo]; exact fo') (by rw [hdo]; rfl)
        have c1' : ¬ kind = 1 := fun z => c1 (decide_eq_true (by rw [z]))
        refine go_nx (go_sq ⟨_, rfl, rfl, _, rfl, ?_⟩)
        refine ite2 (fun c2 => ?_) (fun c2 => ?_)
        · have c2' : kind = 2 := by injection of_decide_eq_true c2
          refine ⟨_, rfl, f0, ad.Facts, A.dx, A.fs_, 3, _, rfl, fo.ins, fF_no _ _ _ _ _ (by decide) (by decide) (by decide) (by decide) (by decide), by decide, m_back, _, rfl, f0, A, tabs, fs, n, rfl, fo, fun hn => esc .fact H fun H'' s'' => ?_, fun i x en hx => ⟨fun hb => esc .state H fun H'' s'' => ?_, fun hb H' fr fo' => ?_⟩⟩
          · have hdo : doR tabs fs kind t ks n = (.err .fact, fs) := by unfold doR; rw [if_neg c0', if_pos (.inr c2'), fsAt_none hn]
            exact kq H'' _ (.of s'') (by rw [hdo]; exact fo.same s'') (by rw [hdo]; rfl)
          · have hdo : doR tabs fs kind t ks n = (.err .state, fs) := by
              unfold doR
              rw [if_neg c0', if_pos (.inr c2'), fsAt_some en hx]
              show (if x.2.2 = decide (kind = 2) then _ else _) = _
              rw [if_pos (by rw [hb, c2']; rfl)]
            exact kq H'' _ (.of s'') (by rw [hdo]; exact fo.same s'') (by rw [hdo]; rfl)
          · have hdo : doR tabs fs kind t ks n = (.non, setB fs i true) := by
              unfold doR
              rw [if_neg c0', if_pos (.inr c2'), fsAt_some en hx]
              show (if x.2.2 = decide (kind = 2) then _ else _) = _
              rw [if_neg (fun z => hb (by rw [z, c2']; rfl)), c2', en, Int.toNat_natCast]; rfl
            exact kq H' _ fr (by rw [hdo]; exact fo') (by rw [hdo]; rfl)
        have c2' : ¬ kind = 2 := fun z => c2 (decide_eq_true (by rw [z]))
        have c12 : ¬ (kind = 1 ∨ kind = 2) := fun z => z.elim c1' c2'
        refine go_nx (go_sq ⟨_, rfl, rfl, _, rfl, ?_⟩)
        refine ite2 (fun c3 => ?_) (fun c3 => ?_)
        · have c3' : kind = 3 := by injection of_decide_eq_true c3
          refine ⟨_, rfl, f0, ad.Facts, A.dx, A.fs_, 3, _, rfl, fo.ins, fF_no _ _ _ _ _ (by decide) (by decide) (by decide) (by decide) (by decide), by decide, m_fact, _, rfl, f0, A, tabs, fs, n, rfl, fo, fun i x v en hx kv => ?_, fun hn => esc .fact H fun H'' s'' => ?_⟩
          · have hdo : doR tabs fs kind t ks n = (.pair x.1 x.2.1, fs) := by unfold doR; rw [if_neg c0', if_neg c12, if_pos c3', fsAt_some en hx]
            exact kq H _ (.of (Same.refl _)) (by rw [hdo]; exact fo) (by rw [hdo]; exact kv)
          · have hdo : doR tabs fs kind t ks n = (.err .fact, fs) := by unfold doR; rw [if_neg c0', if_neg c12, if_pos c3', fsAt_none hn]
            exact kq H'' _ (.of s'') (by rw [hdo]; exact fo.same s'') (by rw [hdo]; rfl)
        have c3' : ¬ kind = 3 := fun z => c3 (decide_eq_true (by rw [z]))
        refine go_nx (go_sq ⟨_, rfl, rfl, _, rfl, ?_⟩)
        refine ite2 (fun c4 => ?_) (fun c4 => ?_)
        · refine ⟨_, rfl, f0, ad.Facts, A.dx, A.fs_, 3, _, rfl, fo.ins, fF_no _ _ _ _ _ (by decide) (by decide) (by decide) (by decide) (by decide), by decide, m_find, _, rfl, _, rfl, f0, A, tabs, fs, t, ks, _, rfl, fo, kr', hd, fun ha => esc .tab H fun H'' s'' => ?_, fun ha H' s' => ?_⟩
          · have hdo : doR tabs fs kind t ks n = (.err .tab, fs) := by unfold doR; rw [if_neg c0', if_neg c12, if_neg c3', if_pos ha]
            exact kq H'' _ (.of s'') (by rw [hdo]; exact fo.same s'') (by rw [hdo]; rfl)
          · by_cases ck : .tup [.text t, .tup ks] ∈ keysF fs
            · have hdo : doR tabs fs kind t ks n = (.num ((keysF fs).idxOf (.tup [.text t, .tup ks])), fs) := by unfold doR; rw [if_neg c0', if_neg c12, if_neg c3', if_neg ha, if_pos ck]
              rw [if_pos ck]
              exact kq H' _ (.of s') (by rw [hdo]; exact fo.same s') (by rw [hdo]; rfl)
            · have hdo : doR tabs fs kind t ks n = (.non, fs) := by unfold doR; rw [if_neg c0', if_neg c12, if_neg c3', if_neg ha, if_neg ck]
              rw [if_neg ck]
              exact kq H' _ (.of s') (by rw [hdo]; exact fo.same s') (by rw [hdo]; rfl)
        exact absurd (decide_eq_true (show V.int kind = V.int 4 by rw [show kind = 4 by omega])) c4
      · intro e H' hq0
        refine ⟨true, T.em e, fun _ a ha => ?_, fun q => Bool.noConfusion q⟩
        intro oe pn hz hf
        refine ⟨_, (pss_one (ps_forN PassesOwn.never (pe_lst (pa_cons (pe_tup (pa_cons pe_str (pa_cons (pe_callB (call_isED hz hf) (by rfl) T.z_isinstance (by decide +kernel) (pa_cons (pv 5) (pa_cons (pe_gcls (by rfl) T.g_UnknownTable) pa_nil))) pa_nil))) (pa_cons (pe_tup (pa_cons pe_str (pa_cons (pe_callB (call_isED hz hf) (by rfl) T.z_isinstance (by decide +kernel) (pa_cons (pv 5) (pa_cons (pe_gcls (by rfl) T.g_InvalidArgument) pa_nil))) pa_nil))) (pa_cons (pe_tup (pa_cons pe_str (pa_cons (pe_callB (call_isED hz hf) (by rfl) T.z_isinstance (by decide +kernel) (pa_cons (pv 5) (pa_cons (pe_gcls (by rfl) T.g_DuplicateFact) pa_nil))) pa_nil))) (pa_cons (pe_tup (pa_cons pe_str (pa_cons (pe_callB (call_isED hz hf) (by rfl) T.z_isinstance (by decide +kernel) (pa_cons (pv 5) (pa_cons (pe_gcls (by rfl) T.g_UnknownFact) pa_nil))) pa_nil))) (pa_cons (pe_tup (pa_cons pe_str (pa_cons (pe_callB (call_isED hz hf) (by rfl) T.z_isinstance (by decide +kernel) (pa_cons (pv 5) (pa_cons (pe_gcls (by rfl) T.g_WrongState) pa_nil))) pa_nil))) pa_nil)))))) (pg_name (i := 6) sc_law_do.nd rfl (by first | exact Or.inl rfl | exact Or.inr rfl)) (pss_one (ps_if (pt_val (pe_ix ix_tup (pv 6) pe_int (fun _ _ => rfl))) (pss_one (ps_ret (pe_ix ix_tup (pv 6) pe_int (fun _ _ => rfl)))) pss_nil)))), ?_⟩
        refine ⟨_, rfl, _, rfl, rfl, T.ec e, _, _, decide (e = .tab), rfl, fun u hu => hu, T.ki e .tab, (show 2 ≤ sizeLine by decide), fun p1 hp1 => ?_⟩
        have y1 := same_new (o := .tup [.str "table!", .bl (decide (e = .tab))]) (Same.refl H') hp1
        have e1 : (upd H' p1 (.tup [.str "table!", .bl (decide (e = .tab))])) p1 = some (.tup [.str "table!", .bl (decide (e = .tab))]) := upd_same
        have s1 : Same H' (upd H' p1 (.tup [.str "table!", .bl (decide (e = .tab))])) := y1
        clear y1
        generalize hH1 : upd H' p1 (.tup [.str "table!", .bl (decide (e = .tab))]) = H1 at s1 e1
        refine ⟨_, rfl, _, rfl, rfl, T.ec e, _, _, decide (e = .arg), rfl, fun u hu => hu, T.ki e .arg, (show 2 ≤ sizeLine by decide), fun p2 hp2 => ?_⟩
        have y2 := same_new (o := .tup [.str "argument!", .bl (decide (e = .arg))]) (Same.refl H1) hp2
        have e2 : (upd H1 p2 (.tup [.str "argument!", .bl (decide (e = .arg))])) p2 = some (.tup [.str "argument!", .bl (decide (e = .arg))]) := upd_same
        have s2 : Same H' (upd H1 p2 (.tup [.str "argument!", .bl (decide (e = .arg))])) := fun b o z => y2 _ _ (s1 _ _ z)
        replace e1 := y2 _ _ e1
        clear y2
        generalize hH2 : upd H1 p2 (.tup [.str "argument!", .bl (decide (e = .arg))]) = H2 at s2 e1 e2
        refine ⟨_, rfl, _, rfl, rfl, T.ec e, _, _, decide (e = .dup), rfl, fun u hu => hu, T.ki e .dup, (show 2 ≤ sizeLine by decide), fun p3 hp3 => ?_⟩
        have y3 := same_new (o := .tup [.str "double!", .bl (decide (e = .dup))]) (Same.refl H2) hp3
        have e3 : (upd H2 p3 (.tup [.str "double!", .bl (decide (e = .dup))])) p3 = some (.tup [.str "double!", .bl (decide (e = .dup))]) := upd_same
        have s3 : Same H' (upd H2 p3 (.tup [.str "double!", .bl (decide (e = .dup))])) := fun b o z => y3 _ _ (s2 _ _ z)
        replace e1 := y3 _ _ e1
        replace e2 := y3 _ _ e2
        clear y3
        generalize hH3 : upd H2 p3 (.tup [.str "double!", .bl (decide (e = .dup))]) = H3 at s3 e1 e2 e3
        refine ⟨_, rfl, _, rfl, rfl, T.ec e, _, _, decide (e = .fact), rfl, fun u hu => hu, T.ki e .fact, (show 2 ≤ sizeLine by decide), fun p4 hp4 => ?_⟩
        have y4 := same_new (o := .tup [.str "fact!", .bl (decide (e = .fact))]) (Same.refl H3) hp4
        have e4 : (upd H3 p4 (.tup [.str "fact!", .bl (decide (e = .fact))])) p4 = some (.tup [.str "fact!", .bl (decide (e = .fact))]) := upd_same
        have s4 : Same H' (upd H3 p4 (.tup [.str "fact!", .bl (decide (e = .fact))])) := fun b o z => y4 _ _ (s3 _ _ z)
        replace e1 := y4 _ _ e1
        replace e2 := y4 _ _ e2
        replace e3 := y4 _ _ e3
        clear y4
        generalize hH4 : upd H3 p4 (.tup [.str "fact!", .bl (decide (e = .fact))]) = H4 at s4 e1 e2 e3 e4
        refine ⟨_, rfl, _, rfl, rfl, T.ec e, _, _, decide (e = .state), rfl, fun u hu => hu, T.ki e .state, (show 2 ≤ sizeLine by decide), fun p5 hp5 => ?_⟩
        have y5 := same_new (o := .tup [.str "state!", .bl (decide (e = .state))]) (Same.refl H4) hp5
        have e5 : (upd H4 p5 (.tup [.str "state!", .bl (decide (e = .state))])) p5 = some (.tup [.str "state!", .bl (decide (e = .state))]) := upd_same
        have s5 : Same H' (upd H4 p5 (.tup [.str "state!", .bl (decide (e = .state))])) := fun b o z => y5 _ _ (s4 _ _ z)
        replace e1 := y5 _ _ e1
        replace e2 := y5 _ _ e2
        replace e3 := y5 _ _ e3
        replace e4 := y5 _ _ e4
        clear y5
        generalize hH5 : upd H4 p5 (.tup [.str "state!", .bl (decide (e = .state))]) = H5 at s5 e1 e2 e3 e4 e5
        refine ⟨(show 5 ≤ sizeLine by decide), fun L hL => ?_⟩
        have y6 := same_new (o := .lst [.ref p1, .ref p2, .ref p3, .ref p4, .ref p5]) (Same.refl H5) hL
        have e6 : (upd H5 L (.lst [.ref p1, .ref p2, .ref p3, .ref p4, .ref p5])) L = some (.lst [.ref p1, .ref p2, .ref p3, .ref p4, .ref p5]) := upd_same
        have s6 : Same H' (upd H5 L (.lst [.ref p1, .ref p2, .ref p3, .ref p4, .ref p5])) := fun b o z => y6 _ _ (s5 _ _ z)
        replace e1 := y6 _ _ e1
        replace e2 := y6 _ _ e2
        replace e3 := y6 _ _ e3
        replace e4 := y6 _ _ e4
        replace e5 := y6 _ _ e5
        clear y6
        generalize upd H5 L (.lst [.ref p1, .ref p2, .ref p3, .ref p4, .ref p5]) = H6 at s6 e1 e2 e3 e4 e5 e6
        have at_ : ∀ (i : Nat) y, ([.ref p1, .ref p2, .ref p3, .ref p4, .ref p5] : List V)[i]? = some y → ∃ q e', y = .ref q ∧ esL[i]? = some e' ∧ H6 q = some (.tup [.str e'.word, .bl (decide (e = e'))]) := fun i y hy => by
          match i, hy with
          | 0, hy => cases hy; exact ⟨_, _, rfl, rfl, e1⟩
          | 1, hy => cases hy; exact ⟨_, _, rfl, rfl, e2⟩
          | 2, hy => cases hy; exact ⟨_, _, rfl, rfl, e3⟩
          | 3, hy => cases hy; exact ⟨_, _, rfl, rfl, e4⟩
          | 4, hy => cases hy; exact ⟨_, _, rfl, rfl, e5⟩
        refine ⟨L, [.ref p1, .ref p2, .ref p3, .ref p4, .ref p5], fun i σ H'' => ∃ vp, σ = [some (.ref f0), some (.int kind), some (.str t), some (.ref ra), some (.int n), some (.ref a), vp] ∧ H'' = H6 ∧ i ≤ 5 ∧ ∀ j, j < i → esL[j]? ≠ some e, rfl, ⟨none, rfl, rfl, by omega, fun j h => absurd h (Nat.not_lt_zero _)⟩, ?_, ?_⟩
        · rintro i σ H'' ⟨vp, rfl, rfl, hi, ne⟩
          refine ⟨?_, SqL.of e6⟩
          refine Nat.lt_of_le_of_ne hi fun z => ?_
          subst z
          cases e with
          | tab => exact ne 0 (show 0 < 5 by decide) rfl
          | arg => exact ne 1 (show 1 < 5 by decide) rfl
          | dup => exact ne 2 (show 2 < 5 by decide) rfl
          | fact => exact ne 3 (show 3 < 5 by decide) rfl
          | state => exact ne 4 (show 4 < 5 by decide) rfl
        · rintro i y σ H'' hy ⟨vp, rfl, rfl, hi, ne⟩
          obtain ⟨q, e', rfl, he', hq⟩ := at_ i y hy
          have hi5 : i < 5 := (List.getElem?_eq_some_iff.mp hy).1
          refine go_name rfl ⟨_, rfl, q, _, _, .bl (decide (e = e')), rfl, rfl, SqT.of hq, at_of (j := 1) rfl rfl, decide (e = e'), rfl, ?_⟩
          by_cases c : e = e'
          · rw [decide_eq_true c]
            refine iteT ⟨_, rfl, q, _, _, .str e'.word, rfl, rfl, SqT.of hq, at_of (j := 0) rfl rfl, ?_⟩
            rw [← c]
            exact hq0 _ s6
          · rw [decide_eq_false c]
            refine iteF (go_nx ⟨_, rfl, rfl, by omega, fun j hj => ?_⟩)
            rcases Nat.lt_or_ge j i with h | h
            · exact ne j h
            · obtain rfl : j = i := by omega
              rw [he']
              exact fun z => c (Option.some.inj z).symm
    · refine go_sq ?_
      intro pn1 xe1 tk1 po1
      refine ⟨_, (pss_cons (ps_if (pt_cmpR op_eq (pv 1) pe_int (nomark _)) (pss_one (ps_ret (pd_meth hr tk1 (pv 0) (pa_cons (pv 2) (pa_cons (pv 3) pa_nil))))) pss_nil)
      (pss_cons (ps_if (pt_cmpR op_eq (pv 1) pe_int (nomark _)) (pss_one (ps_ret (pd_meth hr tk1 (pv 0) (pa_cons (pv 4) pa_nil)))) pss_nil)
      (pss_cons (ps_if (pt_cmpR op_eq (pv 1) pe_int (nomark _)) (pss_one (ps_ret (pd_meth hr tk1 (pv 0) (pa_cons (pv 4) pa_nil)))) pss_nil)
      (pss_cons (ps_if (pt_cmpR op_eq (pv 1) pe_int (nomark _)) (pss_one (ps_ret (pd_meth hr tk1 (pv 0) (pa_cons (pv 4) pa_nil)))) pss_nil)
      (pss_cons (ps_if (pt_cmpR op_eq (pv 1) pe_int (nomark _)) (pss_one (ps_ret (pd_meth hr tk1 (pv 0) (pa_cons (pv 2) (pa_cons (pv 3) pa_nil))))) pss_nil)
      (pss_one (ps_ret (pd_makeT (P := P) (w := w) (K := K) (mg := mg) (base := base) (x := "Facts") ⟨rfl, rfl, rfl, rfl, rfl⟩ hr tk1 (by rfl) (pa_cons (pe_lst (pa_cons (pe_tup (pa_cons (pv 2) (pa_cons (pv 4) pa_nil))) pa_nil)) pa_nil))))))))), ?_⟩
      apply esc_trick (fun e H' => ∀ H'', Same H' H'' → Q (.str e.word) H'')
      · intro esc
        refine go_sq ⟨_, rfl, rfl, _, rfl, iteF ?_⟩
        refine go_nx (go_sq ⟨_, rfl, rfl, _, rfl, iteF ?_⟩)
        refine go_nx (go_sq ⟨_, rfl, rfl, _, rfl, iteF ?_⟩)
        refine go_nx (go_sq ⟨_, rfl, rfl, _, rfl, iteF ?_⟩)
        refine go_nx (go_sq ⟨_, rfl, rfl, _, rfl, iteF ?_⟩)
        refine go_nx ?_
        refine ⟨4, ad.Facts, _, by decide, mk_Facts, _, rfl, _, rfl, (show 2 ≤ sizeLine by decide), fun p hp => ⟨(show 1 ≤ sizeLine by decide), fun l hl => ?_⟩⟩
        intro y dy hy hdy ndy
        have nz : ¬ goodZ [(t, n)] := fun z => by have := (z 0 (t, n) rfl).1; rw [bz] at this; cases this
        have s1 := same_new (o := .tup [.str t, .int n]) (Same.refl H) hp
        have e1 : (upd H p (.tup [.str t, .int n])) p = some (.tup [.str t, .int n]) := upd_same
        generalize upd H p (.tup [.str t, .int n]) = H1 at s1 e1 hl hy hdy
        have y2 := same_new (o := .lst [.ref p]) (Same.refl H1) hl
        replace e1 := y2 _ _ e1
        have e2 : (upd H1 l (.lst [.ref p])) l = some (.lst [.ref p]) := upd_same
        have s2 : Same H (upd H1 l (.lst [.ref p])) := fun b o z => y2 _ _ (s1 _ _ z)
        clear y2
        generalize upd H1 l (.lst [.ref p]) = H2 at s2 e1 e2 hy hdy
        have s3 : Same H2 (upd (upd H2 dy (.own y)) y (.ins ad.Facts dy [])) := fun b o e => same_new (o := .ins ad.Facts dy []) (Same.refl _) (show (upd H2 dy (HO.own y)) y = none by rw [upd_ne (Ne.symm ndy)]; exact hy) _ _ (same_new (Same.refl _) hdy _ _ e)
        refine ⟨y, dy, l, [.ref p], [(t, n)], rfl, upd_same, s3 _ _ e2, ⟨rfl, fun i z hz => ?_⟩, (by show 1 ≤ 10; decide), fun z hz => ?_, (FrT.of s3).tabs _ ((FrT.of s2).tabs _ tg), fun _ _ gz => absurd gz nz, fun _ H3 x3 => ?_⟩
        · cases i with
          | zero => cases hz; exact ⟨p, rfl, s3 _ _ e1⟩
          | succ i => simp at hz
        · rw [List.mem_singleton.mp hz]; exact xl
        · obtain ⟨ee, hee⟩ : ∃ ee, ee = Err.arg := ⟨_, rfl⟩
          have hE : ad.InvalidArgument = ad.err ee := by rw [hee]; rfl
          rw [hE]
          exact esc ee H3 fun H4 s4 => by rw [hee]; exact kq H4 (((FrT.of s2).trans (x3.frt hy hdy)).trans (.of s4))
      · intro e H' hq0
        refine ⟨true, T.em e, fun _ a ha => ?_, fun q => Bool.noConfusion q⟩
        intro oe pn hz hf
        refine ⟨_, (pss_one (ps_forN PassesOwn.never (pe_lst (pa_cons (pe_tup (pa_cons pe_str (pa_cons (pe_callB (call_isED hz hf) (by rfl) T.z_isinstance (by decide +kernel) (pa_cons (pv 5) (pa_cons (pe_gcls (by rfl) T.g_UnknownTable) pa_nil))) pa_nil))) (pa_cons (pe_tup (pa_cons pe_str (pa_cons (pe_callB (call_isED hz hf) (by rfl) T.z_isinstance (by decide +kernel) (pa_cons (pv 5) (pa_cons (pe_gcls (by rfl) T.g_InvalidArgument) pa_nil))) pa_nil))) (pa_cons (pe_tup (pa_cons pe_str (pa_cons (pe_callB (call_isED hz hf) (by rfl) T.z_isinstance (by decide +kernel) (pa_cons (pv 5) (pa_cons (pe_gcls (by rfl) T.g_DuplicateFact) pa_nil))) pa_nil))) (pa_cons (pe_tup (pa_cons pe_str (pa_cons (pe_callB (call_isED hz hf) (by rfl) T.z_isinstance (by decide +kernel) (pa_cons (pv 5) (pa_cons (pe_gcls (by rfl) T.g_UnknownFact) pa_nil))) pa_nil))) (pa_cons (pe_tup (pa_cons pe_str (pa_cons (pe_callB (call_isED hz hf) (by rfl) T.z_isinstance (by decide +kernel) (pa_cons (pv 5) (pa_cons (pe_gcls (by rfl) T.g_WrongState) pa_nil))) pa_nil))) pa_nil)))))) (pg_name (i := 6) sc_law_do.nd rfl (by first | exact Or.inl rfl | exact Or.inr rfl)) (pss_one (ps_if (pt_val (pe_ix ix_tup (pv 6) pe_int (fun _ _ => rfl))) (pss_one (ps_ret (pe_ix ix_tup (pv 6) pe_int (fun _ _ => rfl)))) pss_nil)))), ?_⟩
        refine ⟨_, rfl, _, rfl, rfl, T.ec e, _, _, decide (e = .tab), rfl, fun u hu => hu, T.ki e .tab, (show 2 ≤ sizeLine by decide), fun p1 hp1 => ?_⟩
        have y1 := same_new (o := .tup [.str "table!", .bl (decide (e = .tab))]) (Same.refl H') hp1
        have e1 : (upd H' p1 (.tup [.str "table!", .bl (decide (e = .tab))])) p1 = some (.tup [.str "table!", .bl (decide (e = .tab))]) := upd_same
        have s1 : Same H' (upd H' p1 (.tup [.str "table!", .bl (decide (e = .tab))])) := y1
        clear y1
        generalize hH1 : upd H' p1 (.tup [.str "table!", .bl (decide (e = .tab))]) = H1 at s1 e1
        refine ⟨_, rfl, _, rfl, rfl, T.ec e, _, _, decide (e = .arg), rfl, fun u hu => hu, T.ki e .arg, (show 2 ≤ sizeLine by decide), fun p2 hp2 => ?_⟩
        have y2 := same_new (o := .tup [.str "argument!", .bl (decide (e = .arg))]) (Same.refl H1) hp2
        have e2 : (upd H1 p2 (.tup [.str "argument!", .bl (decide (e = .arg))])) p2 = some (.tup [.str "argument!", .bl (decide (e = .arg))]) := upd_same
        have s2 : Same H' (upd H1 p2 (.tup [.str "argument!", .bl (decide (e = .arg))])) := fun b o z => y2 _ _ (s1 _ _ z)
        replace e1 := y2 _ _ e1
        clear y2
        generalize hH2 : upd H1 p2 (.tup [.str "argument!", .bl (decide (e = .arg))]) = H2 at s2 e1 e2
        refine ⟨_, rfl, _, rfl, rfl, T.ec e, _, _, decide (e = .dup), rfl, fun u hu => hu, T.ki e .dup, (show 2 ≤ sizeLine by decide), fun p3 hp3 => ?_⟩
        have y3 := same_new (o := .tup [.str "double!", .bl (decide (e = .dup))]) (Same.refl H2) hp3
        have e3 : (upd H2 p3 (.tup [.str "double!", .bl (decide (e = .dup))])) p3 = some (.tup [.str "double!", .bl (decide (e = .dup))]) := upd_same
        have s3 : Same H' (upd H2 p3 (.tup [.str "double!", .bl (decide (e = .dup))])) := fun b o z => y3 _ _ (s2 _ _ z)
        replace e1 := y3 _ _ e1
        replace e2 := y3 _ _ e2
        clear y3
        generalize hH3 : upd H2 p3 (.tup [.str "double!", .bl (decide (e = .dup))]) = H3 at s3 e1 e2 e3
        refine ⟨_, rfl, _, rfl, rfl, T.ec e, _, _, decide (e = .fact), rfl, fun u hu => hu, T.ki e .fact, (show 2 ≤ sizeLine by decide), fun p4 hp4 => ?_⟩
        have y4 := same_new (o := .tup [.str "fact!", .bl (decide (e = .fact))]) (Same.refl H3) hp4
        have e4 : (upd H3 p4 (.tup [.str "fact!", .bl (decide (e = .fact))])) p4 = some (.tup [.str "fact!", .bl (decide (e = .fact))]) := upd_same
        have s4 : Same H' (upd H3 p4 (.tup [.str "fact!", .bl (decide (e = .fact))])) := fun b o z => y4 _ _ (s3 _ _ z)
        replace e1 := y4 _ _ e1
        replace e2 := y4 _ _ e2
        replace e3 := y4 _ _ e3
        clear y4
        generalize hH4 : upd H3 p4 (.tup [.str "fact!", .bl (decide (e = .fact))]) = H4 at s4 e1 e2 e3 e4
        refine ⟨_, rfl, _, rfl, rfl, T.ec e, _, _, decide (e = .state), rfl, fun u hu => hu, T.ki e .state, (show 2 ≤ sizeLine by decide), fun p5 hp5 => ?_⟩
        have y5 := same_new (o := .tup [.str "state!", .bl (decide (e = .state))]) (Same.refl H4) hp5
        have e5 : (upd H4 p5 (.tup [.str "state!", .bl (decide (e = .state))])) p5 = some (.tup [.str "state!", .bl (decide (e = .state))]) := upd_same
        have s5 : Same H' (upd H4 p5 (.tup [.str "state!", .bl (decide (e = .state))])) := fun b o z => y5 _ _ (s4 _ _ z)
        replace e1 := y5 _ _ e1
        replace e2 := y5 _ _ e2
        replace e3 := y5 _ _ e3
        replace e4 := y5 _ _ e4
        clear y5
        generalize hH5 : upd H4 p5 (.tup [.str "state!", .bl (decide (e = .state))]) = H5 at s5 e1 e2 e3 e4 e5
        refine ⟨(show 5 ≤ sizeLine by decide), fun L hL => ?_⟩
        have y6 := same_new (o := .lst [.ref p1, .ref p2, .ref p3, .ref p4, .ref p5]) (Same.refl H5) hL
        have e6 : (upd H5 L (.lst [.ref p1, .ref p2, .ref p3, .ref p4, .ref p5])) L = some (.lst [.ref p1, .ref p2, .ref p3, .ref p4, .ref p5]) := upd_same
        have s6 : Same H' (upd H5 L (.lst [.ref p1, .ref p2, .ref p3, .ref p4, .ref p5])) := fun b o z => y6 _ _ (s5 _ _ z)
        replace e1 := y6 _ _ e1
        replace e2 := y6 _ _ e2
        replace e3 := y6 _ _ e3
        replace e4 := y6 _ _ e4
        replace e5 := y6 _ _ e5
        clear y6
        generalize upd H5 L (.lst [.ref p1, .ref p2, .ref p3, .ref p4, .ref p5]) = H6 at s6 e1 e2 e3 e4 e5 e6
        have at_ : ∀ (i : Nat) y, ([.ref p1, .ref p2, .ref p3, .ref p4, .ref p5] : List V)[i]? = some y → ∃ q e', y = .ref q ∧ esL[i]? = some e' ∧ H6 q = some (.tup [.str e'.word, .bl (decide (e = e'))]) := fun i y hy => by
          match i, hy with
          | 0, hy => cases hy; exact ⟨_, _, rfl, rfl, e1⟩
          | 1, hy => cases hy; exact ⟨_, _, rfl, rfl, e2⟩
          | 2, hy => cases hy; exact ⟨_, _, rfl, rfl, e3⟩
          | 3, hy => cases hy; exact ⟨_, _, rfl, rfl, e4⟩
          | 4, hy => cases hy; exact ⟨_, _, rfl, rfl, e5⟩
        refine ⟨L, [.ref p1, .ref p2, .ref p3, .ref p4, .ref p5], fun i σ H'' => ∃ vp, σ = [some fv, some (.int 5), some (.str t), some rv, some (.int n), some (.ref a), vp] ∧ H'' = H6 ∧ i ≤ 5 ∧ ∀ j, j < i → esL[j]? ≠ some e, rfl, ⟨none, rfl, rfl, by omega, fun j h => absurd h (Nat.not_lt_zero _)⟩, ?_, ?_⟩
        · rintro i σ H'' ⟨vp, rfl, rfl, hi, ne⟩
          refine ⟨?_, SqL.of e6⟩
          refine Nat.lt_of_le_of_ne hi fun z => ?_
          subst z
          cases e with
          | tab => exact ne 0 (show 0 < 5 by decide) rfl
          | arg => exact ne 1 (show 1 < 5 by decide) rfl
          | dup => exact ne 2 (show 2 < 5 by decide) rfl
          | fact => exact ne 3 (show 3 < 5 by decide) rfl
          | state => exact ne 4 (show 4 < 5 by decide) rfl
        · rintro i y σ H'' hy ⟨vp, rfl, rfl, hi, ne⟩
          obtain ⟨q, e', rfl, he', hq⟩ := at_ i y hy
          have hi5 : i < 5 := (List.getElem?_eq_some_iff.mp hy).1
          refine go_name rfl ⟨_, rfl, q, _, _, .bl (decide (e = e')), rfl, rfl, SqT.of hq, at_of (j := 1) rfl rfl, decide (e = e'), rfl, ?_⟩
          by_cases c : e = e'
          · rw [decide_eq_true c]
            refine iteT ⟨_, rfl, q, _, _, .str e'.word, rfl, rfl, SqT.of hq, at_of (j := 0) rfl rfl, ?_⟩
            rw [← c]
            exact hq0 _ s6
          · rw [decide_eq_false c]
            refine iteF (go_nx ⟨_, rfl, rfl, by omega, fun j hj => ?_⟩)
            rcases Nat.lt_or_ge j i with h | h
            · exact ne j h
            · obtain rfl : j = i := by omega
              rw [he']
              exact fun z => c (Option.some.inj z).symm
end
end K01

set_option Elab.async false
set_option linter.all false
set_option maxRecDepth 100000
set_option maxHeartbeats 4000000
namespace K01
open PySem L2 Ew Tb GxR ND PK
local macro_rules | `(tactic| walk_at "len") => `(tactic| first | (intro h; obtain ⟨_, e, _⟩ := h; rw [e]; rfl) | (intro h; obtain ⟨_, _, e, _⟩ := h; rw [e]; rfl) | (intro h; obtain ⟨_, _, _, e, _⟩ := h; rw [e]; rfl) | (intro h; obtain ⟨_, _, _, _, e, _⟩ := h; rw [e]; rfl) | (intro h; obtain ⟨_, _, _, _, _, e, _⟩ := h; rw [e]; rfl) | (intro h; obtain ⟨_, _, _, _, _, _, e, _⟩ := h; rw [e]; rfl) | (intro h; obtain ⟨_, _, _, _, _, _, _, e, _⟩ := h; rw [e]; rfl) | (intro h; obtain ⟨_, _, _, _, _, _, _, _, e, _⟩ := h; rw [e]; rfl) | (intro h; obtain ⟨_, _, _, _, _, _, _, _, _, e, _⟩ := h; rw [e]; rfl) | (intro h; obtain ⟨_, _, _, _, _, _, _, _, _, _, e, _⟩ := h; rw [e]; rfl) | (intro h; obtain ⟨_, _, _, _, _, _, _, _, _, _, _, e, _⟩ := h; rw [e]; rfl) | (intro h; obtain ⟨_, _, _, _, _, _, _, _, _, _, _, _, e, _⟩ := h; rw [e]; rfl) | (intro h; obtain ⟨_, _, _, _, _, _, _, _, _, _, _, _, _, e, _⟩ := h; rw [e]; rfl))
local macro_rules | `(tactic| walk_at "len") => `(tactic| first | (intro h; obtain ⟨_, _, _, _, _, _, _, _, e, _⟩ := h; rw [e]; rfl) | (intro h; obtain ⟨_, _, _, _, _, _, _, _, _, e, _⟩ := h; rw [e]; rfl) | (intro h; obtain ⟨_, _, _, _, _, _, _, _, _, _, e, _⟩ := h; rw [e]; rfl) | (intro h; obtain ⟨_, _, _, _, _, _, _, _, _, _, _, e, _⟩ := h; rw [e]; rfl) | (intro h; obtain ⟨_, _, _, _, _, _, _, _, _, _, _, _, e, _⟩ := h; rw [e]; rfl) | (intro h; obtain ⟨_, _, _, _, _, _, _, _, _, _, _, _, _, e, _⟩ := h; rw [e]; rfl) | (intro h; obtain ⟨_, _, _, _, _, _, _, _, _, _, _, _, _, _, e, _⟩ := h; rw [e]; rfl) | (intro h; obtain ⟨_, _, _, _, _, _, _, _, _, _, _, _, _, _, _, e, _⟩ := h; rw [e]; rfl) | (intro h; obtain ⟨_, _, _, _, _, _, _, _, _, _, _, _, _, _, _, _, e, _⟩ := h; rw [e]; rfl) | (intro h; obtain ⟨_, _, _, _, _, _, _, _, _, _, _, _, _, _, _, _, _, e, _⟩ := h; rw [e]; rfl))
section
variable {P : Program} {w : World} {K : PySem.W.Frag} {mg : Str → Option Value} {base : Heap} {ad : Ad}
/-- texts that can be laid, flat rows -/
def okF (t : Str) (ks : List NestedKey) : Prop := (PyData.str t).canLay0 = true ∧ PyData.canLayAll0 (kDs ks) = true ∧ NestedKey.depthAll ks ≤ 1
structure RW (H : Hp) (r : Addr) (fs : List Fac) (rl : List Addr) : Prop where
  at_ : H r = some (.lst (rl.map V.ref))
  len : rl.length = fs.length
  row : ∀ (i : Nat) (x : Fac), fs[i]? = some x → ∃ q y, rl[i]? = some q ∧ H q = some (.lst [.str x.1, y, .bl x.2.2]) ∧ Ky H (.tup x.2.1) y
  nd : (r :: rl).Nodup
  ok : ∀ x ∈ fs, okF x.1 x.2.1
theorem RW.same {H H' : Hp} {r : Addr} {fs : List Fac} {rl : List Addr} (x : RW H r fs rl) (s : Same H H') : RW H' r fs rl :=
  ⟨s _ _ x.at_, x.len, fun i y h => let ⟨q, y, e1, e2, e3⟩ := x.row i y h; ⟨q, y, e1, s _ _ e2, e3.keeps fun b ys e => s _ _ e⟩, x.nd, x.ok⟩
def plc (κ : NestedKey) : Nat → List Fac → List Nat
  | _, [] => []
  | n, x :: fs => if fk x = κ then n :: plc κ (n + 1) fs else plc κ (n + 1) fs
theorem plc_app (κ : NestedKey) (x : Fac) : ∀ (fs : List Fac) (n : Nat), plc κ n (fs ++ [x]) = plc κ n fs ++ (if fk x = κ then [n + fs.length] else [])
  | [], n => by
    show (if fk x = κ then [n] else []) = [] ++ _
    rw [List.nil_append]; rfl
  | y :: fs, n => by
    have ih := plc_app κ x fs (n + 1)
    rw [List.cons_append, plc, plc, ih, show n + 1 + fs.length = n + (y :: fs).length by rw [List.length_cons]; omega]
    by_cases c : fk y = κ
    · rw [if_pos c, if_pos c]; rfl
    · rw [if_neg c, if_neg c]
theorem plc_len (κ : NestedKey) : ∀ (fs : List Fac) (n : Nat), (plc κ n fs).length ≤ fs.length
  | [], n => Nat.le_refl _
  | y :: fs, n => by
    have ih := plc_len κ fs (n + 1)
    rw [plc]
    split <;> simp only [List.length_cons] <;> omega
theorem plc_none {κ : NestedKey} : ∀ {fs : List Fac} {n : Nat}, ¬ κ ∈ keysF fs → plc κ n fs = []
  | [], n, _ => rfl
  | y :: fs, n, h => by
    have h1 : ¬ fk y = κ := fun z => h (by rw [← z]; exact List.mem_cons_self ..)
    rw [plc, if_neg h1]
    exact plc_none fun z => h (List.mem_cons_of_mem _ z)
theorem plc_some {κ : NestedKey} : ∀ {fs : List Fac} {n : Nat}, κ ∈ keysF fs → ∃ r, plc κ n fs = (n + (keysF fs).idxOf κ) :: r
  | [], n, h => nomatch h
  | y :: fs, n, h => by
    by_cases c : fk y = κ
    · refine ⟨plc κ (n + 1) fs, ?_⟩
      rw [plc, if_pos c, show keysF (y :: fs) = fk y :: keysF fs from rfl, c, List.idxOf_cons_self]; rfl
    · have h' : κ ∈ keysF fs := by
        rcases List.mem_cons.mp h with z | z
        · exact absurd z.symm c
        · exact z
      obtain ⟨r, e⟩ := plc_some (n := n + 1) h'
      refine ⟨r, ?_⟩
      rw [plc, if_neg c, e, show keysF (y :: fs) = fk y :: keysF fs from rfl, List.idxOf_cons, show (fk y == κ) = false from beq_eq_false_iff_ne.mpr c]
      show (n + 1 + (keysF fs).idxOf κ) :: r = (n + ((keysF fs).idxOf κ + 1)) :: r
      rw [show n + 1 + (keysF fs).idxOf κ = n + ((keysF fs).idxOf κ + 1) by omega]
theorem eqv_rows (a b : Str) (k1 k2 : List NestedKey) : PyData.eqv (.list [.str a, kD (.tup k1)]) (.list [.str b, kD (.tup k2)]) = decide (NestedKey.tup [.text a, .tup k1] = .tup [.text b, .tup k2]) := by
  have e : PyData.eqv (.list [.str a, kD (.tup k1)]) (.list [.str b, kD (.tup k2)]) = PyData.eqv (kD (.tup [.text a, .tup k1])) (kD (.tup [.text b, .tup k2])) := by
    simp [kD, kDs, PyData.eqv]
  rw [e]
  by_cases c : NestedKey.tup [.text a, .tup k1] = .tup [.text b, .tup k2]
  · rw [c, eqv_self, decide_eq_true rfl]
  · rw [decide_eq_false c]
    exact Bool.eq_false_iff.mpr fun z => c (eqv_kD _ _ z)
theorem sh_row {t : Str} {ks : List NestedKey} (h : okF t ks) : SeqAt.shaped (.list [.str t, kD (.tup ks)]) = true := by
  unfold SeqAt.shaped
  obtain ⟨h1, h2, h3⟩ := h
  rw [Bool.and_eq_true]
  refine ⟨?_, decide_eq_true ?_⟩
  · show ((PyData.str t).canLay0 && ((kD (.tup ks)).canLay0 && true)) = true
    rw [h1]
    show PyData.canLayAll0 (kDs ks) && true = true
    rw [h2]; rfl
  · show max (PyData.str t).depth (max (kD (.tup ks)).depth 0) + 1 ≤ 64
    rw [kD_dep]
    show max 0 (max (NestedKey.depthAll ks + 1) 0) + 1 ≤ 64
    omega
theorem merge_A {tabs : Tabs} (h : (tabs.map Prod.fst).Nodup) : mergeK [] (kvA tabs) = kvA tabs := by
  have key : ∀ (t1 t2 : Tabs), ((t1 ++ t2).map Prod.fst).Nodup → mergeK (kvA t1) (kvA t2) = kvA (t1 ++ t2) := fun t1 t2 => by
    induction t2 generalizing t1 with
    | nil => intro _; rw [List.append_nil]; rfl
    | cons x t2 ih =>
      intro nd
      obtain ⟨n, a⟩ := x
      have hn : arOf t1 n = none := by
        rw [List.map_append] at nd
        have := (List.nodup_append.mp nd).2.2
        have hne : ∀ z ∈ t1, z.1 ≠ n := fun z hz => this _ (List.mem_map_of_mem hz) n (List.mem_cons_self ..)
        clear this ih nd
        induction t1 with
        | nil => rfl
        | cons y r ih =>
          rw [show arOf (y :: r) n = if y.1 = n then some y.2 else arOf r n from rfl, if_neg (hne y (List.mem_cons_self ..))]
          exact ih fun z hz => hne z (List.mem_cons_of_mem _ hz)
      show mergeK (putK (kvA t1) (.inr n) (.int (a : Int))) (kvA t2) = _
      rw [putK_new _ (by rw [valV_kvA, hn]; rfl), show kvA t1 ++ [(.inr n, .int (a : Int))] = kvA (t1 ++ [(n, a)]) by unfold kvA; rw [List.map_append]; rfl, ih _ (by rw [List.append_assoc]; exact nd), List.append_assoc]; rfl
  exact key [] tabs h
theorem TabsAt.pairs {H : Hp} {tabs : Tabs} {xs : List V} (h : TabsAt H (tabZ tabs) xs) : ∃ ps : List Addr, xs = ps.map V.ref ∧ ∀ H', Same H H' → Paired (fun p (kv : Key × V) => SqT K H' p [kV kv.1, kv.2]) ps (kvA tabs) := by
  induction tabs generalizing xs with
  | nil =>
    obtain ⟨l, _⟩ := h
    have : xs = [] := List.length_eq_zero_iff.mp l
    exact ⟨[], by rw [this]; rfl, fun _ _ => .nil⟩
  | cons x r ih =>
    obtain ⟨l, h⟩ := h
    obtain ⟨q, hq, eq⟩ := h 0 _ rfl
    cases xs with
    | nil => simp at hq
    | cons y ys =>
      cases hq
      obtain ⟨ps, e, pr⟩ := ih (xs := ys) ⟨by simpa [tabZ] using l, fun i z hz => h (i + 1) z hz⟩
      exact ⟨q :: ps, by rw [e]; rfl, fun H' s => .cons (SqT.of (s _ _ eq)) (pr H' s)⟩
theorem share {G S : Prop} (P : Prop) (main : (P → S) → G) (h : P → S) : G := main h
def spDue (P : Program) (w : World) : Sp := fun vs H Q _ => ∃ (tb r : Addr) (kind : Int) (t : Str) (rv : V) (n : Int) (xs : List V) (tabs : Tabs) (fs : List Fac) (rl : List Addr) (ks : List NestedKey), vs = [.ref tb, .ref r, .int kind, .str t, rv, .int n] ∧ 0 ≤ kind ∧ kind ≤ 4 ∧
  H tb = some (.lst xs) ∧ TabsAt H (tabZ tabs) xs ∧ tabs.length ≤ 10 ∧ (tabs.map Prod.fst).Nodup ∧ RW H r fs rl ∧ Ky H (.tup ks) rv ∧ okF t ks ∧ fs.length < 100 ∧
  ∀ H' v rl', (∀ b o, b ≠ r → b ∉ rl → H b = some o → H' b = some o) → RW H' r (doR tabs fs kind t ks n).2 rl' → (∀ q ∈ rl', q ∈ rl ∨ H q = none) → RV H' (doR tabs fs kind t ks n).1 v → Q v H'
theorem ksl_list {X : Cx} {K : PySem.W.Frag} (hK : X.K = K := by rfl) : SlR X (rSlL K) := hK ▸ sl_list
theorem kop_eqD {X : Cx} {K : PySem.W.Frag} (hu : X.A.units + 64 < cLine) (hK : X.K = K := by rfl) : OpR X (compareOp .Eq) (rEqD K) := hK ▸ op_eqD hu
theorem ok_law_due  {f : Addr} {fd : FuncData} (F : Fun K "_law_due" "_law_due" s_law_due f fd) (T : Txt K mg ad) : FnOk P w K mg base (L2.CX P w) 2 f fd ["tables", "rows", "kind", "table", "row", "number"] (spDue P w) := by
  refine F.okX sc_law_due (fun vs H Q E => ?_) (fun cdv A outer s H vs Q E hr h => ?_)
  · walk_at "len"
  ·
    obtain ⟨tb, r, kind, t, rv, n, xs, tabs, fs, rl, ks, rfl, k0, k4, htb, ta, tl, nt, rw_, kr, ok, hl, kq⟩ := h
    refine ⟨_, (pss_cons (ps_if (PW.pt (pw_or (pt_cmpR op_eq (pv 2) pe_int (nomark _)) (pw_or1 (pt_cmpR op_eq (pv 2) pe_int (nomark _))))) (pss_cons (ps_if (pt_cmpR (op_notD (hu_of hr)) (pv 3) (pe_callTy (call_dictP rfl) (by rfl) T.z_dict (by decide +kernel) (pa_cons (pv 0) pa_nil)) (by rfl)) (pss_one (ps_ret pe_str)) pss_nil)
      (pss_cons (ps_setLc (i := 6) (own := [("k", 7)]) rfl sc_law_due.nd rfl rfl (sw_true rfl rfl rfl (by decide +kernel)) (pi_range1 (by rfl) T.z_range (pa_cons (pe_callB call_len (by rfl) T.z_len (by decide +kernel) (pa_cons (pv 1) pa_nil)) pa_nil)) (blkOk_by (by kernel_rfl)) (fun _ _ _ _ _ => (pg_name (i := 7) sc_law_due.nd rfl (by first | exact Or.inl rfl | exact Or.inr rfl))) (fun _ _ _ _ _ => (pts_one (pt_cmpR (kop_eqD (K := K) hr.units) (pe_slice (ksl_list (K := K)) (pe_ix (kix_list (K := K)) (pv 1) (pv 7) (fun _ _ => rfl)) po_none (po_some pe_int)) (pe_lst (pa_cons (pv 3) (pa_cons (pv 4) pa_nil))) (nomark _)))) (fun _ _ _ _ _ => (pv 7)))
      (pss_cons (ps_if (pt_cmpR op_eq (pv 2) pe_int (nomark _)) (pss_one (ps_ret (pe_ifExp (pt_cmpR op_gt (pe_callB call_len (by rfl) T.z_len (by decide +kernel) (pa_cons (pv 6) pa_nil)) pe_int (nomark _)) (pe_ix ix_list (pv 6) pe_int (fun _ _ => rfl)) pe_non))) pss_nil)
      (pss_cons (ps_if (pt_cmpR op_ne (pe_callB call_len (by rfl) T.z_len (by decide +kernel) (pa_cons (pv 4) pa_nil)) (pe_dget (hu_of hr) (pe_callTy (call_dictP rfl) (by rfl) T.z_dict (by decide +kernel) (pa_cons (pv 0) pa_nil)) (pv 3) (fun _ _ => rfl)) (nomark _)) (pss_one (ps_ret pe_str)) pss_nil)
      (pss_cons (ps_if (pt_cmpR op_gt (pe_callB call_len (by rfl) T.z_len (by decide +kernel) (pa_cons (pv 6) pa_nil)) pe_int (nomark _)) (pss_one (ps_ret pe_str)) pss_nil)
      (pss_cons (ps_expr (pe_bm PySem.F.plainAttrs_list PySem.F.slot_list_append PySem.F.type_list_append mt_append (pv 1) (pa_cons (pe_lst (pa_cons (pv 3) (pa_cons (pv 4) (pa_cons pe_bl pa_nil)))) pa_nil)))
      (pss_one (ps_ret (pe_op op_sub (pe_callB call_len (by rfl) T.z_len (by decide +kernel) (pa_cons (pv 1) pa_nil)) pe_int))))))))) pss_nil)
      (pss_cons (ps_if (PW.pt (pw_or (pt_cmpR op_lt (pv 5) pe_int (nomark _)) (pw_or1 (pt_cmpR op_ge (pv 5) (pe_callB call_len (by rfl) T.z_len (by decide +kernel) (pa_cons (pv 1) pa_nil)) (nomark _))))) (pss_one (ps_ret pe_str)) pss_nil)
      (pss_cons (ps_if (pt_cmpR op_eq (pv 2) pe_int (nomark _)) (pss_one (ps_ret (pe_tup (pa_cons (pe_ix ix_list (pe_ix ix_list (pv 1) (pv 5) (fun _ _ => rfl)) pe_int (fun _ _ => rfl)) (pa_cons (pe_ix ix_list (pe_ix ix_list (pv 1) (pv 5) (fun _ _ => rfl)) pe_int (fun _ _ => rfl)) pa_nil))))) pss_nil)
      (pss_cons (ps_if (pt_cmpR op_eq (pe_ix ix_list (pe_ix ix_list (pv 1) (pv 5) (fun _ _ => rfl)) pe_int (fun _ _ => rfl)) (pe_cmpR op_eq (pv 2) pe_int (nomark _)) (nomark _)) (pss_one (ps_ret pe_str)) pss_nil)
      (pss_cons (ps_asg (pe_cmpR op_eq (pv 2) pe_int (nomark _)) (pg_sub (pe_ix ix_list (pv 1) (pv 5) (fun _ _ => rfl)) pe_int set_list))
      (pss_one (ps_ret pe_non))))))), ?_⟩
    obtain ⟨ra, rxs, rfl, er, kx⟩ := ky_tup kr
    have rl_ : rxs.length = ks.length := (kys_len kx).symm
    have kr' : Ky H (.tup ks) (.ref ra) := .tup er kx
    refine go_sq ⟨_, rfl, rfl, _, rfl, ?_⟩
    apply share (kind = 0 ∨ kind = 4)
    · intro sh
      refine ite2 (fun c0 => ?_) (fun c0 => ⟨_, rfl, rfl, _, rfl, ite2 (fun c4 => ?_) (fun c4 => ?_)⟩)
      · exact sh (.inl (by injection of_decide_eq_true c0))
      · exact sh (.inr (by injection of_decide_eq_true c4))
      · have c0' : ¬ kind = 0 := fun z => c0 (decide_eq_true (by rw [z]))
        have c4' : ¬ kind = 4 := fun z => c4 (decide_eq_true (by rw [z]))
        have rll : (rl.map V.ref).length = fs.length := by rw [List.length_map, rw_.len]
        have c5 : kind = 1 ∨ kind = 2 ∨ kind = 3 := by omega
        refine go_nx (go_sq ⟨_, rfl, _, _, rfl, rfl, _, rfl, ?_⟩)
        have bad : ¬ (0 ≤ n ∧ n < fs.length) → Q (.str "fact!") H := fun hn => by
          have hdo : doR tabs fs kind t ks n = (.err .fact, fs) := by
            unfold doR
            rw [if_neg c0']
            rcases c5 with h | h | h
            · rw [if_pos (.inl h), fsAt_none hn]
            · rw [if_pos (.inr h), fsAt_none hn]
            · rw [if_neg (by omega), if_pos h, fsAt_none hn]
          exact kq H _ rl (fun b o _ _ e => e) (by rw [hdo]; exact rw_) (fun q h => .inl h) (by rw [hdo]; rfl)
        refine ite2 (fun d1 => ?_) (fun d1 => ⟨_, rfl, _, rfl, .ref r, _, rfl, .inl ⟨_, SqL.of rw_.at_, rfl⟩, _, _, rfl, rfl, _, rfl, ?_⟩)
        · have d1' : n < 0 := of_decide_eq_true d1
          exact iteT (bad (by omega))
        have d1' : ¬ n < 0 := fun z => d1 (decide_eq_true z)
        rw [rll]
        refine ite2 (fun d2 => ?_) (fun d2 => ?_)
        · have d2' : (fs.length : Int) ≤ n := of_decide_eq_true d2
          exact bad (by omega)
        have d2' : ¬ (fs.length : Int) ≤ n := fun z => d2 (decide_eq_true z)
        obtain ⟨i, rfl⟩ : ∃ i : Nat, n = (i : Int) := ⟨n.toNat, by omega⟩
        have hi : i < fs.length := by omega
        obtain ⟨x, hx⟩ : ∃ x, fs[i]? = some x := ⟨_, List.getElem?_eq_getElem hi⟩
        obtain ⟨q, y, hq, eq, ky⟩ := rw_.row i x hx
        have hqr : (rl.map V.ref)[i]? = some (.ref q) := by rw [List.getElem?_map, hq]; rfl
        obtain ⟨nd1, nd2⟩ := List.nodup_cons.mp rw_.nd
        refine go_nx (go_sq ⟨_, rfl, rfl, _, rfl, ?_⟩)
        refine ite2 (fun c3 => ?_) (fun c3 => ?_)
        · have c3' : kind = 3 := by injection of_decide_eq_true c3
          have hdo : doR tabs fs kind t ks i = (.pair x.1 x.2.1, fs) := by
            unfold doR
            rw [if_neg c0', if_neg (by omega), if_pos c3', fsAt_some rfl hx]
          refine ⟨_, rfl, _, rfl, r, _, _, .ref q, rfl, rfl, SqL.of rw_.at_, at_of (j := i) rfl hqr, q, _, _, .str x.1, rfl, rfl, SqL.of eq, at_of (j := 0) rfl rfl, _, rfl, _, rfl, r, _, _, .ref q, rfl, rfl, SqL.of rw_.at_, at_of (j := i) rfl hqr, q, _, _, y, rfl, rfl, SqL.of eq, at_of (j := 1) rfl rfl, (show 2 ≤ sizeLine by decide), fun p hp => ?_⟩
          have y1 := same_new (o := .tup [.str x.1, y]) (Same.refl H) hp
          refine kq _ _ rl (fun b o _ _ e => y1 _ _ e) (by rw [hdo]; exact rw_.same y1) (fun q h => .inl h) ?_
          rw [hdo]
          exact .tup upd_same (.cons (.str _) (.cons (ky.keeps fun b ys e => y1 _ _ e) .nil))
        have c3' : ¬ kind = 3 := fun z => c3 (decide_eq_true (by rw [z]))
        have c12 : kind = 1 ∨ kind = 2 := by omega
        have db : decide (V.int kind = V.int 2) = decide (kind = 2) := decide_eq_decide.mpr ⟨fun z => by injection z, fun z => by rw [z]⟩
        refine go_nx (go_sq ⟨_, rfl, _, rfl, r, _, _, .ref q, rfl, rfl, SqL.of rw_.at_, at_of (j := i) rfl hqr, q, _, _, .bl x.2.2, rfl, rfl, SqL.of eq, at_of (j := 2) rfl rfl, _, rfl, rfl, rfl, _, rfl, ?_⟩)
        rw [db]
        by_cases cb : x.2.2 = decide (kind = 2)
        · have hdo : doR tabs fs kind t ks i = (.err .state, fs) := by
            unfold doR
            rw [if_neg c0', if_pos c12, fsAt_some rfl hx]
            show (if x.2.2 = decide (kind = 2) then _ else _) = _
            rw [if_pos cb]
          rw [decide_eq_true (by rw [cb])]
          exact iteT (kq H _ rl (fun b o _ _ e => e) (by rw [hdo]; exact rw_) (fun q h => .inl h) (by rw [hdo]; rfl))
        · have hdo : doR tabs fs kind t ks i = (.non, setB fs i (decide (kind = 2))) := by
            unfold doR
            rw [if_neg c0', if_pos c12, fsAt_some rfl hx]
            show (if x.2.2 = decide (kind = 2) then _ else _) = _
            rw [if_neg cb]; rfl
          rw [decide_eq_false (fun z => cb (by injection z))]
          refine iteF (go_nx (go_sq ⟨_, rfl, rfl, _, rfl, _, rfl, r, _, _, .ref q, rfl, rfl, SqL.of rw_.at_, at_of (j := i) rfl hqr, q, _, _, 2, rfl, rfl, eq, rfl, go_nx ?_⟩))
          rw [db]
          have qm := List.mem_of_getElem? hq
          have nqr : q ≠ r := fun z => nd1 (z ▸ qm)
          refine kq _ _ rl (fun b o nb nl e => by rw [upd_ne (fun (z : b = q) => nl (by rw [z]; exact qm))]; exact e) ?_ (fun q h => .inl h) (by rw [hdo]; rfl)
          rw [hdo]
          have tk : ∀ b ys, H b = some (.tup ys) → (upd H q (.lst ([V.str x.1, y, .bl x.2.2].set 2 (.bl (decide (kind = 2)))))) b = some (.tup ys) := fun b ys e => by rw [upd_ne (ne_of e eq (fun z => nomatch z))]; exact e
          refine ⟨by rw [upd_ne (Ne.symm nqr)]; exact rw_.at_, by rw [rw_.len]; exact (setB_len _ _ _).symm, fun j x' hx' => ?_, rw_.nd, fun x' hx' => ?_⟩
          · rw [show (Res.non, setB fs i (decide (kind = 2))).2 = setB fs i (decide (kind = 2)) from rfl, setB_get] at hx'
            by_cases c : j = i
            · subst c
              rw [if_pos rfl, hx] at hx'
              cases hx'
              exact ⟨q, y, hq, upd_same, ky.keeps tk⟩
            · rw [if_neg c] at hx'
              obtain ⟨q', y', f1, f2, f3⟩ := rw_.row j x' hx'
              refine ⟨q', y', f1, ?_, f3.keeps tk⟩
              rw [upd_ne (fun z => ?_)]
              · exact f2
              · subst z
                have hj := (List.getElem?_eq_some_iff.mp f1).1
                have hii := (List.getElem?_eq_some_iff.mp hq).1
                have e1 := (List.getElem?_eq_some_iff.mp f1).2
                have e2 := (List.getElem?_eq_some_iff.mp hq).2
                exact c ((List.getElem_inj nd2).mp (e1.trans e2.symm))
          · obtain ⟨j, hj⟩ := List.getElem?_of_mem hx'
            rw [show (Res.non, setB fs i (decide (kind = 2))).2 = setB fs i (decide (kind = 2)) from rfl, setB_get] at hj
            by_cases c : j = i
            · subst c
              rw [if_pos rfl, hx] at hj
              cases hj
              exact rw_.ok x (List.mem_of_getElem? hx)
            · rw [if_neg c] at hj
              exact rw_.ok x' (List.mem_of_getElem? hj)
    · intro hk
      obtain ⟨ps, rfl, pr⟩ := ta.pairs (K := K)
      refine iteT (go_sq ?_)
      refine ⟨_, rfl, _, rfl, tb, ps, kvA tabs, rfl, SqL.of htb, pr H (Same.refl H), fun p hp => ⟨p, _, rfl, DGet.k (k := .inr t) upd_same, ?_⟩⟩
      have s1 := same_new (o := .dK (mergeK [] (kvA tabs))) (Same.refl H) hp
      rw [merge_A nt] at s1 ⊢
      rw [valV_kvA]
      generalize upd H p (.dK (kvA tabs)) = H1 at s1
      have htb1 := s1 _ _ htb
      have rw1 := rw_.same s1
      have doT : arOf tabs t = none → doR tabs fs kind t ks n = (.err .tab, fs) := fun ha => by
        rcases hk with h | h
        · unfold doR; rw [if_pos h, show addE tabs fs t ks = some .tab by unfold addE; rw [ha]]
        · unfold doR; rw [if_neg (by omega), if_neg (by omega), if_neg (by omega), if_pos ha]
      refine ⟨_, rfl, ?_⟩
      cases ha : arOf tabs t with
      | none =>
        refine iteT (kq H1 _ rl (fun b o _ _ e => s1 _ _ e) ?_ (fun q h => .inl h) ?_)
        · rw [doT ha]; exact rw1
        · rw [doT ha]; rfl
      | some ar =>
        refine iteF (go_nx ?_)
        obtain ⟨κ, hκ⟩ : ∃ κ, κ = NestedKey.tup [.text t, .tup ks] := ⟨_, rfl⟩
        have rll : (rl.map V.ref).length = fs.length := by rw [List.length_map, rw_.len]
        refine go_seq ⟨_, rfl, .ref r, _, rfl, .inl ⟨_, SqL.of rw1.at_, rfl⟩, _, rfl, by rw [rll]; omega, by rw [rll]; omega, fun D hD => ?_⟩
        rw [rll, Int.toNat_natCast]
        have big : ∀ n : Nat, n ≤ 1000 → n < sizeLine := fun n h => Nat.lt_of_le_of_lt h (by decide)
        refine lc_range (fun i H' => Same H1 H' ∧ H' D = some (.lst (nV (plc κ 0 (fs.take i))))) ⟨same_new (Same.refl _) hD, upd_same⟩ (fun i H' hi ⟨s', e'⟩ => ?_) (fun H2 ⟨s2, e2⟩ => ?_)
        · obtain ⟨x, hx⟩ : ∃ x, fs[i]? = some x := ⟨_, List.getElem?_eq_getElem hi⟩
          have tk : fs.take (i + 1) = fs.take i ++ [x] := by rw [List.take_add_one, hx]; rfl
          have tl_ : (fs.take i).length = i := by rw [List.length_take]; omega
          rw [tk, plc_app, tl_, Nat.zero_add]
          obtain ⟨q, y, hq, eq, ky⟩ := (rw1.same s').row i x hx
          refine ⟨rfl, _, rfl, _, rfl, r, _, _, .ref q, rfl, rfl, SqL.of (s' _ _ rw1.at_), at_of (j := i) (by rw [Int.zero_add]) (by rw [List.getElem?_map, hq]; rfl), ?_⟩
          refine ⟨_, rfl, q, _, rfl, SqL.of eq, fun p2 hp2 => ⟨_, rfl, _, rfl, (show 2 ≤ sizeLine by decide), fun p3 hp3 => ?_⟩⟩
          have c2 : cutV [V.str x.1, y, .bl x.2.2] none (some 2) = [V.str x.1, y] := rfl
          rw [c2] at hp3 ⊢
          have y2 := same_new (o := .lst [V.str x.1, y]) (Same.refl H') hp2
          have e2' : (upd H' p2 (.lst [V.str x.1, y])) p2 = some (.lst [V.str x.1, y]) := upd_same
          generalize upd H' p2 (.lst [V.str x.1, y]) = H3 at y2 e2' hp3
          have y3 := same_new (o := .lst [V.str t, .ref ra]) (Same.refl H3) hp3
          have e3' : (upd H3 p3 (.lst [V.str t, .ref ra])) p3 = some (.lst [V.str t, .ref ra]) := upd_same
          have s3 : Same H' (upd H3 p3 (.lst [V.str t, .ref ra])) := fun b o e => y3 _ _ (y2 _ _ e)
          replace e2' := y3 _ _ e2'
          generalize upd H3 p3 (.lst [V.str t, .ref ra]) = H4 at s3 e2' e3'
          have kr4 : Ky H4 (.tup ks) (.ref ra) := kr'.keeps fun b ys e => s3 _ _ (s' _ _ (s1 _ _ e))
          have ky4 : Ky H4 (.tup x.2.1) y := ky.keeps fun b ys e => s3 _ _ e
          refine ⟨.list [.str x.1, kD (.tup x.2.1)], .list [.str t, kD (.tup ks)], .lst (SqL.of e2') (.cons (.str _) (.cons (PK.Ky.dp ky4) .nil)), .lst (SqL.of e3') (.cons (.str _) (.cons (PK.Ky.dp kr4) .nil)), sh_row (rw_.ok x (List.mem_of_getElem? hx)), sh_row ok, _, rfl, ?_⟩
          rw [eqv_rows]
          by_cases ck : fk x = κ
          · rw [if_pos ck, decide_eq_true (show NestedKey.tup [.text x.1, .tup x.2.1] = .tup [.text t, .tup ks] by rw [← hκ]; exact ck)]
            refine iteT ⟨_, rfl, _, s3 _ _ e', ?_, same_but hD (fun b o e => s3 _ _ (s' _ _ e)) but_app, ?_⟩
            · rw [List.length_map]
              have := plc_len κ (fs.take i) 0
              exact big _ (by omega)
            · rw [upd_same, Int.zero_add]
              show _ = some (HO.lst (List.map _ _))
              rw [List.map_append]; rfl
          · rw [if_neg ck, List.append_nil, decide_eq_false (show ¬ NestedKey.tup [.text x.1, .tup x.2.1] = .tup [.text t, .tup ks] by rw [← hκ]; exact ck)]
            exact iteF ⟨fun b o e => s3 _ _ (s' _ _ e), s3 _ _ e'⟩
        · rw [List.take_length] at e2
          refine go_name rfl ?_
          have s02 : Same H H2 := fun b o e => s2 _ _ (s1 _ _ e)
          have rw2 := rw1.same s2
          have pl_ : (plc κ 0 fs).length ≤ 100 := Nat.le_trans (plc_len κ fs 0) (by omega)
          refine go_sq ⟨_, rfl, rfl, _, rfl, ?_⟩
          refine ite2 (fun c4 => ?_) (fun c4 => ?_)
          · have c4' : kind = 4 := by injection of_decide_eq_true c4
            refine ⟨_, rfl, .ref D, _, rfl, .inl ⟨_, SqL.of e2, rfl⟩, _, _, rfl, rfl, _, rfl, ?_⟩
            by_cases ck : κ ∈ keysF fs
            · have hdo : doR tabs fs kind t ks n = (.num ((keysF fs).idxOf κ), fs) := by
                unfold doR
                rw [if_neg (by omega), if_neg (by omega), if_neg (by omega), if_neg (by rw [ha]; exact fun z => nomatch z), ← hκ, if_pos ck]
              obtain ⟨rest, er'⟩ := plc_some (n := 0) ck
              rw [er'] at e2 ⊢
              rw [decide_eq_true (show (0 : Int) < (((nV ((0 + (keysF fs).idxOf κ) :: rest)).length : Nat) : Int) by show (0 : Int) < ((((nV rest).length + 1 : Nat)) : Int); omega)]
              refine iteT ⟨_, rfl, D, _, _, .int ((0 + (keysF fs).idxOf κ : Nat) : Int), rfl, rfl, SqL.of e2, at_of (j := 0) rfl rfl, kq H2 _ rl (fun b o _ _ e => s02 _ _ e) (by rw [hdo]; exact rw2) (fun q h => .inl h) ?_⟩
              rw [hdo, Nat.zero_add]; rfl
            · have hdo : doR tabs fs kind t ks n = (.non, fs) := by
                unfold doR
                rw [if_neg (by omega), if_neg (by omega), if_neg (by omega), if_neg (by rw [ha]; exact fun z => nomatch z), ← hκ, if_neg ck]
              rw [plc_none ck] at e2 ⊢
              refine iteF (kq H2 _ rl (fun b o _ _ e => s02 _ _ e) (by rw [hdo]; exact rw2) (fun q h => .inl h) ?_)
              rw [hdo]; rfl
          · have c0' : kind = 0 := by
              rcases hk with h | h
              · exact h
              · exact absurd (decide_eq_true (by rw [h])) c4
            have hdo : doR tabs fs kind t ks n = (match addE tabs fs t ks with | some e => (.err e, fs) | none => (.num fs.length, fs ++ [(t, ks, true)])) := by unfold doR; rw [if_pos c0'] <;> rfl
            have had : addE tabs fs t ks = if ks.length ≠ ar then some .arg else if κ ∈ keysF fs then some .dup else none := by rw [hκ]; unfold addE; rw [ha]
            refine go_nx (go_sq ⟨_, rfl, .ref ra, _, rfl, .inr ⟨_, SqT.of (s02 _ _ er), rfl⟩, _, rfl, tb, ps, kvA tabs, rfl, SqL.of (s02 _ _ htb), pr H2 s02, fun p2 hp2 => ?_⟩)
            have y2 := same_new (o := .dK (mergeK [] (kvA tabs))) (Same.refl H2) hp2
            have e2p : (upd H2 p2 (.dK (mergeK [] (kvA tabs)))) p2 = some (.dK (mergeK [] (kvA tabs))) := upd_same
            rw [merge_A nt] at y2 e2p ⊢
            replace e2 := y2 _ _ e2
            have s03 : Same H (upd H2 p2 (.dK (kvA tabs))) := fun b o e => y2 _ _ (s02 _ _ e)
            replace rw2 := rw2.same y2
            generalize upd H2 p2 (.dK (kvA tabs)) = H3 at s03 e2p e2 rw2
            have get_ : DGet H3 p2 (.str t) (some (.int (ar : Int))) := by
              have := DGet.k (k := .inr t) e2p
              rw [valV_kvA, ha] at this
              exact this
            refine ⟨_, rfl, p2, _, rfl, get_, rfl, _, rfl, ?_⟩
            rw [rl_]
            by_cases cl : ks.length = ar
            · rw [show decide (V.int (ks.length : Int) = V.int (ar : Int)) = true from decide_eq_true (by rw [cl])]
              refine iteF (go_nx (go_sq ⟨_, rfl, .ref D, _, rfl, .inl ⟨_, SqL.of e2, rfl⟩, _, _, rfl, rfl, _, rfl, ?_⟩))
              rw [if_neg (fun z => z cl)] at had
              by_cases ck : κ ∈ keysF fs
              · rw [if_pos ck] at had
                rw [had] at hdo
                obtain ⟨rest, er'⟩ := plc_some (n := 0) ck
                rw [er'] at e2 ⊢
                rw [decide_eq_true (show (0 : Int) < (((nV ((0 + (keysF fs).idxOf κ) :: rest)).length : Nat) : Int) by show (0 : Int) < ((((nV rest).length + 1 : Nat)) : Int); omega)]
                refine iteT (kq H3 _ rl (fun b o _ _ e => s03 _ _ e) (by rw [hdo]; exact rw2) (fun q h => .inl h) ?_)
                rw [hdo]; rfl
              · rw [if_neg ck] at had
                rw [had] at hdo
                rw [plc_none ck] at e2 ⊢
                refine iteF (go_nx (go_sq ⟨_, rfl, .inl ⟨rfl, _, SqL.of rw2.at_⟩, _, rfl, _, rfl, (show 3 ≤ sizeLine by decide), fun p4 hp4 => ?_⟩))
                have y4 := same_new (o := .lst [.str t, .ref ra, .bl true]) (Same.refl H3) hp4
                have e4 : (upd H3 p4 (.lst [.str t, .ref ra, .bl true])) p4 = some (.lst [.str t, .ref ra, .bl true]) := upd_same
                have n4 : H p4 = none := by cases z : H p4 with | none => rfl | some u => rw [s03 _ _ z] at hp4; cases hp4
                have n4r : p4 ≠ r := (ne_of_none rw2.at_ hp4).symm
                have n4l : ∀ q ∈ rl, q ≠ p4 := fun q hq => by
                  obtain ⟨i, hi⟩ := List.getElem?_of_mem hq
                  have hif : i < fs.length := by rw [← rw2.len]; exact (List.getElem?_eq_some_iff.mp hi).1
                  obtain ⟨q', y, e1, e2', _⟩ := rw2.row i _ (List.getElem?_eq_getElem hif)
                  rw [hi] at e1
                  cases e1
                  exact ne_of_none e2' hp4
                have s04 : Same H (upd H3 p4 (.lst [.str t, .ref ra, .bl true])) := fun b o e => y4 _ _ (s03 _ _ e)
                replace rw2 := rw2.same y4
                generalize upd H3 p4 (.lst [.str t, .ref ra, .bl true]) = H4 at s04 e4 rw2
                refine ⟨r, _, _, rfl, rfl, rw2.at_, by rw [rll]; exact big _ (by omega), go_nx ?_⟩
                obtain ⟨nd1, nd2⟩ := List.nodup_cons.mp rw2.nd
                have e5 : (upd H4 r (.lst (rl.map V.ref ++ [.ref p4]))) r = some (.lst (rl.map V.ref ++ [.ref p4])) := upd_same
                have k5 : ∀ b o, b ≠ r → H4 b = some o → (upd H4 r (.lst (rl.map V.ref ++ [.ref p4]))) b = some o := fun b o nb e => by rw [upd_ne nb]; exact e
                have tk5 : ∀ b ys, H4 b = some (.tup ys) → (upd H4 r (.lst (rl.map V.ref ++ [.ref p4]))) b = some (.tup ys) := fun b ys e => k5 _ _ (ne_of e rw2.at_ (fun z => nomatch z)) e
                have p45 := k5 _ _ n4r e4
                generalize upd H4 r (.lst (rl.map V.ref ++ [.ref p4])) = H5 at e5 k5 tk5 p45
                have l5 : (rl.map V.ref ++ [V.ref p4]).length = fs.length + 1 := by rw [List.length_append, rll]; rfl
                refine ⟨_, rfl, .ref r, _, rfl, .inl ⟨_, SqL.of e5, rfl⟩, _, _, rfl, rfl, ?_⟩
                rw [l5]
                refine kq H5 _ (rl ++ [p4]) (fun b o nb _ e => k5 _ _ nb (s04 _ _ e)) ?_ (fun q h => ?_) ?_
                · rw [hdo]
                  refine ⟨by rw [e5, List.map_append]; rfl, by show (rl ++ [p4]).length = (fs ++ [(t, ks, true)]).length; rw [List.length_append, List.length_append, rw_.len]; rfl, fun i x hx => ?_, ?_, fun x hx => ?_⟩
                  · by_cases c : i < fs.length
                    · rw [show (fs ++ [(t, ks, true)])[i]? = fs[i]? from List.getElem?_append_left c] at hx
                      obtain ⟨q, y, f1, f2, f3⟩ := rw2.row i x hx
                      have qm := List.mem_of_getElem? f1
                      exact ⟨q, y, by rw [List.getElem?_append_left (by rw [rw_.len]; exact c)]; exact f1, k5 _ _ (fun z => nd1 (z ▸ qm)) f2, f3.keeps tk5⟩
                    · have hi : i = fs.length := by
                        have := (List.getElem?_eq_some_iff.mp hx).1
                        rw [List.length_append] at this
                        have h1 : [((t, ks, true) : Fac)].length = 1 := rfl
                        omega
                      subst hi
                      rw [List.getElem?_append_right (Nat.le_refl _), Nat.sub_self] at hx
                      cases hx
                      exact ⟨p4, .ref ra, by rw [List.getElem?_append_right (by rw [rw_.len]; exact Nat.le_refl _), rw_.len, Nat.sub_self]; rfl, p45, kr'.keeps fun b ys e => tk5 _ _ (s04 _ _ e)⟩
                  · refine List.nodup_cons.mpr ⟨fun h => ?_, List.nodup_append.mpr ⟨nd2, by simp, fun a ha' b hb z => ?_⟩⟩
                    · rcases List.mem_append.mp h with h | h
                      · exact nd1 h
                      · exact n4r (List.mem_singleton.mp h).symm
                    · rw [List.mem_singleton.mp hb] at z
                      exact n4l a ha' z
                  · rcases List.mem_append.mp hx with h | h
                    · exact rw_.ok x h
                    · rw [List.mem_singleton.mp h]; exact ok
                · rcases List.mem_append.mp h with h | h
                  · exact .inl h
                  · rw [List.mem_singleton.mp h]; exact .inr n4
                · rw [hdo]
                  show V.int (((fs.length + 1 : Nat) : Int) - 1) = V.int (fs.length : Int)
                  congr 1; omega
            · rw [show decide (V.int (ks.length : Int) = V.int (ar : Int)) = false from decide_eq_false fun z => cl (by injection z with z; omega)]
              rw [if_pos cl] at had
              rw [had] at hdo
              refine iteT (kq H3 _ rl (fun b o _ _ e => s03 _ _ e) (by rw [hdo]; exact rw2) (fun q h => .inl h) ?_)
              rw [hdo]; rfl
end
end K01

set_option Elab.async false
set_option linter.all false
set_option maxRecDepth 100000
set_option maxHeartbeats 4000000
namespace K01
open PySem L2 Ew Tb GxR ND PK
local macro_rules | `(tactic| walk_at "len") => `(tactic| first | (intro h; obtain ⟨_, e, _⟩ := h; rw [e]; rfl) | (intro h; obtain ⟨_, _, e, _⟩ := h; rw [e]; rfl) | (intro h; obtain ⟨_, _, _, e, _⟩ := h; rw [e]; rfl) | (intro h; obtain ⟨_, _, _, _, e, _⟩ := h; rw [e]; rfl) | (intro h; obtain ⟨_, _, _, _, _, e, _⟩ := h; rw [e]; rfl) | (intro h; obtain ⟨_, _, _, _, _, _, e, _⟩ := h; rw [e]; rfl) | (intro h; obtain ⟨_, _, _, _, _, _, _, e, _⟩ := h; rw [e]; rfl) | (intro h; obtain ⟨_, _, _, _, _, _, _, _, e, _⟩ := h; rw [e]; rfl) | (intro h; obtain ⟨_, _, _, _, _, _, _, _, _, e, _⟩ := h; rw [e]; rfl) | (intro h; obtain ⟨_, _, _, _, _, _, _, _, _, _, e, _⟩ := h; rw [e]; rfl) | (intro h; obtain ⟨_, _, _, _, _, _, _, _, _, _, _, e, _⟩ := h; rw [e]; rfl) | (intro h; obtain ⟨_, _, _, _, _, _, _, _, _, _, _, _, e, _⟩ := h; rw [e]; rfl) | (intro h; obtain ⟨_, _, _, _, _, _, _, _, _, _, _, _, _, e, _⟩ := h; rw [e]; rfl))
local macro_rules | `(tactic| walk_at "len") => `(tactic| first | (intro h; obtain ⟨_, _, _, _, _, _, _, _, e, _⟩ := h; rw [e]; rfl) | (intro h; obtain ⟨_, _, _, _, _, _, _, _, _, e, _⟩ := h; rw [e]; rfl) | (intro h; obtain ⟨_, _, _, _, _, _, _, _, _, _, e, _⟩ := h; rw [e]; rfl) | (intro h; obtain ⟨_, _, _, _, _, _, _, _, _, _, _, e, _⟩ := h; rw [e]; rfl) | (intro h; obtain ⟨_, _, _, _, _, _, _, _, _, _, _, _, e, _⟩ := h; rw [e]; rfl) | (intro h; obtain ⟨_, _, _, _, _, _, _, _, _, _, _, _, _, e, _⟩ := h; rw [e]; rfl) | (intro h; obtain ⟨_, _, _, _, _, _, _, _, _, _, _, _, _, _, e, _⟩ := h; rw [e]; rfl) | (intro h; obtain ⟨_, _, _, _, _, _, _, _, _, _, _, _, _, _, _, e, _⟩ := h; rw [e]; rfl) | (intro h; obtain ⟨_, _, _, _, _, _, _, _, _, _, _, _, _, _, _, _, e, _⟩ := h; rw [e]; rfl) | (intro h; obtain ⟨_, _, _, _, _, _, _, _, _, _, _, _, _, _, _, _, _, e, _⟩ := h; rw [e]; rfl))
section
variable {P : Program} {w : World} {K : PySem.W.Frag} {mg : Str → Option Value} {base : Heap} {ad : Ad}
end
/-- two values are the same thing, n levels deep at most -/
inductive Dd (H : Hp) : Nat → V → V → Prop
  | non {n : Nat} : Dd H (n + 1) .non .non
  | bl {n : Nat} (b : Bool) : Dd H (n + 1) (.bl b) (.bl b)
  | int {n : Nat} (i : Int) : Dd H (n + 1) (.int i) (.int i)
  | str {n : Nat} (x : Str) : Dd H (n + 1) (.str x) (.str x)
  | lst {n : Nat} {a b : Addr} {xs ys : List V} : H a = some (.lst xs) → H b = some (.lst ys) → xs.length = ys.length → ys.length ≤ 100000 → (∀ (i : Nat) x y, xs[i]? = some x → ys[i]? = some y → Dd H n x y) → Dd H (n + 1) (.ref a) (.ref b)
  | tup {n : Nat} {a b : Addr} {xs ys : List V} : H a = some (.tup xs) → H b = some (.tup ys) → xs.length = ys.length → ys.length ≤ 100000 → (∀ (i : Nat) x y, xs[i]? = some x → ys[i]? = some y → Dd H n x y) → Dd H (n + 1) (.ref a) (.ref b)
theorem Dd.same {H H' : Hp} (s : Same H H') : ∀ {n : Nat} {x y : V}, Dd H n x y → Dd H' n x y := by
  intro n x y h
  induction h with
  | non => exact .non
  | bl b => exact .bl b
  | int i => exact .int i
  | str z => exact .str z
  | lst e1 e2 l l2 _ ih => exact .lst (s _ _ e1) (s _ _ e2) l l2 ih
  | tup e1 e2 l l2 _ ih => exact .tup (s _ _ e1) (s _ _ e2) l l2 ih
def spSame (n : Nat) : Sp := fun vs H Q _ => ∃ x y, vs = [x, y] ∧ Dd H n x y ∧ ∀ H', Same H H' → Q (.bl true) H'
section
variable {P : Program} {w : World} {K : PySem.W.Frag} {mg : Str → Option Value} {base : Heap} {ad : Ad}
section
variable {n lv : Nat}
theorem ok_law_same (c_law_is_int : CalX P w K mg base 1 "_law_is_int" spIsInt) (c_law_same : CalX P w K mg base lv "_law_same" (spSame n)) (h1 : 1 ≤ lv) {f : Addr} {fd : FuncData} (F : Fun K "_law_same" "_law_same" s_law_same f fd) (T : Txt K mg ad) : FnOk P w K mg base (L2.CX P w) (lv + 1) f fd ["found", "value"] (spSame (n + 1)) := by
  refine F.okX sc_law_same (fun vs H Q E => ?_) (fun cdv A outer s H vs Q E hr h => ?_)
  · walk_at "len"
  ·
    obtain ⟨x, y, rfl, hd, k⟩ := h
    refine ⟨_, (pss_cons (ps_if (pt_cmpR op_isN (pv 1) pe_non (nomark _)) (pss_one (ps_ret (pe_cmpR op_isN (pv 0) pe_non (nomark _)))) pss_nil)
      (pss_cons (ps_if (pt_val (pe_callB call_isi (by rfl) T.z_isinstance (by decide +kernel) (pa_cons (pv 1) (pa_cons (pe_bltn (v := .ty "bool") (by rfl) T.z_bool (by decide +kernel) rfl) pa_nil)))) (pss_one (ps_ret (pe_and (pe_callB call_isi (by rfl) T.z_isinstance (by decide +kernel) (pa_cons (pv 0) (pa_cons (pe_bltn (v := .ty "bool") (by rfl) T.z_bool (by decide +kernel) rfl) pa_nil))) (pe_one (pe_cmpR op_eq (pv 0) (pv 1) (nomark _)))))) pss_nil)
      (pss_cons (ps_if (pt_val (pe_callB call_isi (by rfl) T.z_isinstance (by decide +kernel) (pa_cons (pv 1) (pa_cons (pe_bltn (v := .ty "int") (by rfl) T.z_int (by decide +kernel) rfl) pa_nil)))) (pss_one (ps_ret (pe_and (pc_call c_law_is_int hr (by first | decide | omega) (takes_of rfl rfl rfl rfl) (by rfl) (pa_cons (pv 0) pa_nil)) (pe_one (pe_cmpR op_eq (pv 0) (pv 1) (nomark _)))))) pss_nil)
      (pss_cons (ps_if (pt_val (pe_callB call_isi (by rfl) T.z_isinstance (by decide +kernel) (pa_cons (pv 1) (pa_cons (pe_bltn (v := .ty "str") (by rfl) T.z_str (by decide +kernel) rfl) pa_nil)))) (pss_one (ps_ret (pe_and (pe_callB call_isi (by rfl) T.z_isinstance (by decide +kernel) (pa_cons (pv 0) (pa_cons (pe_bltn (v := .ty "str") (by rfl) T.z_str (by decide +kernel) rfl) pa_nil))) (pe_one (pe_cmpR op_eq (pv 0) (pv 1) (nomark _)))))) pss_nil)
      (pss_cons (ps_if (PW.pt (pw_or (pt_cmpR op_ne (pe_callB call_isi (by rfl) T.z_isinstance (by decide +kernel) (pa_cons (pv 1) (pa_cons (pe_bltn (v := .ty "list") (by rfl) T.z_list (by decide +kernel) rfl) pa_nil))) (pe_callB call_isi (by rfl) T.z_isinstance (by decide +kernel) (pa_cons (pv 0) (pa_cons (pe_bltn (v := .ty "list") (by rfl) T.z_list (by decide +kernel) rfl) pa_nil))) (nomark _)) (pw_or1 (pt_cmpR op_ne (pe_callB call_isi (by rfl) T.z_isinstance (by decide +kernel) (pa_cons (pv 1) (pa_cons (pe_bltn (v := .ty "tuple") (by rfl) T.z_tuple (by decide +kernel) rfl) pa_nil))) (pe_callB call_isi (by rfl) T.z_isinstance (by decide +kernel) (pa_cons (pv 0) (pa_cons (pe_bltn (v := .ty "tuple") (by rfl) T.z_tuple (by decide +kernel) rfl) pa_nil))) (nomark _))))) (pss_one (ps_ret pe_bl)) pss_nil)
      (pss_one (ps_ret (pe_and (pe_cmpR op_eq (pe_callB call_len (by rfl) T.z_len (by decide +kernel) (pa_cons (pv 0) pa_nil)) (pe_callB call_len (by rfl) T.z_len (by decide +kernel) (pa_cons (pv 1) pa_nil)) (nomark _)) (pe_one (pe_callB (cr_all rfl) (by rfl) T.z_all (by decide +kernel) (pa_cons (pe_lc (own := [("k", 2)]) (tt := tYes) rfl sc_law_same.nd (pi_range1 (by rfl) T.z_range (pa_cons (pe_callB call_len (by rfl) T.z_len (by decide +kernel) (pa_cons (pv 1) pa_nil)) pa_nil)) (blkOk_by (by kernel_rfl)) (fun _ _ _ _ _ => (pg_name (i := 2) sc_law_same.nd rfl (by first | exact Or.inl rfl | exact Or.inr rfl))) (fun _ _ _ _ _ => pts_nil) (fun _ _ _ _ _ => (pc_call c_law_same hr (by first | decide | omega) takes0 (by rfl) (pa_cons (pe_ix (kix_seq (K := K)) (pv 0) (pv 2) (fun _ _ => rfl)) (pa_cons (pe_ix (kix_seq (K := K)) (pv 1) (pv 2) (fun _ _ => rfl)) pa_nil))))) pa_nil))))))))))), ?_⟩
    cases hd with
    | non =>
      refine ⟨_, rfl, rfl, _, rfl, iteT ?_⟩
      exact ⟨_, rfl, rfl, k H (Same.refl _)⟩
    | bl b =>
      refine ⟨_, rfl, rfl, _, rfl, iteF (go_next ?_)⟩
      refine ⟨_, rfl, _, _, _, _, true, rfl, .ty _, .base (.bl b), kit_ty (by decide +kernel), true, rfl, iteT ?_⟩
      refine ⟨_, rfl, _, _, _, _, true, rfl, .ty _, .base (.bl b), kit_ty (by decide +kernel), true, rfl, iteT ?_⟩
      refine ⟨_, rfl, _, rfl, rfl, ?_⟩
      rw [decide_eq_true rfl]
      exact k H (Same.refl _)
    | int i =>
      refine ⟨_, rfl, rfl, _, rfl, iteF (go_next ?_)⟩
      refine ⟨_, rfl, _, _, _, _, false, rfl, .ty _, .base (.int i), kit_ty (by decide +kernel), false, rfl, iteF (go_next ?_)⟩
      refine ⟨_, rfl, _, _, _, _, true, rfl, .ty _, .base (.int i), kit_ty (by decide +kernel), true, rfl, iteT ?_⟩
      refine ⟨_, rfl, _, rfl, .inl ⟨i, rfl, ?_⟩⟩
      refine ⟨_, rfl, iteT ?_⟩
      refine ⟨_, rfl, _, rfl, rfl, ?_⟩
      rw [decide_eq_true rfl]
      exact k H (Same.refl _)
    | str z =>
      refine ⟨_, rfl, rfl, _, rfl, iteF (go_next ?_)⟩
      refine ⟨_, rfl, _, _, _, _, false, rfl, .ty _, .base (.str z), kit_ty (by decide +kernel), false, rfl, iteF (go_next ?_)⟩
      refine ⟨_, rfl, _, _, _, _, false, rfl, .ty _, .base (.str z), kit_ty (by decide +kernel), false, rfl, iteF (go_next ?_)⟩
      refine ⟨_, rfl, _, _, _, _, true, rfl, .ty _, .base (.str z), kit_ty (by decide +kernel), true, rfl, iteT ?_⟩
      refine ⟨_, rfl, _, _, _, _, true, rfl, .ty _, .base (.str z), kit_ty (by decide +kernel), true, rfl, iteT ?_⟩
      refine ⟨_, rfl, _, rfl, rfl, ?_⟩
      rw [decide_eq_true rfl]
      exact k H (Same.refl _)
    | lst e1 e2 l l2 r =>
      refine ⟨_, rfl, rfl, _, rfl, iteF (go_next ?_)⟩
      refine ⟨_, rfl, _, _, _, _, false, rfl, .ty _, .base (.lst e2), kit_ty (by decide +kernel), false, rfl, iteF (go_next ?_)⟩
      refine ⟨_, rfl, _, _, _, _, false, rfl, .ty _, .base (.lst e2), kit_ty (by decide +kernel), false, rfl, iteF (go_next ?_)⟩
      refine ⟨_, rfl, _, _, _, _, false, rfl, .ty _, .base (.lst e2), kit_ty (by decide +kernel), false, rfl, iteF (go_next ?_)⟩
      refine ⟨_, rfl, _, _, _, _, true, rfl, .ty _, .base (.lst e2), kit_ty (by decide +kernel), _, rfl, _, _, _, _, true, rfl, .ty _, .base (.lst e1), kit_ty (by decide +kernel), rfl, ?_⟩
      refine ⟨_, rfl, iteF ?_⟩
      refine ⟨_, rfl, _, _, _, _, false, rfl, .ty _, .base (.lst e2), kit_ty (by decide +kernel), _, rfl, _, _, _, _, false, rfl, .ty _, .base (.lst e1), kit_ty (by decide +kernel), rfl, ?_⟩
      refine ⟨_, rfl, iteF (go_next ?_)⟩
      rename_i a b xs ys
      refine ⟨_, rfl, .ref a, _, rfl, .inl ⟨_, SqL.of e1, rfl⟩, _, rfl, .ref b, _, rfl, .inl ⟨_, SqL.of e2, rfl⟩, rfl, ?_⟩
      rw [l, decide_eq_true rfl]
      refine ⟨_, rfl, iteT ?_⟩
      refine ⟨_, rfl, .ref b, _, rfl, .inl ⟨_, SqL.of e2, rfl⟩, _, rfl, by omega, by omega, fun D hD => ?_⟩
      rw [Int.toNat_natCast]
      refine lc_vals (lo := 0) (fun _ => .bl true) hD l2 (fun _ => rfl) (fun i H2 Kt hi s2 h => ?_) (fun H2 s2 eD => ?_)
      · rw [Int.zero_add]
        have hx : xs[i]? = some xs[i] := List.getElem?_eq_getElem (by omega)
        have hy : ys[i]? = some ys[i] := List.getElem?_eq_getElem hi
        refine ⟨_, rfl, _, rfl, .inl ⟨a, xs, _, xs[i], rfl, rfl, SqL.of (s2 _ _ e1), at_of (j := i) rfl hx, _, rfl, _, rfl, .inl ⟨b, ys, _, ys[i], rfl, rfl, SqL.of (s2 _ _ e2), at_of (j := i) rfl hy, ?_⟩⟩⟩
        exact ⟨_, _, rfl, (r i _ _ hx hy).same s2, fun H4 s4 => h H4 s4⟩
      · refine ⟨D, (List.range ys.length).map fun _ => true, rfl, SqL.of (by rw [eD, List.map_map]; rfl), ?_⟩
        rw [List.all_map, show (List.range ys.length).all (id ∘ fun (_ : Nat) => true) = true from List.all_eq_true.mpr fun _ _ => rfl]
        exact k H2 s2
    | tup e1 e2 l l2 r =>
      refine ⟨_, rfl, rfl, _, rfl, iteF (go_next ?_)⟩
      refine ⟨_, rfl, _, _, _, _, false, rfl, .ty _, .base (.tup e2), kit_ty (by decide +kernel), false, rfl, iteF (go_next ?_)⟩
      refine ⟨_, rfl, _, _, _, _, false, rfl, .ty _, .base (.tup e2), kit_ty (by decide +kernel), false, rfl, iteF (go_next ?_)⟩
      refine ⟨_, rfl, _, _, _, _, false, rfl, .ty _, .base (.tup e2), kit_ty (by decide +kernel), false, rfl, iteF (go_next ?_)⟩
      refine ⟨_, rfl, _, _, _, _, false, rfl, .ty _, .base (.tup e2), kit_ty (by decide +kernel), _, rfl, _, _, _, _, false, rfl, .ty _, .base (.tup e1), kit_ty (by decide +kernel), rfl, ?_⟩
      refine ⟨_, rfl, iteF ?_⟩
      refine ⟨_, rfl, _, _, _, _, true, rfl, .ty _, .base (.tup e2), kit_ty (by decide +kernel), _, rfl, _, _, _, _, true, rfl, .ty _, .base (.tup e1), kit_ty (by decide +kernel), rfl, ?_⟩
      refine ⟨_, rfl, iteF (go_next ?_)⟩
      rename_i a b xs ys
      refine ⟨_, rfl, .ref a, _, rfl, .inr ⟨_, SqT.of e1, rfl⟩, _, rfl, .ref b, _, rfl, .inr ⟨_, SqT.of e2, rfl⟩, rfl, ?_⟩
      rw [l, decide_eq_true rfl]
      refine ⟨_, rfl, iteT ?_⟩
      refine ⟨_, rfl, .ref b, _, rfl, .inr ⟨_, SqT.of e2, rfl⟩, _, rfl, by omega, by omega, fun D hD => ?_⟩
      rw [Int.toNat_natCast]
      refine lc_vals (lo := 0) (fun _ => .bl true) hD l2 (fun _ => rfl) (fun i H2 Kt hi s2 h => ?_) (fun H2 s2 eD => ?_)
      · rw [Int.zero_add]
        have hx : xs[i]? = some xs[i] := List.getElem?_eq_getElem (by omega)
        have hy : ys[i]? = some ys[i] := List.getElem?_eq_getElem hi
        refine ⟨_, rfl, _, rfl, .inr (.inl ⟨a, xs, _, xs[i], rfl, rfl, SqT.of (s2 _ _ e1), at_of (j := i) rfl hx, _, rfl, _, rfl, .inr (.inl ⟨b, ys, _, ys[i], rfl, rfl, SqT.of (s2 _ _ e2), at_of (j := i) rfl hy, ?_⟩)⟩)⟩
        exact ⟨_, _, rfl, (r i _ _ hx hy).same s2, fun H4 s4 => h H4 s4⟩
      · refine ⟨D, (List.range ys.length).map fun _ => true, rfl, SqL.of (by rw [eD, List.map_map]; rfl), ?_⟩
        rw [List.all_map, show (List.range ys.length).all (id ∘ fun (_ : Nat) => true) = true from List.all_eq_true.mpr fun _ _ => rfl]
        exact k H2 s2
end
end
section
variable {P : Program} {w : World} {K : PySem.W.Frag} {mg : Str → Option Value} {base : Heap} {ad : Ad}
theorem same_cal {f : Addr} {fd : FuncData} (F : Fun K "_law_same" "_law_same" s_law_same f fd) (T : Txt K mg ad) (hm : mg "_law_same" = some (.ref f)) (b : Binds K fd ["found", "value"] []) (ci : CalX P w K mg base 1 "_law_is_int" spIsInt) : ∀ n : Nat, CalX P w K mg base (n + 5) "_law_same" (spSame n)
  | 0 => cal_mk (k := 5) ⟨fun _ _ _ _ ⟨_, _, _, h, _⟩ => (nomatch h), fun _ _ _ _ _ _ _ _ _ _ _ _ _ ⟨_, _, _, h, _⟩ => (nomatch h)⟩ hm F.kp b
  | n + 1 => cal_mk (ok_law_same (n := n) (lv := n + 5) ci (same_cal F T hm b ci n) (by omega) F T) hm F.kp b
end
def flatK (ks : List NestedKey) : Prop := ks.length ≤ 1000 ∧ ∀ k ∈ ks, (∃ i, k = .num i) ∨ ∃ x, k = .text x
theorem dd_flat {H : Hp} {ks : List NestedKey} {x y : V} (f : flatK ks) (hx : Ky H (.tup ks) x) (hy : Ky H (.tup ks) y) : Dd H 2 x y := by
  obtain ⟨a, xs, rfl, e1, k1⟩ := ky_tup hx
  obtain ⟨b, ys, rfl, e2, k2⟩ := ky_tup hy
  have l1 := kys_len k1
  have l2 := kys_len k2
  refine .tup e1 e2 (by omega) (by have := f.1; omega) fun i u v hu hv => ?_
  have hi : i < ks.length := by rw [l1]; exact (List.getElem?_eq_some_iff.mp hu).1
  have hk := List.getElem?_eq_getElem hi
  have u1 := kys_at k1 i hk hu
  have v1 := kys_at k2 i hk hv
  rcases f.2 _ (List.mem_of_getElem? hk) with ⟨j, e⟩ | ⟨z, e⟩
  · rw [e] at u1 v1
    cases u1; cases v1; exact .int _
  · rw [e] at u1 v1
    cases u1; cases v1; exact .str _
theorem dd_pair {H : Hp} {t : Str} {ks : List NestedKey} {x y : V} (f : flatK ks) (hx : Ky H (.tup [.text t, .tup ks]) x) (hy : Ky H (.tup [.text t, .tup ks]) y) : Dd H 3 x y := by
  obtain ⟨a, x1, x2, rfl, e1, k1, k2⟩ := ky_pair hx
  obtain ⟨b, y1, y2, rfl, e2, l1, l2⟩ := ky_pair hy
  cases k1
  cases l1
  exact .tup e1 e2 rfl (show 2 ≤ 100000 by decide) fun i u v hu hv => by
    rcases i with _ | _ | i
    · cases hu; cases hv; exact .str _
    · cases hu; cases hv; exact dd_flat f k2 l2
    · simp at hu
theorem dd_res {H : Hp} {r : Res} {x y : V} (f : ∀ t ks, r = .pair t ks → flatK ks) (hx : RV H r x) (hy : RV H r y) : Dd H 3 x y := by
  cases r with
  | non => rw [show x = .non from hx, show y = .non from hy]; exact .non
  | num n => rw [show x = .int (n : Int) from hx, show y = .int (n : Int) from hy]; exact .int _
  | err e => rw [show x = .str e.word from hx, show y = .str e.word from hy]; exact .str _
  | pair t ks => exact dd_pair (f t ks rfl) hx hy
end K01

set_option Elab.async false
set_option linter.all false
set_option maxRecDepth 100000
set_option maxHeartbeats 4000000
namespace K01
open PySem L2 Ew Tb GxR ND PK
local macro_rules | `(tactic| walk_at "len") => `(tactic| first | (intro h; obtain ⟨_, e, _⟩ := h; rw [e]; rfl) | (intro h; obtain ⟨_, _, e, _⟩ := h; rw [e]; rfl) | (intro h; obtain ⟨_, _, _, e, _⟩ := h; rw [e]; rfl) | (intro h; obtain ⟨_, _, _, _, e, _⟩ := h; rw [e]; rfl) | (intro h; obtain ⟨_, _, _, _, _, e, _⟩ := h; rw [e]; rfl) | (intro h; obtain ⟨_, _, _, _, _, _, e, _⟩ := h; rw [e]; rfl) | (intro h; obtain ⟨_, _, _, _, _, _, _, e, _⟩ := h; rw [e]; rfl) | (intro h; obtain ⟨_, _, _, _, _, _, _, _, e, _⟩ := h; rw [e]; rfl) | (intro h; obtain ⟨_, _, _, _, _, _, _, _, _, e, _⟩ := h; rw [e]; rfl) | (intro h; obtain ⟨_, _, _, _, _, _, _, _, _, _, e, _⟩ := h; rw [e]; rfl) | (intro h; obtain ⟨_, _, _, _, _, _, _, _, _, _, _, e, _⟩ := h; rw [e]; rfl) | (intro h; obtain ⟨_, _, _, _, _, _, _, _, _, _, _, _, e, _⟩ := h; rw [e]; rfl) | (intro h; obtain ⟨_, _, _, _, _, _, _, _, _, _, _, _, _, e, _⟩ := h; rw [e]; rfl))
local macro_rules | `(tactic| walk_at "len") => `(tactic| first | (intro h; obtain ⟨_, _, _, _, _, _, _, _, e, _⟩ := h; rw [e]; rfl) | (intro h; obtain ⟨_, _, _, _, _, _, _, _, _, e, _⟩ := h; rw [e]; rfl) | (intro h; obtain ⟨_, _, _, _, _, _, _, _, _, _, e, _⟩ := h; rw [e]; rfl) | (intro h; obtain ⟨_, _, _, _, _, _, _, _, _, _, _, e, _⟩ := h; rw [e]; rfl) | (intro h; obtain ⟨_, _, _, _, _, _, _, _, _, _, _, _, e, _⟩ := h; rw [e]; rfl) | (intro h; obtain ⟨_, _, _, _, _, _, _, _, _, _, _, _, _, e, _⟩ := h; rw [e]; rfl) | (intro h; obtain ⟨_, _, _, _, _, _, _, _, _, _, _, _, _, _, e, _⟩ := h; rw [e]; rfl) | (intro h; obtain ⟨_, _, _, _, _, _, _, _, _, _, _, _, _, _, _, e, _⟩ := h; rw [e]; rfl) | (intro h; obtain ⟨_, _, _, _, _, _, _, _, _, _, _, _, _, _, _, _, e, _⟩ := h; rw [e]; rfl) | (intro h; obtain ⟨_, _, _, _, _, _, _, _, _, _, _, _, _, _, _, _, _, e, _⟩ := h; rw [e]; rfl))
section
variable {P : Program} {w : World} {K : PySem.W.Frag} {mg : Str → Option Value} {base : Heap} {ad : Ad}
theorem dd_rows {H : Hp} {fs : List Fac} {is : List Nat} {l D : Addr} {xs ys : List V} (fl : ∀ x ∈ fs, flatK x.2.1) (hl : is.length ≤ 1000) (e1 : H l = some (.lst xs)) (e2 : H D = some (.lst ys)) (r1 : RowsAt H fs is xs) (r2 : RowsAt H fs is ys) : Dd H 4 (.ref l) (.ref D) := by
  refine .lst e1 e2 (by rw [r1.1, r2.1]) (by rw [r2.1]; omega) fun i u v hu hv => ?_
  have hi : i < is.length := by rw [← r1.1]; exact (List.getElem?_eq_some_iff.mp hu).1
  obtain ⟨p, a, x, h1, h2, h3, h4⟩ := r1.2 i _ (List.getElem?_eq_getElem hi)
  obtain ⟨p', a', x', h1', h2', h3', h4'⟩ := r2.2 i _ (List.getElem?_eq_getElem hi)
  rw [hu] at h1
  rw [hv] at h1'
  cases h1
  cases h1'
  rw [h3] at h3'
  cases h3'
  exact .tup h2 h2' rfl (show 2 ≤ 100000 by decide) fun j u v hu hv => by
    rcases j with _ | _ | j
    · cases hu; cases hv; exact .int _
    · cases hu; cases hv; exact dd_flat (fl x (List.mem_of_getElem? h3)) h4 h4'
    · simp at hu
theorem lay_tabs : ∀ tabs : Tabs, (∀ x ∈ tabs, (PyData.str x.1).canLay0 = true) → PyData.canLayAll0 (tabs.map fun z => .tuple [.str z.1, .int (z.2 : Int)]) = true
  | [], _ => rfl
  | z :: zs, cl => by
    show (((PyData.str z.1).canLay0 && (true && true)) && PyData.canLayAll0 _) = true
    rw [cl z (List.mem_cons_self ..), lay_tabs zs fun x hx => cl x (List.mem_cons_of_mem _ hx)]; rfl
theorem inT_len (t : Str) : ∀ (fs : List Fac) (n : Nat), (inT t n fs).length ≤ fs.length := fun fs => by
  induction fs with
  | nil => exact fun _ => Nat.le_refl _
  | cons x fs ih =>
    intro n
    rw [inT]
    have := ih (n + 1)
    split <;> simp only [List.length_cons] <;> omega
def spRight (P : Program) (w : World) (ad : Ad) : Sp := fun vs H Q _ => ∃ (f tb r : Addr) (A : FA) (tabs : Tabs) (fs : List Fac) (rl : List Addr) (xs : List V), vs = [.ref f, .ref tb, .ref r] ∧ FO P w H ad.Facts f A tabs fs ∧ H tb = some (.lst xs) ∧ TabsAt H (tabZ tabs) xs ∧ RW H r fs rl ∧ (tabs.map Prod.fst).Nodup ∧
  (∀ x ∈ fs, flatK x.2.1) ∧ (∀ x ∈ tabs, (PyData.str x.1).canLay0 = true) ∧ ∀ H', Same H H' → Q (.bl true) H'
theorem ok_law_right (m_rows : MetX P w K mg base 2 ad.Facts "rows" (spRows P w ad)) (m_arity : MetX P w K mg base 2 ad.Facts "arity" (spArity P w ad)) (m_is_there : MetX P w K mg base 2 ad.Facts "is_there" (spIsThere P w ad)) (m_count : MetX P w K mg base 2 ad.Facts "count" (spCount P w ad)) (m_tables : MetX P w K mg base 2 ad.Facts "tables" (spTabs P w ad)) (c_law_same : CalX P w K mg base 9 "_law_same" (spSame 4)) {f : Addr} {fd : FuncData} (F : Fun K "_law_right" "_law_right" s_law_right f fd) (T : Txt K mg ad) : FnOk P w K mg base (L2.CX P w) 12 f fd ["facts", "tables", "rows"] (spRight P w ad) := by
  refine F.okX sc_law_right (fun vs H Q E => ?_) (fun cdv A outer s H vs Q E hr h => ?_)
  · walk_at "len"
  ·
    obtain ⟨f0, tb, r, A, tabs, fs, rl, xs, rfl, fo, htb, ta, rw_, nt, fl, cl, kq⟩ := h
    refine ⟨_, (pss_cons (ps_for (passes_of rfl) rfl (pi_list (pv 1)) (pg_name (i := 3) sc_law_right.nd rfl (by first | exact Or.inl rfl | exact Or.inr rfl)) (pss_cons (ps_setLc (i := 4) (own := [("k", 5)]) rfl sc_law_right.nd rfl rfl (sw_true rfl rfl rfl (by decide +kernel)) (pi_range1 (by rfl) T.z_range (pa_cons (pe_callB call_len (by rfl) T.z_len (by decide +kernel) (pa_cons (pv 2) pa_nil)) pa_nil)) (blkOk_by (by kernel_rfl)) (fun _ _ _ _ _ => (pg_name (i := 5) sc_law_right.nd rfl (by first | exact Or.inl rfl | exact Or.inr rfl))) (fun _ _ _ _ _ => (pts_one (PW.pt (pw_and (pt_cmpR op_eq (pe_ix (kix_list (K := K)) (pe_ix (kix_list (K := K)) (pv 2) (pv 5) (fun _ _ => rfl)) pe_int (fun _ _ => rfl)) (pe_ix (kix_tup (K := K)) (pv 3) pe_int (fun _ _ => rfl)) (nomark _)) (pw_and1 (pt_val (pe_ix (kix_list (K := K)) (pe_ix (kix_list (K := K)) (pv 2) (pv 5) (fun _ _ => rfl)) pe_int (fun _ _ => rfl)))))))) (fun _ _ _ _ _ => (pe_tup (pa_cons (pv 5) (pa_cons (pe_ix (kix_list (K := K)) (pe_ix (kix_list (K := K)) (pv 2) (pv 5) (fun _ _ => rfl)) pe_int (fun _ _ => rfl)) pa_nil)))))
      (pss_one (ps_if (PW.pt (pw_or (pt_not (pt_val (pc_call c_law_same hr (by first | decide | omega) (takes_of rfl rfl rfl rfl) (by rfl) (pa_cons (pd_meth hr (takes_of rfl rfl rfl rfl) (pv 0) (pa_cons (pe_ix ix_tup (pv 3) pe_int (fun _ _ => rfl)) pa_nil)) (pa_cons (pv 4) pa_nil))))) (pw_or1 (pt_cmpR op_ne (pd_meth hr (takes_of rfl rfl rfl rfl) (pv 0) (pa_cons (pe_ix ix_tup (pv 3) pe_int (fun _ _ => rfl)) pa_nil)) (pe_ix ix_tup (pv 3) pe_int (fun _ _ => rfl)) (nomark _))))) (pss_one (ps_ret pe_bl)) pss_nil))))
      (pss_cons (ps_if (pt_not (pt_val (pe_callB (cr_all rfl) (by rfl) T.z_all (by decide +kernel) (pa_cons (pe_lc (own := [("k", 5)]) (tt := tYes) rfl sc_law_right.nd (pi_range1 (by rfl) T.z_range (pa_cons (pe_callB call_len (by rfl) T.z_len (by decide +kernel) (pa_cons (pv 2) pa_nil)) pa_nil)) (blkOk_by (by kernel_rfl)) (fun _ _ _ _ _ => (pg_name (i := 5) sc_law_right.nd rfl (by first | exact Or.inl rfl | exact Or.inr rfl))) (fun _ _ _ _ _ => pts_nil) (fun _ _ _ _ _ => (pc_call c_law_same hr (by first | decide | omega) takes0 (by rfl) (pa_cons (kpd_meth (P := P) (w := w) (K := K) (mg := mg) (base := base) hr takes0 (pv 0) (pa_cons (pv 5) pa_nil)) (pa_cons (pe_ix (kix_list (K := K)) (pe_ix (kix_list (K := K)) (pv 2) (pv 5) (fun _ _ => rfl)) pe_int (fun _ _ => rfl)) pa_nil))))) pa_nil)))) (pss_one (ps_ret pe_bl)) pss_nil)
      (pss_one (ps_ret (pe_and (pe_cmpR op_eq (pd_meth0 hr (takes_of rfl rfl rfl rfl) (pv 0)) (pe_callB call_len (by rfl) T.z_len (by decide +kernel) (pa_cons (pv 2) pa_nil)) (nomark _)) (pe_one (pe_cmpR (op_eqD hr.units) (pd_meth0 hr (takes_of rfl rfl rfl rfl) (pv 0)) (pv 1) (nomark _)))))))), ?_⟩
    refine go_sq ?_
    refine ⟨_, rfl, tb, rfl, ⟨_, SqL.of htb⟩, ?_⟩
    refine for_list (K := K) (a := tb) (xs := xs) (fun i σ H' => ∃ v3 v4, σ = [some (.ref f0), some (.ref tb), some (.ref r), v3, v4, none] ∧ Same H H')
      ⟨none, none, rfl, Same.refl _⟩ (fun i σ H' _ ⟨_, _, _, s'⟩ => SqL.of (s' _ _ htb)) ?_ ?_
    · rintro i y σ H1 hy ⟨v3, v4, rfl, s1⟩
      have hi : i < (tabZ tabs).length := by rw [← ta.1]; exact (List.getElem?_eq_some_iff.mp hy).1
      obtain ⟨q, hq, eq⟩ := ta.2 i _ (List.getElem?_eq_getElem hi)
      rw [hy] at hq
      cases hq
      obtain ⟨⟨t, a⟩, hta⟩ : ∃ z, tabs[i]? = some z := ⟨_, List.getElem?_eq_getElem (by unfold tabZ at hi; rw [List.length_map] at hi; exact hi)⟩
      have hz : (tabZ tabs)[i] = (t, (a : Int)) := by
        have : (tabZ tabs)[i]? = some (t, (a : Int)) := by unfold tabZ; rw [List.getElem?_map, hta]; rfl
        rw [List.getElem?_eq_getElem hi] at this
        exact Option.some.inj this
      rw [hz] at eq
      have har : arOf tabs t = some a := by
        clear hz eq hy hi
        revert i
        have key : ∀ (tabs : Tabs), (tabs.map Prod.fst).Nodup → ∀ i : Nat, tabs[i]? = some (t, a) → arOf tabs t = some a := fun tabs => by
          induction tabs with
          | nil => intro _ i h; simp at h
          | cons x r ih =>
            intro nd i h
            obtain ⟨n1, n2⟩ := List.nodup_cons.mp nd
            cases i with
            | zero => cases h; rw [arOf, if_pos rfl]
            | succ i =>
              have h' : r[i]? = some (t, a) := h
              obtain ⟨x1, x2⟩ := x
              rw [arOf, if_neg (fun z : x1 = t => n1 (by show x1 ∈ _; rw [z]; exact List.mem_map_of_mem (List.mem_of_getElem? h')))]
              exact ih n2 i h'
        exact fun i h => key tabs nt i h
      have eq1 := s1 _ _ eq
      have rw1 := rw_.same s1
      have fo1 := fo.same s1
      have rll : (rl.map V.ref).length = fs.length := by rw [List.length_map, rw_.len]
      refine go_name rfl ?_
      refine go_seq ⟨_, rfl, .ref r, _, rfl, .inl ⟨_, SqL.of rw1.at_, rfl⟩, _, rfl, by rw [rll]; have := fo.le; omega, by rw [rll]; have := fo.le; omega, fun D hD => ?_⟩
      rw [rll, Int.toNat_natCast]
      have big : ∀ n : Nat, n ≤ 1000 → n < sizeLine := fun n h => Nat.lt_of_le_of_lt h (by decide)
      refine lc_range (fun j H' => Same H1 H' ∧ ∃ zs, H' D = some (.lst zs) ∧ RowsAt H' fs ((inT t 0 (fs.take j)).filter (thr fs)) zs) ⟨same_new (Same.refl _) hD, [], upd_same, rfl, fun _ _ h => by simp [inT] at h⟩ (fun j H' hj ⟨s', zs, e', r'⟩ => ?_) (fun H2 ⟨s2, zs, e2, r2⟩ => ?_)
      · obtain ⟨x, hx⟩ : ∃ x, fs[j]? = some x := ⟨_, List.getElem?_eq_getElem hj⟩
        have tk : fs.take (j + 1) = fs.take j ++ [x] := by rw [List.take_add_one, hx]; rfl
        have tl_ : (fs.take j).length = j := by rw [List.length_take]; omega
        rw [tk, inT_app, tl_, Nat.zero_add]
        obtain ⟨q', y, hq', eq', ky⟩ := (rw1.same s').row j x hx
        have hqr : (rl.map V.ref)[j]? = some (.ref q') := by rw [List.getElem?_map, hq']; rfl
        have hth : thr fs j = x.2.2 := by unfold thr; rw [hx]; rfl
        refine ⟨rfl, _, rfl, _, rfl, r, _, _, .ref q', rfl, rfl, SqL.of (s' _ _ rw1.at_), at_of (j := j) (by rw [Int.zero_add]) hqr, q', _, _, .str x.1, rfl, rfl, SqL.of eq', at_of (j := 0) rfl rfl, _, rfl, q, _, _, .str t, rfl, rfl, SqT.of (s' _ _ eq1), at_of (j := 0) rfl rfl, rfl, _, rfl, ?_⟩
        by_cases ct : x.1 = t
        · rw [if_pos ct, show decide (V.str x.1 = V.str t) = true from decide_eq_true (by rw [ct])]
          refine iteT ⟨_, rfl, _, rfl, r, _, _, .ref q', rfl, rfl, SqL.of (s' _ _ rw1.at_), at_of (j := j) (by rw [Int.zero_add]) hqr, q', _, _, .bl x.2.2, rfl, rfl, SqL.of eq', at_of (j := 2) rfl rfl, x.2.2, rfl, ?_⟩
          rw [List.filter_append]
          cases hb : x.2.2 with
          | false =>
            rw [show List.filter (thr fs) [j] = [] by rw [List.filter_cons, hth, hb]; rfl, List.append_nil]
            exact iteF ⟨s', zs, e', r'⟩
          | true =>
            rw [show List.filter (thr fs) [j] = [j] by rw [List.filter_cons, hth, hb]; rfl]
            obtain ⟨ry, rfl⟩ := row_ref ky
            refine iteT ⟨_, rfl, _, rfl, _, rfl, r, _, _, .ref q', rfl, rfl, SqL.of (s' _ _ rw1.at_), at_of (j := j) (by rw [Int.zero_add]) hqr, q', _, _, .ref ry, rfl, rfl, SqL.of eq', at_of (j := 1) rfl rfl, (show 2 ≤ sizeLine by decide), fun p hp => ?_⟩
            rw [Int.zero_add]
            have s4 := same_new (o := .tup [.int (j : Int), .ref ry]) (Same.refl H') hp
            have e4 := s4 _ _ e'
            refine ⟨zs, e4, ?_, same_but hD (fun b o z => s4 _ _ (s' _ _ z)) but_app, _, upd_same, ?_⟩
            · rw [r'.1]
              have h1 := List.length_filter_le (thr fs) (inT t 0 (fs.take j))
              have h2 : ∀ (fs : List Fac) (n : Nat), (inT t n fs).length ≤ fs.length := fun fs => by
                induction fs with
                | nil => exact fun _ => Nat.le_refl _
                | cons x fs ih =>
                  intro n
                  rw [inT]
                  have := ih (n + 1)
                  split <;> simp only [List.length_cons] <;> omega
              have h3 := h2 (fs.take j) 0
              have h4 := fo.le
              exact big _ (by omega)
            · have keep : ∀ c ys, (upd H' p (.tup [.int (j : Int), .ref ry])) c = some (.tup ys) → (upd (upd H' p (.tup [.int (j : Int), .ref ry])) D (.lst (zs ++ [.ref p]))) c = some (.tup ys) := fun c ys e => by
                rw [upd_ne (ne_of e e4 (fun z => nomatch z))]; exact e
              exact RowsAt.snoc (r'.keeps fun c ys e => keep _ _ (s4 _ _ e)) (keep _ _ upd_same) hx (ky.keeps fun c ys e => keep _ _ (s4 _ _ e))
        · rw [if_neg ct, List.append_nil, show decide (V.str x.1 = V.str t) = false from decide_eq_false (fun z => ct (by injection z))]
          exact iteF (iteF ⟨s', zs, e', r'⟩)
      · rw [List.take_length] at r2
        refine go_name rfl ?_
        have fo2 := fo1.same s2
        refine ⟨_, rfl, f0, ad.Facts, A.dx, A.fs_, 2, _, rfl, fo2.ins, fF_no _ _ _ _ _ (by decide) (by decide) (by decide) (by decide) (by decide), by decide, m_rows, _, rfl, q, _, _, .str t, rfl, rfl, SqT.of (s2 _ _ eq1), at_of (j := 0) rfl rfl, f0, A, tabs, fs, t, rfl, fo2, fun z => absurd z (by rw [har]; exact fun z => nomatch z), fun _ H3 l ys s3 hl e3 r3 => ?_⟩
        have isl : ((inT t 0 fs).filter (thr fs)).length ≤ 1000 := by
          have h1 := List.length_filter_le (thr fs) (inT t 0 fs)
          have h3 := inT_len t fs 0
          have h4 := fo.le
          omega
        refine ⟨_, rfl, _, _, rfl, dd_rows fl isl e3 (s3 _ _ e2) r3 (r2.keeps fun b ys e => s3 _ _ e), fun H4 s4 => ⟨_, rfl, iteF ?_⟩⟩
        have s14 : Same H1 H4 := fun b o e => s4 _ _ (s3 _ _ (s2 _ _ e))
        have fo4 := fo1.same s14
        refine ⟨_, rfl, f0, ad.Facts, A.dx, A.fs_, 2, _, rfl, fo4.ins, fF_no _ _ _ _ _ (by decide) (by decide) (by decide) (by decide) (by decide), by decide, m_arity, _, rfl, q, _, _, .str t, rfl, rfl, SqT.of (s14 _ _ eq1), at_of (j := 0) rfl rfl, f0, A, tabs, fs, t, rfl, fo4, fun a' ha' => ?_, fun z => absurd z (by rw [har]; exact fun z => nomatch z)⟩
        rw [har] at ha'
        cases ha'
        refine ⟨_, rfl, q, _, _, .int (a : Int), rfl, rfl, SqT.of (s14 _ _ eq1), at_of (j := 1) rfl rfl, rfl, _, rfl, ?_⟩
        rw [decide_eq_true rfl]
        exact iteF ⟨_, _, rfl, fun b o e => s14 _ _ (s1 _ _ e)⟩
    · rintro σ H1 ⟨v3, v4, rfl, s1⟩
      have rw1 := rw_.same s1
      have fo1 := fo.same s1
      have rll : (rl.map V.ref).length = fs.length := by rw [List.length_map, rw_.len]
      refine go_nx (go_sq ?_)
      refine ⟨_, rfl, .ref r, _, rfl, .inl ⟨_, SqL.of rw1.at_, rfl⟩, _, rfl, by rw [rll]; have := fo.le; omega, by rw [rll]; have := fo.le; omega, fun D hD => ?_⟩
      rw [rll, Int.toNat_natCast]
      refine lc_vals (lo := 0) (fun _ => .bl true) hD (by have := fo.le; omega) (fun _ => rfl) (fun i H2 Kt hi s2 h => ?_) (fun H2 s2 eD => ?_)
      · rw [Int.zero_add]
        obtain ⟨x, hx⟩ : ∃ x, fs[i]? = some x := ⟨_, List.getElem?_eq_getElem hi⟩
        obtain ⟨q', y, hq', eq', ky⟩ := (rw1.same s2).row i x hx
        have hqr : (rl.map V.ref)[i]? = some (.ref q') := by rw [List.getElem?_map, hq']; rfl
        have fo2 := fo1.same s2
        refine ⟨_, rfl, f0, ad.Facts, A.dx, A.fs_, 2, _, rfl, fo2.ins, fF_no _ _ _ _ _ (by decide) (by decide) (by decide) (by decide) (by decide), by decide, m_is_there, _, rfl, f0, A, tabs, fs, _, rfl, fo2, fun i' x' ei hx' => ?_, fun z => absurd (⟨by omega, by omega⟩) z⟩
        obtain rfl : i' = i := by omega
        rw [hx] at hx'
        cases hx'
        exact ⟨_, rfl, _, rfl, r, _, _, .ref q', rfl, rfl, SqL.of (s2 _ _ rw1.at_), at_of (j := i') rfl hqr, q', _, _, .bl x.2.2, rfl, rfl, SqL.of eq', at_of (j := 2) rfl rfl, _, _, rfl, .bl _, fun H4 s4 => h H4 s4⟩
      · refine ⟨D, (List.range fs.length).map fun _ => true, rfl, SqL.of (by rw [eD, List.map_map]; rfl), ?_⟩
        rw [List.all_map, show (List.range fs.length).all (id ∘ fun (_ : Nat) => true) = true from List.all_eq_true.mpr fun _ _ => rfl]
        refine ⟨_, rfl, iteF (go_nx ?_)⟩
        have fo2 := fo1.same s2
        have rw2 := rw1.same s2
        refine ⟨_, rfl, f0, ad.Facts, A.dx, A.fs_, 2, _, rfl, fo2.ins, fF_no _ _ _ _ _ (by decide) (by decide) (by decide) (by decide) (by decide), by decide, m_count, f0, A, tabs, fs, rfl, fo2, _, rfl, .ref r, _, rfl, .inl ⟨_, SqL.of rw2.at_, rfl⟩, rfl, ?_⟩
        rw [rll, decide_eq_true rfl]
        refine ⟨_, rfl, iteT ?_⟩
        refine ⟨_, rfl, f0, ad.Facts, A.dx, A.fs_, 2, _, rfl, fo2.ins, fF_no _ _ _ _ _ (by decide) (by decide) (by decide) (by decide) (by decide), by decide, m_tables, f0, A, tabs, fs, rfl, fo2, fun H3 p ys s3 hp e3 t3 => ?_⟩
        have s03 : Same H H3 := fun b o e => s3 _ _ (s2 _ _ (s1 _ _ e))
        have key : ∀ (H : Hp) (zs : Tabs) (xs : List V), TabsAt H (tabZ zs) xs → DpAll K H xs (zs.map fun z => .tuple [.str z.1, .int (z.2 : Int)]) := fun H zs => by
          induction zs with
          | nil =>
            intro xs h
            rw [List.length_eq_zero_iff.mp h.1]; exact .nil
          | cons z zs ih =>
            intro xs h
            obtain ⟨q, hq, eq⟩ := h.2 0 _ rfl
            cases xs with
            | nil => simp at hq
            | cons y ys =>
              cases hq
              exact .cons (.tup (SqT.of eq) (.cons (.str _) (.cons (.int _) .nil))) (ih ys ⟨by simpa [tabZ] using h.1, fun i z hz => h.2 (i + 1) z hz⟩)
        have lay : (PyData.list (tabs.map fun z => .tuple [.str z.1, .int (z.2 : Int)])).canLay0 = true := by
          exact lay_tabs tabs cl
        have sh : SeqAt.shaped (.list (tabs.map fun z => .tuple [.str z.1, .int (z.2 : Int)])) = true := by
          unfold SeqAt.shaped
          rw [lay, Bool.true_and]
          refine decide_eq_true ?_
          show PyData.depthAll _ + 1 ≤ 64
          have : ∀ zs : Tabs, PyData.depthAll (zs.map fun z => .tuple [.str z.1, .int (z.2 : Int)]) ≤ 1 := fun zs => by
            induction zs with
            | nil => exact Nat.zero_le _
            | cons z zs ih =>
              show max (max 0 (max 0 0) + 1) (PyData.depthAll _) ≤ 1
              omega
          have := this tabs
          omega
        refine ⟨_, rfl, _, _, .lst (SqL.of e3) (key H3 tabs ys t3), .lst (SqL.of (s03 _ _ htb)) (key H3 tabs xs (ta.frt (.of s03))), sh, sh, ?_⟩
        rw [show PyData.eqv (.list (tabs.map fun z => .tuple [.str z.1, .int (z.2 : Int)])) (.list (tabs.map fun z => .tuple [.str z.1, .int (z.2 : Int)])) = true from SeqAt.eqv_refl _ lay]
        exact kq H3 s03
end
end K01

set_option Elab.async false
set_option linter.all false
set_option maxRecDepth 100000
set_option maxHeartbeats 4000000
namespace K01
open PySem L2 Ew Tb GxR ND PK
local macro_rules | `(tactic| walk_at "len") => `(tactic| first | (intro h; obtain ⟨_, e, _⟩ := h; rw [e]; rfl) | (intro h; obtain ⟨_, _, e, _⟩ := h; rw [e]; rfl) | (intro h; obtain ⟨_, _, _, e, _⟩ := h; rw [e]; rfl) | (intro h; obtain ⟨_, _, _, _, e, _⟩ := h; rw [e]; rfl) | (intro h; obtain ⟨_, _, _, _, _, e, _⟩ := h; rw [e]; rfl) | (intro h; obtain ⟨_, _, _, _, _, _, e, _⟩ := h; rw [e]; rfl) | (intro h; obtain ⟨_, _, _, _, _, _, _, e, _⟩ := h; rw [e]; rfl) | (intro h; obtain ⟨_, _, _, _, _, _, _, _, e, _⟩ := h; rw [e]; rfl) | (intro h; obtain ⟨_, _, _, _, _, _, _, _, _, e, _⟩ := h; rw [e]; rfl) | (intro h; obtain ⟨_, _, _, _, _, _, _, _, _, _, e, _⟩ := h; rw [e]; rfl) | (intro h; obtain ⟨_, _, _, _, _, _, _, _, _, _, _, e, _⟩ := h; rw [e]; rfl) | (intro h; obtain ⟨_, _, _, _, _, _, _, _, _, _, _, _, e, _⟩ := h; rw [e]; rfl) | (intro h; obtain ⟨_, _, _, _, _, _, _, _, _, _, _, _, _, e, _⟩ := h; rw [e]; rfl))
local macro_rules | `(tactic| walk_at "len") => `(tactic| first | (intro h; obtain ⟨_, _, _, _, _, _, _, _, e, _⟩ := h; rw [e]; rfl) | (intro h; obtain ⟨_, _, _, _, _, _, _, _, _, e, _⟩ := h; rw [e]; rfl) | (intro h; obtain ⟨_, _, _, _, _, _, _, _, _, _, e, _⟩ := h; rw [e]; rfl) | (intro h; obtain ⟨_, _, _, _, _, _, _, _, _, _, _, e, _⟩ := h; rw [e]; rfl) | (intro h; obtain ⟨_, _, _, _, _, _, _, _, _, _, _, _, e, _⟩ := h; rw [e]; rfl) | (intro h; obtain ⟨_, _, _, _, _, _, _, _, _, _, _, _, _, e, _⟩ := h; rw [e]; rfl) | (intro h; obtain ⟨_, _, _, _, _, _, _, _, _, _, _, _, _, _, e, _⟩ := h; rw [e]; rfl) | (intro h; obtain ⟨_, _, _, _, _, _, _, _, _, _, _, _, _, _, _, e, _⟩ := h; rw [e]; rfl) | (intro h; obtain ⟨_, _, _, _, _, _, _, _, _, _, _, _, _, _, _, _, e, _⟩ := h; rw [e]; rfl) | (intro h; obtain ⟨_, _, _, _, _, _, _, _, _, _, _, _, _, _, _, _, _, e, _⟩ := h; rw [e]; rfl))
section
variable {P : Program} {w : World} {K : PySem.W.Frag} {mg : Str → Option Value} {base : Heap} {ad : Ad}
variable {H H' : Hp} {C f : Addr} {A A' : FA} {tabs : Tabs} {fs fs' : List Fac} {M M' : Addr → Prop} {r pot pb tb PP : Addr} {rl rl' : List Addr} {xs : List V}
/-- all but M is as it was, the tables too -/
structure FrM (M : Addr → Prop) (H H' : Hp) : Prop where
  keep : ∀ b o, ¬ M b → H b = some o → (∀ ps, o ≠ .tbl ps) → H' b = some o
  tabs : ∀ PP, TabG H PP → TabG H' PP
def Mo (M : Addr → Prop) (H : Hp) : Prop := ∀ b, M b → ∀ o, H b = some o → (∃ xs, o = .lst xs) ∨ ∃ φ, o = .ext φ
theorem FrM.not (mo : Mo M H) {b : Addr} {o : HO} (e : H b = some o) (h1 : ∀ xs, o ≠ .lst xs) (h2 : ∀ φ, o ≠ .ext φ) : ¬ M b := fun z => by
  rcases mo b z o e with ⟨xs, h⟩ | ⟨φ, h⟩
  · exact h1 _ h
  · exact h2 _ h
theorem FO.own_lst (x : FO P w H C f A tabs fs) (nt : (tabs.map Prod.fst).Nodup) {c : Addr} (hc : A.own c) : (∃ xs, H c = some (.lst xs)) ∨ ∃ φ, H c = some (.ext φ) := by
  rcases hc with rfl | rfl | rfl | h
  · obtain ⟨ts, h1, _⟩ := x.hpr; exact .inl ⟨_, h1⟩
  · exact .inl ⟨_, x.hst⟩
  · obtain ⟨φ, e⟩ := x.hnu.ext; exact .inr ⟨_, e⟩
  · obtain ⟨t, e⟩ := ls_back nt x.lz h
    exact .inl ⟨_, x.li t c e⟩
theorem FO.frm (x : FO P w H C f A tabs fs) (s : FrM M H H') (mo : Mo M H) (dis : ∀ b, A.own b → ¬ M b) : FO P w H' C f A tabs fs := by
  have tk : ∀ b ys, H b = some (.tup ys) → H' b = some (.tup ys) := fun b ys e => s.keep _ _ (FrM.not mo e (fun _ z => nomatch z) (fun _ z => nomatch z)) e (fun _ z => nomatch z)
  obtain ⟨ts, h1, h2⟩ := x.hpr
  obtain ⟨φ, eφ⟩ := x.hnu.ext
  exact ⟨s.keep _ _ (FrM.not mo x.ins (fun _ z => nomatch z) (fun _ z => nomatch z)) x.ins (fun _ z => nomatch z), s.keep _ _ (FrM.not mo x.har (fun _ z => nomatch z) (fun _ z => nomatch z)) x.har (fun _ z => nomatch z),
    ⟨ts, s.keep _ _ (dis _ (.inl rfl)) h1 (fun _ z => nomatch z), h2.keeps tk⟩, s.keep _ _ (dis _ (.inr (.inl rfl))) x.hst (fun _ z => nomatch z),
    x.hnu.keeps (fun u z => s.keep _ _ (dis _ (.inr (.inr (.inl rfl)))) z (fun ps q => by rw [q] at z; rw [z] at eφ; cases eφ)) tk, s.keep _ _ (FrM.not mo x.hit (fun _ z => nomatch z) (fun _ z => nomatch z)) x.hit (fun _ z => nomatch z),
    x.lz, fun t l h => s.keep _ _ (dis _ (.inr (.inr (.inr (ls_mem h))))) (x.li t l h) (fun _ z => nomatch z), x.nd, x.kd, x.dp, x.le, x.tl⟩
theorem RW.mem (x : RW H r fs rl) {q : Addr} (h : q ∈ rl) : ∃ xs, H q = some (.lst xs) := by
  obtain ⟨i, hi⟩ := List.getElem?_of_mem h
  have hif : i < fs.length := by rw [← x.len]; exact (List.getElem?_eq_some_iff.mp hi).1
  obtain ⟨q', y, e1, e2, _⟩ := x.row i _ (List.getElem?_eq_getElem hif)
  rw [hi] at e1
  cases e1
  exact ⟨_, e2⟩
theorem RW.frm (x : RW H r fs rl) (s : FrM M H H') (mo : Mo M H) (dis : ∀ b, (b = r ∨ b ∈ rl) → ¬ M b) : RW H' r fs rl := by
  have tk : ∀ b ys, H b = some (.tup ys) → H' b = some (.tup ys) := fun b ys e => s.keep _ _ (FrM.not mo e (fun _ z => nomatch z) (fun _ z => nomatch z)) e (fun _ z => nomatch z)
  refine ⟨s.keep _ _ (dis _ (.inl rfl)) x.at_ (fun _ z => nomatch z), x.len, fun i y hy => ?_, x.nd, x.ok⟩
  obtain ⟨q, v, e1, e2, e3⟩ := x.row i y hy
  exact ⟨q, v, e1, s.keep _ _ (dis _ (.inr (List.mem_of_getElem? e1))) e2 (fun _ z => nomatch z), e3.keeps tk⟩
theorem TabsAt.frm {zs : List (Str × Int)} (x : TabsAt H zs xs) (s : FrM M H H') (mo : Mo M H) : TabsAt H' zs xs :=
  ⟨x.1, fun i z h => let ⟨q, e1, e2⟩ := x.2 i z h; ⟨q, e1, s.keep _ _ (FrM.not mo e2 (fun _ z => nomatch z) (fun _ z => nomatch z)) e2 (fun _ z => nomatch z)⟩⟩
theorem PotB.frm (x : PotB H pot pb) (s : FrM M H H') (h1 : ¬ M pot) (h2 : ¬ M pb) : PotB H' pot pb := by
  obtain ⟨ns, i, c, sd, e1, e2, rest⟩ := x
  exact ⟨ns, i, c, sd, s.keep _ _ h1 e1 (fun _ z => nomatch z), s.keep _ _ h2 e2 (fun _ z => nomatch z), rest⟩
/-- what the law changes -/
def Mx (A : FA) (r : Addr) (rl : List Addr) (pot : Addr) (b : Addr) : Prop := A.own b ∨ b = r ∨ b ∈ rl ∨ b = pot
/-- the law's things -/
structure LI (P : Program) (w : World) (ad : Ad) (PP : Addr) (H : Hp) (pot pb tb f r : Addr) (A : FA) (tabs : Tabs) (xs : List V) (fs : List Fac) (rl : List Addr) : Prop where
  pot_ : PotB H pot pb
  fo : FO P w H ad.Facts f A tabs fs
  htb : H tb = some (.lst xs)
  ta : TabsAt H (tabZ tabs) xs
  rw_ : RW H r fs rl
  tg : TabG H PP
  fl : ∀ x ∈ fs, flatK x.2.1
  ar : ∀ x ∈ fs, arOf tabs x.1 = some x.2.1.length
  off : ∀ b, (b = r ∨ b ∈ rl ∨ b = pot ∨ b = tb ∨ b = pb) → ¬ A.own b
  sep : ∀ b, (b = pot ∨ b = tb ∨ b = pb) → b ≠ r ∧ b ∉ rl
  sp2 : pot ≠ tb
  nt : (tabs.map Prod.fst).Nodup
theorem LI.mo (x : LI P w ad PP H pot pb tb f r A tabs xs fs rl) : Mo (Mx A r rl pot) H := fun b hb o e => by
  have key : (∃ xs, H b = some (.lst xs)) ∨ ∃ φ, H b = some (.ext φ) := by
    rcases hb with h | rfl | h | rfl
    · exact x.fo.own_lst x.nt h
    · exact .inl ⟨_, x.rw_.at_⟩
    · exact .inl (x.rw_.mem h)
    · obtain ⟨ns, i, c, sd, e1, _⟩ := x.pot_; exact .inl ⟨_, e1⟩
  rcases key with ⟨ys, h⟩ | ⟨φ, h⟩
  · rw [h] at e; exact .inl ⟨ys, (Option.some.inj e).symm⟩
  · rw [h] at e; exact .inr ⟨φ, (Option.some.inj e).symm⟩
theorem LI.fr1 (x : LI P w ad PP H pot pb tb f r A tabs xs fs rl) (s : Fr1 pot H H') (p : PotB H' pot pb) : LI P w ad PP H' pot pb tb f r A tabs xs fs rl := by
  have xp : ∃ xs, H pot = some (.lst xs) := let ⟨ns, i, c, sd, e1, _⟩ := x.pot_; ⟨_, e1⟩
  obtain ⟨xp, hxp⟩ := xp
  have sm : FrM (· = pot) H H' := ⟨fun b o n e _ => s b o n e, fun PP t => by
    obtain ⟨ps, e, t⟩ := t
    exact ⟨ps, s _ _ (ne_of e hxp (fun z => nomatch z)) e, t⟩⟩
  have mo : Mo (· = pot) H := fun b hb o e => by
    have hb' : b = pot := hb
    rw [hb', hxp] at e; exact .inl ⟨_, (Option.some.inj e).symm⟩
  exact ⟨p, x.fo.frm sm mo (fun b h z => x.off b (.inr (.inr (.inl z))) h), s _ _ (Ne.symm x.sp2) x.htb, x.ta.frm sm mo, x.rw_.frm sm mo (fun b h z => h.elim (fun e => (x.sep b (.inl z)).1 e) (fun e => (x.sep b (.inl z)).2 e)), sm.tabs _ x.tg, x.fl, x.ar, x.off, x.sep, x.sp2, x.nt⟩
theorem LI.same (x : LI P w ad PP H pot pb tb f r A tabs xs fs rl) (s : Same H H') : LI P w ad PP H' pot pb tb f r A tabs xs fs rl := x.fr1 (Fr1.of s) (x.pot_.same s)
theorem doR_mem {kind : Int} {t : Str} {ks : List NestedKey} {n : Int} {x : Fac} (h : x ∈ (doR tabs fs kind t ks n).2) : (∃ y ∈ fs, x.1 = y.1 ∧ x.2.1 = y.2.1) ∨ (x.1 = t ∧ x.2.1 = ks ∧ addE tabs fs t ks = none) := by
  have old : x ∈ fs → (∃ y ∈ fs, x.1 = y.1 ∧ x.2.1 = y.2.1) := fun h => ⟨x, h, rfl, rfl⟩
  have setm : ∀ (i : Nat) (b : Bool), x ∈ setB fs i b → (∃ y ∈ fs, x.1 = y.1 ∧ x.2.1 = y.2.1) := fun i b h => by
    obtain ⟨j, hj⟩ := List.getElem?_of_mem h
    rw [setB_get] at hj
    by_cases c : j = i
    · rw [if_pos c] at hj
      obtain ⟨y, e1, e2⟩ := Option.map_eq_some_iff.mp hj
      rw [← e2]
      exact ⟨y, List.mem_of_getElem? e1, rfl, rfl⟩
    · rw [if_neg c] at hj
      exact old (List.mem_of_getElem? hj)
  unfold doR at h
  split at h
  · split at h
    · exact .inl (old h)
    · rename_i _ _ ha
      rcases List.mem_append.mp h with h | h
      · exact .inl (old h)
      · rw [List.mem_singleton.mp h]; exact .inr ⟨rfl, rfl, ha⟩
  · split at h
    · split at h
      · exact .inl (old h)
      · split at h
        · exact .inl (old h)
        · exact .inl (setm _ _ h)
    · split at h
      · split at h
        · exact .inl (old h)
        · exact .inl (old h)
      · split at h
        · exact .inl (old h)
        · split at h
          · exact .inl (old h)
          · exact .inl (old h)
theorem doR_len {kind : Int} {t : Str} {ks : List NestedKey} {n : Int} : (doR tabs fs kind t ks n).2.length ≤ fs.length + 1 := by
  unfold doR
  repeat' split
  all_goals first | exact Nat.le_succ _ | (show (fs ++ _).length ≤ _; rw [List.length_append]; exact Nat.le_refl _) | (show (setB fs _ _).length ≤ _; rw [setB_len]; exact Nat.le_succ _)
theorem addE_len {t : Str} {ks : List NestedKey} (h : addE tabs fs t ks = none) : arOf tabs t = some ks.length := by
  unfold addE at h
  cases ha : arOf tabs t with
  | none => rw [ha] at h; cases h
  | some a =>
    rw [ha] at h
    by_cases c : ks.length = a
    · rw [c]
    · exfalso
      have h' : (if ks.length ≠ a then some Err.arg else if .tup [.text t, .tup ks] ∈ keysF fs then some Err.dup else none) = none := h
      rw [if_pos c] at h'
      cases h'
theorem doR_pair {kind : Int} {t t' : Str} {ks ks' : List NestedKey} {n : Int} (h : (doR tabs fs kind t ks n).1 = .pair t' ks') : ∃ x ∈ fs, ks' = x.2.1 := by
  unfold doR at h
  repeat' split at h
  all_goals first | (cases h; done) | skip
  all_goals
    rename_i x hx
    cases h
    unfold fsAt at hx
    split at hx
    · exact ⟨x, List.mem_of_getElem? hx, rfl⟩
    · cases hx
end
end K01

set_option Elab.async false
set_option linter.all false
set_option maxRecDepth 100000
set_option maxHeartbeats 4000000
namespace K01
open PySem L2 Ew Tb GxR ND PK
local macro_rules | `(tactic| walk_at "len") => `(tactic| first | (intro h; obtain ⟨_, e, _⟩ := h; rw [e]; rfl) | (intro h; obtain ⟨_, _, e, _⟩ := h; rw [e]; rfl) | (intro h; obtain ⟨_, _, _, e, _⟩ := h; rw [e]; rfl) | (intro h; obtain ⟨_, _, _, _, e, _⟩ := h; rw [e]; rfl) | (intro h; obtain ⟨_, _, _, _, _, e, _⟩ := h; rw [e]; rfl) | (intro h; obtain ⟨_, _, _, _, _, _, e, _⟩ := h; rw [e]; rfl) | (intro h; obtain ⟨_, _, _, _, _, _, _, e, _⟩ := h; rw [e]; rfl) | (intro h; obtain ⟨_, _, _, _, _, _, _, _, e, _⟩ := h; rw [e]; rfl) | (intro h; obtain ⟨_, _, _, _, _, _, _, _, _, e, _⟩ := h; rw [e]; rfl) | (intro h; obtain ⟨_, _, _, _, _, _, _, _, _, _, e, _⟩ := h; rw [e]; rfl) | (intro h; obtain ⟨_, _, _, _, _, _, _, _, _, _, _, e, _⟩ := h; rw [e]; rfl) | (intro h; obtain ⟨_, _, _, _, _, _, _, _, _, _, _, _, e, _⟩ := h; rw [e]; rfl) | (intro h; obtain ⟨_, _, _, _, _, _, _, _, _, _, _, _, _, e, _⟩ := h; rw [e]; rfl))
local macro_rules | `(tactic| walk_at "len") => `(tactic| first | (intro h; obtain ⟨_, _, _, _, _, _, _, _, e, _⟩ := h; rw [e]; rfl) | (intro h; obtain ⟨_, _, _, _, _, _, _, _, _, e, _⟩ := h; rw [e]; rfl) | (intro h; obtain ⟨_, _, _, _, _, _, _, _, _, _, e, _⟩ := h; rw [e]; rfl) | (intro h; obtain ⟨_, _, _, _, _, _, _, _, _, _, _, e, _⟩ := h; rw [e]; rfl) | (intro h; obtain ⟨_, _, _, _, _, _, _, _, _, _, _, _, e, _⟩ := h; rw [e]; rfl) | (intro h; obtain ⟨_, _, _, _, _, _, _, _, _, _, _, _, _, e, _⟩ := h; rw [e]; rfl) | (intro h; obtain ⟨_, _, _, _, _, _, _, _, _, _, _, _, _, _, e, _⟩ := h; rw [e]; rfl) | (intro h; obtain ⟨_, _, _, _, _, _, _, _, _, _, _, _, _, _, _, e, _⟩ := h; rw [e]; rfl) | (intro h; obtain ⟨_, _, _, _, _, _, _, _, _, _, _, _, _, _, _, _, e, _⟩ := h; rw [e]; rfl) | (intro h; obtain ⟨_, _, _, _, _, _, _, _, _, _, _, _, _, _, _, _, _, e, _⟩ := h; rw [e]; rfl))
section
variable {P : Program} {w : World} {K : PySem.W.Frag} {mg : Str → Option Value} {base : Heap} {ad : Ad}
variable {H H' : Hp} {C f : Addr} {A A' : FA} {tabs : Tabs} {fs fs' : List Fac} {M M' : Addr → Prop} {r pot pb tb PP : Addr} {rl rl' : List Addr} {xs : List V}
theorem FrM.ofT (s : FrT H H') : FrM M H H' := ⟨fun b o _ e n => s.keep b o e n, s.tabs⟩
theorem FrM.ofS (s : Same H H') : FrM M H H' := .ofT (.of s)
theorem FrM.tr {H1 : Hp} (a : FrM M H H1) (b : FrM M H1 H') : FrM M H H' := ⟨fun c o n e z => b.keep c o n (a.keep c o n e z) z, fun PP t => b.tabs PP (a.tabs PP t)⟩
theorem FrM.of1 (h : M pot) (s : Fr1 pot H H') (xp : ∃ xs, H pot = some (.lst xs)) : FrM M H H' := by
  obtain ⟨xp, hxp⟩ := xp
  exact ⟨fun b o n e _ => s b o (fun z => n (z ▸ h)) e, fun PP t => by
    obtain ⟨ps, e, t⟩ := t
    exact ⟨ps, s _ _ (ne_of e hxp (fun z => nomatch z)) e, t⟩⟩
theorem LI.potL (x : LI P w ad PP H pot pb tb f r A tabs xs fs rl) : ∃ xs, H pot = some (.lst xs) := let ⟨ns, i, c, sd, e1, _⟩ := x.pot_; ⟨_, e1⟩
/-- the store's own step, then the rows' -/
theorem LI.turn {H1 H2 : Hp} {t : Str} {ks : List NestedKey} {kind n : Int} (x : LI P w ad PP H pot pb tb f r A tabs xs fs rl) (s1 : FrF A H H1) (fo1 : FO P w H1 ad.Facts f A tabs (doR tabs fs kind t ks n).2)
    (s2 : ∀ b o, b ≠ r → b ∉ rl → H1 b = some o → H2 b = some o) (rw2 : RW H2 r (doR tabs fs kind t ks n).2 rl') (nw : ∀ q ∈ rl', q ∈ rl ∨ H1 q = none) (fk : flatK ks) :
    LI P w ad PP H2 pot pb tb f r A tabs xs (doR tabs fs kind t ks n).2 rl' ∧ FrM (Mx A r rl pot) H H2 ∧ ∀ b, Mx A r rl' pot b → Mx A r rl pot b ∨ H b = none := by
  have own1 : ∀ b, A.own b → H1 b = none → H b = none := fun b hb e => by
    rcases fo1.own_lst x.nt hb with ⟨ys, z⟩ | ⟨φ, z⟩ <;> rw [z] at e <;> cases e
  have old1 : ∀ q, H1 q = none → H q = none := fun q e => by
    by_cases c : A.own q
    · exact own1 q c e
    · cases z : H q with
      | none => rfl
      | some u => rw [s1 q u c z] at e; cases e
  have sm : FrM (Mx A r rl pot) H H2 := by
    refine ⟨fun b o n e _ => s2 b o (fun z => n (.inr (.inl z))) (fun z => n (.inr (.inr (.inl z)))) (s1 b o (fun z => n (.inl z)) e), fun PP t => ?_⟩
    obtain ⟨ps, e, t⟩ := t
    have nm : ¬ Mx A r rl pot PP := FrM.not x.mo e (fun _ z => nomatch z) (fun _ z => nomatch z)
    exact ⟨ps, s2 _ _ (fun z => nm (.inr (.inl z))) (fun z => nm (.inr (.inr (.inl z)))) (s1 _ _ (fun z => nm (.inl z)) e), t⟩
  have keep2 : ∀ b o, (b = pot ∨ b = tb ∨ b = pb) → H b = some o → H2 b = some o := fun b o hb e => by
    obtain ⟨n1, n2⟩ := x.sep b hb
    exact s2 _ _ n1 n2 (s1 _ _ (x.off b (.inr (.inr hb))) e)
  have rM : FrM (fun b => b = r ∨ b ∈ rl) H1 H2 := by
    have ra : ∀ b, (b = r ∨ b ∈ rl) → ∃ xs, H1 b = some (.lst xs) := fun b hb => by
      rcases hb with rfl | h
      · exact ⟨_, s1 _ _ (x.off _ (.inl rfl)) x.rw_.at_⟩
      · obtain ⟨ys, e⟩ := x.rw_.mem h
        exact ⟨ys, s1 _ _ (x.off _ (.inr (.inl h))) e⟩
    refine ⟨fun b o n e _ => s2 b o (fun z => n (.inl z)) (fun z => n (.inr z)) e, fun PP t => ?_⟩
    obtain ⟨ps, e, t⟩ := t
    refine ⟨ps, s2 _ _ (fun z => ?_) (fun z => ?_) e, t⟩
    · obtain ⟨ys, q⟩ := ra PP (.inl z); rw [e] at q; cases q
    · obtain ⟨ys, q⟩ := ra PP (.inr z); rw [e] at q; cases q
  have mo1 : Mo (fun b => b = r ∨ b ∈ rl) H1 := fun b hb o e => by
    rcases hb with rfl | h
    · rw [s1 _ _ (x.off _ (.inl rfl)) x.rw_.at_] at e; exact .inl ⟨_, (Option.some.inj e).symm⟩
    · obtain ⟨ys, e'⟩ := x.rw_.mem h
      rw [s1 _ _ (x.off _ (.inr (.inl h))) e'] at e; exact .inl ⟨_, (Option.some.inj e).symm⟩
  refine ⟨⟨?_, fo1.frm rM mo1 (fun b hb z => x.off b (z.elim .inl (fun z => .inr (.inl z))) hb), keep2 _ _ (.inr (.inl rfl)) x.htb, x.ta.frm sm x.mo, rw2, sm.tabs _ x.tg, fun y hy => ?_, fun y hy => ?_, fun b hb => ?_, fun b hb => ?_, x.sp2, x.nt⟩, sm, fun b hb => ?_⟩
  · obtain ⟨ns, i, c, sd, e1, e2, rest⟩ := x.pot_
    exact ⟨ns, i, c, sd, keep2 _ _ (.inl rfl) e1, keep2 _ _ (.inr (.inr rfl)) e2, rest⟩
  · rcases doR_mem hy with ⟨z, hz, _, e⟩ | ⟨_, e, _⟩
    · rw [e]; exact x.fl z hz
    · rw [e]; exact fk
  · rcases doR_mem hy with ⟨z, hz, e1, e⟩ | ⟨e1, e, ha⟩
    · rw [e, e1]; exact x.ar z hz
    · rw [e, e1]; exact addE_len ha
  · rcases hb with h | h | h
    · exact x.off b (.inl h)
    · rcases nw b h with h | h
      · exact x.off b (.inr (.inl h))
      · exact fun z => by rcases fo1.own_lst x.nt z with ⟨ys, q⟩ | ⟨φ, q⟩ <;> rw [q] at h <;> cases h
    · exact x.off b (.inr (.inr h))
  · obtain ⟨n1, n2⟩ := x.sep b hb
    refine ⟨n1, fun z => ?_⟩
    rcases nw b z with h | h
    · exact n2 h
    · have h0 := old1 b h
      rcases hb with rfl | rfl | rfl
      · obtain ⟨ys, e⟩ := x.potL; rw [e] at h0; cases h0
      · rw [x.htb] at h0; cases h0
      · obtain ⟨ns, i, c, sd, e1, e2, rest⟩ := x.pot_; rw [e2] at h0; cases h0
  · rcases hb with h | h | h | h
    · exact .inl (.inl h)
    · exact .inl (.inr (.inl h))
    · rcases nw b h with h | h
      · exact .inl (.inr (.inr (.inl h)))
      · exact .inr (old1 b h)
    · exact .inl (.inr (.inr (.inr h)))
/-- what was kept -/
def KO (P : Program) (w : World) (ad : Ad) (H : Hp) (kp : Addr) (tabs : Tabs) (M : Addr → Prop) : Prop := ¬ M kp ∧ (H kp = some (.lst []) ∨ ∃ q f0 r0 A0 fs0 rl0, H kp = some (.lst [V.ref q]) ∧ H q = some (.tup [.ref f0, .ref r0]) ∧ FO P w H ad.Facts f0 A0 tabs fs0 ∧ RW H r0 fs0 rl0 ∧ (∀ x ∈ fs0, flatK x.2.1) ∧ ∀ b, (A0.own b ∨ b = r0 ∨ b ∈ rl0) → ¬ M b)
theorem KO.step {kp : Addr} (x : KO P w ad H kp tabs M) (nt : (tabs.map Prod.fst).Nodup) (s : FrM M H H') (mo : Mo M H) (m' : ∀ b, M' b → M b ∨ H b = none) : KO P w ad H' kp tabs M' := by
  obtain ⟨n, h⟩ := x
  have lift : ∀ b o, ¬ M b → H b = some o → ¬ M' b := fun b o n e z => by
    rcases m' b z with h | h
    · exact n h
    · rw [h] at e; cases e
  rcases h with e | ⟨q, f0, r0, A0, fs0, rl0, e1, e2, e3, e4, e5, e6⟩
  · exact ⟨lift _ _ n e, .inl (s.keep _ _ n e (fun _ z => nomatch z))⟩
  · refine ⟨lift _ _ n e1, .inr ⟨q, f0, r0, A0, fs0, rl0, s.keep _ _ n e1 (fun _ z => nomatch z), s.keep _ _ (FrM.not mo e2 (fun _ z => nomatch z) (fun _ z => nomatch z)) e2 (fun _ z => nomatch z), e3.frm s mo (fun b h => e6 b (.inl h)), e4.frm s mo (fun b h => e6 b (.inr h)), e5, fun b hb => ?_⟩⟩
    have : ∃ o, H b = some o := by
      rcases hb with h | rfl | h
      · rcases e3.own_lst nt h with ⟨_, z⟩ | ⟨_, z⟩ <;> exact ⟨_, z⟩
      · exact ⟨_, e4.at_⟩
      · obtain ⟨ys, z⟩ := e4.mem h; exact ⟨_, z⟩
    obtain ⟨o, e⟩ := this
    exact lift b o (e6 b hb) e
theorem LI.copy {f' : Addr} (x : LI P w ad PP H pot pb tb f r A tabs xs fs rl) (s : FrT H H') (nw : A'.new H) (fo' : FO P w H' ad.Facts f' A' tabs fs) : LI P w ad PP H' pot pb tb f' r A' tabs xs fs rl := by
  have sm : FrM (fun _ => False) H H' := .ofT s
  have mo : Mo (fun _ => False) H := fun b hb => hb.elim
  refine ⟨x.pot_.frm sm id id, fo', s.lst x.htb, x.ta.frm sm mo, x.rw_.frm sm mo (fun _ _ => id), s.tabs _ x.tg, x.fl, x.ar, fun b hb z => ?_, x.sep, x.sp2, x.nt⟩
  have : ∃ ys, H b = some (.lst ys) := by
    rcases hb with rfl | h | rfl | rfl | rfl
    · exact ⟨_, x.rw_.at_⟩
    · exact x.rw_.mem h
    · exact x.potL
    · exact ⟨_, x.htb⟩
    · obtain ⟨ns, i, c, sd, e1, e2, rest⟩ := x.pot_; exact ⟨_, e2⟩
  obtain ⟨ys, e⟩ := this
  obtain ⟨ps, q⟩ := nw b z _ e
  cases q
end
end K01

set_option Elab.async false
set_option linter.all false
set_option maxRecDepth 100000
set_option maxHeartbeats 4000000
namespace K01
open PySem L2 Ew Tb GxR ND PK
local macro_rules | `(tactic| walk_at "len") => `(tactic| first | (intro h; obtain ⟨_, e, _⟩ := h; rw [e]; rfl) | (intro h; obtain ⟨_, _, e, _⟩ := h; rw [e]; rfl) | (intro h; obtain ⟨_, _, _, e, _⟩ := h; rw [e]; rfl) | (intro h; obtain ⟨_, _, _, _, e, _⟩ := h; rw [e]; rfl) | (intro h; obtain ⟨_, _, _, _, _, e, _⟩ := h; rw [e]; rfl) | (intro h; obtain ⟨_, _, _, _, _, _, e, _⟩ := h; rw [e]; rfl) | (intro h; obtain ⟨_, _, _, _, _, _, _, e, _⟩ := h; rw [e]; rfl) | (intro h; obtain ⟨_, _, _, _, _, _, _, _, e, _⟩ := h; rw [e]; rfl) | (intro h; obtain ⟨_, _, _, _, _, _, _, _, _, e, _⟩ := h; rw [e]; rfl) | (intro h; obtain ⟨_, _, _, _, _, _, _, _, _, _, e, _⟩ := h; rw [e]; rfl) | (intro h; obtain ⟨_, _, _, _, _, _, _, _, _, _, _, e, _⟩ := h; rw [e]; rfl) | (intro h; obtain ⟨_, _, _, _, _, _, _, _, _, _, _, _, e, _⟩ := h; rw [e]; rfl) | (intro h; obtain ⟨_, _, _, _, _, _, _, _, _, _, _, _, _, e, _⟩ := h; rw [e]; rfl))
local macro_rules | `(tactic| walk_at "len") => `(tactic| first | (intro h; obtain ⟨_, _, _, _, _, _, _, _, e, _⟩ := h; rw [e]; rfl) | (intro h; obtain ⟨_, _, _, _, _, _, _, _, _, e, _⟩ := h; rw [e]; rfl) | (intro h; obtain ⟨_, _, _, _, _, _, _, _, _, _, e, _⟩ := h; rw [e]; rfl) | (intro h; obtain ⟨_, _, _, _, _, _, _, _, _, _, _, e, _⟩ := h; rw [e]; rfl) | (intro h; obtain ⟨_, _, _, _, _, _, _, _, _, _, _, _, e, _⟩ := h; rw [e]; rfl) | (intro h; obtain ⟨_, _, _, _, _, _, _, _, _, _, _, _, _, e, _⟩ := h; rw [e]; rfl) | (intro h; obtain ⟨_, _, _, _, _, _, _, _, _, _, _, _, _, _, e, _⟩ := h; rw [e]; rfl) | (intro h; obtain ⟨_, _, _, _, _, _, _, _, _, _, _, _, _, _, _, e, _⟩ := h; rw [e]; rfl) | (intro h; obtain ⟨_, _, _, _, _, _, _, _, _, _, _, _, _, _, _, _, e, _⟩ := h; rw [e]; rfl) | (intro h; obtain ⟨_, _, _, _, _, _, _, _, _, _, _, _, _, _, _, _, _, e, _⟩ := h; rw [e]; rfl))
section
variable {P : Program} {w : World} {K : PySem.W.Frag} {mg : Str → Option Value} {base : Heap} {ad : Ad}
def tabsOf (a b c : Nat) : Tabs := ([("e", 1 + a), ("long", 1 + b), ("p", 1)] : Tabs).take (1 + c)
theorem cut_pre {xs : List V} {a : Nat} : cutV xs none (some (a : Int)) = xs.take a := by
  unfold cutV
  rw [HT.sIx_none, HT.sIx_nat, List.drop_zero, Nat.sub_zero]
  by_cases h : a ≤ xs.length
  · rw [Nat.min_eq_left h]
  · rw [Nat.min_eq_right (by omega), List.take_length, List.take_of_length_le (by omega)]
theorem TabsAt.take {H : Hp} {zs : List (Str × Int)} {xs : List V} (h : TabsAt H zs xs) (n : Nat) : TabsAt H (zs.take n) (xs.take n) := by
  refine ⟨by rw [List.length_take, List.length_take, h.1], fun i z hz => ?_⟩
  rw [List.getElem?_take] at hz
  by_cases c : i < n
  · rw [if_pos c] at hz
    obtain ⟨q, e1, e2⟩ := h.2 i z hz
    exact ⟨q, by rw [List.getElem?_take, if_pos c]; exact e1, e2⟩
  · rw [if_neg c] at hz; cases hz
theorem tabsOf_nt (a b c : Nat) : ((tabsOf a b c).map Prod.fst).Nodup := by
  unfold tabsOf
  rw [List.map_take]
  exact List.Nodup.sublist (List.take_sublist ..) (by decide : (["e", "long", "p"] : List Str).Nodup)
theorem tabsOf_mem {a b c : Nat} (ha : a < 4) (hb : b < 2) {x : Str × Nat} (h : x ∈ tabsOf a b c) : (x.1 = "e" ∨ x.1 = "long" ∨ x.1 = "p") ∧ 1 ≤ x.2 ∧ x.2 ≤ 4 := by
  have := List.mem_of_mem_take h
  simp only [List.mem_cons, List.mem_nil_iff, or_false] at this
  rcases this with rfl | rfl | rfl
  · exact ⟨.inl rfl, by show 1 ≤ 1 + a; omega, by show 1 + a ≤ 4; omega⟩
  · exact ⟨.inr (.inl rfl), by show 1 ≤ 1 + b; omega, by show 1 + b ≤ 4; omega⟩
  · exact ⟨.inr (.inr rfl), by decide, by decide⟩
theorem tabsOf_len (a b c : Nat) : (tabsOf a b c).length ≤ 10 := by
  unfold tabsOf
  rw [List.length_take]
  have : ([("e", 1 + a), ("long", 1 + b), ("p", 1)] : Tabs).length = 3 := rfl
  omega
theorem tabsOf_good {a b c : Nat} (ha : a < 4) (hb : b < 2) : goodZ (tabZ (tabsOf a b c)) := by
  intro i z hz
  rw [tabZ_names]
  unfold tabZ at hz
  rw [List.getElem?_map] at hz
  obtain ⟨x, hx, rfl⟩ := Option.map_eq_some_iff.mp hz
  have hm := tabsOf_mem ha hb (List.mem_of_getElem? hx)
  refine ⟨?_, fun h => ?_⟩
  · unfold okZ
    rw [Bool.and_eq_true]
    refine ⟨?_, decide_eq_true (by show 1 ≤ (x.2 : Int) ∧ (x.2 : Int) ≤ 4; omega)⟩
    rcases hm.1 with e | e | e <;> (show nameOk x.1 = true; rw [e]; decide +kernel)
  · have nd := tabsOf_nt a b c
    rw [← List.take_append_drop i (tabsOf a b c), List.map_append] at nd
    have hi := (List.getElem?_eq_some_iff.mp hx).1
    refine (List.nodup_append.mp nd).2.2 _ h x.1 (List.mem_map_of_mem ?_) rfl
    rw [List.drop_eq_getElem_cons hi, (List.getElem?_eq_some_iff.mp hx).2]
    exact List.mem_cons_self ..
theorem tabsOf_cl {a b c : Nat} (ha : a < 4) (hb : b < 2) : ∀ x ∈ tabsOf a b c, (PyData.str x.1).canLay0 = true := fun x h => by
  rcases (tabsOf_mem ha hb h).1 with e | e | e <;> (rw [e]; decide +kernel)
theorem tabsOf_zx {a b c : Nat} (ha : a < 4) (hb : b < 2) : ∀ z : Str × Int, z ∈ tabZ (tabsOf a b c) → z.1.length ≤ 1000 := fun z h => by
  unfold tabZ at h
  obtain ⟨x, hx, rfl⟩ := List.mem_map.mp h
  rcases (tabsOf_mem ha hb hx).1 with e | e | e <;> (show x.1.length ≤ 1000; rw [e]; decide +kernel)
theorem tabs_le {tabs : Tabs} (h : ∀ x ∈ tabs, x.2 ≤ 4) (t : Str) : (arOf tabs t).getD 1 ≤ 4 := by
  induction tabs with
  | nil => exact (by decide : 1 ≤ 4)
  | cons x r ih =>
    obtain ⟨n, a⟩ := x
    rw [arOf]
    by_cases c : n = t
    · rw [if_pos c]; exact h (n, a) (List.mem_cons_self ..)
    · rw [if_neg c]; exact ih fun x hx => h x (List.mem_cons_of_mem _ hx)
theorem RV.tup {H H' : Hp} {x : Res} {v : V} (h : RV H x v) (tk : ∀ b ys, H b = some (.tup ys) → H' b = some (.tup ys)) : RV H' x v := by
  cases x with
  | pair t ks => exact ND.Ky.keeps tk h
  | _ => exact h
theorem Dd.up {H : Hp} : ∀ {n : Nat} {x y : V}, Dd H n x y → Dd H (n + 1) x y := by
  intro n x y h
  induction h with
  | non => exact .non
  | bl b => exact .bl b
  | int i => exact .int i
  | str z => exact .str z
  | lst e1 e2 l l2 _ ih => exact .lst e1 e2 l l2 ih
  | tup e1 e2 l l2 _ ih => exact .tup e1 e2 l l2 ih
def spLaw (K : PySem.W.Frag) (PP : Addr) : Sp := fun vs H Q _ => ∃ (a : Addr) (ns : List Int), vs = [.ref a] ∧ SqL K H a (ns.map V.int) ∧ ns.length ≤ 63 ∧ TabG H PP ∧ ∀ H', Q (.bl true) H'
theorem toN {i : Int} (h : 0 ≤ i) : ∃ n : Nat, i = (n : Int) := ⟨i.toNat, by omega⟩
theorem kcall_list_of {X : Cx} {K : PySem.W.Frag} (hK : X.K = K := by rfl) : CallR X (.type "list") (fun xs H Q => ∃ p ys, xs = [V.ref p] ∧ (SqL K H p ys ∨ SqT K H p ys) ∧ ∀ l, H l = none → Q (V.ref l) (upd H l (.lst ys))) := hK ▸ call_list_of
theorem ok_law (c_law_pot : CalX P w K mg base 1 "_law_pot" (spPot K)) (c_law_next : CalX P w K mg base 1 "_law_next" spNext) (mk_Facts : MakX P w K mg base 4 "Facts" ad.Facts (spFInit P w ad PP)) (c_law_do : CalX P w K mg base 7 "_law_do" (spDo P w ad PP)) (c_law_due : CalX P w K mg base 2 "_law_due" (spDue P w)) (c_law_same : CalX P w K mg base 9 "_law_same" (spSame 4)) (c_law_right : CalX P w K mg base 12 "_law_right" (spRight P w ad)) (m_copy : MetX P w K mg base 6 ad.Facts "copy" (spCopy P w ad PP)) {f : Addr} {fd : FuncData} (F : Fun K "law" "law" s_law f fd) (T : Txt K mg ad) : FnOk P w K mg base (L2.CX P w) 101 f fd ["script"] (spLaw K PP) := by
  refine F.okX sc_law (fun vs H Q E => ?_) (fun cdv A outer s H vs Q E hr h => ?_)
  · walk_at "len"
  ·
    obtain ⟨a, ns, rfl, hS, hl, tg, k⟩ := h
    refine ⟨_, (pss_cons (ps_set (i := 1) sc_law.nd rfl (by first | exact Or.inl rfl | exact Or.inr rfl) (pc_call c_law_pot hr (by first | decide | omega) (takes_of rfl rfl rfl rfl) (by rfl) (pa_cons (pv 0) pa_nil)))
      (pss_cons (ps_set (i := 2) sc_law.nd rfl (by first | exact Or.inl rfl | exact Or.inr rfl) (pe_slice sl_list (pe_lst (pa_cons (pe_tup (pa_cons pe_str (pa_cons (pe_op op_add pe_int (pc_call c_law_next hr (by first | decide | omega) (takes_of rfl rfl rfl rfl) (by rfl) (pa_cons (pv 1) (pa_cons pe_int pa_nil)))) pa_nil))) (pa_cons (pe_tup (pa_cons pe_str (pa_cons (pe_op op_add pe_int (pc_call c_law_next hr (by first | decide | omega) (takes_of rfl rfl rfl rfl) (by rfl) (pa_cons (pv 1) (pa_cons pe_int pa_nil)))) pa_nil))) (pa_cons (pe_tup (pa_cons pe_str (pa_cons pe_int pa_nil))) pa_nil)))) po_none (po_some (pe_op op_add pe_int (pc_call c_law_next hr (by first | decide | omega) (takes_of rfl rfl rfl rfl) (by rfl) (pa_cons (pv 1) (pa_cons pe_int pa_nil)))))))
      (pss_cons (ps_set (i := 3) sc_law.nd rfl (by first | exact Or.inl rfl | exact Or.inr rfl) (pd_make hr (takes_of rfl rfl rfl rfl) (by rfl) (pa_cons (pe_callTy call_list_of (by rfl) T.z_list (by decide +kernel) (pa_cons (pv 2) pa_nil)) pa_nil)))
      (pss_cons (ps_set (i := 4) sc_law.nd rfl (by first | exact Or.inl rfl | exact Or.inr rfl) (pe_lst pa_nil))
      (pss_cons (ps_set (i := 5) sc_law.nd rfl (by first | exact Or.inl rfl | exact Or.inr rfl) (pe_lst pa_nil))
      (pss_cons (ps_for (passes_of rfl) rfl (pi_range1 (by rfl) T.z_range (pa_cons (pe_op op_add pe_int (pe_callB (call_min2 rfl) (by rfl) T.z_min (by decide +kernel) (pa_cons (pe_callB call_len (by rfl) T.z_len (by decide +kernel) (pa_cons (pv 0) pa_nil)) (pa_cons pe_int pa_nil)))) pa_nil)) (pg_name (i := 6) sc_law.nd rfl (by first | exact Or.inl rfl | exact Or.inr rfl)) (pss_cons (ps_set (i := 7) sc_law.nd rfl (by first | exact Or.inl rfl | exact Or.inr rfl) (pc_call c_law_next hr (by first | decide | omega) (takes_of rfl rfl rfl rfl) (by rfl) (pa_cons (pv 1) (pa_cons pe_int pa_nil))))
      (pss_cons (ps_set (i := 8) sc_law.nd rfl (by first | exact Or.inl rfl | exact Or.inr rfl) (pe_ix ix_list (pe_lst (pa_cons pe_str (pa_cons pe_str (pa_cons pe_str (pa_cons pe_str (pa_cons pe_str pa_nil)))))) (pc_call c_law_next hr (by first | decide | omega) (takes_of rfl rfl rfl rfl) (by rfl) (pa_cons (pv 1) (pa_cons pe_int pa_nil))) (fun _ _ => rfl)))
      (pss_cons (ps_set (i := 9) sc_law.nd rfl (by first | exact Or.inl rfl | exact Or.inr rfl) (pe_op op_add (pe_dget2 (hu_of hr) (pe_callTy (call_dictP rfl) (by rfl) T.z_dict (by decide +kernel) (pa_cons (pv 2) pa_nil)) (pv 8) pe_int ⟨rfl, rfl, rfl, rfl⟩) (pe_ix ix_list (pe_lst (pa_cons pe_int (pa_cons pe_int (pa_cons pe_int (pa_cons pe_int pa_nil))))) (pc_call c_law_next hr (by first | decide | omega) (takes_of rfl rfl rfl rfl) (by rfl) (pa_cons (pv 1) (pa_cons pe_int pa_nil))) (fun _ _ => rfl))))
      (pss_cons (ps_set (i := 10) sc_law.nd rfl (by first | exact Or.inl rfl | exact Or.inr rfl) (pe_callTy call_tuple_of (by rfl) T.z_tuple (by decide +kernel) (pa_cons (pe_lc (own := [("j", 15)]) (tt := tYes) rfl sc_law.nd (pi_range1 (by rfl) T.z_range (pa_cons (pv 9) pa_nil)) (blkOk_by (by kernel_rfl)) (fun _ _ _ _ _ => (pg_name (i := 15) sc_law.nd rfl (by first | exact Or.inl rfl | exact Or.inr rfl))) (fun _ _ _ _ _ => pts_nil) (fun _ _ _ _ _ => (pe_ix (kix_list (K := K)) (pe_lst (pa_cons pe_int (pa_cons pe_int (pa_cons pe_str pa_nil)))) (pc_call c_law_next hr (by first | decide | omega) takes0 (by rfl) (pa_cons (pv 1) (pa_cons pe_int pa_nil))) (fun _ _ => rfl)))) pa_nil)))
      (pss_cons (ps_set (i := 11) sc_law.nd rfl (by first | exact Or.inl rfl | exact Or.inr rfl) (pe_op op_sub (pc_call c_law_next hr (by first | decide | omega) (takes_of rfl rfl rfl rfl) (by rfl) (pa_cons (pv 1) (pa_cons (pe_op op_add (pe_callB call_len (by rfl) T.z_len (by decide +kernel) (pa_cons (pv 4) pa_nil)) pe_int) pa_nil))) pe_int))
      (pss_cons (ps_set (i := 12) sc_law.nd rfl (by first | exact Or.inl rfl | exact Or.inr rfl) (pc_call c_law_do hr (by first | decide | omega) (takes_of rfl rfl rfl rfl) (by rfl) (pa_cons (pv 3) (pa_cons (pv 7) (pa_cons (pv 8) (pa_cons (pv 10) (pa_cons (pv 11) pa_nil)))))))
      (pss_cons (ps_if (PW.pt (pw_or (pt_not (pt_val (pc_call c_law_same hr (by first | decide | omega) (takes_of rfl rfl rfl rfl) (by rfl) (pa_cons (pv 12) (pa_cons (pc_call c_law_due hr (by first | decide | omega) (takes_of rfl rfl rfl rfl) (by rfl) (pa_cons (pv 2) (pa_cons (pv 4) (pa_cons (pv 7) (pa_cons (pv 8) (pa_cons (pv 10) (pa_cons (pv 11) pa_nil))))))) pa_nil))))) (pw_or1 (pt_not (pt_val (pc_call c_law_right hr (by first | decide | omega) (takes_of rfl rfl rfl rfl) (by rfl) (pa_cons (pv 3) (pa_cons (pv 2) (pa_cons (pv 4) pa_nil))))))))) (pss_one (ps_ret pe_bl)) pss_nil)
      (pss_one (ps_if (pt_cmpR op_eq (pc_call c_law_next hr (by first | decide | omega) (takes_of rfl rfl rfl rfl) (by rfl) (pa_cons (pv 1) (pa_cons pe_int pa_nil))) pe_int (nomark _)) (pss_cons (ps_set (i := 5) sc_law.nd rfl (by first | exact Or.inl rfl | exact Or.inr rfl) (pe_lst (pa_cons (pe_tup (pa_cons (pv 3) (pa_cons (pe_lc (own := [("row", 10)]) (tt := tYes) rfl sc_law.nd (pi_list (pv 4)) (blkOk_by (by kernel_rfl)) (fun _ _ _ _ _ => (pg_name (i := 10) sc_law.nd rfl (by first | exact Or.inl rfl | exact Or.inr rfl))) (fun _ _ _ _ _ => pts_nil) (fun _ _ _ _ _ => (pe_callTy (kcall_list_of (K := K)) (by rfl) T.z_list (by decide +kernel) (pa_cons (pv 10) pa_nil)))) pa_nil))) pa_nil)))
      (pss_one (ps_set (i := 3) sc_law.nd rfl (by first | exact Or.inl rfl | exact Or.inr rfl) (pd_meth0 hr (takes_of rfl rfl rfl rfl) (pv 3))))) pss_nil))))))))))
      (pss_cons (ps_for (passes_of rfl) rfl (pi_list (pv 5)) (pg_name (i := 13) sc_law.nd rfl (by first | exact Or.inl rfl | exact Or.inr rfl)) (pss_one (ps_if (pt_not (pt_val (pc_call c_law_right hr (by first | decide | omega) (takes_of rfl rfl rfl rfl) (by rfl) (pa_cons (pe_ix ix_tup (pv 13) pe_int (fun _ _ => rfl)) (pa_cons (pv 2) (pa_cons (pe_ix ix_tup (pv 13) pe_int (fun _ _ => rfl)) pa_nil)))))) (pss_one (ps_ret pe_bl)) pss_nil)))
      (pss_cons (ps_set (i := 14) sc_law.nd rfl (by first | exact Or.inl rfl | exact Or.inr rfl) (pe_lst (pa_cons (pe_tup (pa_cons pe_str (pa_cons pe_int pa_nil))) (pa_cons (pe_tup (pa_cons pe_str (pa_cons pe_int pa_nil))) (pa_cons (pe_tup (pa_cons pe_str (pa_cons pe_int pa_nil))) (pa_cons (pe_tup (pa_cons pe_str (pa_cons pe_int pa_nil))) (pa_cons (pe_tup (pa_cons pe_str (pa_cons pe_int pa_nil))) pa_nil)))))))
      (pss_one (ps_ret (pe_callB (cr_all rfl) (by rfl) T.z_all (by decide +kernel) (pa_cons (pe_lc (own := [("pair", 13)]) (tt := tYes) rfl sc_law.nd (pi_list (pv 14)) (blkOk_by (by kernel_rfl)) (fun _ _ _ _ _ => (pg_name (i := 13) sc_law.nd rfl (by first | exact Or.inl rfl | exact Or.inr rfl))) (fun _ _ _ _ _ => pts_nil) (fun _ _ _ _ _ => (pe_cmpR op_eq (pc_call c_law_do hr (by first | decide | omega) takes0 (by rfl) (pa_cons (pv 3) (pa_cons pe_int (pa_cons (pe_ix (kix_tup (K := K)) (pv 13) pe_int (fun _ _ => rfl)) (pa_cons (pe_tup pa_nil) (pa_cons (pe_ix (kix_tup (K := K)) (pv 13) pe_int (fun _ _ => rfl)) pa_nil)))))) pe_str (nomark _)))) pa_nil)))))))))))), ?_⟩
    refine go_seq ⟨_, rfl, a, ns, rfl, hS, hl, fun H1 pot s1 hp0 p1 => go_name rfl ?_⟩
    obtain ⟨pb, P1⟩ := p1.b_
    have nap : ∀ o, H a = some o → a ≠ pot := fun o e => ne_of_none e hp0
    have hA : ∀ o, (∀ ps, o ≠ .tbl ps) → H a = some o → H1 a = some o := fun o _ e => s1 _ _ e
    replace tg := (FrT.of s1).tabs _ tg
    refine go_seq ⟨_, rfl, pot, 4, rfl, P1.at_, by decide, by decide, fun H2 r1 f2 _ r10 r1l hb2 => ⟨_, _, rfl, rfl, (show 2 ≤ sizeLine by decide), fun q1 hq1 => ?_⟩⟩
    obtain ⟨x1, rfl⟩ := toN r10
    have tupP : ∀ {H H' : Hp} {b : Addr} {ys : List V}, PotB H pot pb → Fr1 pot H H' → H b = some (.tup ys) → H' b = some (.tup ys) := fun {H H' b ys} p f e => by
      obtain ⟨_, _, _, _, e1, _⟩ := p
      exact f _ _ (ne_of e e1 (fun z => nomatch z)) e
    have P2 := hb2 _ P1
    replace hA := fun o n e => f2 _ _ (nap o e) (hA o n e)
    replace tg : TabG H2 PP := by
      obtain ⟨_, _, _, _, e1, _⟩ := P1
      obtain ⟨ps, e, t⟩ := tg
      exact ⟨ps, f2 _ _ (ne_of e e1 (fun z => nomatch z)) e, t⟩
    have t1 : (upd H2 q1 (.tup [.str "e", .int (1 + (x1 : Int))])) q1 = some (.tup [.str "e", .int (1 + (x1 : Int))]) := upd_same
    have y1 : Same H2 (upd H2 q1 (.tup [.str "e", .int (1 + (x1 : Int))])) := same_new (Same.refl _) hq1
    replace P2 := P2.same y1
    replace tg := (FrT.of y1).tabs _ tg
    replace hA := fun o n e => y1 _ _ (hA o n e)
    generalize upd H2 q1 (.tup [.str "e", .int (1 + (x1 : Int))]) = H3 at t1 P2 tg hA
    clear y1
    refine ⟨_, rfl, pot, 2, rfl, P2.at_, by decide, by decide, fun H4 r2 f4 _ r20 r2l hb4 => ⟨_, _, rfl, rfl, (show 2 ≤ sizeLine by decide), fun q2 hq2 => ?_⟩⟩
    obtain ⟨x2, rfl⟩ := toN r20
    have P4 := hb4 _ P2
    replace hA := fun o n e => f4 _ _ (nap o e) (hA o n e)
    replace t1 := tupP P2 f4 t1
    replace tg : TabG H4 PP := by
      obtain ⟨_, _, _, _, e1, _⟩ := P2
      obtain ⟨ps, e, t⟩ := tg
      exact ⟨ps, f4 _ _ (ne_of e e1 (fun z => nomatch z)) e, t⟩
    have t2 : (upd H4 q2 (.tup [.str "long", .int (1 + (x2 : Int))])) q2 = some (.tup [.str "long", .int (1 + (x2 : Int))]) := upd_same
    have y2 : Same H4 (upd H4 q2 (.tup [.str "long", .int (1 + (x2 : Int))])) := same_new (Same.refl _) hq2
    replace P4 := P4.same y2
    replace t1 := y2 _ _ t1
    replace tg := (FrT.of y2).tabs _ tg
    replace hA := fun o n e => y2 _ _ (hA o n e)
    generalize upd H4 q2 (.tup [.str "long", .int (1 + (x2 : Int))]) = H5 at t1 t2 P4 tg hA
    clear y2
    refine ⟨(show 2 ≤ sizeLine by decide), fun q3 hq3 => ⟨(show 3 ≤ sizeLine by decide), fun L hL => ?_⟩⟩
    have t3 : (upd H5 q3 (.tup [.str "p", .int 1])) q3 = some (.tup [.str "p", .int 1]) := upd_same
    have y3 : Same H5 (upd H5 q3 (.tup [.str "p", .int 1])) := same_new (Same.refl _) hq3
    replace P4 := P4.same y3
    replace t1 := y3 _ _ t1
    replace t2 := y3 _ _ t2
    replace tg := (FrT.of y3).tabs _ tg
    replace hA := fun o n e => y3 _ _ (hA o n e)
    generalize upd H5 q3 (.tup [.str "p", .int 1]) = H6 at t1 t2 t3 P4 tg hL hA
    clear y3
    have eL : (upd H6 L (.lst [.ref q1, .ref q2, .ref q3])) L = some (.lst [.ref q1, .ref q2, .ref q3]) := upd_same
    have y4 : Same H6 (upd H6 L (.lst [.ref q1, .ref q2, .ref q3])) := same_new (Same.refl _) hL
    have nLp : L ≠ pot := by
      obtain ⟨_, _, _, _, e1, _⟩ := P4
      exact (ne_of_none e1 hL).symm
    replace P4 := P4.same y4
    replace t1 := y4 _ _ t1
    replace t2 := y4 _ _ t2
    replace t3 := y4 _ _ t3
    replace tg := (FrT.of y4).tabs _ tg
    replace hA := fun o n e => y4 _ _ (hA o n e)
    generalize upd H6 L (.lst [.ref q1, .ref q2, .ref q3]) = H7 at t1 t2 t3 P4 tg eL hA
    clear y4
    refine ⟨_, rfl, pot, 3, rfl, P4.at_, by decide, by decide, fun H8 r3 f8 _ r30 r3l hb8 => ⟨_, _, rfl, rfl, _, rfl, ?_⟩⟩
    obtain ⟨x3, rfl⟩ := toN r30
    have P8 := hb8 _ P4
    replace hA := fun o n e => f8 _ _ (nap o e) (hA o n e)
    replace t1 := tupP P4 f8 t1
    replace t2 := tupP P4 f8 t2
    replace t3 := tupP P4 f8 t3
    replace eL := f8 _ _ nLp eL
    replace tg : TabG H8 PP := by
      obtain ⟨_, _, _, _, e1, _⟩ := P4
      obtain ⟨ps, e, t⟩ := tg
      exact ⟨ps, f8 _ _ (ne_of e e1 (fun z => nomatch z)) e, t⟩
    have hx1 : x1 < 4 := by omega
    have hx2 : x2 < 2 := by omega
    obtain ⟨tabs, htabs⟩ : ∃ tabs, tabs = tabsOf x1 x2 x3 := ⟨_, rfl⟩
    have nt := tabsOf_nt x1 x2 x3
    have gz := tabsOf_good (c := x3) hx1 hx2
    have cl := tabsOf_cl (c := x3) hx1 hx2
    have zx := tabsOf_zx (c := x3) hx1 hx2
    have tl := tabsOf_len x1 x2 x3
    have ta : TabsAt H8 (tabZ (tabsOf x1 x2 x3)) (([.ref q1, .ref q2, .ref q3] : List V).take (1 + x3)) := by
      unfold tabsOf tabZ
      rw [List.map_take]
      refine TabsAt.take (zs := [("e", ((1 + x1 : Nat) : Int)), ("long", ((1 + x2 : Nat) : Int)), ("p", 1)]) ⟨rfl, fun i z hz => ?_⟩ _
      match i, hz with
      | 0, hz => cases hz; exact ⟨q1, rfl, t1⟩
      | 1, hz => cases hz; exact ⟨q2, rfl, t2⟩
      | 2, hz => cases hz; exact ⟨q3, rfl, t3⟩
    have tml : ∀ x ∈ tabsOf x1 x2 x3, x.2 ≤ 4 := fun x h => (tabsOf_mem hx1 hx2 h).2.2
    rw [← htabs] at nt gz cl zx tl ta tml
    have cutE : cutV [V.ref q1, .ref q2, .ref q3] none (some (1 + (x3 : Int))) = ([.ref q1, .ref q2, .ref q3] : List V).take (1 + x3) := by
      rw [show (1 + (x3 : Int)) = ((1 + x3 : Nat) : Int) by omega]
      exact cut_pre
    refine ⟨L, _, rfl, SqL.of eL, fun tb htb0 => go_name rfl ?_⟩
    rw [cutE] at *
    generalize ([.ref q1, .ref q2, .ref q3] : List V).take (1 + x3) = xs at ta
    clear t1 t2 t3 cutE
    have y9 := same_new (o := .lst xs) (Same.refl H8) htb0
    have etb : (upd H8 tb (.lst xs)) tb = some (.lst xs) := upd_same
    replace P8 := P8.same y9
    replace ta := ta.frt (.of y9)
    replace tg := (FrT.of y9).tabs _ tg
    have ntp : pot ≠ tb := by
      obtain ⟨_, _, _, _, e1, _⟩ := hb8 _ P4
      exact ne_of_none e1 htb0
    have ntb : pb ≠ tb := by
      obtain ⟨_, _, _, _, _, e1, _⟩ := hb8 _ P4
      exact ne_of_none e1 htb0
    replace hA := fun o n e => y9 _ _ (hA o n e)
    generalize upd H8 tb (.lst xs) = H9 at P8 ta tg etb hA
    clear y9
    -- the store
    refine go_seq ⟨4, ad.Facts, _, by decide, mk_Facts, _, rfl, tb, _, rfl, .inl (SqL.of etb), fun l hl => ?_⟩
    intro y dy hy hdy ndy
    have y10 := same_new (o := .lst xs) (Same.refl H9) hl
    have el : (upd H9 l (.lst xs)) l = some (.lst xs) := upd_same
    replace P8 := P8.same y10
    replace ta := ta.frt (.of y10)
    replace tg := (FrT.of y10).tabs _ tg
    replace etb := y10 _ _ etb
    replace hA := fun o n e => y10 _ _ (hA o n e)
    generalize upd H9 l (.lst xs) = H10 at P8 ta tg etb el hy hdy hA
    clear y10
    have s11 : Same H10 (upd (upd H10 dy (.own y)) y (.ins ad.Facts dy [])) := fun b o e => same_new (o := .ins ad.Facts dy []) (Same.refl _) (show (upd H10 dy (HO.own y)) y = none by rw [upd_ne (Ne.symm ndy)]; exact hy) _ _ (same_new (Same.refl _) hdy _ _ e)
    refine ⟨y, dy, l, xs, tabZ tabs, rfl, upd_same, s11 _ _ el, ta.frt (.of s11), by unfold tabZ; rw [List.length_map]; exact tl, zx, (FrT.of s11).tabs _ tg, fun tabs' et gz' H11 A x11 nw11 fo11 => ⟨rfl, go_name rfl ?_⟩, fun bz => absurd gz bz⟩
    obtain rfl := (tabZ_inj et).symm
    have f11 : FrT H10 H11 := x11.frt hy hdy
    have nw : A.new H10 := fun b hb u e => nw11 b hb u (s11 _ _ e)
    clear nw11 x11 s11 et gz'
    -- rows, kept
    refine go_seq ⟨(show 0 ≤ sizeLine by decide), fun r hr => go_name rfl ?_⟩
    replace hA := fun o n e => f11.keep _ _ (hA o n e) n
    have y12 := same_new (o := .lst []) (Same.refl H11) hr
    replace hA := fun o n e => y12 _ _ (hA o n e)
    have er : (upd H11 r (.lst [])) r = some (.lst []) := upd_same
    have potL : ∃ ys, H10 pot = some (.lst ys) := let ⟨_, _, _, _, e1, _⟩ := P8; ⟨_, e1⟩
    have pbL : ∃ ys, H10 pb = some (.lst ys) := let ⟨_, _, _, _, _, e1, _⟩ := P8; ⟨_, e1⟩
    have li : LI P w ad PP (upd H11 r (.lst [])) pot pb tb y r A tabs xs [] [] := by
      have sm : FrM (fun _ => False) H10 (upd H11 r (.lst [])) := (FrM.ofT f11).tr (.ofS y12)
      have mo : Mo (fun _ => False) H10 := fun b hb => hb.elim
      have ex : ∀ b, (b = pot ∨ b = tb ∨ b = pb) → ∃ ys, H10 b = some (.lst ys) := fun b hb => by
        rcases hb with rfl | rfl | rfl
        · exact potL
        · exact ⟨_, etb⟩
        · exact pbL
      refine ⟨P8.frm sm id id, fo11.same y12, y12 _ _ (f11.lst etb), ta.frm sm mo, ⟨er, rfl, fun i x h => by simp at h, by simp, fun x h => nomatch h⟩, sm.tabs _ tg, (fun x h => nomatch h), (fun x h => nomatch h), fun b hb z => ?_, fun b hb => ⟨fun z => ?_, fun z => nomatch z⟩, ntp, nt⟩
      · rcases hb with h | h | h
        · rw [h] at z
          rcases fo11.own_lst nt z with ⟨_, q⟩ | ⟨_, q⟩ <;> rw [hr] at q <;> cases q
        · cases h
        · obtain ⟨ys, e⟩ := ex b h
          obtain ⟨ps, q⟩ := nw b z _ e
          cases q
      · obtain ⟨ys, e⟩ := ex b hb
        have := f11.lst e
        rw [z, hr] at this; cases this
    generalize upd H11 r (.lst []) = H12 at li er hA
    refine go_seq ⟨(show 0 ≤ sizeLine by decide), fun kp hkp => go_name rfl ?_⟩
    have y13 := same_new (o := .lst []) (Same.refl H12) hkp
    have ekp : (upd H12 kp (.lst [])) kp = some (.lst []) := upd_same
    have ko : KO P w ad (upd H12 kp (.lst [])) kp tabs (Mx A r [] pot) := by
      refine ⟨fun z => ?_, .inl ekp⟩
      rcases z with h | h | h | h
      · rcases li.fo.own_lst nt h with ⟨_, q⟩ | ⟨_, q⟩ <;> rw [hkp] at q <;> cases q
      · rw [h, er] at hkp; cases hkp
      · cases h
      · obtain ⟨_, q⟩ := li.potL; rw [h, q] at hkp; cases hkp
    replace li := li.same y13
    have hSL : SqL K (upd H12 kp (.lst [])) a (ns.map V.int) := by
      rcases hS with (h | ⟨o, h⟩) | h
      · exact .inl (.inl (y13 _ _ (hA _ (fun _ z => nomatch z) h)))
      · exact .inl (.inr ⟨o, y13 _ _ (hA _ (fun _ z => nomatch z) h)⟩)
      · exact .inr h
    generalize upd H12 kp (.lst []) = H13 at li ko hSL
    clear y13 ekp er hkp hr potL pbL f11 nw fo11 hy hdy el etb ta tg P8
    have hA := trivial
    refine go_sq ⟨_, rfl, .ref a, _, rfl, .inl ⟨_, hSL, rfl⟩, _, _, rfl, _, _, rfl, rfl, _, rfl, ?_, ?_, ?_⟩
    · rw [List.length_map]; split <;> omega
    · rw [List.length_map]; split <;> omega
    rw [List.length_map]
    obtain ⟨N, hN, hN41⟩ : ∃ N : Nat, N = (5 + (if (36 : Int) < (ns.length : Int) then 36 else (ns.length : Int))).toNat ∧ N ≤ 41 := ⟨_, rfl, by split <;> omega⟩
    rw [← hN]
    refine for_range (lo := 0) (n := N) (fun i σ H' => ∃ (v6 v7 v8 v9 v10 v11 v12 : Option V) (f : Addr) (A : FA) (fs : List Fac) (rl : List Addr) (kp : Addr), σ = [some (.ref a), some (.ref pot), some (.ref tb), some (.ref f), some (.ref r), some (.ref kp), v6, v7, v8, v9, v10, v11, v12, none, none, none] ∧ LI P w ad PP H' pot pb tb f r A tabs xs fs rl ∧ KO P w ad H' kp tabs (Mx A r rl pot) ∧ fs.length ≤ i)
      ⟨none, none, none, none, none, none, none, y, A, [], [], kp, rfl, li, ko, Nat.le_refl _⟩ ?_ ?_
    · clear li ko hSL hA hS
      rintro i σ H0 hi ⟨v6, v7, v8, v9, v10, v11, v12, f, A, fs, rl, kp, rfl, li, ko, fsl⟩
      refine go_name rfl ?_
      -- kind
      refine go_seq ⟨_, rfl, pot, 5, rfl, li.pot_.at_, by decide, by decide, fun H1 kind f1 _ kd0 kd5 hb1 => go_name rfl ?_⟩
      replace ko := ko.step nt (FrM.of1 (.inr (.inr (.inr rfl))) f1 li.potL) li.mo (fun b h => .inl h)
      replace li := li.fr1 f1 (hb1 _ li.pot_)
      -- table
      refine go_seq ⟨(show 5 ≤ sizeLine by decide), fun D1 hD1 => ?_⟩
      have y1 := same_new (o := .lst [.str "e", .str "e", .str "long", .str "p", .str "q"]) (Same.refl H1) hD1
      have eD1 : (upd H1 D1 (.lst [.str "e", .str "e", .str "long", .str "p", .str "q"])) D1 = some (.lst [.str "e", .str "e", .str "long", .str "p", .str "q"]) := upd_same
      have nD1 : D1 ≠ pot := by obtain ⟨_, q⟩ := li.potL; exact (ne_of_none q hD1).symm
      replace ko := ko.step nt (.ofS y1) li.mo (fun b h => .inl h)
      replace li := li.same y1
      generalize upd H1 D1 (.lst [.str "e", .str "e", .str "long", .str "p", .str "q"]) = H2 at li ko eD1
      refine ⟨_, rfl, pot, 5, rfl, li.pot_.at_, by decide, by decide, fun H3 tj f3 _ tj0 tj5 hb3 => ?_⟩
      obtain ⟨tj, rfl⟩ := toN tj0
      replace ko := ko.step nt (FrM.of1 (.inr (.inr (.inr rfl))) f3 li.potL) li.mo (fun b h => .inl h)
      replace li := li.fr1 f3 (hb3 _ li.pot_)
      replace eD1 := f3 _ _ nD1 eD1
      obtain ⟨t, ht, tl5, tcl⟩ : ∃ t : Str, ([.str "e", .str "e", .str "long", .str "p", .str "q"] : List V)[tj]? = some (.str t) ∧ t.length ≤ 1000 ∧ (PyData.str t).canLay0 = true := by
        have : tj < 5 := by omega
        match tj, this with
        | 0, _ => exact ⟨"e", rfl, by decide +kernel, by decide +kernel⟩
        | 1, _ => exact ⟨"e", rfl, by decide +kernel, by decide +kernel⟩
        | 2, _ => exact ⟨"long", rfl, by decide +kernel, by decide +kernel⟩
        | 3, _ => exact ⟨"p", rfl, by decide +kernel, by decide +kernel⟩
        | 4, _ => exact ⟨"q", rfl, by decide +kernel, by decide +kernel⟩
      refine ⟨D1, _, _, .str t, rfl, rfl, SqL.of eD1, at_of (j := tj) rfl ht, go_name rfl ?_⟩
      -- width
      obtain ⟨ps, hps, pr⟩ := li.ta.pairs (K := K)
      refine go_seq ⟨_, rfl, tb, ps, kvA tabs, rfl, SqL.of (by rw [← hps]; exact li.htb), pr H3 (Same.refl _), fun d hd => ?_⟩
      have y4 := same_new (o := .dK (mergeK [] (kvA tabs))) (Same.refl H3) hd
      have ed : (upd H3 d (.dK (mergeK [] (kvA tabs)))) d = some (.dK (mergeK [] (kvA tabs))) := upd_same
      replace ko := ko.step nt (.ofS y4) li.mo (fun b h => .inl h)
      replace li := li.same y4
      rw [merge_A nt] at li ko ed ⊢
      generalize upd H3 d (.dK (kvA tabs)) = H4 at li ko ed
      have get_ : DGet H4 d (.str t) ((arOf tabs t).map fun a => V.int (a : Int)) := by
        have := DGet.k (k := .inr t) ed
        rw [valV_kvA] at this
        exact this
      have w0l := tabs_le tml t
      obtain ⟨w0, hw0⟩ : ∃ w0, w0 = (arOf tabs t).getD 1 := ⟨_, rfl⟩
      rw [← hw0] at w0l
      refine ⟨d, rfl, .inl ⟨_, .inl ed⟩, _, rfl, _, get_, ?_⟩
      rw [show ((arOf tabs t).map fun a => V.int (a : Int)).getD (.int 1) = V.int (w0 : Int) by rw [hw0]; cases arOf tabs t <;> rfl]
      refine ⟨(show 4 ≤ sizeLine by decide), fun D2 hD2 => ?_⟩
      have y5 := same_new (o := .lst [.int 0, .int 0, .int 0, .int 1]) (Same.refl H4) hD2
      have eD2 : (upd H4 D2 (.lst [.int 0, .int 0, .int 0, .int 1])) D2 = some (.lst [.int 0, .int 0, .int 0, .int 1]) := upd_same
      have nD2 : D2 ≠ pot := by obtain ⟨_, q⟩ := li.potL; exact (ne_of_none q hD2).symm
      replace ko := ko.step nt (.ofS y5) li.mo (fun b h => .inl h)
      replace li := li.same y5
      generalize upd H4 D2 (.lst [.int 0, .int 0, .int 0, .int 1]) = H5 at li ko eD2
      refine ⟨_, rfl, pot, 4, rfl, li.pot_.at_, by decide, by decide, fun H6 wj f6 _ wj0 wj4 hb6 => ?_⟩
      obtain ⟨wj, rfl⟩ := toN wj0
      replace ko := ko.step nt (FrM.of1 (.inr (.inr (.inr rfl))) f6 li.potL) li.mo (fun b h => .inl h)
      replace li := li.fr1 f6 (hb6 _ li.pot_)
      replace eD2 := f6 _ _ nD2 eD2
      obtain ⟨w1, hw1, w1l⟩ : ∃ w1 : Nat, ([.int 0, .int 0, .int 0, .int 1] : List V)[wj]? = some (.int (w1 : Int)) ∧ w1 ≤ 1 := by
        have : wj < 4 := by omega
        match wj, this with
        | 0, _ => exact ⟨0, rfl, by decide⟩
        | 1, _ => exact ⟨0, rfl, by decide⟩
        | 2, _ => exact ⟨0, rfl, by decide⟩
        | 3, _ => exact ⟨1, rfl, by decide⟩
      refine ⟨D2, _, _, .int (w1 : Int), rfl, rfl, SqL.of eD2, at_of (j := wj) rfl hw1, _, _, rfl, rfl, go_name rfl ?_⟩
      generalize hgo : (fun i j : Int => V.int (i + j)) (w0 : Int) (w1 : Int) = wv
      rw [show wv = V.int ((w0 + w1 : Nat) : Int) by rw [← hgo]; show V.int ((w0 : Int) + w1) = _; congr 1]
      clear hgo wv
      obtain ⟨wd, hwd⟩ : ∃ wd, wd = w0 + w1 := ⟨_, rfl⟩
      rw [← hwd]
      have wdl : wd ≤ 5 := by omega
      clear hwd hw1 hw0 get_ ed eD1 eD2 ps hps pr
      -- row
      refine go_seq ?_
      refine ⟨_, rfl, _, rfl, by omega, by omega, fun D hD => ?_⟩
      rw [Int.toNat_natCast]
      refine lc_range (lo := 0) (n := wd) (fun i H' => Fr1 pot H6 H' ∧ PotB H' pot pb ∧ ∃ (ks : List NestedKey) (vals : List V), H' D = some (.lst vals) ∧ Kys H' ks vals ∧ ks.length = i ∧ ∀ k ∈ ks, k = .num 0 ∨ k = .num 1 ∨ k = .text "a") ⟨(Fr1.refl _ _).new hD, li.pot_.same (same_new (Same.refl _) hD), [], [], upd_same, .nil, rfl, fun x hx => nomatch hx⟩ (fun i H7 hi7 ⟨f7, p7, ks, vals, e7, k7, l7, m7⟩ => ?_) (fun H7 ⟨f7, p7, ks, vals, e7, k7, l7, m7⟩ => ?_)
      · have nDp : D ≠ pot := by obtain ⟨_, q⟩ := li.potL; exact (ne_of_none q hD).symm
        have nDb : D ≠ pb := by obtain ⟨_, _, _, _, _, q, _⟩ := li.pot_; exact (ne_of_none q hD).symm
        have vl : vals.length = i := by have := kys_len k7; omega
        refine ⟨rfl, yes_then (iteT ⟨(show 3 ≤ sizeLine by decide), fun D3 hD3 => ?_⟩)⟩
        have y8 := same_new (o := .lst [.int 0, .int 1, .str "a"]) (Same.refl H7) hD3
        have eD3 : (upd H7 D3 (.lst [.int 0, .int 1, .str "a"])) D3 = some (.lst [.int 0, .int 1, .str "a"]) := upd_same
        have nD3 : D3 ≠ pot := by obtain ⟨_, _, _, _, q, _⟩ := p7; exact (ne_of_none q hD3).symm
        replace f7 := f7.trans (Fr1.of y8)
        replace p7 := p7.same y8
        replace e7 := y8 _ _ e7
        generalize upd H7 D3 (.lst [.int 0, .int 1, .str "a"]) = H8 at f7 p7 e7 eD3
        refine ⟨_, rfl, pot, 3, rfl, p7.at_, by decide, by decide, fun H9 z f9 _ z0 z3 hb9 => ?_⟩
        obtain ⟨z, rfl⟩ := toN z0
        have p9 := hb9 _ p7
        replace e7 := f9 _ _ nDp e7
        replace eD3 := f9 _ _ nD3 eD3
        replace f7 := f7.trans f9
        obtain ⟨v, κ, hv, kv, hκ⟩ : ∃ v κ, ([.int 0, .int 1, .str "a"] : List V)[z]? = some v ∧ (∀ H : Hp, Ky H κ v) ∧ (κ = .num 0 ∨ κ = .num 1 ∨ κ = .text "a") := by
          have : z < 3 := by omega
          match z, this with
          | 0, _ => exact ⟨_, .num 0, rfl, fun H => .int 0, .inl rfl⟩
          | 1, _ => exact ⟨_, .num 1, rfl, fun H => .int 1, .inr (.inl rfl)⟩
          | 2, _ => exact ⟨_, .text "a", rfl, fun H => .str "a", .inr (.inr rfl)⟩
        have kys : ∀ H : Hp, Kys H (ks ++ [κ]) (vals ++ [v]) := fun H => by
          refine kys_app ?_ (.cons (kv H) .nil)
          refine kys_of (by have := kys_len k7; omega) fun j k x hk hx => ?_
          have := kys_at k7 j hk hx
          rcases m7 k (List.mem_of_getElem? hk) with h | h | h <;> (rw [h] at this ⊢; cases this; constructor)
        refine ⟨D3, _, _, v, rfl, rfl, SqL.of eD3, at_of (j := z) rfl hv, vals, e7, by rw [vl]; exact Nat.lt_of_le_of_lt (by omega : i ≤ 1000) (by decide), fun b o nb e => ?_, ?_, ks ++ [κ], vals ++ [v], upd_same, kys _, by rw [List.length_append, l7]; rfl, fun x hx => ?_⟩
        · rw [upd_ne (ne_of_none e hD)]; exact f7 _ _ nb e
        · exact p9.but (upd_ne (Ne.symm nDp)) (upd_ne (Ne.symm nDb))
        · rcases List.mem_append.mp hx with h | h
          · exact m7 x h
          · rw [List.mem_singleton.mp h]; exact hκ
      · replace ko := ko.step nt (FrM.of1 (.inr (.inr (.inr rfl))) f7 li.potL) li.mo (fun b h => .inl h)
        replace li := li.fr1 f7 p7
        have vl : vals.length = wd := by have := kys_len k7; omega
        have hfl : flatK ks := ⟨by omega, fun k hk => by
          rcases m7 k hk with h | h | h
          · exact .inl ⟨0, h⟩
          · exact .inl ⟨1, h⟩
          · exact .inr ⟨_, h⟩⟩
        have hd1 : ∀ ks : List NestedKey, (∀ k ∈ ks, k = .num 0 ∨ k = .num 1 ∨ k = .text "a") → PyData.canLayAll0 (kDs ks) = true ∧ NestedKey.depthAll ks ≤ 1 := fun ks => by
          induction ks with
          | nil => intro _; exact ⟨rfl, Nat.zero_le _⟩
          | cons k ks ih =>
            intro h
            obtain ⟨h1, h2⟩ := ih fun x hx => h x (List.mem_cons_of_mem _ hx)
            have h3 : (kD k).canLay0 = true ∧ k.depth ≤ 1 := by
              rcases h k (List.mem_cons_self ..) with e | e | e <;> (rw [e]; exact ⟨by decide +kernel, by decide +kernel⟩)
            refine ⟨?_, ?_⟩
            · show ((kD k).canLay0 && PyData.canLayAll0 (kDs ks)) = true
              rw [h3.1, h1]; rfl
            · show max k.depth (NestedKey.depthAll ks) ≤ 1
              omega
        obtain ⟨lay, dep⟩ := hd1 ks m7
        have okf : okF t ks := ⟨tcl, lay, dep⟩
        refine ⟨D, vals, rfl, .inl ⟨SqL.of e7, fun row hrow => go_name rfl ?_⟩⟩
        have y9 := same_new (o := .tup vals) (Same.refl H7) hrow
        have krow : Ky (upd H7 row (.tup vals)) (.tup ks) (.ref row) := .tup upd_same (k7.keeps fun b ys e => y9 _ _ e)
        replace ko := ko.step nt (.ofS y9) li.mo (fun b h => .inl h)
        replace li := li.same y9
        generalize upd H7 row (.tup vals) = H8 at li ko krow
        have rll : (rl.map V.ref).length = fs.length := by rw [List.length_map, li.rw_.len]
        -- number
        refine go_seq ⟨_, rfl, _, rfl, .ref r, _, rfl, .inl ⟨_, SqL.of li.rw_.at_, rfl⟩, _, _, rfl, rfl, pot, _, rfl, li.pot_.at_, by rw [rll]; omega, ?_, fun H9 nn f9 _ nn0 nnl hb9 => ⟨_, _, rfl, rfl, go_name rfl ?_⟩⟩
        · rw [rll]
          exact Nat.lt_of_lt_of_le (show ((fs.length : Int) + 2).natAbs < 1000 by omega) (by decide +kernel)
        have krow9 : Ky H9 (.tup ks) (.ref row) := krow.keeps fun b ys e => by
          obtain ⟨_, q⟩ := li.potL
          exact f9 _ _ (ne_of e q (fun z => nomatch z)) e
        replace ko := ko.step nt (FrM.of1 (.inr (.inr (.inr rfl))) f9 li.potL) li.mo (fun b h => .inl h)
        replace li := li.fr1 f9 (hb9 _ li.pot_)
        generalize hgo : (fun i j : Int => V.int (i - j)) nn 1 = wv
        obtain ⟨n, hn⟩ : ∃ n : Int, n = nn - 1 := ⟨_, rfl⟩
        rw [show wv = V.int n by rw [← hgo, hn]]
        clear hgo wv
        -- done
        refine go_seq ⟨_, rfl, _, rfl, _, rfl, _, rfl, _, rfl, .ref f, kind, t, .ref row, n, rfl, .inl ⟨f, A, tabs, fs, ks, kd0, by omega, rfl, li.fo, krow9, dep, by omega, fun H11 v frF fo11 rv => go_name rfl ?_⟩⟩
        have moF : Mo A.own H9 := fun b hb o e => li.mo b (.inl hb) o e
        have sF : FrM A.own H9 H11 := ⟨fun b o n e _ => frF b o n e, fun PP t => by
          obtain ⟨qs, e, t⟩ := t
          exact ⟨qs, frF _ _ (FrM.not moF e (fun _ z => nomatch z) (fun _ z => nomatch z)) e, t⟩⟩
        have tk11 : ∀ b ys, H9 b = some (.tup ys) → H11 b = some (.tup ys) := fun b ys e => frF _ _ (FrM.not moF e (fun _ z => nomatch z) (fun _ z => nomatch z)) e
        have rw11 : RW H11 r fs rl := li.rw_.frm sF moF (fun b hb => hb.elim (fun e => li.off b (.inl e)) (fun e => li.off b (.inr (.inl e))))
        refine go_sq ⟨_, rfl, _, rfl, _, rfl, _, rfl, _, rfl, _, rfl, _, rfl, tb, r, kind, t, .ref row, n, xs, tabs, fs, rl, ks, rfl, kd0, by omega, frF _ _ (li.off _ (.inr (.inr (.inr (.inl rfl))))) li.htb, li.ta.frm sF moF, tl, nt, rw11, krow9.keeps tk11, okf, by omega, fun H12 v2 rl' s12 rw12 nw12 rv2 => ?_⟩
        obtain ⟨li12, sm12, m12⟩ := li.turn frF fo11 s12 rw12 nw12 hfl
        have rv12 : RV H12 _ v := rv.tup fun b ys e => s12 _ _ (ne_of e rw11.at_ (fun z => nomatch z)) (fun z => by obtain ⟨_, q⟩ := rw11.mem z; rw [e] at q; cases q) e
        have flp : ∀ t' ks', (doR tabs fs kind t ks n).1 = .pair t' ks' → flatK ks' := fun t' ks' h => by
          obtain ⟨x, hx, e⟩ := doR_pair h
          rw [e]; exact li.fl x hx
        refine ⟨_, _, rfl, (dd_res flp rv12 rv2).up, fun H13 s13 => ⟨_, rfl, iteF ?_⟩⟩
        replace ko := (ko.step nt sm12 li.mo m12).step nt (.ofS s13) li12.mo (fun b h => .inl h)
        replace li := li12.same s13
        have fsl' : (doR tabs fs kind t ks n).2.length ≤ i + 1 := Nat.le_trans doR_len (by omega)
        generalize (doR tabs fs kind t ks n).2 = fs' at li fsl'
        clear li12 sm12 m12 rv12 flp rv rv2 s12 rw12 nw12 rw11 tk11 sF moF fo11 frF rll krow krow9 fsl
        refine ⟨_, rfl, _, rfl, _, rfl, f, tb, r, A, tabs, fs', rl', xs, rfl, li.fo, li.htb, li.ta, li.rw_, nt, li.fl, cl, fun H14 s14 => ⟨_, rfl, iteF ?_⟩⟩
        replace ko := ko.step nt (.ofS s14) li.mo (fun b h => .inl h)
        replace li := li.same s14
        refine go_nx ⟨_, rfl, pot, 9, rfl, li.pot_.at_, by decide, by decide, fun H15 z f15 _ z0 z9 hb15 => ⟨rfl, _, rfl, ?_⟩⟩
        replace ko := ko.step nt (FrM.of1 (.inr (.inr (.inr rfl))) f15 li.potL) li.mo (fun b h => .inl h)
        replace li := li.fr1 f15 (hb15 _ li.pot_)
        refine ite2 (fun _ => ?_) (fun _ => ?_)
        · refine go_seq ⟨_, rfl, _, rfl, r, rfl, ⟨_, SqL.of li.rw_.at_⟩, fun D hD => ?_⟩
          have f100 : fs'.length ≤ 42 := by omega
          refine lc_list (K := K) (xs := rl'.map V.ref) (fun i H' => Same H15 H' ∧ ∃ rl0 : List Addr, H' D = some (.lst (rl0.map V.ref)) ∧ rl0.length = i ∧ (∀ (j : Nat) x, j < i → fs'[j]? = some x → ∃ q y, rl0[j]? = some q ∧ H' q = some (.lst [.str x.1, y, .bl x.2.2]) ∧ Ky H' (.tup x.2.1) y) ∧ rl0.Nodup ∧ ∀ q ∈ rl0, H15 q = none ∧ q ≠ D)
            ⟨same_new (Same.refl _) hD, [], upd_same, rfl, fun j x h => absurd h (Nat.not_lt_zero _), List.nodup_nil, fun q h => nomatch h⟩ (fun i H' _ ⟨s', _⟩ => SqL.of (s' _ _ li.rw_.at_)) (fun i y H' hy ⟨s', rl0, e', l', c', nd', nw'⟩ => ?_) (fun H16 ⟨s16, rl0, e16, l16, c16, nd16, nw16⟩ => ?_)
          · have hif : i < fs'.length := by
              have := (List.getElem?_eq_some_iff.mp hy).1
              rw [List.length_map, li.rw_.len] at this
              exact this
            obtain ⟨x, hx⟩ : ∃ x, fs'[i]? = some x := ⟨_, List.getElem?_eq_getElem hif⟩
            obtain ⟨q, yv, hq, eq, ky⟩ := li.rw_.row i x hx
            rw [List.getElem?_map, hq] at hy
            cases hy
            refine ⟨rfl, yes_then (iteT ⟨_, rfl, q, _, rfl, .inl (SqL.of (s' _ _ eq)), fun l hl => ?_⟩)⟩
            have y1 := same_new (o := .lst [.str x.1, yv, .bl x.2.2]) (Same.refl H') hl
            have el : (upd H' l (.lst [.str x.1, yv, .bl x.2.2])) l = some (.lst [.str x.1, yv, .bl x.2.2]) := upd_same
            have nlD : l ≠ D := (ne_of_none e' hl).symm
            have nl15 : H15 l = none := by cases z : H15 l with | none => rfl | some u => rw [s' _ _ z] at hl; cases hl
            have nlr : ∀ q ∈ rl0, q ≠ l := fun q hq z => by
              obtain ⟨j, hj⟩ := List.getElem?_of_mem hq
              have hji : j < i := by rw [← l']; exact (List.getElem?_eq_some_iff.mp hj).1
              obtain ⟨q', y', f1, f2, _⟩ := c' j _ hji (List.getElem?_eq_getElem (by omega))
              rw [hj] at f1
              cases f1
              rw [z, hl] at f2; cases f2
            generalize upd H' l (.lst [.str x.1, yv, .bl x.2.2]) = H'' at y1 el
            have e'' := y1 _ _ e'
            have tk : ∀ b ys, H'' b = some (.tup ys) → (upd H'' D (.lst (rl0.map V.ref ++ [.ref l]))) b = some (.tup ys) := fun b ys e => by rw [upd_ne (ne_of e e'' (fun z => nomatch z))]; exact e
            refine ⟨_, e'', by rw [List.length_map, l']; exact Nat.lt_of_le_of_lt (by omega : i ≤ 1000) (by decide), same_but hD (fun b o z => y1 _ _ (s' _ _ z)) but_app, rl0 ++ [l], by rw [upd_same, List.map_append]; rfl, by rw [List.length_append, l']; rfl, fun j x' hj hx' => ?_, ?_, fun q' hq' => ?_⟩
            · by_cases c : j < i
              · obtain ⟨q', y', f1, f2, f3⟩ := c' j x' c hx'
                refine ⟨q', y', by rw [List.getElem?_append_left (by rw [l']; exact c)]; exact f1, ?_, (f3.keeps fun b ys e => y1 _ _ e).keeps tk⟩
                rw [upd_ne (nw' q' (List.mem_of_getElem? f1)).2]
                exact y1 _ _ f2
              · obtain rfl : j = i := by omega
                rw [hx] at hx'
                cases hx'
                refine ⟨l, yv, by rw [List.getElem?_append_right (by rw [l']; exact Nat.le_refl _), l', Nat.sub_self]; rfl, by rw [upd_ne nlD]; exact el, (ky.keeps fun b ys e => y1 _ _ (s' _ _ e)).keeps tk⟩
            · refine List.nodup_append.mpr ⟨nd', by simp, fun a ha b hb z => ?_⟩
              rw [List.mem_singleton.mp hb] at z
              exact nlr a ha z
            · rcases List.mem_append.mp hq' with h | h
              · exact nw' q' h
              · rw [List.mem_singleton.mp h]; exact ⟨nl15, nlD⟩
          · rw [List.length_map, li.rw_.len] at l16 c16
            have rw16 : RW H16 D fs' rl0 := ⟨e16, l16, fun j x hx => c16 j x (List.getElem?_eq_some_iff.mp hx).1 hx, List.nodup_cons.mpr ⟨fun h => (nw16 D h).2 rfl, nd16⟩, li.rw_.ok⟩
            have dD : ∀ b, (b = D ∨ b ∈ rl0) → H15 b = none := fun b hb => hb.elim (fun e => e ▸ hD) (fun h => (nw16 b h).1)
            clear c16 nd16 e16 l16
            have li15 := li
            replace li := li.same s16
            refine ⟨(show 2 ≤ sizeLine by decide), fun q hq => ⟨(show 1 ≤ sizeLine by decide), fun kp' hkp' => go_name rfl ?_⟩⟩
            have y17 := same_new (o := .tup [.ref f, .ref D]) (Same.refl H16) hq
            have eq17 : (upd H16 q (.tup [.ref f, .ref D])) q = some (.tup [.ref f, .ref D]) := upd_same
            replace li := li.same y17
            replace rw16 := rw16.same y17
            have s17 : Same H15 (upd H16 q (.tup [.ref f, .ref D])) := fun b o e => y17 _ _ (s16 _ _ e)
            generalize upd H16 q (.tup [.ref f, .ref D]) = H17 at li rw16 eq17 s17 hkp'
            have y18 := same_new (o := .lst [.ref q]) (Same.refl H17) hkp'
            have ek18 : (upd H17 kp' (.lst [.ref q])) kp' = some (.lst [.ref q]) := upd_same
            have nk15 : H15 kp' = none := by cases z : H15 kp' with | none => rfl | some u => rw [s17 _ _ z] at hkp'; cases hkp'
            replace li := li.same y18
            replace rw16 := rw16.same y18
            replace eq17 := y18 _ _ eq17
            generalize upd H17 kp' (.lst [.ref q]) = H18 at li rw16 eq17 ek18
            refine ⟨_, rfl, f, ad.Facts, A.dx, A.fs_, 6, _, rfl, li.fo.ins, fF_no _ _ _ _ _ (by decide) (by decide) (by decide) (by decide) (by decide), by decide, m_copy, f, A, tabs, fs', rfl, li.fo, gz, zx, li.tg, by omega, li.ar, fun H19 f' A' fT hf' nw fo' => go_name rfl (go_nx ?_)⟩
            have li19 := li.copy fT nw fo'
            have no : ∀ b ys, H18 b = some (.lst ys) → ¬ A'.own b := fun b ys e z => by
              obtain ⟨ps, q⟩ := nw b z _ e
              cases q
            have nM : ∀ b ys, H18 b = some (.lst ys) → H15 b = none → ¬ Mx A' r rl' pot b := fun b ys e e15 z => by
              rcases z with h | rfl | h | rfl
              · exact no b ys e h
              · rw [li15.rw_.at_] at e15; cases e15
              · obtain ⟨_, q⟩ := li15.rw_.mem h; rw [q] at e15; cases e15
              · obtain ⟨_, q⟩ := li15.potL; rw [q] at e15; cases e15
            have sM : FrM (fun _ => False) H18 H19 := .ofT fT
            refine ⟨_, _, _, _, _, _, _, f', A', fs', rl', kp', rfl, li19, ⟨nM kp' _ ek18 nk15, .inr ⟨q, f, D, A, fs', rl0, fT.lst ek18, fT.tup eq17, li.fo.frt fT, rw16.frm sM (fun _ h => h.elim) (fun _ _ => id), li.fl, fun b hb => ?_⟩⟩, fsl'⟩
            rcases hb with h | h
            · rintro (z | rfl | z | rfl)
              · rcases li.fo.own_lst nt h with ⟨_, e⟩ | ⟨_, e⟩
                · exact no b _ e z
                · obtain ⟨ps, q⟩ := nw b z _ e
                  cases q
              · exact li.off _ (.inl rfl) h
              · exact li.off _ (.inr (.inl z)) h
              · exact li.off _ (.inr (.inr (.inl rfl))) h
            · rcases h with rfl | h
              · exact nM _ _ rw16.at_ (dD _ (.inl rfl))
              · obtain ⟨_, e⟩ := rw16.mem h
                exact nM _ _ e (dD _ (.inr h))
        · exact go_nx ⟨_, _, _, _, _, _, _, f, A, fs', rl', kp, rfl, li, ko, fsl'⟩
    · clear li ko hSL hS
      rintro σ H0 ⟨v6, v7, v8, v9, v10, v11, v12, f, A, fs, rl, kp, rfl, li, ko, fsl⟩
      obtain ⟨ys, hkp⟩ : ∃ ys, H0 kp = some (.lst ys) := by
        obtain ⟨_, e | ⟨_, _, _, _, _, _, e, _⟩⟩ := ko <;> exact ⟨_, e⟩
      refine go_nx (go_sq ⟨_, rfl, kp, rfl, ⟨_, SqL.of hkp⟩, ?_⟩)
      refine for_list (K := K) (a := kp) (xs := ys) (fun i σ H' => ∃ v13, σ = [some (.ref a), some (.ref pot), some (.ref tb), some (.ref f), some (.ref r), some (.ref kp), v6, v7, v8, v9, v10, v11, v12, v13, none, none] ∧ Same H0 H') ⟨none, rfl, Same.refl _⟩ (fun i σ H' _ ⟨_, _, s'⟩ => SqL.of (s' _ _ hkp)) ?_ ?_
      · rintro i y' σ H1 hy' ⟨v13, rfl, s1⟩
        obtain ⟨_, e | ⟨q, f0, r0, A0, fs0, rl0, e1, e2, e3, e4, e5, _⟩⟩ := ko
        · rw [hkp] at e; cases e; simp at hy'
        · rw [hkp] at e1
          cases e1
          have hi : i = 0 := by
            have := (List.getElem?_eq_some_iff.mp hy').1
            have h1 : [V.ref q].length = 1 := rfl
            omega
          subst hi
          cases hy'
          replace e2 := s1 _ _ e2
          refine go_name rfl ?_
          refine ⟨_, rfl, q, _, _, .ref f0, rfl, rfl, SqT.of e2, at_of (j := 0) rfl rfl, _, rfl, _, rfl, q, _, _, .ref r0, rfl, rfl, SqT.of e2, at_of (j := 1) rfl rfl, f0, tb, r0, A0, tabs, fs0, rl0, xs, rfl, e3.same s1, s1 _ _ li.htb, li.ta.frt (.of s1), e4.same s1, nt, e5, cl, fun H2 s2 => ⟨_, rfl, iteF (go_nx ⟨_, rfl, fun b o e => s2 _ _ (s1 _ _ e)⟩)⟩⟩
      · rintro σ H1 ⟨v13, rfl, s1⟩
        replace li := li.same s1
        clear ko hkp s1
        refine go_nx ?_
        refine go_seq ?_
        refine ⟨(show 2 ≤ sizeLine by decide), fun p1 hp1 => ?_⟩
        have y1 := same_new (o := .tup [.str "E", .int 1]) (Same.refl H1) hp1
        have e1 : (upd H1 p1 (.tup [.str "E", .int 1])) p1 = some (.tup [.str "E", .int 1]) := upd_same
        replace li := li.same y1
        clear y1
        generalize upd H1 p1 (.tup [.str "E", .int 1]) = B1 at li e1
        refine ⟨(show 2 ≤ sizeLine by decide), fun p2 hp2 => ?_⟩
        have y2 := same_new (o := .tup [.str "", .int 1]) (Same.refl B1) hp2
        have e2 : (upd B1 p2 (.tup [.str "", .int 1])) p2 = some (.tup [.str "", .int 1]) := upd_same
        replace li := li.same y2
        replace e1 := y2 _ _ e1
        clear y2
        generalize upd B1 p2 (.tup [.str "", .int 1]) = B2 at li e1 e2
        refine ⟨(show 2 ≤ sizeLine by decide), fun p3 hp3 => ?_⟩
        have y3 := same_new (o := .tup [.str "abcdefghijklm", .int 1]) (Same.refl B2) hp3
        have e3 : (upd B2 p3 (.tup [.str "abcdefghijklm", .int 1])) p3 = some (.tup [.str "abcdefghijklm", .int 1]) := upd_same
        replace li := li.same y3
        replace e1 := y3 _ _ e1
        replace e2 := y3 _ _ e2
        clear y3
        generalize upd B2 p3 (.tup [.str "abcdefghijklm", .int 1]) = B3 at li e1 e2 e3
        refine ⟨(show 2 ≤ sizeLine by decide), fun p4 hp4 => ?_⟩
        have y4 := same_new (o := .tup [.str "e", .int 0]) (Same.refl B3) hp4
        have e4 : (upd B3 p4 (.tup [.str "e", .int 0])) p4 = some (.tup [.str "e", .int 0]) := upd_same
        replace li := li.same y4
        replace e1 := y4 _ _ e1
        replace e2 := y4 _ _ e2
        replace e3 := y4 _ _ e3
        clear y4
        generalize upd B3 p4 (.tup [.str "e", .int 0]) = B4 at li e1 e2 e3 e4
        refine ⟨(show 2 ≤ sizeLine by decide), fun p5 hp5 => ?_⟩
        have y5 := same_new (o := .tup [.str "e", .int 5]) (Same.refl B4) hp5
        have e5 : (upd B4 p5 (.tup [.str "e", .int 5])) p5 = some (.tup [.str "e", .int 5]) := upd_same
        replace li := li.same y5
        replace e1 := y5 _ _ e1
        replace e2 := y5 _ _ e2
        replace e3 := y5 _ _ e3
        replace e4 := y5 _ _ e4
        clear y5
        generalize upd B4 p5 (.tup [.str "e", .int 5]) = B5 at li e1 e2 e3 e4 e5
        refine ⟨(show 5 ≤ sizeLine by decide), fun L hL => go_name rfl ?_⟩
        have y6 := same_new (o := .lst [.ref p1, .ref p2, .ref p3, .ref p4, .ref p5]) (Same.refl B5) hL
        have eL : (upd B5 L (.lst [.ref p1, .ref p2, .ref p3, .ref p4, .ref p5])) L = some (.lst [.ref p1, .ref p2, .ref p3, .ref p4, .ref p5]) := upd_same
        replace li := li.same y6
        replace e1 := y6 _ _ e1
        replace e2 := y6 _ _ e2
        replace e3 := y6 _ _ e3
        replace e4 := y6 _ _ e4
        replace e5 := y6 _ _ e5
        clear y6
        generalize upd B5 L (.lst [.ref p1, .ref p2, .ref p3, .ref p4, .ref p5]) = B6 at li e1 e2 e3 e4 e5 eL
        have at_ : ∀ (i : Nat) y, ([.ref p1, .ref p2, .ref p3, .ref p4, .ref p5] : List V)[i]? = some y → ∃ q t n, y = .ref q ∧ B6 q = some (.tup [.str t, .int n]) ∧ okZ (t, n) = false ∧ t.length ≤ 1000 := fun i y hy => by
          match i, hy with
          | 0, hy => cases hy; exact ⟨_, _, _, rfl, e1, by decide +kernel, by decide +kernel⟩
          | 1, hy => cases hy; exact ⟨_, _, _, rfl, e2, by decide +kernel, by decide +kernel⟩
          | 2, hy => cases hy; exact ⟨_, _, _, rfl, e3, by decide +kernel, by decide +kernel⟩
          | 3, hy => cases hy; exact ⟨_, _, _, rfl, e4, by decide +kernel, by decide +kernel⟩
          | 4, hy => cases hy; exact ⟨_, _, _, rfl, e5, by decide +kernel, by decide +kernel⟩
        have tg6 := li.tg
        clear e1 e2 e3 e4 e5
        refine ⟨_, rfl, L, rfl, ⟨_, SqL.of eL⟩, fun D hD => ?_⟩
        have nDL : L ≠ D := ne_of_none eL hD
        have nDq : ∀ (q : Addr) ys, B6 q = some (.tup ys) → q ≠ D := fun q ys e => ne_of_none e hD
        refine lc_list (K := K) (xs := ([.ref p1, .ref p2, .ref p3, .ref p4, .ref p5] : List V)) (fun i H' => FrX D B6 H' ∧ TabG H' PP ∧ H' D = some (.lst ((List.range i).map fun _ => V.bl true)))
          ⟨.set, ?_, upd_same⟩ (fun i H' _ ⟨f', _⟩ => SqL.of (f'.keep _ _ nDL eL (fun _ z => nomatch z))) (fun i y H' hy ⟨f', tg', e'⟩ => ?_) (fun H2 ⟨f2, _, e2⟩ => ?_)
        · obtain ⟨qs, e, t⟩ := tg6
          exact ⟨qs, by rw [upd_ne (fun z => by rw [z, hD] at e; cases e)]; exact e, t⟩
        · obtain ⟨q, t, n, rfl, eq, bz, tl⟩ := at_ i y hy
          have eq' := f'.keep _ _ (nDq q _ eq) eq (fun _ z => nomatch z)
          refine ⟨rfl, yes_then (iteT ⟨_, rfl, _, rfl, q, _, _, .str t, rfl, rfl, SqT.of eq', at_of (j := 0) rfl rfl, Nat.zero_le _, fun p hp => ?_⟩)⟩
          have y1 := same_new (o := .tup []) (Same.refl H') hp
          have e1 := y1 _ _ eq'
          have e2 := y1 _ _ e'
          have tg1 := (FrT.of y1).tabs _ tg'
          have f1 : FrX D B6 (upd H' p (.tup [])) := f'.trans (.of (.of y1))
          generalize upd H' p (.tup []) = H3 at e1 e2 tg1 f1
          refine ⟨_, rfl, q, _, _, .int n, rfl, rfl, SqT.of e1, at_of (j := 1) rfl rfl, .ref f, 5, t, .ref p, n, rfl, .inr ⟨rfl, bz, tl, tg1, fun H4 fT => ⟨rfl, ?_⟩⟩⟩
          have e4 := fT.lst e2
          rw [show decide (V.str "argument!" = V.str "argument!") = true from decide_eq_true rfl]
          have hi5 : i < 5 := (List.getElem?_eq_some_iff.mp hy).1
          refine ⟨_, e4, by rw [List.length_map, List.length_range]; exact Nat.lt_of_le_of_lt (by omega : i ≤ 1000) (by decide), (f1.trans (.of fT)).trans .set, ?_, ?_⟩
          · obtain ⟨qs, e, t⟩ := fT.tabs _ tg1
            exact ⟨qs, by rw [upd_ne (ne_of e e4 (fun z => nomatch z))]; exact e, t⟩
          · rw [upd_same, List.range_succ, List.map_append]; rfl
        · refine ⟨D, (List.range 5).map fun _ => true, rfl, SqL.of e2, ?_⟩
          exact k _
end
end K01

set_option Elab.async false
set_option linter.all false
set_option maxRecDepth 100000
set_option maxHeartbeats 8000000
namespace K01
open PySem PySem.Spec PyProof.Rows L2 Ew Tb GxR
theorem kit_no {K : PySem.W.Frag} {a b : Addr} (h : PySem.W.subIn K (.ref a) (.ref b) = some false) (hs : PySem.W.subIn K (.ref a) (.ref a) = some true) (hd : PySem.W.hasDictIn K b = true) (ht : PySem.W.typeIn K (.ref b) = some (.type "type")) : PySem.W.kitOne K (.ref a) (.ref b) = some false := by
  by_cases c : a = b
  · subst c
    rw [hs] at h; cases h
  · have hc : (PySem.W.clsIn K b).isSome = true := by
      cases z : PySem.W.clsIn K b with
      | some _ => rfl
      | none => rw [PySem.W.hasDictIn, z] at hd; cases hd
    have e2 : ((PySem.W.clsIn K b).isSome && PySem.W.typeIn K (.ref b) == some (.type "type")) = true := by rw [hc, ht] <;> rfl
    show (if (Value.ref a == Value.ref b) = true then some true else if ((PySem.W.clsIn K b).isSome && PySem.W.typeIn K (.ref b) == some (.type "type")) = true then PySem.W.subIn K (.ref a) (.ref b) else none) = some false
    rw [if_neg (fun z => c (by injection beq_iff_eq.mp z)), if_pos e2, h]
theorem all_mk {l : PySem.W.OpenLaw} {w : World} {K : PySem.W.Frag} {h : Heap} {mg : Str → Option Value} {fa : Addr} (PP_is_name : Addr) (X : K.In h) (G : h.Ns mainGlobals mg) (hfa : mg "law" = some (.ref fa)) (TA_is_name : h.get? PP_is_name = some { cls := .none, data := .fields #[] })
    {C_Facts : Addr}
    {C_WrongState : Addr}
    {C_DuplicateFact : Addr}
    {C_UnknownFact : Addr}
    {C_UnknownTable : Addr}
    {C_InvalidArgument : Addr}
    {C_WorthError : Addr}
    {f_is_integer : Addr} {od_is_integer an_is_integer : Option Addr} {sl_is_integer : Array (Option Value)} {oc_is_integer kV_is_integer dc_is_integer pm_is_integer cd_is_integer ct_is_integer : Value}
    {f_is_between : Addr} {od_is_between an_is_between : Option Addr} {sl_is_between : Array (Option Value)} {oc_is_between kV_is_between dc_is_between pm_is_between cd_is_between ct_is_between : Value}
    {f_is_name cc_is_name : Addr} {od_is_name an_is_name : Option Addr} {sl_is_name : Array (Option Value)} {oc_is_name kV_is_name dc_is_name pm_is_name ct_is_name : Value}
    {f_Facts_init : Addr} {od_Facts_init an_Facts_init : Option Addr} {sl_Facts_init : Array (Option Value)} {oc_Facts_init kV_Facts_init dc_Facts_init pm_Facts_init cd_Facts_init ct_Facts_init : Value}
    {f_Facts_tables : Addr} {od_Facts_tables an_Facts_tables : Option Addr} {sl_Facts_tables : Array (Option Value)} {oc_Facts_tables kV_Facts_tables dc_Facts_tables pm_Facts_tables cd_Facts_tables ct_Facts_tables : Value}
    {f_Facts_arity : Addr} {od_Facts_arity an_Facts_arity : Option Addr} {sl_Facts_arity : Array (Option Value)} {oc_Facts_arity kV_Facts_arity dc_Facts_arity pm_Facts_arity cd_Facts_arity ct_Facts_arity : Value}
    {f_Facts_add : Addr} {od_Facts_add an_Facts_add : Option Addr} {sl_Facts_add : Array (Option Value)} {oc_Facts_add kV_Facts_add dc_Facts_add pm_Facts_add cd_Facts_add ct_Facts_add : Value}
    {f_Facts_give_up : Addr} {od_Facts_give_up an_Facts_give_up : Option Addr} {sl_Facts_give_up : Array (Option Value)} {oc_Facts_give_up kV_Facts_give_up dc_Facts_give_up pm_Facts_give_up cd_Facts_give_up ct_Facts_give_up : Value}
    {f_Facts_bring_back : Addr} {od_Facts_bring_back an_Facts_bring_back : Option Addr} {sl_Facts_bring_back : Array (Option Value)} {oc_Facts_bring_back kV_Facts_bring_back dc_Facts_bring_back pm_Facts_bring_back cd_Facts_bring_back ct_Facts_bring_back : Value}
    {f_Facts_fact : Addr} {od_Facts_fact an_Facts_fact : Option Addr} {sl_Facts_fact : Array (Option Value)} {oc_Facts_fact kV_Facts_fact dc_Facts_fact pm_Facts_fact cd_Facts_fact ct_Facts_fact : Value}
    {f_Facts_is_there : Addr} {od_Facts_is_there an_Facts_is_there : Option Addr} {sl_Facts_is_there : Array (Option Value)} {oc_Facts_is_there kV_Facts_is_there dc_Facts_is_there pm_Facts_is_there cd_Facts_is_there ct_Facts_is_there : Value}
    {f_Facts_find : Addr} {od_Facts_find an_Facts_find : Option Addr} {sl_Facts_find : Array (Option Value)} {oc_Facts_find kV_Facts_find dc_Facts_find pm_Facts_find cd_Facts_find ct_Facts_find : Value}
    {f_Facts_rows : Addr} {od_Facts_rows an_Facts_rows : Option Addr} {sl_Facts_rows : Array (Option Value)} {oc_Facts_rows kV_Facts_rows dc_Facts_rows pm_Facts_rows cd_Facts_rows ct_Facts_rows : Value}
    {f_Facts_count : Addr} {od_Facts_count an_Facts_count : Option Addr} {sl_Facts_count : Array (Option Value)} {oc_Facts_count kV_Facts_count dc_Facts_count pm_Facts_count cd_Facts_count ct_Facts_count : Value}
    {f_Facts_copy : Addr} {od_Facts_copy an_Facts_copy : Option Addr} {sl_Facts_copy : Array (Option Value)} {oc_Facts_copy kV_Facts_copy dc_Facts_copy pm_Facts_copy cd_Facts_copy ct_Facts_copy : Value}
    {f_Facts_need_table : Addr} {od_Facts_need_table an_Facts_need_table : Option Addr} {sl_Facts_need_table : Array (Option Value)} {oc_Facts_need_table kV_Facts_need_table dc_Facts_need_table pm_Facts_need_table cd_Facts_need_table ct_Facts_need_table : Value}
    {f_Facts_need_fact : Addr} {od_Facts_need_fact an_Facts_need_fact : Option Addr} {sl_Facts_need_fact : Array (Option Value)} {oc_Facts_need_fact kV_Facts_need_fact dc_Facts_need_fact pm_Facts_need_fact cd_Facts_need_fact ct_Facts_need_fact : Value}
    {f_checked : Addr} {od_checked an_checked : Option Addr} {sl_checked : Array (Option Value)} {oc_checked kV_checked dc_checked pm_checked cd_checked ct_checked : Value}
    {f_law_pot : Addr} {od_law_pot an_law_pot : Option Addr} {sl_law_pot : Array (Option Value)} {oc_law_pot kV_law_pot dc_law_pot pm_law_pot cd_law_pot ct_law_pot : Value}
    {f_law_next : Addr} {od_law_next an_law_next : Option Addr} {sl_law_next : Array (Option Value)} {oc_law_next kV_law_next dc_law_next pm_law_next cd_law_next ct_law_next : Value}
    {f_law_is_int : Addr} {od_law_is_int an_law_is_int : Option Addr} {sl_law_is_int : Array (Option Value)} {oc_law_is_int kV_law_is_int dc_law_is_int pm_law_is_int cd_law_is_int ct_law_is_int : Value}
    {f_law_same : Addr} {od_law_same an_law_same : Option Addr} {sl_law_same : Array (Option Value)} {oc_law_same kV_law_same dc_law_same pm_law_same cd_law_same ct_law_same : Value}
    {f_law_do : Addr} {od_law_do an_law_do : Option Addr} {sl_law_do : Array (Option Value)} {oc_law_do kV_law_do dc_law_do pm_law_do cd_law_do ct_law_do : Value}
    {f_law_due : Addr} {od_law_due an_law_due : Option Addr} {sl_law_due : Array (Option Value)} {oc_law_due kV_law_due dc_law_due pm_law_due cd_law_due ct_law_due : Value}
    {f_law_right : Addr} {od_law_right an_law_right : Option Addr} {sl_law_right : Array (Option Value)} {oc_law_right kV_law_right dc_law_right pm_law_right cd_law_right ct_law_right : Value}
    {f_law : Addr} {od_law an_law : Option Addr} {sl_law : Array (Option Value)} {oc_law kV_law dc_law pm_law cd_law ct_law : Value}
    {tk_LONGEST_NAME : Tok}
    {tk_LARGEST_ARITY : Tok}
    (aC_WorthError : PySem.W.nsIn K mainGlobals "WorthError" = some (some (.ref C_WorthError)))
    (aC_InvalidArgument : PySem.W.nsIn K mainGlobals "InvalidArgument" = some (some (.ref C_InvalidArgument)))
    (aC_UnknownTable : PySem.W.nsIn K mainGlobals "UnknownTable" = some (some (.ref C_UnknownTable)))
    (aC_UnknownFact : PySem.W.nsIn K mainGlobals "UnknownFact" = some (some (.ref C_UnknownFact)))
    (aC_DuplicateFact : PySem.W.nsIn K mainGlobals "DuplicateFact" = some (some (.ref C_DuplicateFact)))
    (aC_WrongState : PySem.W.nsIn K mainGlobals "WrongState" = some (some (.ref C_WrongState)))
    (aC_Facts : PySem.W.nsIn K mainGlobals "Facts" = some (some (.ref C_Facts)))
    (a_is_integer : PySem.W.nsIn K mainGlobals "is_integer" = some (some (.ref f_is_integer)))
    (l_is_integer : K.lookup f_is_integer = some ⟨oc_is_integer, od_is_integer, .func (PySem.W.fnOf "is_integer" "is_integer" (defArgs s_is_integer) (defBody s_is_integer) (defScope s_is_integer) .none kV_is_integer dc_is_integer pm_is_integer an_is_integer cd_is_integer ct_is_integer), sl_is_integer⟩)
    (c_is_integer : PySem.W.codeIn K cd_is_integer "is_integer" = true)
    (k_is_integer : PySem.W.keepIn K (.ref f_is_integer) = true)
    (a_is_between : PySem.W.nsIn K mainGlobals "is_between" = some (some (.ref f_is_between)))
    (l_is_between : K.lookup f_is_between = some ⟨oc_is_between, od_is_between, .func (PySem.W.fnOf "is_between" "is_between" (defArgs s_is_between) (defBody s_is_between) (defScope s_is_between) .none kV_is_between dc_is_between pm_is_between an_is_between cd_is_between ct_is_between), sl_is_between⟩)
    (c_is_between : PySem.W.codeIn K cd_is_between "is_between" = true)
    (k_is_between : PySem.W.keepIn K (.ref f_is_between) = true)
    (a_is_name : PySem.W.nsIn K mainGlobals "is_name" = some (some (.ref f_is_name)))
    (l_is_name : K.lookup f_is_name = some ⟨oc_is_name, od_is_name, .func (PySem.W.fnOf "is_name" "is_name" (defArgs s_is_name) (defBody s_is_name) (defScope s_is_name) .none kV_is_name dc_is_name pm_is_name an_is_name (.ref cc_is_name) ct_is_name), sl_is_name⟩)
    (c_is_name : PySem.W.codeIn K (.ref cc_is_name) "is_name" = true)
    (k_is_name : PySem.W.keepIn K (.ref f_is_name) = true)
    (a_Facts_init : PySem.W.findIn K (.ref C_Facts) "__init__" = some (some (.ref f_Facts_init)))
    (i_Facts_init : PySem.W.isFn K (.ref f_Facts_init) = true)
    (l_Facts_init : K.lookup f_Facts_init = some ⟨oc_Facts_init, od_Facts_init, .func (PySem.W.fnOf "__init__" "Facts.__init__" (defArgs s_Facts_init) (defBody s_Facts_init) (defScope s_Facts_init) .none kV_Facts_init dc_Facts_init pm_Facts_init an_Facts_init cd_Facts_init ct_Facts_init), sl_Facts_init⟩)
    (c_Facts_init : PySem.W.codeIn K cd_Facts_init "Facts.__init__" = true)
    (k_Facts_init : PySem.W.keepIn K (.ref f_Facts_init) = true)
    (a_Facts_tables : PySem.W.findIn K (.ref C_Facts) "tables" = some (some (.ref f_Facts_tables)))
    (i_Facts_tables : PySem.W.isFn K (.ref f_Facts_tables) = true)
    (l_Facts_tables : K.lookup f_Facts_tables = some ⟨oc_Facts_tables, od_Facts_tables, .func (PySem.W.fnOf "tables" "Facts.tables" (defArgs s_Facts_tables) (defBody s_Facts_tables) (defScope s_Facts_tables) .none kV_Facts_tables dc_Facts_tables pm_Facts_tables an_Facts_tables cd_Facts_tables ct_Facts_tables), sl_Facts_tables⟩)
    (c_Facts_tables : PySem.W.codeIn K cd_Facts_tables "Facts.tables" = true)
    (k_Facts_tables : PySem.W.keepIn K (.ref f_Facts_tables) = true)
    (a_Facts_arity : PySem.W.findIn K (.ref C_Facts) "arity" = some (some (.ref f_Facts_arity)))
    (i_Facts_arity : PySem.W.isFn K (.ref f_Facts_arity) = true)
    (l_Facts_arity : K.lookup f_Facts_arity = some ⟨oc_Facts_arity, od_Facts_arity, .func (PySem.W.fnOf "arity" "Facts.arity" (defArgs s_Facts_arity) (defBody s_Facts_arity) (defScope s_Facts_arity) .none kV_Facts_arity dc_Facts_arity pm_Facts_arity an_Facts_arity cd_Facts_arity ct_Facts_arity), sl_Facts_arity⟩)
    (c_Facts_arity : PySem.W.codeIn K cd_Facts_arity "Facts.arity" = true)
    (k_Facts_arity : PySem.W.keepIn K (.ref f_Facts_arity) = true)
    (a_Facts_add : PySem.W.findIn K (.ref C_Facts) "add" = some (some (.ref f_Facts_add)))
    (i_Facts_add : PySem.W.isFn K (.ref f_Facts_add) = true)
    (l_Facts_add : K.lookup f_Facts_add = some ⟨oc_Facts_add, od_Facts_add, .func (PySem.W.fnOf "add" "Facts.add" (defArgs s_Facts_add) (defBody s_Facts_add) (defScope s_Facts_add) .none kV_Facts_add dc_Facts_add pm_Facts_add an_Facts_add cd_Facts_add ct_Facts_add), sl_Facts_add⟩)
    (c_Facts_add : PySem.W.codeIn K cd_Facts_add "Facts.add" = true)
    (k_Facts_add : PySem.W.keepIn K (.ref f_Facts_add) = true)
    (a_Facts_give_up : PySem.W.findIn K (.ref C_Facts) "give_up" = some (some (.ref f_Facts_give_up)))
    (i_Facts_give_up : PySem.W.isFn K (.ref f_Facts_give_up) = true)
    (l_Facts_give_up : K.lookup f_Facts_give_up = some ⟨oc_Facts_give_up, od_Facts_give_up, .func (PySem.W.fnOf "give_up" "Facts.give_up" (defArgs s_Facts_give_up) (defBody s_Facts_give_up) (defScope s_Facts_give_up) .none kV_Facts_give_up dc_Facts_give_up pm_Facts_give_up an_Facts_give_up cd_Facts_give_up ct_Facts_give_up), sl_Facts_give_up⟩)
    (c_Facts_give_up : PySem.W.codeIn K cd_Facts_give_up "Facts.give_up" = true)
    (k_Facts_give_up : PySem.W.keepIn K (.ref f_Facts_give_up) = true)
    (a_Facts_bring_back : PySem.W.findIn K (.ref C_Facts) "bring_back" = some (some (.ref f_Facts_bring_back)))
    (i_Facts_bring_back : PySem.W.isFn K (.ref f_Facts_bring_back) = true)
    (l_Facts_bring_back : K.lookup f_Facts_bring_back = some ⟨oc_Facts_bring_back, od_Facts_bring_back, .func (PySem.W.fnOf "bring_back" "Facts.bring_back" (defArgs s_Facts_bring_back) (defBody s_Facts_bring_back) (defScope s_Facts_bring_back) .none kV_Facts_bring_back dc_Facts_bring_back pm_Facts_bring_back an_Facts_bring_back cd_Facts_bring_back ct_Facts_bring_back), sl_Facts_bring_back⟩)
    (c_Facts_bring_back : PySem.W.codeIn K cd_Facts_bring_back "Facts.bring_back" = true)
    (k_Facts_bring_back : PySem.W.keepIn K (.ref f_Facts_bring_back) = true)
    (a_Facts_fact : PySem.W.findIn K (.ref C_Facts) "fact" = some (some (.ref f_Facts_fact)))
    (i_Facts_fact : PySem.W.isFn K (.ref f_Facts_fact) = true)
    (l_Facts_fact : K.lookup f_Facts_fact = some ⟨oc_Facts_fact, od_Facts_fact, .func (PySem.W.fnOf "fact" "Facts.fact" (defArgs s_Facts_fact) (defBody s_Facts_fact) (defScope s_Facts_fact) .none kV_Facts_fact dc_Facts_fact pm_Facts_fact an_Facts_fact cd_Facts_fact ct_Facts_fact), sl_Facts_fact⟩)
    (c_Facts_fact : PySem.W.codeIn K cd_Facts_fact "Facts.fact" = true)
    (k_Facts_fact : PySem.W.keepIn K (.ref f_Facts_fact) = true)
    (a_Facts_is_there : PySem.W.findIn K (.ref C_Facts) "is_there" = some (some (.ref f_Facts_is_there)))
    (i_Facts_is_there : PySem.W.isFn K (.ref f_Facts_is_there) = true)
    (l_Facts_is_there : K.lookup f_Facts_is_there = some ⟨oc_Facts_is_there, od_Facts_is_there, .func (PySem.W.fnOf "is_there" "Facts.is_there" (defArgs s_Facts_is_there) (defBody s_Facts_is_there) (defScope s_Facts_is_there) .none kV_Facts_is_there dc_Facts_is_there pm_Facts_is_there an_Facts_is_there cd_Facts_is_there ct_Facts_is_there), sl_Facts_is_there⟩)
    (c_Facts_is_there : PySem.W.codeIn K cd_Facts_is_there "Facts.is_there" = true)
    (k_Facts_is_there : PySem.W.keepIn K (.ref f_Facts_is_there) = true)
    (a_Facts_find : PySem.W.findIn K (.ref C_Facts) "find" = some (some (.ref f_Facts_find)))
    (i_Facts_find : PySem.W.isFn K (.ref f_Facts_find) = true)
    (l_Facts_find : K.lookup f_Facts_find = some ⟨oc_Facts_find, od_Facts_find, .func (PySem.W.fnOf "find" "Facts.find" (defArgs s_Facts_find) (defBody s_Facts_find) (defScope s_Facts_find) .none kV_Facts_find dc_Facts_find pm_Facts_find an_Facts_find cd_Facts_find ct_Facts_find), sl_Facts_find⟩)
    (c_Facts_find : PySem.W.codeIn K cd_Facts_find "Facts.find" = true)
    (k_Facts_find : PySem.W.keepIn K (.ref f_Facts_find) = true)
    (a_Facts_rows : PySem.W.findIn K (.ref C_Facts) "rows" = some (some (.ref f_Facts_rows)))
    (i_Facts_rows : PySem.W.isFn K (.ref f_Facts_rows) = true)
    (l_Facts_rows : K.lookup f_Facts_rows = some ⟨oc_Facts_rows, od_Facts_rows, .func (PySem.W.fnOf "rows" "Facts.rows" (defArgs s_Facts_rows) (defBody s_Facts_rows) (defScope s_Facts_rows) .none kV_Facts_rows dc_Facts_rows pm_Facts_rows an_Facts_rows cd_Facts_rows ct_Facts_rows), sl_Facts_rows⟩)
    (c_Facts_rows : PySem.W.codeIn K cd_Facts_rows "Facts.rows" = true)
    (k_Facts_rows : PySem.W.keepIn K (.ref f_Facts_rows) = true)
    (a_Facts_count : PySem.W.findIn K (.ref C_Facts) "count" = some (some (.ref f_Facts_count)))
    (i_Facts_count : PySem.W.isFn K (.ref f_Facts_count) = true)
    (l_Facts_count : K.lookup f_Facts_count = some ⟨oc_Facts_count, od_Facts_count, .func (PySem.W.fnOf "count" "Facts.count" (defArgs s_Facts_count) (defBody s_Facts_count) (defScope s_Facts_count) .none kV_Facts_count dc_Facts_count pm_Facts_count an_Facts_count cd_Facts_count ct_Facts_count), sl_Facts_count⟩)
    (c_Facts_count : PySem.W.codeIn K cd_Facts_count "Facts.count" = true)
    (k_Facts_count : PySem.W.keepIn K (.ref f_Facts_count) = true)
    (a_Facts_copy : PySem.W.findIn K (.ref C_Facts) "copy" = some (some (.ref f_Facts_copy)))
    (i_Facts_copy : PySem.W.isFn K (.ref f_Facts_copy) = true)
    (l_Facts_copy : K.lookup f_Facts_copy = some ⟨oc_Facts_copy, od_Facts_copy, .func (PySem.W.fnOf "copy" "Facts.copy" (defArgs s_Facts_copy) (defBody s_Facts_copy) (defScope s_Facts_copy) .none kV_Facts_copy dc_Facts_copy pm_Facts_copy an_Facts_copy cd_Facts_copy ct_Facts_copy), sl_Facts_copy⟩)
    (c_Facts_copy : PySem.W.codeIn K cd_Facts_copy "Facts.copy" = true)
    (k_Facts_copy : PySem.W.keepIn K (.ref f_Facts_copy) = true)
    (a_Facts_need_table : PySem.W.findIn K (.ref C_Facts) "_need_table" = some (some (.ref f_Facts_need_table)))
    (i_Facts_need_table : PySem.W.isFn K (.ref f_Facts_need_table) = true)
    (l_Facts_need_table : K.lookup f_Facts_need_table = some ⟨oc_Facts_need_table, od_Facts_need_table, .func (PySem.W.fnOf "_need_table" "Facts._need_table" (defArgs s_Facts_need_table) (defBody s_Facts_need_table) (defScope s_Facts_need_table) .none kV_Facts_need_table dc_Facts_need_table pm_Facts_need_table an_Facts_need_table cd_Facts_need_table ct_Facts_need_table), sl_Facts_need_table⟩)
    (c_Facts_need_table : PySem.W.codeIn K cd_Facts_need_table "Facts._need_table" = true)
    (k_Facts_need_table : PySem.W.keepIn K (.ref f_Facts_need_table) = true)
    (a_Facts_need_fact : PySem.W.findIn K (.ref C_Facts) "_need_fact" = some (some (.ref f_Facts_need_fact)))
    (i_Facts_need_fact : PySem.W.isFn K (.ref f_Facts_need_fact) = true)
    (l_Facts_need_fact : K.lookup f_Facts_need_fact = some ⟨oc_Facts_need_fact, od_Facts_need_fact, .func (PySem.W.fnOf "_need_fact" "Facts._need_fact" (defArgs s_Facts_need_fact) (defBody s_Facts_need_fact) (defScope s_Facts_need_fact) .none kV_Facts_need_fact dc_Facts_need_fact pm_Facts_need_fact an_Facts_need_fact cd_Facts_need_fact ct_Facts_need_fact), sl_Facts_need_fact⟩)
    (c_Facts_need_fact : PySem.W.codeIn K cd_Facts_need_fact "Facts._need_fact" = true)
    (k_Facts_need_fact : PySem.W.keepIn K (.ref f_Facts_need_fact) = true)
    (a_checked : PySem.W.nsIn K mainGlobals "_checked" = some (some (.ref f_checked)))
    (l_checked : K.lookup f_checked = some ⟨oc_checked, od_checked, .func (PySem.W.fnOf "_checked" "_checked" (defArgs s_checked) (defBody s_checked) (defScope s_checked) .none kV_checked dc_checked pm_checked an_checked cd_checked ct_checked), sl_checked⟩)
    (c_checked : PySem.W.codeIn K cd_checked "_checked" = true)
    (k_checked : PySem.W.keepIn K (.ref f_checked) = true)
    (a_law_pot : PySem.W.nsIn K mainGlobals "_law_pot" = some (some (.ref f_law_pot)))
    (l_law_pot : K.lookup f_law_pot = some ⟨oc_law_pot, od_law_pot, .func (PySem.W.fnOf "_law_pot" "_law_pot" (defArgs s_law_pot) (defBody s_law_pot) (defScope s_law_pot) .none kV_law_pot dc_law_pot pm_law_pot an_law_pot cd_law_pot ct_law_pot), sl_law_pot⟩)
    (c_law_pot : PySem.W.codeIn K cd_law_pot "_law_pot" = true)
    (k_law_pot : PySem.W.keepIn K (.ref f_law_pot) = true)
    (a_law_next : PySem.W.nsIn K mainGlobals "_law_next" = some (some (.ref f_law_next)))
    (l_law_next : K.lookup f_law_next = some ⟨oc_law_next, od_law_next, .func (PySem.W.fnOf "_law_next" "_law_next" (defArgs s_law_next) (defBody s_law_next) (defScope s_law_next) .none kV_law_next dc_law_next pm_law_next an_law_next cd_law_next ct_law_next), sl_law_next⟩)
    (c_law_next : PySem.W.codeIn K cd_law_next "_law_next" = true)
    (k_law_next : PySem.W.keepIn K (.ref f_law_next) = true)
    (a_law_is_int : PySem.W.nsIn K mainGlobals "_law_is_int" = some (some (.ref f_law_is_int)))
    (l_law_is_int : K.lookup f_law_is_int = some ⟨oc_law_is_int, od_law_is_int, .func (PySem.W.fnOf "_law_is_int" "_law_is_int" (defArgs s_law_is_int) (defBody s_law_is_int) (defScope s_law_is_int) .none kV_law_is_int dc_law_is_int pm_law_is_int an_law_is_int cd_law_is_int ct_law_is_int), sl_law_is_int⟩)
    (c_law_is_int : PySem.W.codeIn K cd_law_is_int "_law_is_int" = true)
    (k_law_is_int : PySem.W.keepIn K (.ref f_law_is_int) = true)
    (a_law_same : PySem.W.nsIn K mainGlobals "_law_same" = some (some (.ref f_law_same)))
    (l_law_same : K.lookup f_law_same = some ⟨oc_law_same, od_law_same, .func (PySem.W.fnOf "_law_same" "_law_same" (defArgs s_law_same) (defBody s_law_same) (defScope s_law_same) .none kV_law_same dc_law_same pm_law_same an_law_same cd_law_same ct_law_same), sl_law_same⟩)
    (c_law_same : PySem.W.codeIn K cd_law_same "_law_same" = true)
    (k_law_same : PySem.W.keepIn K (.ref f_law_same) = true)
    (a_law_do : PySem.W.nsIn K mainGlobals "_law_do" = some (some (.ref f_law_do)))
    (l_law_do : K.lookup f_law_do = some ⟨oc_law_do, od_law_do, .func (PySem.W.fnOf "_law_do" "_law_do" (defArgs s_law_do) (defBody s_law_do) (defScope s_law_do) .none kV_law_do dc_law_do pm_law_do an_law_do cd_law_do ct_law_do), sl_law_do⟩)
    (c_law_do : PySem.W.codeIn K cd_law_do "_law_do" = true)
    (k_law_do : PySem.W.keepIn K (.ref f_law_do) = true)
    (a_law_due : PySem.W.nsIn K mainGlobals "_law_due" = some (some (.ref f_law_due)))
    (l_law_due : K.lookup f_law_due = some ⟨oc_law_due, od_law_due, .func (PySem.W.fnOf "_law_due" "_law_due" (defArgs s_law_due) (defBody s_law_due) (defScope s_law_due) .none kV_law_due dc_law_due pm_law_due an_law_due cd_law_due ct_law_due), sl_law_due⟩)
    (c_law_due : PySem.W.codeIn K cd_law_due "_law_due" = true)
    (k_law_due : PySem.W.keepIn K (.ref f_law_due) = true)
    (a_law_right : PySem.W.nsIn K mainGlobals "_law_right" = some (some (.ref f_law_right)))
    (l_law_right : K.lookup f_law_right = some ⟨oc_law_right, od_law_right, .func (PySem.W.fnOf "_law_right" "_law_right" (defArgs s_law_right) (defBody s_law_right) (defScope s_law_right) .none kV_law_right dc_law_right pm_law_right an_law_right cd_law_right ct_law_right), sl_law_right⟩)
    (c_law_right : PySem.W.codeIn K cd_law_right "_law_right" = true)
    (k_law_right : PySem.W.keepIn K (.ref f_law_right) = true)
    (a_law : PySem.W.nsIn K mainGlobals "law" = some (some (.ref f_law)))
    (l_law : K.lookup f_law = some ⟨oc_law, od_law, .func (PySem.W.fnOf "law" "law" (defArgs s_law) (defBody s_law) (defScope s_law) .none kV_law dc_law pm_law an_law cd_law ct_law), sl_law⟩)
    (c_law : PySem.W.codeIn K cd_law "law" = true)
    (k_law : PySem.W.keepIn K (.ref f_law) = true)
    (x_WorthError : PySem.W.excIn K C_WorthError [.type "ValueError", .type "Exception", .type "BaseException", .type "object"] "ValueError.__new__" = true)
    (kp_WorthError : PySem.W.keepIn K (.ref C_WorthError) = true)
    (b_WorthError : PySem.W.subIn K (.ref C_WorthError) (.type "BaseException") = some true)
    (t_WorthError : PySem.W.typeIn K (.ref C_WorthError) = some (.type "type"))
    (hd_WorthError : PySem.W.hasDictIn K C_WorthError = true)
    (ga_WorthError : PySem.W.findIn K (.ref C_WorthError) "__getattribute__" = some (some (.builtin "BaseException.__getattribute__")))
    (gg_WorthError : PySem.W.findIn K (.ref C_WorthError) "__getattr__" = some none)
    (cc_WorthError : PySem.W.findIn K (.ref C_WorthError) "__class__" = some (some (.builtin "object.__class__")))
    (mo_WorthError : PySem.W.mroIn K C_WorthError (.type "object") = some true)
    (x_InvalidArgument : PySem.W.excIn K C_InvalidArgument [.type "ValueError", .type "Exception", .type "BaseException", .type "object"] "ValueError.__new__" = true)
    (kp_InvalidArgument : PySem.W.keepIn K (.ref C_InvalidArgument) = true)
    (b_InvalidArgument : PySem.W.subIn K (.ref C_InvalidArgument) (.type "BaseException") = some true)
    (t_InvalidArgument : PySem.W.typeIn K (.ref C_InvalidArgument) = some (.type "type"))
    (hd_InvalidArgument : PySem.W.hasDictIn K C_InvalidArgument = true)
    (ga_InvalidArgument : PySem.W.findIn K (.ref C_InvalidArgument) "__getattribute__" = some (some (.builtin "BaseException.__getattribute__")))
    (gg_InvalidArgument : PySem.W.findIn K (.ref C_InvalidArgument) "__getattr__" = some none)
    (cc_InvalidArgument : PySem.W.findIn K (.ref C_InvalidArgument) "__class__" = some (some (.builtin "object.__class__")))
    (mo_InvalidArgument : PySem.W.mroIn K C_InvalidArgument (.type "object") = some true)
    (s_InvalidArgument_WorthError : PySem.W.subIn K (.ref C_InvalidArgument) (.ref C_WorthError) = some true)
    (x_UnknownTable : PySem.W.excIn K C_UnknownTable [.type "ValueError", .type "Exception", .type "BaseException", .type "object"] "ValueError.__new__" = true)
    (kp_UnknownTable : PySem.W.keepIn K (.ref C_UnknownTable) = true)
    (b_UnknownTable : PySem.W.subIn K (.ref C_UnknownTable) (.type "BaseException") = some true)
    (t_UnknownTable : PySem.W.typeIn K (.ref C_UnknownTable) = some (.type "type"))
    (hd_UnknownTable : PySem.W.hasDictIn K C_UnknownTable = true)
    (ga_UnknownTable : PySem.W.findIn K (.ref C_UnknownTable) "__getattribute__" = some (some (.builtin "BaseException.__getattribute__")))
    (gg_UnknownTable : PySem.W.findIn K (.ref C_UnknownTable) "__getattr__" = some none)
    (cc_UnknownTable : PySem.W.findIn K (.ref C_UnknownTable) "__class__" = some (some (.builtin "object.__class__")))
    (mo_UnknownTable : PySem.W.mroIn K C_UnknownTable (.type "object") = some true)
    (s_UnknownTable_WorthError : PySem.W.subIn K (.ref C_UnknownTable) (.ref C_WorthError) = some true)
    (x_UnknownFact : PySem.W.excIn K C_UnknownFact [.type "ValueError", .type "Exception", .type "BaseException", .type "object"] "ValueError.__new__" = true)
    (kp_UnknownFact : PySem.W.keepIn K (.ref C_UnknownFact) = true)
    (b_UnknownFact : PySem.W.subIn K (.ref C_UnknownFact) (.type "BaseException") = some true)
    (t_UnknownFact : PySem.W.typeIn K (.ref C_UnknownFact) = some (.type "type"))
    (hd_UnknownFact : PySem.W.hasDictIn K C_UnknownFact = true)
    (ga_UnknownFact : PySem.W.findIn K (.ref C_UnknownFact) "__getattribute__" = some (some (.builtin "BaseException.__getattribute__")))
    (gg_UnknownFact : PySem.W.findIn K (.ref C_UnknownFact) "__getattr__" = some none)
    (cc_UnknownFact : PySem.W.findIn K (.ref C_UnknownFact) "__class__" = some (some (.builtin "object.__class__")))
    (mo_UnknownFact : PySem.W.mroIn K C_UnknownFact (.type "object") = some true)
    (s_UnknownFact_WorthError : PySem.W.subIn K (.ref C_UnknownFact) (.ref C_WorthError) = some true)
    (x_DuplicateFact : PySem.W.excIn K C_DuplicateFact [.type "ValueError", .type "Exception", .type "BaseException", .type "object"] "ValueError.__new__" = true)
    (kp_DuplicateFact : PySem.W.keepIn K (.ref C_DuplicateFact) = true)
    (b_DuplicateFact : PySem.W.subIn K (.ref C_DuplicateFact) (.type "BaseException") = some true)
    (t_DuplicateFact : PySem.W.typeIn K (.ref C_DuplicateFact) = some (.type "type"))
    (hd_DuplicateFact : PySem.W.hasDictIn K C_DuplicateFact = true)
    (ga_DuplicateFact : PySem.W.findIn K (.ref C_DuplicateFact) "__getattribute__" = some (some (.builtin "BaseException.__getattribute__")))
    (gg_DuplicateFact : PySem.W.findIn K (.ref C_DuplicateFact) "__getattr__" = some none)
    (cc_DuplicateFact : PySem.W.findIn K (.ref C_DuplicateFact) "__class__" = some (some (.builtin "object.__class__")))
    (mo_DuplicateFact : PySem.W.mroIn K C_DuplicateFact (.type "object") = some true)
    (s_DuplicateFact_WorthError : PySem.W.subIn K (.ref C_DuplicateFact) (.ref C_WorthError) = some true)
    (x_WrongState : PySem.W.excIn K C_WrongState [.type "ValueError", .type "Exception", .type "BaseException", .type "object"] "ValueError.__new__" = true)
    (kp_WrongState : PySem.W.keepIn K (.ref C_WrongState) = true)
    (b_WrongState : PySem.W.subIn K (.ref C_WrongState) (.type "BaseException") = some true)
    (t_WrongState : PySem.W.typeIn K (.ref C_WrongState) = some (.type "type"))
    (hd_WrongState : PySem.W.hasDictIn K C_WrongState = true)
    (ga_WrongState : PySem.W.findIn K (.ref C_WrongState) "__getattribute__" = some (some (.builtin "BaseException.__getattribute__")))
    (gg_WrongState : PySem.W.findIn K (.ref C_WrongState) "__getattr__" = some none)
    (cc_WrongState : PySem.W.findIn K (.ref C_WrongState) "__class__" = some (some (.builtin "object.__class__")))
    (mo_WrongState : PySem.W.mroIn K C_WrongState (.type "object") = some true)
    (s_WrongState_WorthError : PySem.W.subIn K (.ref C_WrongState) (.ref C_WorthError) = some true)
    (pg_Facts : PySem.W.plainGet K C_Facts Str.empty = true)
    (hd_Facts : PySem.W.hasDictIn K C_Facts = true)
    (po_Facts : PySem.W.plainOver K C_Facts = true)
    (sa_Facts : PySem.W.findIn K (.ref C_Facts) "__setattr__" = some (some (.builtin "object.__setattr__")))
    (mk_Facts : PySem.W.makesIn K C_Facts = true)
    (kc_Facts : PySem.W.keepIn K (.ref C_Facts) = true)
    (sn_InvalidArgument_UnknownTable : PySem.W.subIn K (.ref C_InvalidArgument) (.ref C_UnknownTable) = some false)
    (sn_InvalidArgument_UnknownFact : PySem.W.subIn K (.ref C_InvalidArgument) (.ref C_UnknownFact) = some false)
    (sn_InvalidArgument_DuplicateFact : PySem.W.subIn K (.ref C_InvalidArgument) (.ref C_DuplicateFact) = some false)
    (sn_InvalidArgument_WrongState : PySem.W.subIn K (.ref C_InvalidArgument) (.ref C_WrongState) = some false)
    (sn_UnknownTable_InvalidArgument : PySem.W.subIn K (.ref C_UnknownTable) (.ref C_InvalidArgument) = some false)
    (sn_UnknownTable_UnknownFact : PySem.W.subIn K (.ref C_UnknownTable) (.ref C_UnknownFact) = some false)
    (sn_UnknownTable_DuplicateFact : PySem.W.subIn K (.ref C_UnknownTable) (.ref C_DuplicateFact) = some false)
    (sn_UnknownTable_WrongState : PySem.W.subIn K (.ref C_UnknownTable) (.ref C_WrongState) = some false)
    (sn_UnknownFact_InvalidArgument : PySem.W.subIn K (.ref C_UnknownFact) (.ref C_InvalidArgument) = some false)
    (sn_UnknownFact_UnknownTable : PySem.W.subIn K (.ref C_UnknownFact) (.ref C_UnknownTable) = some false)
    (sn_UnknownFact_DuplicateFact : PySem.W.subIn K (.ref C_UnknownFact) (.ref C_DuplicateFact) = some false)
    (sn_UnknownFact_WrongState : PySem.W.subIn K (.ref C_UnknownFact) (.ref C_WrongState) = some false)
    (sn_DuplicateFact_InvalidArgument : PySem.W.subIn K (.ref C_DuplicateFact) (.ref C_InvalidArgument) = some false)
    (sn_DuplicateFact_UnknownTable : PySem.W.subIn K (.ref C_DuplicateFact) (.ref C_UnknownTable) = some false)
    (sn_DuplicateFact_UnknownFact : PySem.W.subIn K (.ref C_DuplicateFact) (.ref C_UnknownFact) = some false)
    (sn_DuplicateFact_WrongState : PySem.W.subIn K (.ref C_DuplicateFact) (.ref C_WrongState) = some false)
    (sn_WrongState_InvalidArgument : PySem.W.subIn K (.ref C_WrongState) (.ref C_InvalidArgument) = some false)
    (sn_WrongState_UnknownTable : PySem.W.subIn K (.ref C_WrongState) (.ref C_UnknownTable) = some false)
    (sn_WrongState_UnknownFact : PySem.W.subIn K (.ref C_WrongState) (.ref C_UnknownFact) = some false)
    (sn_WrongState_DuplicateFact : PySem.W.subIn K (.ref C_WrongState) (.ref C_DuplicateFact) = some false)
    (sf_InvalidArgument : PySem.W.subIn K (.ref C_InvalidArgument) (.ref C_InvalidArgument) = some true)
    (sf_UnknownTable : PySem.W.subIn K (.ref C_UnknownTable) (.ref C_UnknownTable) = some true)
    (sf_UnknownFact : PySem.W.subIn K (.ref C_UnknownFact) (.ref C_UnknownFact) = some true)
    (sf_DuplicateFact : PySem.W.subIn K (.ref C_DuplicateFact) (.ref C_DuplicateFact) = some true)
    (sf_WrongState : PySem.W.subIn K (.ref C_WrongState) (.ref C_WrongState) = some true)
    (spc : PySem.W.specialIn K (.builtin "object.__class__") "__get__" = some (some (.builtin "getset_descriptor.__get__")))
    (tki : PySem.W.takesIn K (.builtin "object.__class__") = some true)
    (n_Facts__arities : PySem.W.findIn K (.ref C_Facts) "_arities" = some none)
    (n_Facts__pairs : PySem.W.findIn K (.ref C_Facts) "_pairs" = some none)
    (n_Facts__states : PySem.W.findIn K (.ref C_Facts) "_states" = some none)
    (n_Facts__numbers : PySem.W.findIn K (.ref C_Facts) "_numbers" = some none)
    (n_Facts__in_table : PySem.W.findIn K (.ref C_Facts) "_in_table" = some none)
    (g_LONGEST_NAME : PySem.W.nsIn K mainGlobals "LONGEST_NAME" = some (some (.int 12 tk_LONGEST_NAME)))
    (g_LARGEST_ARITY : PySem.W.nsIn K mainGlobals "LARGEST_ARITY" = some (some (.int 4 tk_LARGEST_ARITY)))
    (z_isinstance : PySem.W.nsIn K mainGlobals "isinstance" = some none)
    (z_int : PySem.W.nsIn K mainGlobals "int" = some none)
    (z_bool : PySem.W.nsIn K mainGlobals "bool" = some none)
    (z_str : PySem.W.nsIn K mainGlobals "str" = some none)
    (z_list : PySem.W.nsIn K mainGlobals "list" = some none)
    (z_tuple : PySem.W.nsIn K mainGlobals "tuple" = some none)
    (z_min : PySem.W.nsIn K mainGlobals "min" = some none)
    (z_abs : PySem.W.nsIn K mainGlobals "abs" = some none)
    (z_len : PySem.W.nsIn K mainGlobals "len" = some none)
    (z_range : PySem.W.nsIn K mainGlobals "range" = some none)
    (z_all : PySem.W.nsIn K mainGlobals "all" = some none)
    (z_dict : PySem.W.nsIn K mainGlobals "dict" = some none)
    (nt_is_name : K.lookup PP_is_name = none)
    (ch_is_name : PySem.W.codeHdIn K cc_is_name PP_is_name = true)
    : LamX.LawAtS l w K (L2.CX l.prog w) 101 63 "script" mg fa h := by
  have e := hfa.symm.trans (PySem.W.mg_of X G a_law)
  cases e
  have F_is_integer := fun_mk (st := s_is_integer) l_is_integer c_is_integer k_is_integer
  have b_is_integer := F_is_integer.binds (ps := ["thing"]) fun _ _ _ _ _ _ us hl => match us, hl with | [_], _ => rfl
  have F_is_between := fun_mk (st := s_is_between) l_is_between c_is_between k_is_between
  have b_is_between := F_is_between.binds (ps := ["thing", "low", "high"]) fun _ _ _ _ _ _ us hl => match us, hl with | [_, _, _], _ => rfl
  have FC_is_name := Tb.func_mk (st := s_is_name) l_is_name c_is_name k_is_name
  have F_is_name := FC_is_name.fun_
  have b_is_name := F_is_name.binds (ps := ["thing"]) fun _ _ _ _ _ _ us hl => match us, hl with | [_], _ => rfl
  have F_Facts_init := fun_mk (st := s_Facts_init) l_Facts_init c_Facts_init k_Facts_init
  have b_Facts_init := F_Facts_init.binds (ps := ["self", "tables"]) fun _ _ _ _ _ _ us hl => match us, hl with | [_, _], _ => rfl
  have F_Facts_tables := fun_mk (st := s_Facts_tables) l_Facts_tables c_Facts_tables k_Facts_tables
  have b_Facts_tables := F_Facts_tables.binds (ps := ["self"]) fun _ _ _ _ _ _ us hl => match us, hl with | [_], _ => rfl
  have F_Facts_arity := fun_mk (st := s_Facts_arity) l_Facts_arity c_Facts_arity k_Facts_arity
  have b_Facts_arity := F_Facts_arity.binds (ps := ["self", "table"]) fun _ _ _ _ _ _ us hl => match us, hl with | [_, _], _ => rfl
  have F_Facts_add := fun_mk (st := s_Facts_add) l_Facts_add c_Facts_add k_Facts_add
  have b_Facts_add := F_Facts_add.binds (ps := ["self", "table", "row"]) fun _ _ _ _ _ _ us hl => match us, hl with | [_, _, _], _ => rfl
  have F_Facts_give_up := fun_mk (st := s_Facts_give_up) l_Facts_give_up c_Facts_give_up k_Facts_give_up
  have b_Facts_give_up := F_Facts_give_up.binds (ps := ["self", "number"]) fun _ _ _ _ _ _ us hl => match us, hl with | [_, _], _ => rfl
  have F_Facts_bring_back := fun_mk (st := s_Facts_bring_back) l_Facts_bring_back c_Facts_bring_back k_Facts_bring_back
  have b_Facts_bring_back := F_Facts_bring_back.binds (ps := ["self", "number"]) fun _ _ _ _ _ _ us hl => match us, hl with | [_, _], _ => rfl
  have F_Facts_fact := fun_mk (st := s_Facts_fact) l_Facts_fact c_Facts_fact k_Facts_fact
  have b_Facts_fact := F_Facts_fact.binds (ps := ["self", "number"]) fun _ _ _ _ _ _ us hl => match us, hl with | [_, _], _ => rfl
  have F_Facts_is_there := fun_mk (st := s_Facts_is_there) l_Facts_is_there c_Facts_is_there k_Facts_is_there
  have b_Facts_is_there := F_Facts_is_there.binds (ps := ["self", "number"]) fun _ _ _ _ _ _ us hl => match us, hl with | [_, _], _ => rfl
  have F_Facts_find := fun_mk (st := s_Facts_find) l_Facts_find c_Facts_find k_Facts_find
  have b_Facts_find := F_Facts_find.binds (ps := ["self", "table", "row"]) fun _ _ _ _ _ _ us hl => match us, hl with | [_, _, _], _ => rfl
  have F_Facts_rows := fun_mk (st := s_Facts_rows) l_Facts_rows c_Facts_rows k_Facts_rows
  have b_Facts_rows := F_Facts_rows.binds (ps := ["self", "table"]) fun _ _ _ _ _ _ us hl => match us, hl with | [_, _], _ => rfl
  have F_Facts_count := fun_mk (st := s_Facts_count) l_Facts_count c_Facts_count k_Facts_count
  have b_Facts_count := F_Facts_count.binds (ps := ["self"]) fun _ _ _ _ _ _ us hl => match us, hl with | [_], _ => rfl
  have F_Facts_copy := fun_mk (st := s_Facts_copy) l_Facts_copy c_Facts_copy k_Facts_copy
  have b_Facts_copy := F_Facts_copy.binds (ps := ["self"]) fun _ _ _ _ _ _ us hl => match us, hl with | [_], _ => rfl
  have F_Facts_need_table := fun_mk (st := s_Facts_need_table) l_Facts_need_table c_Facts_need_table k_Facts_need_table
  have b_Facts_need_table := F_Facts_need_table.binds (ps := ["self", "table"]) fun _ _ _ _ _ _ us hl => match us, hl with | [_, _], _ => rfl
  have F_Facts_need_fact := fun_mk (st := s_Facts_need_fact) l_Facts_need_fact c_Facts_need_fact k_Facts_need_fact
  have b_Facts_need_fact := F_Facts_need_fact.binds (ps := ["self", "number"]) fun _ _ _ _ _ _ us hl => match us, hl with | [_, _], _ => rfl
  have F_checked := fun_mk (st := s_checked) l_checked c_checked k_checked
  have b_checked := F_checked.binds (ps := ["tables"]) fun _ _ _ _ _ _ us hl => match us, hl with | [_], _ => rfl
  have F_law_pot := fun_mk (st := s_law_pot) l_law_pot c_law_pot k_law_pot
  have b_law_pot := F_law_pot.binds (ps := ["script"]) fun _ _ _ _ _ _ us hl => match us, hl with | [_], _ => rfl
  have F_law_next := fun_mk (st := s_law_next) l_law_next c_law_next k_law_next
  have b_law_next := F_law_next.binds (ps := ["pot", "limit"]) fun _ _ _ _ _ _ us hl => match us, hl with | [_, _], _ => rfl
  have F_law_is_int := fun_mk (st := s_law_is_int) l_law_is_int c_law_is_int k_law_is_int
  have b_law_is_int := F_law_is_int.binds (ps := ["value"]) fun _ _ _ _ _ _ us hl => match us, hl with | [_], _ => rfl
  have F_law_same := fun_mk (st := s_law_same) l_law_same c_law_same k_law_same
  have b_law_same := F_law_same.binds (ps := ["found", "value"]) fun _ _ _ _ _ _ us hl => match us, hl with | [_, _], _ => rfl
  have F_law_do := fun_mk (st := s_law_do) l_law_do c_law_do k_law_do
  have b_law_do := F_law_do.binds (ps := ["facts", "kind", "table", "row", "number"]) fun _ _ _ _ _ _ us hl => match us, hl with | [_, _, _, _, _], _ => rfl
  have F_law_due := fun_mk (st := s_law_due) l_law_due c_law_due k_law_due
  have b_law_due := F_law_due.binds (ps := ["tables", "rows", "kind", "table", "row", "number"]) fun _ _ _ _ _ _ us hl => match us, hl with | [_, _, _, _, _, _], _ => rfl
  have F_law_right := fun_mk (st := s_law_right) l_law_right c_law_right k_law_right
  have b_law_right := F_law_right.binds (ps := ["facts", "tables", "rows"]) fun _ _ _ _ _ _ us hl => match us, hl with | [_, _, _], _ => rfl
  have F_law := fun_mk (st := s_law) l_law c_law k_law
  have b_law := F_law.binds (ps := ["script"]) fun _ _ _ _ _ _ us hl => match us, hl with | [_], _ => rfl
  have cl_Facts : Cls K C_Facts := ⟨pg_Facts, hd_Facts, po_Facts, sa_Facts⟩
  have kself : ∀ c : Addr, PySem.W.kitOne K (.ref c) (.ref c) = some true := fun c => if_pos (beq_iff_eq.mpr rfl)
  let ad : Ad := ⟨C_WorthError, C_InvalidArgument, C_UnknownTable, C_UnknownFact, C_DuplicateFact, C_WrongState, C_Facts⟩
  have T : Txt K mg ad :=
    { z_isinstance := PySem.W.mg_none_of X G z_isinstance, z_int := PySem.W.mg_none_of X G z_int, z_bool := PySem.W.mg_none_of X G z_bool, z_str := PySem.W.mg_none_of X G z_str, z_list := PySem.W.mg_none_of X G z_list, z_tuple := PySem.W.mg_none_of X G z_tuple, z_abs := PySem.W.mg_none_of X G z_abs, z_len := PySem.W.mg_none_of X G z_len, z_range := PySem.W.mg_none_of X G z_range, z_all := PySem.W.mg_none_of X G z_all, z_dict := PySem.W.mg_none_of X G z_dict, z_min := PySem.W.mg_none_of X G z_min,
      g_LONGEST_NAME := ⟨_, PySem.W.mg_of X G g_LONGEST_NAME⟩, g_LARGEST_ARITY := ⟨_, PySem.W.mg_of X G g_LARGEST_ARITY⟩, g_WorthError := PySem.W.mg_of X G aC_WorthError, g_Facts := PySem.W.mg_of X G aC_Facts,
      g_InvalidArgument := PySem.W.mg_of X G aC_InvalidArgument, x_InvalidArgument := x_InvalidArgument, k_InvalidArgument := kp_InvalidArgument, b_InvalidArgument := b_InvalidArgument, t_InvalidArgument := t_InvalidArgument,
      g_UnknownTable := PySem.W.mg_of X G aC_UnknownTable, x_UnknownTable := x_UnknownTable, k_UnknownTable := kp_UnknownTable, b_UnknownTable := b_UnknownTable, t_UnknownTable := t_UnknownTable,
      g_UnknownFact := PySem.W.mg_of X G aC_UnknownFact, x_UnknownFact := x_UnknownFact, k_UnknownFact := kp_UnknownFact, b_UnknownFact := b_UnknownFact, t_UnknownFact := t_UnknownFact,
      g_DuplicateFact := PySem.W.mg_of X G aC_DuplicateFact, x_DuplicateFact := x_DuplicateFact, k_DuplicateFact := kp_DuplicateFact, b_DuplicateFact := b_DuplicateFact, t_DuplicateFact := t_DuplicateFact,
      g_WrongState := PySem.W.mg_of X G aC_WrongState, x_WrongState := x_WrongState, k_WrongState := kp_WrongState, b_WrongState := b_WrongState, t_WrongState := t_WrongState,
      ec := fun e => match e with | .arg => ⟨ga_InvalidArgument, gg_InvalidArgument, b_InvalidArgument, hd_InvalidArgument, cc_InvalidArgument, spc, tki, mo_InvalidArgument⟩ | .tab => ⟨ga_UnknownTable, gg_UnknownTable, b_UnknownTable, hd_UnknownTable, cc_UnknownTable, spc, tki, mo_UnknownTable⟩ | .fact => ⟨ga_UnknownFact, gg_UnknownFact, b_UnknownFact, hd_UnknownFact, cc_UnknownFact, spc, tki, mo_UnknownFact⟩ | .dup => ⟨ga_DuplicateFact, gg_DuplicateFact, b_DuplicateFact, hd_DuplicateFact, cc_DuplicateFact, spc, tki, mo_DuplicateFact⟩ | .state => ⟨ga_WrongState, gg_WrongState, b_WrongState, hd_WrongState, cc_WrongState, spc, tki, mo_WrongState⟩,
      em := fun e => match e with | .arg => PySem.W.exm_ref b_WorthError hd_WorthError t_WorthError s_InvalidArgument_WorthError | .tab => PySem.W.exm_ref b_WorthError hd_WorthError t_WorthError s_UnknownTable_WorthError | .fact => PySem.W.exm_ref b_WorthError hd_WorthError t_WorthError s_UnknownFact_WorthError | .dup => PySem.W.exm_ref b_WorthError hd_WorthError t_WorthError s_DuplicateFact_WorthError | .state => PySem.W.exm_ref b_WorthError hd_WorthError t_WorthError s_WrongState_WorthError,
      ki := fun e e2 => match e, e2 with | .arg, .arg => kself _ | .arg, .tab => kit_no sn_InvalidArgument_UnknownTable sf_InvalidArgument hd_UnknownTable t_UnknownTable | .arg, .fact => kit_no sn_InvalidArgument_UnknownFact sf_InvalidArgument hd_UnknownFact t_UnknownFact | .arg, .dup => kit_no sn_InvalidArgument_DuplicateFact sf_InvalidArgument hd_DuplicateFact t_DuplicateFact | .arg, .state => kit_no sn_InvalidArgument_WrongState sf_InvalidArgument hd_WrongState t_WrongState | .tab, .arg => kit_no sn_UnknownTable_InvalidArgument sf_UnknownTable hd_InvalidArgument t_InvalidArgument | .tab, .tab => kself _ | .tab, .fact => kit_no sn_UnknownTable_UnknownFact sf_UnknownTable hd_UnknownFact t_UnknownFact | .tab, .dup => kit_no sn_UnknownTable_DuplicateFact sf_UnknownTable hd_DuplicateFact t_DuplicateFact | .tab, .state => kit_no sn_UnknownTable_WrongState sf_UnknownTable hd_WrongState t_WrongState | .fact, .arg => kit_no sn_UnknownFact_InvalidArgument sf_UnknownFact hd_InvalidArgument t_InvalidArgument | .fact, .tab => kit_no sn_UnknownFact_UnknownTable sf_UnknownFact hd_UnknownTable t_UnknownTable | .fact, .fact => kself _ | .fact, .dup => kit_no sn_UnknownFact_DuplicateFact sf_UnknownFact hd_DuplicateFact t_DuplicateFact | .fact, .state => kit_no sn_UnknownFact_WrongState sf_UnknownFact hd_WrongState t_WrongState | .dup, .arg => kit_no sn_DuplicateFact_InvalidArgument sf_DuplicateFact hd_InvalidArgument t_InvalidArgument | .dup, .tab => kit_no sn_DuplicateFact_UnknownTable sf_DuplicateFact hd_UnknownTable t_UnknownTable | .dup, .fact => kit_no sn_DuplicateFact_UnknownFact sf_DuplicateFact hd_UnknownFact t_UnknownFact | .dup, .dup => kself _ | .dup, .state => kit_no sn_DuplicateFact_WrongState sf_DuplicateFact hd_WrongState t_WrongState | .state, .arg => kit_no sn_WrongState_InvalidArgument sf_WrongState hd_InvalidArgument t_InvalidArgument | .state, .tab => kit_no sn_WrongState_UnknownTable sf_WrongState hd_UnknownTable t_UnknownTable | .state, .fact => kit_no sn_WrongState_UnknownFact sf_WrongState hd_UnknownFact t_UnknownFact | .state, .dup => kit_no sn_WrongState_DuplicateFact sf_WrongState hd_DuplicateFact t_DuplicateFact | .state, .state => kself _,
      c_Facts := cl_Facts, n_arities := n_Facts__arities, n_pairs := n_Facts__pairs, n_states := n_Facts__states, n_numbers := n_Facts__numbers, n_in_table := n_Facts__in_table }
  refine ⟨PySem.W.fnOf "law" "law" (defArgs s_law) (defBody s_law) (defScope s_law) .none kV_law dc_law pm_law an_law cd_law ct_law, [(cc_is_name, PP_is_name)], spLaw K PP_is_name, (List.forall_mem_cons.mpr ⟨TA_is_name, (fun _ z => nomatch z)⟩), (List.forall_mem_cons.mpr ⟨nt_is_name, (fun _ z => nomatch z)⟩), (List.forall_mem_cons.mpr ⟨PySem.W.codeHd_of_K X ch_is_name, (fun _ z => nomatch z)⟩), fun s v => .of_eq rfl, ?_, fun base _ _ TBa => ?_⟩
  · intro H a ns hl _ hT hS
    have tg : ∀ P, H P = some (.tbl #[]) → TabG H P := fun P e => ⟨#[], e, by first | trivial | decide | exact TriplesOk_nil | simp [TriplesOk]⟩
    exact ⟨a, ns, rfl, hS, hl, tg _ (hT (cc_is_name, PP_is_name) (by simp)), fun _ => rfl⟩
  have TB_is_name : GxR.TabB base mg cc_is_name PP_is_name := by
    have z := TBa (cc_is_name, PP_is_name) (by simp)
    exact ⟨z.code, z.bm, z.gP⟩
  have c_law_pot := cal_mk (x := "_law_pot") (ok_law_pot (P := l.prog) (w := w) (K := K) (mg := mg) (base := base) (ad := ad) F_law_pot T) (PySem.W.mg_of X G a_law_pot) k_law_pot b_law_pot
  have c_law_next := cal_mk (x := "_law_next") (ok_law_next (P := l.prog) (w := w) (K := K) (mg := mg) (base := base) (ad := ad) F_law_next T) (PySem.W.mg_of X G a_law_next) k_law_next b_law_next
  have c_is_integer := cal_mk (x := "is_integer") (ok_is_integer (P := l.prog) (w := w) (K := K) (mg := mg) (base := base) (ad := ad) F_is_integer T) (PySem.W.mg_of X G a_is_integer) k_is_integer b_is_integer
  have c_law_is_int := cal_mk (x := "_law_is_int") (ok_law_is_int (P := l.prog) (w := w) (K := K) (mg := mg) (base := base) (ad := ad) F_law_is_int T) (PySem.W.mg_of X G a_law_is_int) k_law_is_int b_law_is_int
  have c_is_between := cal_mk (x := "is_between") (ok_is_between (P := l.prog) (w := w) (K := K) (mg := mg) (base := base) (ad := ad) c_is_integer F_is_between T) (PySem.W.mg_of X G a_is_between) k_is_between b_is_between
  have c_is_name := cal_mk (x := "is_name") (ok_is_name (P := l.prog) (w := w) (K := K) (mg := mg) (base := base) (ad := ad) FC_is_name TB_is_name T) (PySem.W.mg_of X G a_is_name) k_is_name b_is_name
  have c_checked := cal_mk (x := "_checked") (ok_checked (P := l.prog) (w := w) (K := K) (mg := mg) (base := base) (ad := ad) c_is_name c_is_between F_checked T) (PySem.W.mg_of X G a_checked) k_checked b_checked
  have m_needT : MetX l.prog w K mg base 1 C_Facts "_need_table" (spNeedT l.prog w ad) := (met_mk cl_Facts ⟨a_Facts_need_table, i_Facts_need_table, k_Facts_need_table⟩ ((ok_Facts_need_table (P := l.prog) (w := w) (K := K) (mg := mg) (base := base) (ad := ad) F_Facts_need_table T).mono (by decide)) b_Facts_need_table)
  have m_needF : MetX l.prog w K mg base 1 C_Facts "_need_fact" (spNeedF l.prog w ad) := (met_mk cl_Facts ⟨a_Facts_need_fact, i_Facts_need_fact, k_Facts_need_fact⟩ ((ok_Facts_need_fact (P := l.prog) (w := w) (K := K) (mg := mg) (base := base) (ad := ad) F_Facts_need_fact T).mono (by decide)) b_Facts_need_fact)
  have m_arity : MetX l.prog w K mg base 2 C_Facts "arity" (spArity l.prog w ad) := (met_mk cl_Facts ⟨a_Facts_arity, i_Facts_arity, k_Facts_arity⟩ ((ok_Facts_arity (P := l.prog) (w := w) (K := K) (mg := mg) (base := base) (ad := ad) m_needT F_Facts_arity T).mono (by decide)) b_Facts_arity)
  have m_count : MetX l.prog w K mg base 1 C_Facts "count" (spCount l.prog w ad) := (met_mk cl_Facts ⟨a_Facts_count, i_Facts_count, k_Facts_count⟩ ((ok_Facts_count (P := l.prog) (w := w) (K := K) (mg := mg) (base := base) (ad := ad) F_Facts_count T).mono (by decide)) b_Facts_count)
  have m_count2 : MetX l.prog w K mg base 2 C_Facts "count" (spCount l.prog w ad) := (met_mk cl_Facts ⟨a_Facts_count, i_Facts_count, k_Facts_count⟩ ((ok_Facts_count (P := l.prog) (w := w) (K := K) (mg := mg) (base := base) (ad := ad) F_Facts_count T).mono (by decide)) b_Facts_count)
  have m_is_there : MetX l.prog w K mg base 2 C_Facts "is_there" (spIsThere l.prog w ad) := (met_mk cl_Facts ⟨a_Facts_is_there, i_Facts_is_there, k_Facts_is_there⟩ ((ok_Facts_is_there (P := l.prog) (w := w) (K := K) (mg := mg) (base := base) (ad := ad) m_needF F_Facts_is_there T).mono (by decide)) b_Facts_is_there)
  have m_fact : MetX l.prog w K mg base 3 C_Facts "fact" (spFactM l.prog w ad) := (met_mk cl_Facts ⟨a_Facts_fact, i_Facts_fact, k_Facts_fact⟩ ((ok_Facts_fact (P := l.prog) (w := w) (K := K) (mg := mg) (base := base) (ad := ad) m_needF F_Facts_fact T).mono (by decide)) b_Facts_fact)
  have m_find : MetX l.prog w K mg base 3 C_Facts "find" (spFind l.prog w ad) := (met_mk cl_Facts ⟨a_Facts_find, i_Facts_find, k_Facts_find⟩ ((ok_Facts_find (P := l.prog) (w := w) (K := K) (mg := mg) (base := base) (ad := ad) m_needT F_Facts_find T).mono (by decide)) b_Facts_find)
  have m_rows : MetX l.prog w K mg base 2 C_Facts "rows" (spRows l.prog w ad) := (met_mk cl_Facts ⟨a_Facts_rows, i_Facts_rows, k_Facts_rows⟩ ((ok_Facts_rows (P := l.prog) (w := w) (K := K) (mg := mg) (base := base) (ad := ad) m_needT F_Facts_rows T).mono (by decide)) b_Facts_rows)
  have m_give : MetX l.prog w K mg base 3 C_Facts "give_up" (spGive l.prog w ad false) := (met_mk cl_Facts ⟨a_Facts_give_up, i_Facts_give_up, k_Facts_give_up⟩ ((ok_Facts_give_up (P := l.prog) (w := w) (K := K) (mg := mg) (base := base) (ad := ad) m_is_there F_Facts_give_up T).mono (by decide)) b_Facts_give_up)
  have m_back : MetX l.prog w K mg base 3 C_Facts "bring_back" (spGive l.prog w ad true) := (met_mk cl_Facts ⟨a_Facts_bring_back, i_Facts_bring_back, k_Facts_bring_back⟩ ((ok_Facts_bring_back (P := l.prog) (w := w) (K := K) (mg := mg) (base := base) (ad := ad) m_is_there F_Facts_bring_back T).mono (by decide)) b_Facts_bring_back)
  have m_add : MetX l.prog w K mg base 3 C_Facts "add" (spAdd l.prog w ad) := (met_mk cl_Facts ⟨a_Facts_add, i_Facts_add, k_Facts_add⟩ ((ok_Facts_add (P := l.prog) (w := w) (K := K) (mg := mg) (base := base) (ad := ad) m_arity F_Facts_add T).mono (by decide)) b_Facts_add)
  have m_tables : MetX l.prog w K mg base 2 C_Facts "tables" (spTabs l.prog w ad) := (met_mk cl_Facts ⟨a_Facts_tables, i_Facts_tables, k_Facts_tables⟩ ((ok_Facts_tables (P := l.prog) (w := w) (K := K) (mg := mg) (base := base) (ad := ad) F_Facts_tables T).mono (by decide)) b_Facts_tables)
  have mk_F : MakX l.prog w K mg base 4 "Facts" C_Facts (spFInit l.prog w ad PP_is_name) := (mak_mk ⟨mk_Facts, a_Facts_init, i_Facts_init, kc_Facts⟩ (PySem.W.mg_of X G aC_Facts) (ok_Facts_init (P := l.prog) (w := w) (K := K) (mg := mg) (base := base) (ad := ad) c_checked F_Facts_init T) b_Facts_init)
  have m_copy : MetX l.prog w K mg base 6 C_Facts "copy" (spCopy l.prog w ad PP_is_name) := (met_mk cl_Facts ⟨a_Facts_copy, i_Facts_copy, k_Facts_copy⟩ ((ok_Facts_copy (P := l.prog) (w := w) (K := K) (mg := mg) (base := base) (ad := ad) m_tables m_count m_add m_give mk_F F_Facts_copy T).mono (by decide)) b_Facts_copy)
  have c_law_do := cal_mk (x := "_law_do") (ok_law_do (P := l.prog) (w := w) (K := K) (mg := mg) (base := base) (ad := ad) m_add m_give m_back m_fact m_find mk_F F_law_do T) (PySem.W.mg_of X G a_law_do) k_law_do b_law_do
  have c_law_due := cal_mk (x := "_law_due") (ok_law_due (P := l.prog) (w := w) (K := K) (mg := mg) (base := base) (ad := ad) F_law_due T) (PySem.W.mg_of X G a_law_due) k_law_due b_law_due
  have c_law_same := same_cal (P := l.prog) (w := w) (K := K) (mg := mg) (base := base) (ad := ad) F_law_same T (PySem.W.mg_of X G a_law_same) b_law_same c_law_is_int 4
  have c_law_right := cal_mk (x := "_law_right") (ok_law_right (P := l.prog) (w := w) (K := K) (mg := mg) (base := base) (ad := ad) m_rows m_arity m_is_there m_count2 m_tables c_law_same F_law_right T) (PySem.W.mg_of X G a_law_right) k_law_right b_law_right
  exact ok_law (ad := ad) c_law_pot c_law_next mk_F c_law_do c_law_due c_law_same c_law_right m_copy F_law T
theorem walk {l : PySem.W.OpenLaw} {q : Program} {loose : List Str} {XP : (Str → Option Value) → Heap → Prop} {YP : World → Heap → Prop} {d : DefRec} {K : Params → PySem.W.Frag} (hn : l.most = some 63) (hdf : d.params.defaults = [])
    (hY : ∀ (w : World) (h : Heap), YP w h → (K w.params).In h)
    (F : ∀ (w : World) (mg : Str → Option Value) (fa : Addr) (h : Heap), YP w h → (K w.params).In h → h.Ns mainGlobals mg → mg d.name = some (.ref fa) → LamX.LawAtS l w (K w.params) (L2.CX l.prog w) 101 63 "script" mg fa h) :
    PySem.W.WalkO q loose XP YP l.row.toRowW d [] (fun f vs => PySem.call f vs) :=
  LamX.walk_ofTs (n := 63) (k := 101) (x := "script") (CX := fun w => L2.CX l.prog w) hn (by decide) hdf ⟨rfl, by decide, by decide⟩ hY F fun _ _ _ _ _ h => by
    obtain ⟨_, _, _, _, _, _, _, _, _, _, _, _, z⟩ := h
    exact z
end K01
open PySem PySem.W PyProof.Rows
local macro_rules | `(tactic| o_head ($f:ident $a $b $c)) => `(tactic| o_head (PySem.W.kmHook $a $b $c [103]))
set_option maxRecDepth 100000 in
set_option maxHeartbeats 0 in
theorem PySem.Challenge.cw_everyworth_k01_facts_holds : PySem.Challenge.rw_everyworth_k01_facts.Holds := by
  w_on; o_law; k_head; (case hw => w_witness2)
  k_fill
  refine K01.walk (l := PySem.Challenge.rw_everyworth_k01_facts) rfl rfl (fun w h Y => PySem.W.km_in_of Y) ?F
  case F =>
    intro w mg fa h Y KX G hmg
    refine' K01.all_mk 103 KX G hmg (PySem.W.km_tabs_of Y _ (by simp)) ?aC_WorthError ?aC_InvalidArgument ?aC_UnknownTable ?aC_UnknownFact ?aC_DuplicateFact ?aC_WrongState ?aC_Facts ?a_is_integer ?l_is_integer ?c_is_integer ?k_is_integer ?a_is_between ?l_is_between ?c_is_between ?k_is_between ?a_is_name ?l_is_name ?c_is_name ?k_is_name ?a_Facts_init ?i_Facts_init ?l_Facts_init ?c_Facts_init ?k_Facts_init ?a_Facts_tables ?i_Facts_tables ?l_Facts_tables ?c_Facts_tables ?k_Facts_tables ?a_Facts_arity ?i_Facts_arity ?l_Facts_arity ?c_Facts_arity ?k_Facts_arity ?a_Facts_add ?i_Facts_add ?l_Facts_add ?c_Facts_add ?k_Facts_add ?a_Facts_give_up ?i_Facts_give_up ?l_Facts_give_up ?c_Facts_give_up ?k_Facts_give_up ?a_Facts_bring_back ?i_Facts_bring_back ?l_Facts_bring_back ?c_Facts_bring_back ?k_Facts_bring_back ?a_Facts_fact ?i_Facts_fact ?l_Facts_fact ?c_Facts_fact ?k_Facts_fact ?a_Facts_is_there ?i_Facts_is_there ?l_Facts_is_there ?c_Facts_is_there ?k_Facts_is_there ?a_Facts_find ?i_Facts_find ?l_Facts_find ?c_Facts_find ?k_Facts_find ?a_Facts_rows ?i_Facts_rows ?l_Facts_rows ?c_Facts_rows ?k_Facts_rows ?a_Facts_count ?i_Facts_count ?l_Facts_count ?c_Facts_count ?k_Facts_count ?a_Facts_copy ?i_Facts_copy ?l_Facts_copy ?c_Facts_copy ?k_Facts_copy ?a_Facts_need_table ?i_Facts_need_table ?l_Facts_need_table ?c_Facts_need_table ?k_Facts_need_table ?a_Facts_need_fact ?i_Facts_need_fact ?l_Facts_need_fact ?c_Facts_need_fact ?k_Facts_need_fact ?a_checked ?l_checked ?c_checked ?k_checked ?a_law_pot ?l_law_pot ?c_law_pot ?k_law_pot ?a_law_next ?l_law_next ?c_law_next ?k_law_next ?a_law_is_int ?l_law_is_int ?c_law_is_int ?k_law_is_int ?a_law_same ?l_law_same ?c_law_same ?k_law_same ?a_law_do ?l_law_do ?c_law_do ?k_law_do ?a_law_due ?l_law_due ?c_law_due ?k_law_due ?a_law_right ?l_law_right ?c_law_right ?k_law_right ?a_law ?l_law ?c_law ?k_law ?x_WorthError ?kp_WorthError ?b_WorthError ?t_WorthError ?hd_WorthError ?ga_WorthError ?gg_WorthError ?cc_WorthError ?mo_WorthError ?x_InvalidArgument ?kp_InvalidArgument ?b_InvalidArgument ?t_InvalidArgument ?hd_InvalidArgument ?ga_InvalidArgument ?gg_InvalidArgument ?cc_InvalidArgument ?mo_InvalidArgument ?s_InvalidArgument_WorthError ?x_UnknownTable ?kp_UnknownTable ?b_UnknownTable ?t_UnknownTable ?hd_UnknownTable ?ga_UnknownTable ?gg_UnknownTable ?cc_UnknownTable ?mo_UnknownTable ?s_UnknownTable_WorthError ?x_UnknownFact ?kp_UnknownFact ?b_UnknownFact ?t_UnknownFact ?hd_UnknownFact ?ga_UnknownFact ?gg_UnknownFact ?cc_UnknownFact ?mo_UnknownFact ?s_UnknownFact_WorthError ?x_DuplicateFact ?kp_DuplicateFact ?b_DuplicateFact ?t_DuplicateFact ?hd_DuplicateFact ?ga_DuplicateFact ?gg_DuplicateFact ?cc_DuplicateFact ?mo_DuplicateFact ?s_DuplicateFact_WorthError ?x_WrongState ?kp_WrongState ?b_WrongState ?t_WrongState ?hd_WrongState ?ga_WrongState ?gg_WrongState ?cc_WrongState ?mo_WrongState ?s_WrongState_WorthError ?pg_Facts ?hd_Facts ?po_Facts ?sa_Facts ?mk_Facts ?kc_Facts ?sn_InvalidArgument_UnknownTable ?sn_InvalidArgument_UnknownFact ?sn_InvalidArgument_DuplicateFact ?sn_InvalidArgument_WrongState ?sn_UnknownTable_InvalidArgument ?sn_UnknownTable_UnknownFact ?sn_UnknownTable_DuplicateFact ?sn_UnknownTable_WrongState ?sn_UnknownFact_InvalidArgument ?sn_UnknownFact_UnknownTable ?sn_UnknownFact_DuplicateFact ?sn_UnknownFact_WrongState ?sn_DuplicateFact_InvalidArgument ?sn_DuplicateFact_UnknownTable ?sn_DuplicateFact_UnknownFact ?sn_DuplicateFact_WrongState ?sn_WrongState_InvalidArgument ?sn_WrongState_UnknownTable ?sn_WrongState_UnknownFact ?sn_WrongState_DuplicateFact ?sf_InvalidArgument ?sf_UnknownTable ?sf_UnknownFact ?sf_DuplicateFact ?sf_WrongState ?spc ?tki ?n_Facts__arities ?n_Facts__pairs ?n_Facts__states ?n_Facts__numbers ?n_Facts__in_table ?g_LONGEST_NAME ?g_LARGEST_ARITY ?z_isinstance ?z_int ?z_bool ?z_str ?z_list ?z_tuple ?z_min ?z_abs ?z_len ?z_range ?z_all ?z_dict ?nt_is_name ?ch_is_name
    (case aC_WorthError => k_is)
    (case aC_InvalidArgument => k_is)
    (case aC_UnknownTable => k_is)
    (case aC_UnknownFact => k_is)
    (case aC_DuplicateFact => k_is)
    (case aC_WrongState => k_is)
    (case aC_Facts => k_is)
    (case a_is_integer => k_is)
    (case l_is_integer => k_is)
    (case c_is_integer => k_is)
    (case k_is_integer => k_is)
    (case a_is_between => k_is)
    (case l_is_between => k_is)
    (case c_is_between => k_is)
    (case k_is_between => k_is)
    (case a_is_name => k_is)
    (case l_is_name => k_is)
    (case c_is_name => k_is)
    (case k_is_name => k_is)
    (case a_Facts_init => k_is)
    (case i_Facts_init => k_is)
    (case l_Facts_init => k_is)
    (case c_Facts_init => k_is)
    (case k_Facts_init => k_is)
    (case a_Facts_tables => k_is)
    (case i_Facts_tables => k_is)
    (case l_Facts_tables => k_is)
    (case c_Facts_tables => k_is)
    (case k_Facts_tables => k_is)
    (case a_Facts_arity => k_is)
    (case i_Facts_arity => k_is)
    (case l_Facts_arity => k_is)
    (case c_Facts_arity => k_is)
    (case k_Facts_arity => k_is)
    (case a_Facts_add => k_is)
    (case i_Facts_add => k_is)
    (case l_Facts_add => k_is)
    (case c_Facts_add => k_is)
    (case k_Facts_add => k_is)
    (case a_Facts_give_up => k_is)
    (case i_Facts_give_up => k_is)
    (case l_Facts_give_up => k_is)
    (case c_Facts_give_up => k_is)
    (case k_Facts_give_up => k_is)
    (case a_Facts_bring_back => k_is)
    (case i_Facts_bring_back => k_is)
    (case l_Facts_bring_back => k_is)
    (case c_Facts_bring_back => k_is)
    (case k_Facts_bring_back => k_is)
    (case a_Facts_fact => k_is)
    (case i_Facts_fact => k_is)
    (case l_Facts_fact => k_is)
    (case c_Facts_fact => k_is)
    (case k_Facts_fact => k_is)
    (case a_Facts_is_there => k_is)
    (case i_Facts_is_there => k_is)
    (case l_Facts_is_there => k_is)
    (case c_Facts_is_there => k_is)
    (case k_Facts_is_there => k_is)
    (case a_Facts_find => k_is)
    (case i_Facts_find => k_is)
    (case l_Facts_find => k_is)
    (case c_Facts_find => k_is)
    (case k_Facts_find => k_is)
    (case a_Facts_rows => k_is)
    (case i_Facts_rows => k_is)
    (case l_Facts_rows => k_is)
    (case c_Facts_rows => k_is)
    (case k_Facts_rows => k_is)
    (case a_Facts_count => k_is)
    (case i_Facts_count => k_is)
    (case l_Facts_count => k_is)
    (case c_Facts_count => k_is)
    (case k_Facts_count => k_is)
    (case a_Facts_copy => k_is)
    (case i_Facts_copy => k_is)
    (case l_Facts_copy => k_is)
    (case c_Facts_copy => k_is)
    (case k_Facts_copy => k_is)
    (case a_Facts_need_table => k_is)
    (case i_Facts_need_table => k_is)
    (case l_Facts_need_table => k_is)
    (case c_Facts_need_table => k_is)
    (case k_Facts_need_table => k_is)
    (case a_Facts_need_fact => k_is)
    (case i_Facts_need_fact => k_is)
    (case l_Facts_need_fact => k_is)
    (case c_Facts_need_fact => k_is)
    (case k_Facts_need_fact => k_is)
    (case a_checked => k_is)
    (case l_checked => k_is)
    (case c_checked => k_is)
    (case k_checked => k_is)
    (case a_law_pot => k_is)
    (case l_law_pot => k_is)
    (case c_law_pot => k_is)
    (case k_law_pot => k_is)
    (case a_law_next => k_is)
    (case l_law_next => k_is)
    (case c_law_next => k_is)
    (case k_law_next => k_is)
    (case a_law_is_int => k_is)
    (case l_law_is_int => k_is)
    (case c_law_is_int => k_is)
    (case k_law_is_int => k_is)
    (case a_law_same => k_is)
    (case l_law_same => k_is)
    (case c_law_same => k_is)
    (case k_law_same => k_is)
    (case a_law_do => k_is)
    (case l_law_do => k_is)
    (case c_law_do => k_is)
    (case k_law_do => k_is)
    (case a_law_due => k_is)
    (case l_law_due => k_is)
    (case c_law_due => k_is)
    (case k_law_due => k_is)
    (case a_law_right => k_is)
    (case l_law_right => k_is)
    (case c_law_right => k_is)
    (case k_law_right => k_is)
    (case a_law => k_is)
    (case l_law => k_is)
    (case c_law => k_is)
    (case k_law => k_is)
    (case x_WorthError => k_exc)
    (case kp_WorthError => k_is)
    (case b_WorthError => k_is)
    (case t_WorthError => k_is)
    (case hd_WorthError => k_is)
    (case ga_WorthError => k_is)
    (case gg_WorthError => k_is)
    (case cc_WorthError => k_is)
    (case mo_WorthError => k_is)
    (case x_InvalidArgument => k_exc)
    (case kp_InvalidArgument => k_is)
    (case b_InvalidArgument => k_is)
    (case t_InvalidArgument => k_is)
    (case hd_InvalidArgument => k_is)
    (case ga_InvalidArgument => k_is)
    (case gg_InvalidArgument => k_is)
    (case cc_InvalidArgument => k_is)
    (case mo_InvalidArgument => k_is)
    (case s_InvalidArgument_WorthError => k_is)
    (case x_UnknownTable => k_exc)
    (case kp_UnknownTable => k_is)
    (case b_UnknownTable => k_is)
    (case t_UnknownTable => k_is)
    (case hd_UnknownTable => k_is)
    (case ga_UnknownTable => k_is)
    (case gg_UnknownTable => k_is)
    (case cc_UnknownTable => k_is)
    (case mo_UnknownTable => k_is)
    (case s_UnknownTable_WorthError => k_is)
    (case x_UnknownFact => k_exc)
    (case kp_UnknownFact => k_is)
    (case b_UnknownFact => k_is)
    (case t_UnknownFact => k_is)
    (case hd_UnknownFact => k_is)
    (case ga_UnknownFact => k_is)
    (case gg_UnknownFact => k_is)
    (case cc_UnknownFact => k_is)
    (case mo_UnknownFact => k_is)
    (case s_UnknownFact_WorthError => k_is)
    (case x_DuplicateFact => k_exc)
    (case kp_DuplicateFact => k_is)
    (case b_DuplicateFact => k_is)
    (case t_DuplicateFact => k_is)
    (case hd_DuplicateFact => k_is)
    (case ga_DuplicateFact => k_is)
    (case gg_DuplicateFact => k_is)
    (case cc_DuplicateFact => k_is)
    (case mo_DuplicateFact => k_is)
    (case s_DuplicateFact_WorthError => k_is)
    (case x_WrongState => k_exc)
    (case kp_WrongState => k_is)
    (case b_WrongState => k_is)
    (case t_WrongState => k_is)
    (case hd_WrongState => k_is)
    (case ga_WrongState => k_is)
    (case gg_WrongState => k_is)
    (case cc_WrongState => k_is)
    (case mo_WrongState => k_is)
    (case s_WrongState_WorthError => k_is)
    (case pg_Facts => k_is)
    (case hd_Facts => k_is)
    (case po_Facts => k_is)
    (case sa_Facts => k_is)
    (case mk_Facts => k_is)
    (case kc_Facts => k_is)
    (case sn_InvalidArgument_UnknownTable => k_is)
    (case sn_InvalidArgument_UnknownFact => k_is)
    (case sn_InvalidArgument_DuplicateFact => k_is)
    (case sn_InvalidArgument_WrongState => k_is)
    (case sn_UnknownTable_InvalidArgument => k_is)
    (case sn_UnknownTable_UnknownFact => k_is)
    (case sn_UnknownTable_DuplicateFact => k_is)
    (case sn_UnknownTable_WrongState => k_is)
    (case sn_UnknownFact_InvalidArgument => k_is)
    (case sn_UnknownFact_UnknownTable => k_is)
    (case sn_UnknownFact_DuplicateFact => k_is)
    (case sn_UnknownFact_WrongState => k_is)
    (case sn_DuplicateFact_InvalidArgument => k_is)
    (case sn_DuplicateFact_UnknownTable => k_is)
    (case sn_DuplicateFact_UnknownFact => k_is)
    (case sn_DuplicateFact_WrongState => k_is)
    (case sn_WrongState_InvalidArgument => k_is)
    (case sn_WrongState_UnknownTable => k_is)
    (case sn_WrongState_UnknownFact => k_is)
    (case sn_WrongState_DuplicateFact => k_is)
    (case sf_InvalidArgument => k_is)
    (case sf_UnknownTable => k_is)
    (case sf_UnknownFact => k_is)
    (case sf_DuplicateFact => k_is)
    (case sf_WrongState => k_is)
    (case spc => k_is)
    (case tki => k_is)
    (case n_Facts__arities => k_is)
    (case n_Facts__pairs => k_is)
    (case n_Facts__states => k_is)
    (case n_Facts__numbers => k_is)
    (case n_Facts__in_table => k_is)
    (case g_LONGEST_NAME => k_is)
    (case g_LARGEST_ARITY => k_is)
    (case z_isinstance => k_is)
    (case z_int => k_is)
    (case z_bool => k_is)
    (case z_str => k_is)
    (case z_list => k_is)
    (case z_tuple => k_is)
    (case z_min => k_is)
    (case z_abs => k_is)
    (case z_len => k_is)
    (case z_range => k_is)
    (case z_all => k_is)
    (case z_dict => k_is)
    (case nt_is_name => first | k_is | kernel_rfl)
    (case ch_is_name => first | k_is | kernel_rfl)
