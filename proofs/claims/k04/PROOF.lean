import PyProof.Rows.All
import Wide.All
import OpenK.AllK
import Wide.FinOn
import KE.SortData
import KE.DataCmp
import HandS.NamedTupSort
import HandS.Style
import HandS.ForMost
import HandS.ForExc
import HandS.IsInst
import HandS.ExcIs
import HandS.CallSlots
import HandS.Wide
import HandS.EndBits
import HandS.Flow
import HandS.AnyAll
import HandS.SortKw
import HandS.Dict
import KE.KeyNested
import KE.KDictKeyed
import KE.KDictDisplayH
import HandS.DictTup
import HandS.More
import HandS.TupLen
import KE.KDictWalk
import KE.KDictSum
import KE.BitLaws
import HandS.Text
import HandS.GenOver
import HandS.GenList
import PyProof.GenRules
import PyProof.GenQ
import HandS.Steps
import HandS.Codes
import HandS.TupAny
import HandS.TupMul
import HandS.List
import KE.KIndexOf
import HandS.DictComp
import HandS.SortInts
import PySem.Challenge.RW_everyworth_k04_polynomials
import HandS.SetKeys
import HandS.WideBits
import KE.DatumOrd
import HandS.EndTab
import HandS.EndOwn
set_option Elab.async false
set_option linter.all false
set_option maxRecDepth 100000
set_option maxHeartbeats 4000000
/-! sorted(xs), xs a list of nested data: tuples of any lengths (empty ones too), or no tuples; < of nested data. -/
namespace SDx
open PySem PySem.W PySem.Calls PyProof.Rows SeqAt
section
variable {prog : Program} {w : World} {A : Around} {s : Shared}
/-- a tuple's own __lt__, as a sort calls it -/
theorem call_tup_lt {E Q : Value → Shared → Prop} {l b : Addr} {xs ys : Array Value} {e r : Nat → Bool} (hl : s.heap.IsTuple l xs) (hb : s.heap.IsTuple b ys)
    (he : ∀ j (h1 : j < xs.size) (h2 : j < ys.size), EqAt A.in1 s xs[j] ys[j] (e j)) (hr : ∀ j (h1 : j < xs.size) (h2 : j < ys.size), e j = false → RcLt A.in1 s xs[j] ys[j] (r j))
    (h : Q (.bool (firstLt e r (decide (xs.size < ys.size)) (List.range (min xs.size ys.size)))) s) : wpAny (model prog w) A (call (.builtin "tuple.__lt__") [.ref l, .ref b]) Q E s := by
  obtain ⟨⟨c1, d1, x1, s1⟩, o1, q1, n1, r1⟩ := id hl
  obtain ⟨⟨c2, d2, x2, s2⟩, o2, q2, n2, r2⟩ := id hb
  simp only at q1 r1 q2 r2
  subst q1 r1 q2 r2
  exact call_meets F.slot_tuple_lt ⟨_, o1, rfl⟩ F.entry_tuple_lt (F.args_tuple_lt_2 _ _) (tuple_ltAt l b xs ys n1 n2 d1 d2 s1 s2 e r) ⟨o1, o2, he, hr, h⟩
theorem oneLt_any {E : Value → Shared → Prop} {f : Bool} {da db : PyData} {a b : Value} {as bs : List Addr} {Q : Bool → Shared → Prop} (ra : Reads s.heap a da as) (rb : Reads s.heap b db bs) (h : alike da db = true) (hn : da ≠ .none) (hu : A.units + min da.depth db.depth < cLine)
    (hq : Q (dataLt da db) s) : wpAny (model prog w) A (oneLt' f a b) Q E s := by
  cases f with
  | false => exact oneLt_alike (fun z => nomatch z) ra rb h hn hu hq
  | true =>
    cases da with
    | tuple xs =>
      cases db with
      | tuple ys =>
        have hal : alikeAll xs ys = true := by simpa [alike] using h
        cases ra with
        | @tuple l o vs n _ as₁ h1 h2 h3 h4 =>
          cases rb with
          | @tuple l' o' vs' n' _ bs₁ k1 k2 k3 k4 =>
            have n1 : vs.size = xs.length := by simpa using SeqAt.ReadsAll.length _ _ _ h4
            have n2 : vs'.size = ys.length := by simpa using SeqAt.ReadsAll.length _ _ _ k4
            rw [dataLt_tuple, ← firstLt_toks xs ys hal, ← n1, ← n2] at hq
            rw [oneLt'_eq]
            simp only [if_true]
            refine wpAny_bind (wpAny_cRoomFor (SeqAt.room_here hu) ?_)
            refine wpAny_bind (wpAny_callSpecialIfBound?_slot (T := "tuple") ⟨_, h1, h2⟩ F.slot_tuple_lt (call_tup_lt (e := pairEq xs ys) (r := fun j => dataLt (xs.getD j .none) (ys.getD j .none)) ⟨_, h1, h2, _, h3⟩ ⟨_, k1, k2, _, k3⟩ (fun j j1 j2 => ?_) (fun j j1 j2 hj => ?_) (wpAny_truthy_bool hq)))
            · have := eqAt_alikeAll xs ys A.in1 s vs.toList vs'.toList _ _ h4 k4 hal (SeqAt.room_in hu) j (by simpa using j1) (by simpa using j2)
              simpa using this
            · have := rcLt_alikeAll xs ys A.in1 s vs.toList vs'.toList _ _ h4 k4 hal (SeqAt.room_in hu) j (by simpa using j1) (by simpa using j2) hj
              simpa using this
      | _ => exact absurd h (by simp [alike])
    | _ => exact oneLt_alike (fun _ xs z => by cases z) ra rb h hn hu hq
/-- the first items of tuples of which some are empty -/
theorem firsts_any : ∀ {vs : List Value} {ds : List PyData}, EachIs (fun v d => ∃ as, Reads s.heap v d as) vs ds → (∀ d ∈ ds, ∃ t, d = .tuple t) →
    ∃ fs : List (Option Value), (fs.all (·.isSome) = true → ∀ d ∈ ds, ∃ x r, d = .tuple (x :: r)) ∧ ∀ {E : Value → Shared → Prop} {Q : List (Option Value) → Shared → Prop}, Q fs s → wpAny (model prog w) A (vs.mapM firstOfTuple') Q E s
  | _, _, .nil, _ => ⟨[], fun _ d h => (nomatch h), fun {E Q} h => by rw [List.mapM_nil]; exact wpAny_pure h⟩
  | _, _, .cons (a := v) (b := d) (as := vs) (bs := ds) ⟨as, r⟩ q, ht => by
    obtain ⟨fs, h1, h2⟩ := firsts_any q fun d hd => ht d (List.mem_cons_of_mem _ hd)
    obtain ⟨t, rfl⟩ := ht d (List.mem_cons_self ..)
    cases r with
    | @tuple a o xs n _ _ ho hc hd hr =>
      refine ⟨xs[0]? :: fs, fun al e he => ?_, fun {E Q} h => ?_⟩
      · rw [List.all_cons, Bool.and_eq_true] at al
        rcases List.mem_cons.mp he with rfl | he
        · cases e1 : xs.toList with
          | nil =>
            have : xs[0]? = none := by rw [← Array.getElem?_toList, e1]; rfl
            rw [this] at al
            exact absurd al.1 (by decide)
          | cons f fr =>
            rw [e1] at hr
            cases hr with
            | cons r1 r2 => exact ⟨_, _, rfl⟩
        · exact h1 al.2 e he
      · rw [List.mapM_cons]
        refine wpAny_bind ?_
        rw [kas_first_eq]
        refine wpAny_bind (Looks.here (show Looks _ s.heap (typeOf (.ref a)) o.cls from (Looks.ld ho).andThen .now) ?_)
        rw [hc, if_neg (by decide)]
        refine wpAny_bind (listItems_at ho hd (wpAny_pure ?_))
        exact wpAny_bind (h2 (Q := fun bs s' => wpAny _ A (pure (xs[0]? :: bs)) Q E s') (wpAny_pure h))
/-- tuples of any lengths can be sorted -/
theorem sorts_tuples {vs : List Value} {ds : List PyData} (e : EachIs (fun v d => ∃ as, Reads s.heap v d as) vs ds) (hal : AllAlike ds) (ht : ∀ d ∈ ds, ∃ t, d = .tuple t) (hu : ∀ d, d ∈ ds → A.units + d.depth < cLine) : SortsAt prog w A s (dataKind s.heap ds) vs := by
  by_cases ne : ∀ d ∈ ds, ∃ x r, d = .tuple (x :: r)
  · exact SortsAt.data e hal (.inl ne) hu
  · have room : ∀ {d d' : PyData}, d ∈ ds → A.units + min d.depth d'.depth < cLine := fun {d d'} hd => Nat.lt_of_le_of_lt (Nat.add_le_add_left (Nat.min_le_left _ _) _) (hu d hd)
    have nn : ∀ {d}, d ∈ ds → d ≠ .none := fun hd z => by
      obtain ⟨t, e⟩ := ht _ hd
      rw [e] at z
      cases z
    refine ⟨fun v hv => ?_, ?_⟩
    · obtain ⟨d, hd, as, r⟩ := e.left v hv
      exact ⟨_, dataKind_some hal hd r⟩
    · have lt1 : H.LtAt prog w A s (dataKind s.heap ds) oneType' := by
        intro E x y a b Q ha hb hq
        obtain ⟨d, as, hd, ra, rfl⟩ := dataKind_inv ha
        obtain ⟨d', as', hd', rb, rfl⟩ := dataKind_inv hb
        rw [keyLt'_oneType]
        exact oneLt_any ra rb (hal d hd d' hd') (nn hd) (room hd) hq
      have lt2 : H.LtAt prog w A s (dataKind s.heap ds) general' := by
        intro E x y a b Q ha hb hq
        obtain ⟨d, as, hd, ra, rfl⟩ := dataKind_inv ha
        obtain ⟨d', as', hd', rb, rfl⟩ := dataKind_inv hb
        show wpAny _ _ (oneLt' false x y) _ _ _
        exact oneLt_any ra rb (hal d hd d' hd') (nn hd) (room hd) hq
      have one : ∀ (E : Value → Shared → Prop) {Q : Option Value → Shared → Prop}, 1 ≤ vs.length → Q (some (.type "tuple")) s → wpAny (model prog w) A (oneTypeOnly' vs.toArray) Q E s := fun E Q h1 hq => by
        rw [oneTypeOnly'_eq, List.mapM_toArray, map_eq_pure_bind]
        refine wpAny_bind (wpAny_bind (kas_mapM (r := Value.type "tuple") _ (fun v hv Q' hq' => ?_) (wpAny_pure ?_)))
        · obtain ⟨d, hd, as, r⟩ := e.left v hv
          obtain ⟨t, e⟩ := ht d hd
          subst e
          exact (looks_reads r).here hq'
        · match vs, h1 with
          | v :: rest, _ =>
            have hall : ((List.map (fun _ => Value.type "tuple") (v :: rest)).toArray.all fun x => x == Value.type "tuple") = true := by
              simp only [List.all_toArray, List.all_map, List.all_eq_true]
              intro _ _
              rfl
            have h0 : (List.map (fun _ => Value.type "tuple") (v :: rest)).toArray[0]? = some (Value.type "tuple") := by simp
            rw [h0]
            simp only [hall, if_true]
            exact wpAny_pure hq
      obtain ⟨fs, h1, h2⟩ := firsts_any (prog := prog) (w := w) (A := A) e ht
      have nall : ¬ fs.all (·.isSome) = true := fun z => ne (h1 z)
      have nall' : ¬ (fs.toArray.all fun x => x.isSome) = true := by simpa using nall
      by_cases c : (fs.toArray[0]?.bind id).isSome = true
      · refine ⟨general', lt2, fun h2' E Q hq => ?_⟩
        rw [kat_kind_eq, List.mapM_toArray, map_eq_pure_bind]
        refine wpAny_bind (wpAny_bind (h2 (wpAny_pure ?_)))
        rw [if_neg nall', if_pos c]
        exact wpAny_pure hq
      · refine ⟨oneType', lt1, fun h2' E Q hq => ?_⟩
        rw [kat_kind_eq, List.mapM_toArray, map_eq_pure_bind]
        refine wpAny_bind (wpAny_bind (h2 (wpAny_pure ?_)))
        rw [if_neg nall', if_neg c]
        refine wpAny_bind (one E (by omega) ?_)
        exact wpAny_pure hq
end
end SDx
namespace L2
open PySem PySem.Spec PyProof.Rows PySem.W
/-- data that a sort takes: alike, all tuples or none a tuple -/
def SortOk (ds : List PyData) : Prop := AllAlike ds ∧ ((∀ d ∈ ds, ∃ t, d = .tuple t) ∨ ∀ d, d ∈ ds → d ≠ .none ∧ ∀ xs, d ≠ .tuple xs)
/-- sorted(xs), xs a list of nested data: a new list of the same things in their order -/
def rSortedD (K : PySem.W.Frag) : List V → Hp → VK → Prop := fun vs H Q => ∃ (a : Addr) (zs : List (V × PyData)), vs = [V.ref a] ∧ SqL K H a (zs.map (·.1)) ∧ (∀ z ∈ zs, Dp K H z.1 z.2 ∧ z.2.depth ≤ 60) ∧ SortOk (zs.map (·.2)) ∧
  ∀ (ys : List (V × PyData)) (p : Addr), ys.Perm zs → ys.Pairwise (fun a b => dataLt b.2 a.2 = false) → H p = none → Q (.ref p) (upd H p (.lst (ys.map (·.1))))
theorem each_vals : ∀ {zs : List (V × PyData)} {us : List Value}, Vals (zs.map (·.1)) us → EachIs (fun u z => RelV z.1 u) us zs
  | [], _, r => by rw [List.map_nil] at r; cases r; exact .nil
  | z :: zs, _, r => by
    rw [List.map_cons] at r
    cases r with
    | cons h q => exact .cons h (each_vals q)
theorem vals_each : ∀ {zs : List (V × PyData)} {us : List Value}, EachIs (fun u z => RelV z.1 u) us zs → Vals (zs.map (·.1)) us
  | _, _, .nil => .nil
  | _, _, .cons h q => .cons h (vals_each q)
theorem each_and {α β : Type} {R : α → β → Prop} {S : β → Prop} {as : List α} {bs : List β} (e : EachIs R as bs) (h : ∀ b ∈ bs, S b) : EachIs (fun a b => R a b ∧ S b) as bs := by
  induction e with
  | nil => exact .nil
  | cons h1 t ih => exact .cons ⟨h1, h _ (List.mem_cons_self ..)⟩ (ih fun b hb => h b (List.mem_cons_of_mem _ hb))
section
variable {X : Cx}
theorem cr_sortedD (hu : X.A.units + 64 < cLine) : CallR X (.builtin "sorted") (rSortedD X.K) := by
  intro pins s σ H vs us Q I r h
  obtain ⟨a, zs, rfl, hs, hx, ⟨hal, hk⟩, q⟩ := h
  obtain ⟨its, rv, hl, hz⟩ := I.list hs
  rw [Vals.ref1 r]
  have e := each_vals rv
  have er : EachIs (fun v (z : V × PyData) => ∃ as, Reads s.heap v z.2 as) its zs := (each_and e hx).mono fun v z h => Dp.reads I z.2 z.1 v h.2.1 h.1
  have er' : EachIs (fun v (z : V × PyData) => ∃ as, Reads (sortingHeap (copyHeap s.heap its) (s.heap.objs.size + 1) its) v z.2 as) its zs := er.mono fun _ _ ⟨as, r⟩ => ⟨as, PyProof.Rows.Reads.keeps (fun _ _ => sorting_copy_old) r⟩
  have em := each_map (R := fun v d => ∃ as, Reads (sortingHeap (copyHeap s.heap its) (s.heap.objs.size + 1) its) v d as) (fun z : V × PyData => z.2) er'
  have hd : ∀ d, d ∈ zs.map (fun z => z.2) → X.A.in1.in1.units + d.depth < cLine := fun d h => by
    obtain ⟨z, hz, rfl⟩ := List.mem_map.mp h
    have := (hx z hz).2
    show X.A.units + 1 + 1 + _ < cLine
    omega
  have S : SortsAt X.prog X.w X.A.in1.in1 { s with heap := sortingHeap (copyHeap s.heap its) (s.heap.objs.size + 1) its } (dataKind (sortingHeap (copyHeap s.heap its) (s.heap.objs.size + 1) its) (zs.map fun z => z.2)) its := by
    rcases hk with ht | hn
    · exact SDx.sorts_tuples (s := { s with heap := sortingHeap (copyHeap s.heap its) (s.heap.objs.size + 1) its }) em hal ht hd
    · exact SortsAt.data (s := { s with heap := sortingHeap (copyHeap s.heap its) (s.heap.objs.size + 1) its }) em hal (.inr hn) hd
  refine sorted_vals hl.isList S (by rw [← rv.length]; exact hz) ?_
  have eo := sortVals_data false e er' hal
  have rvo := vals_each eo
  generalize sortVals (dataKind (sortingHeap (copyHeap s.heap its) (s.heap.objs.size + 1) its) (zs.map fun z => z.2)) false its its = out at rvo eo ⊢
  generalize hys : zs.mergeSort (dataLe false fun z => z.2) = ys at rvo eo
  have pp : ys.Perm zs := by rw [← hys]; exact List.mergeSort_perm ..
  have ps : ys.Pairwise (fun a b => dataLt b.2 a.2 = false) := by
    rw [← hys]
    refine (sort_pairwise (sortLe_total _ _ _) zs).imp fun {a b} h => ?_
    have h' : (!dataLt b.2 a.2) = true := h
    simpa using h'
  obtain ⟨n, hn⟩ := sortedAll_at s.heap its out.toArray
  refine ⟨.ref (s.heap.objs.size + 1), upd H (s.heap.objs.size + 1) (.lst (ys.map (·.1))), I.laid (t' := s.toks) (fun b o e => sortedAll_old e) (Nat.le_succ _) ⟨?_, out, n, rvo, hn⟩, rfl, q ys _ pp ps (I.hok.fresh (Nat.le_succ _))⟩
  rw [List.length_map, pp.length_eq]
  rw [List.length_map] at hz
  exact hz
/-- x < y of nested data -/
def rLtD (K : PySem.W.Frag) : R2 := fun x y H Q => ∃ d e, Dp K H x d ∧ Dp K H y e ∧ alike d e = true ∧ d ≠ .none ∧ d.depth ≤ 60 ∧ Q (.bl (dataLt d e)) H
theorem op_ltD (hu : X.A.units + 64 < cLine) : OpR X (compareOp .Lt) (rLtD X.K) := by
  intro pins s σ H x y v u Q I rx ry h
  obtain ⟨d, e, hd, he, al, nn, dp, q⟩ := h
  obtain ⟨as, r1⟩ := Dp.reads I d x v hd rx
  obtain ⟨bs, r2⟩ := Dp.reads I e y u he ry
  exact lt_data r1 r2 al nn (by have := Nat.min_le_left d.depth e.depth; omega) ⟨.bl _, H, I, rfl, q⟩
end
/-- of two alike things neither is less: they are the same -/
theorem data_tie {x y : PyData} (h : alike x y = true) (h1 : dataLt x y = false) (h2 : dataLt y x = false) : PyData.eqv x y = true := by
  rcases e : PyData.eqv x y with _ | _
  · have k := (toks_eqv x y h).2 e
    have et : keyToks x = keyToks y := lex_total (O := itemOrd) _ _ h1 h2
    have k1 := k [] [.inl 0]
    rw [List.append_nil, et] at k1
    have k2 := k [] []
    rw [et] at k2
    have l1 : PyProof.Rows.lexLt itemOrd (keyToks y) (keyToks y ++ [.inl 0]) = true := by
      have := lex_pre (keyToks y) [] [.inl 0]
      rw [List.append_nil] at this
      rw [this]
      rfl
    rw [l1, show PyProof.Rows.lexLt itemOrd (keyToks y) (keyToks y) = false from lex_irrefl _] at k1
    cases k1
  · rfl
end L2

set_option Elab.async false
set_option linter.all false
set_option maxRecDepth 100000
set_option maxHeartbeats 4000000
/-! Rules whose callee is told by the reading: calls of defs, methods, classes by what stands in the heap. -/
namespace Ew
open PySem PySem.Spec PyProof.Rows L2

/-- a def under its name keeps sp at level k -/
structure CalX (P : Program) (w : World) (K : PySem.W.Frag) (mg : Str → Option Value) (base : Heap) (k : Nat) (x : Str) (sp : Sp) : Prop where
  ex : ∃ (f : Addr) (fd : FuncData) (ps : List Str) (ds : List Value) (dvs : List V) (sp0 : Sp), FnOk P w K mg base (L2.CX P w) k f fd ps sp0 ∧ mg x = some (.ref f) ∧ PySem.W.keepIn K (.ref f) = true ∧ Binds K fd ps ds ∧ Vals dvs ds ∧
    ∀ vs H Q E, sp vs H Q E → sp0 (vs ++ dvs) H Q E
/-- a method m of the class at C keeps sp at level k -/
structure MetX (P : Program) (w : World) (K : PySem.W.Frag) (mg : Str → Option Value) (base : Heap) (k : Nat) (C : Addr) (m : Str) (sp : Sp) : Prop where
  ex : ∃ (f : Addr) (fd : FuncData) (ps : List Str) (ds : List Value) (dvs : List V) (sp0 : Sp), Cls K C ∧ Meth K C m f ∧ FnOk P w K mg base (L2.CX P w) k f fd ps sp0 ∧ Binds K fd ps ds ∧ Vals dvs ds ∧
    ∀ vs H Q E, sp vs H Q E → sp0 (vs ++ dvs) H Q E
/-- a class under its name, its __init__ keeps sp at level k -/
structure MakX (P : Program) (w : World) (K : PySem.W.Frag) (mg : Str → Option Value) (base : Heap) (k : Nat) (x : Str) (C : Addr) (sp : Sp) : Prop where
  ex : ∃ (f : Addr) (fd : FuncData) (ps : List Str) (ds : List Value) (dvs : List V) (sp0 : Sp), Mk K C f ∧ mg x = some (.ref C) ∧ FnOk P w K mg base (L2.CX P w) k f fd ps sp0 ∧ Binds K fd ps ds ∧ Vals dvs ds ∧
    ∀ vs H Q E, sp vs H Q E → sp0 (vs ++ dvs) H Q E

def tCallD (P : Program) (w : World) (K : PySem.W.Frag) (mg : Str → Option Value) (base : Heap) (j : Nat) (x : Str) (W : WX) (t : TA) : TE := fun σ H Q =>
  ∃ (k : Nat) (sp : Sp), k ≤ j ∧ CalX P w K mg base k x sp ∧ t σ H fun vs H1 => sp vs H1 Q (WE W σ)
def tMethD (P : Program) (w : World) (K : PySem.W.Frag) (mg : Str → Option Value) (base : Heap) (j : Nat) (m : Str) (W : WX) (ta : TE) (t : TA) : TE := fun σ H Q => ta σ H fun x H1 =>
  ∃ (a C dx : Addr) (fs : List (Str × V)) (k : Nat) (sp : Sp), x = .ref a ∧ H1 a = some (.ins C dx fs) ∧ fs.lookup m = none ∧ k ≤ j ∧ MetX P w K mg base k C m sp ∧ t σ H1 fun vs H2 => sp (x :: vs) H2 Q (WE W σ)
def tMakeD (P : Program) (w : World) (K : PySem.W.Frag) (mg : Str → Option Value) (base : Heap) (j : Nat) (x : Str) (W : WX) (t : TA) : TE := fun σ H Q =>
  ∃ (k : Nat) (C : Addr) (sp : Sp), k + 1 ≤ j ∧ MakX P w K mg base k x C sp ∧ t σ H fun vs H1 => ∀ y dy, H1 y = none → H1 dy = none → dy ≠ y →
    sp (.ref y :: vs) (upd (upd H1 dy (.own y)) y (.ins C dy [])) (fun v H2 => v = .non ∧ Q (.ref y) H2) (WE W σ)

section
variable {X : Cx} {j : Nat} {x m : Str} {p pos apos : Pos} {e o : Expr} {es : List Expr} {ta : TE} {t : TA} {W : WX}

theorem pd_call (hr : Room j X.A) (tk : Takes X W) (hg : Gl X x) (ha : PA X (e :: es) t)
    (hdb : (x == ("__debug__" : Str)) = false := by decide) (he : starEach (e :: es) X.env = (false, eval e X.env) :: starEach es X.env := by rfl) (hpl : (backTo pos (starEach es X.env)).any (·.1) = false := by rfl) :
    PE X (.Call (.Name x p) (e :: es) [] pos) (tCallD X.prog X.w X.K X.mg X.base j x W t) := by
  refine ⟨fun pins s σ H Q I h => ?_⟩
  obtain ⟨k, sp, hk, c, h⟩ := h
  obtain ⟨f, fd, ps, ds, dvs, sp0, F, hm, kp, b, d, imp⟩ := c.ex
  refine wpAny_Call_Name_kw (ld_glob I hg hm ?_ hdb)
  refine PySem.W.callWith_K (h₀ := X.base) I.ok.mod.kin kp (thn (ha.run pos pins s σ H _ I h) fun us s1 ⟨vs, H1, I1, r, q⟩ => ⟨I1.kIn, ?_⟩) he hpl
  exact run_fnSD (E := WE W) F (hr.mono hk) b d (passAt tk σ) I1 r (imp _ _ _ _ q)
theorem pd_call0 (hr : Room j X.A) (tk : Takes X W) (hg : Gl X x) (hdb : (x == ("__debug__" : Str)) = false := by decide) :
    PE X (.Call (.Name x p) [] [] pos) (tCallD X.prog X.w X.K X.mg X.base j x W tNil) := by
  refine ⟨fun pins s σ H Q I h => ?_⟩
  obtain ⟨k, sp, hk, c, h⟩ := h
  obtain ⟨f, fd, ps, ds, dvs, sp0, F, hm, kp, b, d, imp⟩ := c.ex
  refine wpAny_Call_Name_kw (ld_glob I hg hm ?_ hdb)
  exact PySem.W.callWith_K0 I.kIn kp (run_fnSD (us := []) (E := WE W) F (hr.mono hk) b d (passAt tk σ) I .nil (imp _ _ _ _ h))

theorem pd_meth {pl : Sem Bool} (hr : Room j X.A) (tk : Takes X W) (he : PE X o ta) (ha : PA X (e :: es) t)
    (hst : starEach (e :: es) X.env = (false, eval e X.env) :: starEach es X.env := by rfl) (hpl : (backTo pos (starEach es X.env)).any (·.1) = false := by rfl)
    (ht : eval (.Call (.Attribute o m apos) (e :: es) [] pos) X.env = (do
      let ov ← eval o X.env
      standAt apos.atName
      let (f, first) ← holding [ov] (getMethod ov m pl)
      callWith pos f first (backTo pos (starEach (e :: es) X.env)) (backToKw pos (keywordEach [] X.env))) := by rfl) :
    PE X (.Call (.Attribute o m apos) (e :: es) [] pos) (tMethD X.prog X.w X.K X.mg X.base j m W ta t) := by
  refine ⟨fun pins s σ H Q I h => ?_⟩
  refine PySem.W.methodCall_KW (pl := pl) (thn (he.run pins s σ H _ I h) fun u s1 hh => ?_) ht
  obtain ⟨x, H1, I1, rx, a, C, dx, fs, k, sp, ex, ea, l, hk, c, q⟩ := hh
  obtain ⟨f, fd, ps, ds, dvs, sp0, hc, hm, F, b, d, imp⟩ := c.ex
  subst ex
  obtain rfl : u = Value.ref a := rx
  refine getmeth_ok I1 ea hc hm l ?_
  refine PySem.W.callWith_K (first := [.ref a]) (h₀ := X.base) I.ok.mod.kin hm.kp (thn (ha.run pos pins s1 σ H1 _ I1 q) fun us s2 ⟨vs, H2, I2, r, q2⟩ => ⟨I2.kIn, ?_⟩) hst hpl
  exact run_fnSD (us := .ref a :: us) (vs := .ref a :: vs) (E := WE W) F (hr.mono hk) b d (passAt tk σ) I2 (.cons rfl r) (imp _ _ _ _ q2)
theorem pd_meth0 {pl : Sem Bool} (hr : Room j X.A) (tk : Takes X W) (he : PE X o ta)
    (ht : eval (.Call (.Attribute o m apos) [] [] pos) X.env = (do
      let ov ← eval o X.env
      standAt apos.atName
      let (f, first) ← holding [ov] (getMethod ov m pl)
      callWith pos f first (backTo pos (starEach [] X.env)) (backToKw pos (keywordEach [] X.env))) := by rfl) :
    PE X (.Call (.Attribute o m apos) [] [] pos) (tMethD X.prog X.w X.K X.mg X.base j m W ta tNil) := by
  refine ⟨fun pins s σ H Q I h => ?_⟩
  refine PySem.W.methodCall_KW (pl := pl) (thn (he.run pins s σ H _ I h) fun u s1 hh => ?_) ht
  obtain ⟨x, H1, I1, rx, a, C, dx, fs, k, sp, ex, ea, l, hk, c, q⟩ := hh
  obtain ⟨f, fd, ps, ds, dvs, sp0, hc, hm, F, b, d, imp⟩ := c.ex
  subst ex
  obtain rfl : u = Value.ref a := rx
  refine getmeth_ok I1 ea hc hm l ?_
  exact PySem.W.callWith_K0 (first := [.ref a]) I1.kIn hm.kp (run_fnSD (us := [.ref a]) (vs := [.ref a]) (E := WE W) F (hr.mono hk) b d (passAt tk σ) I1 (.cons rfl .nil) (imp _ _ _ _ q))

theorem run_makeD {pins : List (Addr × Obj)} {σ : L2.St} {H : Hp} {s : Shared} {Q : VK} {us : List Value} {vs : List V} {k : Nat} {C f : Addr} {fd : FuncData} {ps : List Str} {ds : List Value} {dvs : List V} {sp : Sp} {E : L2.St → XK}
    (M : Mk X.K C f) (F : FnOk X.prog X.w X.K X.mg X.base (L2.CX X.prog X.w) k f fd ps sp) (hr : Room (k + 1) X.A) (hb : Binds X.K fd ps ds) (hd : Vals dvs ds)
    (hx : PassesAt (L2.CX X.prog X.w) X σ (E σ)) (I : Inv X pins σ H s) (r : Vals vs us)
    (h : ∀ x dx, H x = none → H dx = none → dx ≠ x → sp (.ref x :: (vs ++ dvs)) (upd (upd H dx (.own x)) x (.ins C dx [])) (fun v H2 => v = .non ∧ Q (.ref x) H2) (E σ)) :
    wpAny (model X.prog X.w) X.A (call (.ref C) us) (EP X pins σ Q) X.xe s := by
  have hq := h (s.heap.objs.size + 1) s.heap.objs.size (I.hok.fresh (Nat.le_succ _)) (I.hok.fresh (Nat.le_refl _)) (Nat.ne_of_lt (Nat.lt_succ_self _))
  have I2 := Inv.made (C := C) I
  have r2 : Vals (V.ref (s.heap.objs.size + 1) :: (vs ++ dvs)) (Value.ref (s.heap.objs.size + 1) :: (us ++ ds)) := .cons rfl (r.append hd)
  have hl : (Value.ref (s.heap.objs.size + 1) :: us ++ ds).length = ps.length := by
    have e := r2.length
    rw [F.len _ _ _ _ hq] at e
    exact e.symm
  refine wpAny_call (make_map (f := f) I.kIn M.makes M.init (beq_iff_eq.mp M.fn) (codeAny_mono (F.run _ X.stack _ _ ⟨Value.ref (s.heap.objs.size + 1) :: us, []⟩ (Value.ref (s.heap.objs.size + 1) :: (us ++ ds)) _ _ (E σ) (hr.make C us [])
    (I2.env0.make C us []) (hb _ (Value.ref (s.heap.objs.size + 1) :: us) I2.kIn hl) r2 hq) fun r s' hq' => ?_))
  cases r with
  | error e => exact hx pins _ _ e s' I2 hq'
  | ok fl =>
    cases fl with
    | ret u =>
      obtain ⟨v, H', I3, rv, ev, q3⟩ := I2.after hq'
      subst ev
      exact ⟨rv, ⟨V.ref (s.heap.objs.size + 1), H', I3, rfl, q3⟩⟩
    | next => exact False.elim hq'
    | brk => exact False.elim hq'
    | cont => exact False.elim hq'
theorem pd_make (hr : Room j X.A) (tk : Takes X W) (hg : Gl X x) (ha : PA X (e :: es) t)
    (hdb : (x == ("__debug__" : Str)) = false := by decide) (he : starEach (e :: es) X.env = (false, eval e X.env) :: starEach es X.env := by rfl) (hpl : (backTo pos (starEach es X.env)).any (·.1) = false := by rfl) :
    PE X (.Call (.Name x p) (e :: es) [] pos) (tMakeD X.prog X.w X.K X.mg X.base j x W t) := by
  refine ⟨fun pins s σ H Q I h => ?_⟩
  obtain ⟨k, C, sp, hk, c, h⟩ := h
  obtain ⟨f, fd, ps, ds, dvs, sp0, M, hm, F, b, d, imp⟩ := c.ex
  refine wpAny_Call_Name_kw (ld_glob I hg hm ?_ hdb)
  refine PySem.W.callWith_K (h₀ := X.base) I.ok.mod.kin M.kp (thn (ha.run pos pins s σ H _ I h) fun us s1 ⟨vs, H1, I1, r, q⟩ => ⟨I1.kIn, ?_⟩) he hpl
  exact run_makeD (E := WE W) M F (hr.mono hk) b d (passAt tk σ) I1 r fun y dy h1 h2 h3 => imp _ _ _ _ (q y dy h1 h2 h3)
theorem pd_make0 (hr : Room j X.A) (tk : Takes X W) (hg : Gl X x)
    (hdb : (x == ("__debug__" : Str)) = false := by decide) :
    PE X (.Call (.Name x p) [] [] pos) (tMakeD X.prog X.w X.K X.mg X.base j x W tNil) := by
  refine ⟨fun pins s σ H Q I h => ?_⟩
  obtain ⟨k, C, sp, hk, c, h⟩ := h
  obtain ⟨f, fd, ps, ds, dvs, sp0, M, hm, F, b, d, imp⟩ := c.ex
  refine wpAny_Call_Name_kw (ld_glob I hg hm ?_ hdb)
  exact PySem.W.callWith_K0 I.kIn M.kp (run_makeD (us := []) (E := WE W) M F (hr.mono hk) b d (passAt tk σ) I .nil fun y dy h1 h2 h3 => imp _ _ _ _ (h y dy h1 h2 h3))

/-- a class that has no __init__ of its own -/
structure Mk0 (K : PySem.W.Frag) (mg : Str → Option Value) (x : Str) (C : Addr) : Prop where
  mgC : mg x = some (.ref C)
  makes : PySem.W.makesIn K C = true
  init : PySem.W.findIn K (.ref C) "__init__" = some (some (.builtin "object.__init__"))
  kp : PySem.W.keepIn K (.ref C) = true
def tNew0D (K : PySem.W.Frag) (mg : Str → Option Value) (x : Str) : TE := fun _ H Q =>
  ∃ C, Mk0 K mg x C ∧ ∀ y dy, H y = none → H dy = none → dy ≠ y → Q (.ref y) (upd (upd H dy (.own y)) y (.ins C dy []))
theorem pd_new0 (hg : Gl X x) (hdb : (x == ("__debug__" : Str)) = false := by decide) : PE X (.Call (.Name x p) [] [] pos) (tNew0D X.K X.mg x) := by
  refine ⟨fun pins s σ H Q I h => ?_⟩
  obtain ⟨C, M, h⟩ := h
  refine wpAny_Call_Name_kw (ld_glob I hg M.mgC ?_ hdb)
  have hq := h (s.heap.objs.size + 1) s.heap.objs.size (I.hok.fresh (Nat.le_succ _)) (I.hok.fresh (Nat.le_refl _)) (Nat.ne_of_lt (Nat.lt_succ_self _))
  have I2 := Inv.made (C := C) I
  refine PySem.W.callWith_K0 I.kIn M.kp ?_
  show wpAny (model X.prog X.w) X.A (call (.ref C) []) _ _ _
  have I0 := I
  obtain ⟨hh, g, d, tk, os⟩ := s
  have Y := PySem.W.makes_of (M := model X.prog X.w) I0.kIn M.makes
  refine wpAny_call (PySem.W.make_core Y (PySem.W.looks_findIn I0.kIn M.init) (fun self => PySem.W.Looks.of_pure (PySem.W.oi_bind self)) (.inr ⟨rfl, rfl⟩) ?_)
  have hx : ((hh.push PySem.W.emptyDict).push (PySem.W.instObj C hh.objs.size)).get? (hh.objs.size + 1) = some (PySem.W.instObj C hh.objs.size) := by heap_get
  have t1 : PySem.W.Looks (model X.prog X.w) ((hh.push PySem.W.emptyDict).push (PySem.W.instObj C hh.objs.size)) (typeOf (.ref (hh.objs.size + 1))) (.ref C) := (PySem.W.Looks.ld hx).andThen .now
  have t2 : PySem.W.Looks (model X.prog X.w) ((hh.push PySem.W.emptyDict).push (PySem.W.instObj C hh.objs.size)) (isInstance (.ref (hh.objs.size + 1)) (.type "object")) true := t1.andThen (Y.top.keeps fun b o e => Heap.get?_push_of_some _ (Heap.get?_push_of_some _ e))
  refine codeAny_call_builtin PySem.W.oi_plain PySem.W.entry_oi (@PySem.W.check_slot (model X.prog X.w) _ _ _ "object.__init__" "object" "__init__" (.ref (hh.objs.size + 1)) [] [] _ PySem.W.oi_kind PySem.W.oi_split t2 (PySem.W.oi_args (.ref (hh.objs.size + 1))) ?_)
  rw [PySem.W.oi_run]
  exact wpAny_pure (And.intro rfl ⟨V.ref (hh.objs.size + 1), _, I2, rfl, hq⟩)

/-- f(e, ..) by a known promise -/
def tCallF (sp : Sp) (W : WX) (t : TA) : TE := fun σ H Q => t σ H fun vs H1 => sp vs H1 Q (WE W σ)
theorem pc_call {k : Nat} {sp : Sp} (c : CalX X.prog X.w X.K X.mg X.base k x sp) (hr : Room j X.A) (hk : k ≤ j) (tk : Takes X W) (hg : Gl X x) (ha : PA X (e :: es) t)
    (hdb : (x == ("__debug__" : Str)) = false := by decide) (he : starEach (e :: es) X.env = (false, eval e X.env) :: starEach es X.env := by rfl) (hpl : (backTo pos (starEach es X.env)).any (·.1) = false := by rfl) :
    PE X (.Call (.Name x p) (e :: es) [] pos) (tCallF sp W t) :=
  ⟨fun pins s σ H Q I h => (pd_call (p := p) (pos := pos) hr tk hg ha hdb he hpl).run pins s σ H Q I ⟨k, sp, hk, c, h⟩⟩
theorem pc_call0 {k : Nat} {sp : Sp} (c : CalX X.prog X.w X.K X.mg X.base k x sp) (hr : Room j X.A) (hk : k ≤ j) (tk : Takes X W) (hg : Gl X x) (hdb : (x == ("__debug__" : Str)) = false := by decide) :
    PE X (.Call (.Name x p) [] [] pos) (tCallF sp W tNil) :=
  ⟨fun pins s σ H Q I h => (pd_call0 (p := p) (pos := pos) hr tk hg hdb).run pins s σ H Q I ⟨k, sp, hk, c, h⟩⟩
theorem pe_gint {n : Int} (hg : Gl X x) (h : ∃ t, X.mg x = some (.int n t)) (hdb : (x == ("__debug__" : Str)) = false := by decide) : PE X (.Name x pos) (tC (.int n)) := by
  obtain ⟨t, h⟩ := h
  exact pe_glob hg h ⟨t, rfl⟩ hdb
theorem pe_gcls {C : Addr} (hg : Gl X x) (h : X.mg x = some (.ref C)) (hdb : (x == ("__debug__" : Str)) = false := by decide) : PE X (.Name x pos) (tC (.ref C)) := pe_glob hg h rfl hdb

/-! ### the same rules, the written part named K (within a comprehension's block the reading must not speak of the block) -/
section
variable {K : PySem.W.Frag}
theorem kix_list (hK : X.K = K := by rfl) : IxR X (rIxL K) := hK ▸ ix_list
theorem kix_tup (hK : X.K = K := by rfl) : IxR X (rIxT K) := hK ▸ ix_tup
theorem kix_seq (hK : X.K = K := by rfl) : IxR X (rIx K) := hK ▸ ix_seq
theorem kcall_len (hK : X.K = K := by rfl) : CallR X (.builtin "len") (fun xs H Q => ∃ x n, xs = [x] ∧ LenV K x H n ∧ Q (.int n) H) := hK ▸ call_len
theorem kcall_isi (hK : X.K = K := by rfl) : CallR X (.builtin "isinstance") (rIsi K) := hK ▸ call_isi
theorem kin_seq (hK : X.K = K := by rfl) : OpR X (compareOp .In) (rIn K false) := hK ▸ op_in_seq
theorem knotIn_seq (hK : X.K = K := by rfl) : OpR X (compareOp .NotIn) (rIn K true) := hK ▸ op_notIn_seq
theorem kpe_fld {f : Str} (he : PE X e ta) (hb : attributeBase e f X.env (eval e X.env) = eval e X.env) (hK : X.K = K := by rfl) : PE X (.Attribute e f pos) (tFld K ta f) := hK ▸ pe_fld he hb
theorem kpi_list {tg l : Expr} {tl : TE} (hl : PE X l tl) (hK : X.K = K := by rfl) : PI X tg l (iList K tl) := hK ▸ pi_list hl
theorem kpi_tup {tg l : Expr} {tl : TE} (hl : PE X l tl) (hK : X.K = K := by rfl) : PI X tg l (iTup K tl) := hK ▸ pi_tup hl
end
theorem kpd_meth {P : Program} {w : World} {K : PySem.W.Frag} {mg : Str → Option Value} {base : Heap} {pl : Sem Bool} (hr : Room j X.A) (tk : Takes X W) (he : PE X o ta) (ha : PA X (e :: es) t)
    (hP : X.prog = P := by rfl) (hw : X.w = w := by rfl) (hK : X.K = K := by rfl) (hm : X.mg = mg := by rfl) (hB : X.base = base := by rfl)
    (hst : starEach (e :: es) X.env = (false, eval e X.env) :: starEach es X.env := by rfl) (hpl : (backTo pos (starEach es X.env)).any (·.1) = false := by rfl)
    (ht : eval (.Call (.Attribute o m apos) (e :: es) [] pos) X.env = (do
      let ov ← eval o X.env
      standAt apos.atName
      let (f, first) ← holding [ov] (getMethod ov m pl)
      callWith pos f first (backTo pos (starEach (e :: es) X.env)) (backToKw pos (keywordEach [] X.env))) := by rfl) :
    PE X (.Call (.Attribute o m apos) (e :: es) [] pos) (tMethD P w K mg base j m W ta t) := by
  subst hP hw hK hm hB
  exact pd_meth (pl := pl) hr tk he ha hst hpl ht
theorem kpd_meth0 {P : Program} {w : World} {K : PySem.W.Frag} {mg : Str → Option Value} {base : Heap} {pl : Sem Bool} (hr : Room j X.A) (tk : Takes X W) (he : PE X o ta)
    (hP : X.prog = P := by rfl) (hw : X.w = w := by rfl) (hK : X.K = K := by rfl) (hm : X.mg = mg := by rfl) (hB : X.base = base := by rfl)
    (ht : eval (.Call (.Attribute o m apos) [] [] pos) X.env = (do
      let ov ← eval o X.env
      standAt apos.atName
      let (f, first) ← holding [ov] (getMethod ov m pl)
      callWith pos f first (backTo pos (starEach [] X.env)) (backToKw pos (keywordEach [] X.env))) := by rfl) :
    PE X (.Call (.Attribute o m apos) [] [] pos) (tMethD P w K mg base j m W ta tNil) := by
  subst hP hw hK hm hB
  exact pd_meth0 (pl := pl) hr tk he ht

/-! ### both ways of a two-place rule -/
def rOr (r r' : R2) : R2 := fun x y H Q => r x y H Q ∨ r' x y H Q
theorem op_or2 {f : Value → Value → Sem Value} {r r' : R2} (h : OpR X f r) (h' : OpR X f r') : OpR X f (rOr r r') := OpR.or h h'
theorem call_or2 {f : Value} {r r' : List V → Hp → VK → Prop} (h : CallR X f r) (h' : CallR X f r') : CallR X f (fun xs H Q => r xs H Q ∨ r' xs H Q) := by
  intro pins s σ H xs us Q I v q
  rcases q with q | q
  · exact h pins s σ H xs us Q I v q
  · exact h' pins s σ H xs us Q I v q
/-- isinstance(e, c) of what a suite holds, its class told by the reading -/
def rIsED (K : PySem.W.Frag) (a : Addr) (cls : Value) (d : Option Addr) : List V → Hp → VK → Prop := fun xs H Q => ∃ D, cls = .ref D ∧ d = none ∧ ExcC K D ∧ rIsE K D a xs H Q
theorem call_isED {a : Addr} {oe : Obj} {pn : List (Addr × Obj)} {cls : Value} {d : Option Addr} (hz : Zc cls d oe) (hf : ∃ vs, oe.data = .fields vs) : CallR (X.suite a ((a, oe) :: pn)) (.builtin "isinstance") (rIsED X.K a cls d) := by
  intro pins s σ H xs us Q I r h
  obtain ⟨D, rfl, rfl, C, q⟩ := h
  exact call_isE C hz hf pins s σ H xs us Q I r q
/-- text * 0 or 1 -/
def rMulS : R2 := fun x y H Q => ∃ (a : Str) (b : Bool), x = .str a ∧ y = .int (if b then 1 else 0) ∧ Q (.str (if b then a else Str.empty)) H
theorem op_mulS : OpR X (binaryOp .Mult) rMulS := by
  intro pins s σ H x y v u Q I rx ry h
  obtain ⟨a, b, rfl, rfl, q⟩ := h
  obtain ⟨t, rfl⟩ := rx
  obtain ⟨t', rfl⟩ := ry
  cases b with
  | true =>
    refine SB.mul ⟨by decide, fun _ z => absurd z (by simp), fun _ z => absurd z (by simp)⟩ fun t' k => ?_
    refine ⟨.str a, H, I.tok _, ⟨t', ?_⟩, q⟩
    unfold Txt.mul
    rfl
  | false =>
    refine SB.mul ⟨by decide, fun z => absurd (show (0:Int) < 1 by decide) z, fun z => absurd (show (0:Int) < 1 by decide) z⟩ fun t' k => ?_
    refine ⟨.str Str.empty, H, I.tok _, ⟨t', ?_⟩, q⟩
    unfold Txt.mul
    rfl
end
/-! ### try: the body's and the suite's terms are given where the reading stands -/
section
variable {X : Cx} {x n : Str} {c : Value} {i : Nat} {body suite : List Stmt} {b0 : Stmt} {np pos pos' : Pos} {Wout : WX}
def tsD (X : Cx) (b0 : Stmt) (suite : List Stmt) (a : Addr) (cls : Value) (d : Option Addr) : TS := fun D σ H =>
  ∀ (oe : Obj) (pn : List (Addr × Obj)), Zc cls d oe → (∃ vs, oe.data = .fields vs) → ∃ t, PSs (X.suite a ((a, oe) :: pn)) (b0 :: suite) t ∧ t D σ H
def tbD (X : Cx) (body : List Stmt) (W : WX) : TS := fun D σ H =>
  ∀ (pn : List (Addr × Obj)) (xe : Value → Shared → Prop), Takes (X.tr pn xe) W → PassesOwn (model X.prog X.w) X.A X.env xe → ∃ t, PSs (X.tr pn xe) body t ∧ t D σ H
theorem ps_tryD (hs : X.stack = X.env :: X.outer) (hf : X.env.frame = some X.env.locals) (hN : X.N.Nodup) (hi : X.N[i]? = some n) (hln : X.env.kindOf n = some .local) (hc : Names X x c) (tk : Takes X Wout) :
    PS X (.Try body [.ExceptHandler (some (.Name x np)) (some n) (b0 :: suite) pos'] [] [] pos) (fun D σ H => tbD X body (wAs X.K c i (tsD X b0 suite) Wout D) D σ H) :=
  ps_try_as (tb := tbD X body) (ts := tsD X b0 suite) hs hf hN hi hln hc tk
    (fun _ pn xe tk1 po => ⟨fun pins s σ H D I h => let ⟨_, p, q⟩ := h pn xe tk1 po; p.run pins s σ H D I q⟩)
    (fun a oe cls d pn hz hv => ⟨fun pins s σ H D I h => let ⟨_, p, q⟩ := h oe pn hz hv; p.run pins s σ H D I q⟩)
end
/-! ### from a def's own promise -/
section
variable {P : Program} {w : World} {K : PySem.W.Frag} {mg : Str → Option Value} {base : Heap} {k : Nat} {f C : Addr} {fd : FuncData} {ps : List Str} {sp : Sp} {x m : Str}
theorem cal_mk (G : FnOk P w K mg base (L2.CX P w) k f fd ps sp) (hm : mg x = some (.ref f)) (kp : PySem.W.keepIn K (.ref f) = true) (b : Binds K fd ps []) : CalX P w K mg base k x sp :=
  ⟨f, fd, ps, [], [], sp, G, hm, kp, b, .nil, fun _ _ _ _ h => by rw [List.append_nil]; exact h⟩
theorem met_mk (c : Cls K C) (me : Meth K C m f) (G : FnOk P w K mg base (L2.CX P w) k f fd ps sp) (b : Binds K fd ps []) : MetX P w K mg base k C m sp :=
  ⟨f, fd, ps, [], [], sp, c, me, G, b, .nil, fun _ _ _ _ h => by rw [List.append_nil]; exact h⟩
theorem mak_mk (M : Mk K C f) (hm : mg x = some (.ref C)) (G : FnOk P w K mg base (L2.CX P w) k f fd ps sp) (b : Binds K fd ps []) : MakX P w K mg base k x C sp :=
  ⟨f, fd, ps, [], [], sp, M, hm, G, b, .nil, fun _ _ _ _ h => by rw [List.append_nil]; exact h⟩
theorem cal_false (hm : mg x = some (.ref f)) (kp : PySem.W.keepIn K (.ref f) = true) (b : Binds K fd ps []) : CalX P w K mg base 0 x (fun _ _ _ _ => False) :=
  cal_mk ⟨fun _ _ _ _ h => h.elim, fun _ _ _ _ _ _ _ _ _ _ _ _ _ h => h.elim⟩ hm kp b
theorem CalX.imp {sp' : Sp} (c : CalX P w K mg base k x sp) (h : ∀ vs H Q E, sp' vs H Q E → sp vs H Q E) : CalX P w K mg base k x sp' := by
  obtain ⟨f, fd, ps, ds, dvs, sp0, F, hm, kp, b, d, imp⟩ := c.ex
  exact ⟨f, fd, ps, ds, dvs, sp0, F, hm, kp, b, d, fun vs H Q E q => imp vs H Q E (h vs H Q E q)⟩
theorem MetX.imp {sp' : Sp} (c : MetX P w K mg base k C m sp) (h : ∀ vs H Q E, sp' vs H Q E → sp vs H Q E) : MetX P w K mg base k C m sp' := by
  obtain ⟨f, fd, ps, ds, dvs, sp0, F, hm, kp, b, d, imp⟩ := c.ex
  exact ⟨f, fd, ps, ds, dvs, sp0, F, hm, kp, b, d, fun vs H Q E q => imp vs H Q E (h vs H Q E q)⟩
/-- two promises of one def at once -/
theorem FnOk.or {sp' : Sp} (F : FnOk P w K mg base (L2.CX P w) k f fd ps sp) (G : FnOk P w K mg base (L2.CX P w) k f fd ps sp') : FnOk P w K mg base (L2.CX P w) k f fd ps (fun vs H Q E => sp vs H Q E ∨ sp' vs H Q E) :=
  ⟨fun vs H Q E h => h.elim (F.len vs H Q E) (G.len vs H Q E), fun A outer s H args us vs Q E hr he hb hv hs => hs.elim (F.run A outer s H args us vs Q E hr he hb hv) (G.run A outer s H args us vs Q E hr he hb hv)⟩
end
end Ew

set_option Elab.async false
set_option linter.all false
set_option maxRecDepth 100000
set_option maxHeartbeats 4000000
/-! Dicts whose keys are nested tuples, in the hand layer: the object, and d[k], k in d, k not in d, d[k] = v, d.get(k), {}, displays. -/
namespace ND
open PySem PySem.W L2
open Sem (wp)

/-! ### keys -/
mutual
inductive Ky (H : Hp) : NestedKey → V → Prop
  | non : Ky H .none .non
  | int (i : Int) : Ky H (.num i) (.int i)
  | str (x : Str) : Ky H (.text x) (.str x)
  | tup {a : Addr} {xs : List V} {ks : List NestedKey} : H a = some (.tup xs) → Kys H ks xs → Ky H (.tup ks) (.ref a)
inductive Kys (H : Hp) : List NestedKey → List V → Prop
  | nil : Kys H [] []
  | cons {k : NestedKey} {x : V} {ks : List NestedKey} {xs : List V} : Ky H k x → Kys H ks xs → Kys H (k :: ks) (x :: xs)
end
mutual
theorem Ky.keeps {H H' : Hp} (ht : ∀ b ys, H b = some (.tup ys) → H' b = some (.tup ys)) : ∀ {k : NestedKey} {v : V}, Ky H k v → Ky H' k v
  | _, _, .non => .non
  | _, _, .int i => .int i
  | _, _, .str x => .str x
  | _, _, .tup e r => .tup (ht _ _ e) (Kys.keeps ht r)
theorem Kys.keeps {H H' : Hp} (ht : ∀ b ys, H b = some (.tup ys) → H' b = some (.tup ys)) : ∀ {ks : List NestedKey} {xs : List V}, Kys H ks xs → Kys H' ks xs
  | _, _, .nil => .nil
  | _, _, .cons a r => .cons (Ky.keeps ht a) (Kys.keeps ht r)
end
mutual
theorem Ky.is {P : Program} {w : World} {H : Hp} {h : Heap} (ok : HOk P w H h) : ∀ {k : NestedKey} {v : V} {u : Value}, Ky H k v → RelV v u → NestedIs h k u
  | _, _, _, .non, r => by
    obtain rfl := (show _ = Value.none from r)
    exact .none
  | _, _, _, .int i, r => by
    obtain ⟨t, rfl⟩ := (show ∃ t, _ = Value.int i t from r)
    exact .int i t
  | _, _, _, .str x, r => by
    obtain ⟨t, rfl⟩ := (show ∃ t, _ = Value.str x t from r)
    exact .text x t
  | _, _, _, .tup (a := a) (xs := xs) e q, r => by
    obtain rfl := (show _ = Value.ref a from r)
    obtain ⟨_, its, rv, o, h1, h2, n, h3⟩ := (show ObjOk P w H h a (.tup xs) from ok a _ e)
    exact .tup h1 h2 h3 (by simpa using Kys.is ok q rv)
theorem Kys.is {P : Program} {w : World} {H : Hp} {h : Heap} (ok : HOk P w H h) : ∀ {ks : List NestedKey} {xs : List V} {us : List Value}, Kys H ks xs → Vals xs us → NestedAll h ks us
  | _, _, _, .nil, .nil => .nil
  | _, _, _, .cons a r, .cons b t => .cons (Ky.is ok a b) (Kys.is ok r t)
end
theorem Kys.ints {H : Hp} : ∀ is : List Int, Kys H (is.map .num) (is.map .int)
  | [] => .nil
  | i :: is => .cons (.int i) (Kys.ints is)
mutual
/-- a value is at most one key -/
theorem Ky.inj {H : Hp} : ∀ {k k' : NestedKey} {v : V}, Ky H k v → Ky H k' v → k = k'
  | _, _, _, .non, .non => rfl
  | _, _, _, .int i, .int _ => rfl
  | _, _, _, .str x, .str _ => rfl
  | _, _, _, .tup e q, .tup e' q' => by
    rw [e] at e'
    cases e'
    rw [Kys.inj q q']
theorem Kys.inj {H : Hp} : ∀ {ks ks' : List NestedKey} {xs : List V}, Kys H ks xs → Kys H ks' xs → ks = ks'
  | _, _, _, .nil, .nil => rfl
  | _, _, _, .cons a r, .cons a' r' => by rw [Ky.inj a a', Kys.inj r r']
end

/-! ### the object -/
abbrev RE : List (NestedKey × Addr × V) → List (NestedKey × Addr × Value) → Prop := Paired fun p q => p.1 = q.1 ∧ p.2.1 = q.2.1 ∧ RelV p.2.2 q.2.2
def nD (P : Program) (w : World) (a : Addr) (es : List (NestedKey × Addr × V)) : HO := .ext fun h =>
  es.length ≤ sizeLine ∧ (a == sysModules) = false ∧ ∃ xs, RE es xs ∧ ∃ o ds ep, h.get? a = some o ∧ o.ExactDict ∧ o.data = .dict ds ep ∧ ds.toList = xs.map (entryOfKey (nestedKind P w)) ∧ (xs.map (·.1)).Nodup
def kvOf (es : List (NestedKey × Addr × V)) : List (NestedKey × V) := es.map fun e => (e.1, e.2.2)
def Keyed (H : Hp) (es : List (NestedKey × Addr × V)) : Prop := ∀ e ∈ es, Ky H e.1 (.ref e.2.1) ∧ e.1.depth ≤ 8
/-- a dict with nested keys, readable; changeable -/
def AtR (P : Program) (w : World) (H : Hp) (a : Addr) (kvs : List (NestedKey × V)) : Prop := ∃ es, Rd H a (nD P w a es) ∧ Keyed H es ∧ kvs = kvOf es
def At (P : Program) (w : World) (H : Hp) (a : Addr) (kvs : List (NestedKey × V)) : Prop := ∃ es, H a = some (nD P w a es) ∧ Keyed H es ∧ kvs = kvOf es
section
variable {P : Program} {w : World} {H H' : Hp} {h : Heap} {a : Addr} {kvs : List (NestedKey × V)} {es : List (NestedKey × Addr × V)}
theorem At.rd (x : At P w H a kvs) : AtR P w H a kvs := let ⟨es, e, k, r⟩ := x; ⟨es, .inl e, k, r⟩
theorem At.ext (x : At P w H a kvs) : ∃ φ, H a = some (.ext φ) := let ⟨_, e, _⟩ := x; ⟨_, e⟩
theorem Keyed.keeps (x : Keyed H es) (ht : ∀ b ys, H b = some (.tup ys) → H' b = some (.tup ys)) : Keyed H' es := fun e he => ⟨(x e he).1.keeps ht, (x e he).2⟩
/-- it stays while it and the tuples stay -/
theorem At.keeps (x : At P w H a kvs) (ha : ∀ u, H a = some u → H' a = some u) (ht : ∀ b ys, H b = some (.tup ys) → H' b = some (.tup ys)) : At P w H' a kvs :=
  let ⟨es, e, k, r⟩ := x; ⟨es, ha _ e, k.keeps ht, r⟩
theorem nD_ok {xs : List (NestedKey × Addr × Value)} (hl : es.length ≤ sizeLine) (hd : (a == sysModules) = false) (r : RE es xs) (d : ∃ o ds ep, h.get? a = some o ∧ o.ExactDict ∧ o.data = .dict ds ep ∧ ds.toList = xs.map (entryOfKey (nestedKind P w)) ∧ (xs.map (·.1)).Nodup) :
    ObjOk P w H' h a (nD P w a es) :=
  ⟨⟨hl, hd, xs, r, d⟩, let ⟨o, _, _, e, _⟩ := d; ⟨o, e⟩, fun h1 h2 ⟨z1, z2, xs, r, o, ds, ep, e, q⟩ k => ⟨z1, z2, xs, r, o, ds, ep, k o e, q⟩⟩
theorem keyed_is (ok : HOk P w H h) : ∀ {es : List (NestedKey × Addr × V)} {xs : List (NestedKey × Addr × Value)}, RE es xs → Keyed H es → ∀ x ∈ xs, (nestedKind P w).is h x.1 x.2.1 := by
  intro es xs r
  induction r with
  | nil => intro _ x hx; exact nomatch hx
  | @cons p q ps qs hq t ih =>
    intro k x hx
    rcases List.mem_cons.mp hx with e | hx
    · subst e
      obtain ⟨k1, k2⟩ := k p (List.mem_cons_self ..)
      rw [← hq.1, ← hq.2.1]
      exact ⟨k1.is ok rfl, k2⟩
    · exact ih (fun e he => k e (List.mem_cons_of_mem _ he)) x hx
theorem re_kv : ∀ {es : List (NestedKey × Addr × V)} {xs : List (NestedKey × Addr × Value)}, RE es xs → KV (kvOf es) (pairsH xs)
  | _, _, .nil => .nil
  | _, _, .cons h t => .cons ⟨h.1, h.2.2⟩ (re_kv t)
theorem rd_all (ok : HOk P w H h) (x : AtR P w H a kvs) : kvs.length ≤ sizeLine ∧ (a == sysModules) = false ∧ ∃ vs, KV kvs vs ∧ h.DictKeyed (nestedKind P w) a vs := by
  obtain ⟨es, e, k, rfl⟩ := x
  obtain ⟨⟨z, y, xs, r, o, ds, ep, h1, h2, h3, h4, h5⟩, _, _⟩ := (show ObjOk P w H h a (nD P w a es) from rd_of ok e)
  exact ⟨by unfold kvOf; rw [List.length_map]; exact z, y, pairsH xs, re_kv r, xs, ⟨o, ds, ep, h1, h2, h3, h4, keyed_is ok r k, h5⟩, rfl⟩
end

/-! ### reads -/
/-- what the dict at a holds at the key y -/
def NGet (P : Program) (w : World) (H : Hp) (a : Addr) (y : V) (r : Option V) : Prop := ∃ kvs k b, AtR P w H a kvs ∧ y = .ref b ∧ Ky H k y ∧ k.depth ≤ 8 ∧ r = valV kvs k
section
variable {X : Cx} {pins : List (Addr × Obj)} {σ : L2.St} {H : Hp} {s : Shared} {a : Addr} {y v d : V} {u r : Value} {o : Option V} {A : Around} {E : Value → Shared → Prop}
theorem n_getItem {Q : Value → Shared → Prop} (hu : A.units + 9 < cLine) (I : Inv X pins σ H s) (g : NGet X.prog X.w H a y (some v)) (ry : RelV y u) (h : ∀ w' s', Inv X pins σ H s' → RelV v w' → Q w' s') :
    wpAny (model X.prog X.w) A (getItem (.ref a) u) Q E s := by
  obtain ⟨kvs, k, b, e, rfl, ky, kd, l⟩ := g
  cases (show u = Value.ref b from ry)
  obtain ⟨z, hd, vs, rel, dd⟩ := rd_all I.hok e
  obtain ⟨w', hw, rw'⟩ := RelO.some_of (v := v) (o := valueAt vs k) (by rw [l]; exact rel.val k)
  exact getItem_keyed (knd := nestedKind X.prog X.w) (by show A.units + 1 + 8 < cLine; omega) ⟨ky.is I.hok rfl, kd⟩ dd hw (h w' _ (I.tok _) rw')
theorem n_in {Q : Value → Shared → Prop} (hu : A.units + 9 < cLine) (I : Inv X pins σ H s) (g : NGet X.prog X.w H a y o) (ry : RelV y u) (h : ∀ s', Inv X pins σ H s' → Q (.bool o.isSome) s') :
    wpAny (model X.prog X.w) A (compareOp .In u (.ref a)) Q E s := by
  obtain ⟨kvs, k, b, e, rfl, ky, kd, l⟩ := g
  cases (show u = Value.ref b from ry)
  obtain ⟨z, hd, vs, rel, dd⟩ := rd_all I.hok e
  refine in_keyed (knd := nestedKind X.prog X.w) (by show A.units + 1 + 8 < cLine; omega) ⟨ky.is I.hok rfl, kd⟩ hd dd ?_
  rw [← (rel.val k).isSome_eq, ← l]
  exact h _ (I.tok _)
theorem n_notIn {Q : Value → Shared → Prop} (hu : A.units + 9 < cLine) (I : Inv X pins σ H s) (g : NGet X.prog X.w H a y o) (ry : RelV y u) (h : ∀ s', Inv X pins σ H s' → Q (.bool (!o.isSome)) s') :
    wpAny (model X.prog X.w) A (compareOp .NotIn u (.ref a)) Q E s := by
  obtain ⟨kvs, k, b, e, rfl, ky, kd, l⟩ := g
  cases (show u = Value.ref b from ry)
  obtain ⟨z, hd, vs, rel, dd⟩ := rd_all I.hok e
  refine notIn_keyed (knd := nestedKind X.prog X.w) (by show A.units + 1 + 8 < cLine; omega) ⟨ky.is I.hok rfl, kd⟩ hd dd ?_
  rw [← (rel.val k).isSome_eq, ← l]
  exact h _ (I.tok _)
theorem n_get1 {Q : Value → Shared → Prop} (hu : A.units + 9 < cLine) (I : Inv X pins σ H s) (g : NGet X.prog X.w H a y o) (ry : RelV y u) (h : ∀ w' s', Inv X pins σ H s' → RelV (o.getD .non) w' → Q w' s') :
    wpAny (model X.prog X.w) A (call (.builtin "dict.get") [.ref a, u]) Q E s := by
  obtain ⟨kvs, k, b, e, rfl, ky, kd, l⟩ := g
  cases (show u = Value.ref b from ry)
  obtain ⟨z, hd, vs, rel, dd⟩ := rd_all I.hok e
  refine get_keyed (knd := nestedKind X.prog X.w) (by show A.units + 1 + 8 < cLine; omega) ⟨ky.is I.hok rfl, kd⟩ hd dd (h _ _ (I.tok _) ?_)
  rw [l]
  exact (rel.val k).getD rfl
theorem n_get2 {Q : Value → Shared → Prop} (hu : A.units + 9 < cLine) (I : Inv X pins σ H s) (g : NGet X.prog X.w H a y o) (ry : RelV y u) (rd : RelV d r) (h : ∀ w' s', Inv X pins σ H s' → RelV (o.getD d) w' → Q w' s') :
    wpAny (model X.prog X.w) A (call (.builtin "dict.get") [.ref a, u, r]) Q E s := by
  obtain ⟨kvs, k, b, e, rfl, ky, kd, l⟩ := g
  cases (show u = Value.ref b from ry)
  obtain ⟨z, hd, vs, rel, dd⟩ := rd_all I.hok e
  refine getOr_keyed (knd := nestedKind X.prog X.w) (by show A.units + 1 + 8 < cLine; omega) ⟨ky.is I.hok rfl, kd⟩ hd dd (h _ _ (I.tok _) ?_)
  rw [l]
  exact (rel.val k).getD rd
end

/-! ### d[k] = v -/
def putE (es : List (NestedKey × Addr × V)) (k : NestedKey) (b : Addr) (v : V) : List (NestedKey × Addr × V) :=
  if (es.any fun e => decide (e.1 = k)) = true then es.map fun e => if e.1 = k then (e.1, e.2.1, v) else e else es ++ [(k, b, v)]
theorem kv_any (es : List (NestedKey × Addr × V)) (k : NestedKey) : ((kvOf es).any fun kv => decide (kv.1 = k)) = es.any fun e => decide (e.1 = k) := by
  unfold kvOf
  rw [List.any_map]
  rfl
theorem kv_put (es : List (NestedKey × Addr × V)) (k : NestedKey) (b : Addr) (v : V) : kvOf (putE es k b v) = putK (kvOf es) k v := by
  unfold putE putK
  rw [kv_any]
  by_cases c : (es.any fun e => decide (e.1 = k)) = true
  · rw [if_pos c, if_pos c]
    unfold kvOf
    rw [List.map_map, List.map_map]
    refine List.map_congr_left fun e _ => ?_
    show (fun e : NestedKey × Addr × V => (e.1, e.2.2)) (if e.1 = k then (e.1, e.2.1, v) else e) = if e.1 = k then (e.1, v) else (e.1, e.2.2)
    by_cases q : e.1 = k
    · rw [if_pos q, if_pos q]
    · rw [if_neg q, if_neg q]
  · rw [if_neg c, if_neg c]
    unfold kvOf
    rw [List.map_append]
    rfl
theorem putE_len (es : List (NestedKey × Addr × V)) (k : NestedKey) (b : Addr) (v : V) : (putE es k b v).length ≤ es.length + 1 := by
  unfold putE
  split
  · rw [List.length_map]; omega
  · rw [List.length_append]; exact Nat.le_refl _
theorem re_any {k : NestedKey} : ∀ {es : List (NestedKey × Addr × V)} {xs : List (NestedKey × Addr × Value)}, RE es xs → (es.any fun e => decide (e.1 = k)) = (atKey xs k).isSome
  | _, _, .nil => rfl
  | _, _, .cons (a := p) (b := q) (l₁ := ps) (l₂ := qs) h t => by
    have ih := re_any (k := k) t
    rw [List.any_cons, ih, h.1]
    by_cases e : q.1 = k
    · rw [decide_eq_true e, Bool.true_or]
      simp [atKey, List.find?_cons, e]
    · rw [decide_eq_false e, Bool.false_or]
      simp [atKey, List.find?_cons, e]
theorem re_repl {k : NestedKey} {v : V} {u : Value} (rv : RelV v u) : ∀ {es : List (NestedKey × Addr × V)} {xs : List (NestedKey × Addr × Value)}, RE es xs → RE (es.map fun e => if e.1 = k then (e.1, e.2.1, v) else e) (xs.map (putAt k u))
  | _, _, .nil => .nil
  | _, _, .cons (a := p) (b := q) h t => by
    rw [List.map_cons, List.map_cons]
    refine .cons ?_ (re_repl rv t)
    unfold putAt
    obtain ⟨h1, h2, h3⟩ := h
    by_cases e : p.1 = k
    · rw [if_pos e, if_pos (h1.symm.trans e)]
      exact ⟨h1, h2, rv⟩
    · rw [if_neg e, if_neg (fun z => e (h1.trans z))]
      exact ⟨h1, h2, h3⟩
theorem re_put {k : NestedKey} {b : Addr} {v : V} {u : Value} (rv : RelV v u) {es : List (NestedKey × Addr × V)} {xs : List (NestedKey × Addr × Value)} (r : RE es xs) : RE (putE es k b v) (storedH xs k b u) := by
  unfold putE storedH
  rw [re_any r]
  by_cases q : (atKey xs k).isSome = true
  · rw [if_pos q, if_pos q]
    exact re_repl rv r
  · rw [if_neg q, if_neg q]
    exact Paired.snoc r ⟨rfl, rfl, rv⟩
theorem keyed_put {H : Hp} {k : NestedKey} {b : Addr} {v : V} {es : List (NestedKey × Addr × V)} (x : Keyed H es) (ky : Ky H k (.ref b)) (kd : k.depth ≤ 8) : Keyed H (putE es k b v) := by
  unfold putE
  split
  · intro e he
    obtain ⟨e0, h0, rfl⟩ := List.mem_map.mp he
    have := x e0 h0
    by_cases q : e0.1 = k
    · rw [if_pos q]; exact this
    · rw [if_neg q]; exact this
  · intro e he
    rcases List.mem_append.mp he with h | h
    · exact x e h
    · rw [List.mem_singleton.mp h]
      exact ⟨ky, kd⟩
/-- the heap behind a[y] = v: any that holds the changed dict at a, and else what was -/
def NPut (P : Program) (w : World) (H : Hp) (a : Addr) (y v : V) (Q : Hp → Prop) : Prop :=
  ∃ kvs k b, At P w H a kvs ∧ y = .ref b ∧ Ky H k y ∧ k.depth ≤ 8 ∧ kvs.length < sizeLine ∧ ∀ φ, At P w (upd H a (.ext φ)) a (putK kvs k v) → Q (upd H a (.ext φ))
theorem upd_tup {H : Hp} {a : Addr} {u : HO} {φ : Heap → Prop} (e : H a = some (.ext φ)) : ∀ b ys, H b = some (.tup ys) → upd H a u b = some (.tup ys) := fun b ys eb => by
  rw [upd_ne (ne_of eb e (fun z => nomatch z))]
  exact eb
section
variable {X : Cx} {pins : List (Addr × Obj)} {σ : L2.St} {H : Hp} {s : Shared} {a : Addr} {y v d : V} {u r : Value} {A : Around} {E : Value → Shared → Prop}
theorem n_setItem {Qh : Hp → Prop} {Q : Unit → Shared → Prop} (hu : A.units + 9 < cLine) (I : Inv X pins σ H s) (g : NPut X.prog X.w H a y v Qh) (ry : RelV y u) (rv : RelV v r) (h : ∀ H' s', Inv X pins σ H' s' → Qh H' → Q () s') :
    wpAny (model X.prog X.w) A (setItem (.ref a) u r) Q E s := by
  obtain ⟨kvs, k, b, ⟨es, e, ke, rfl⟩, rfl, ky, kd, hl, q⟩ := g
  cases (show u = Value.ref b from ry)
  obtain ⟨⟨z, hd, xs, re, o, ds, ep, h1, h2, h3, h4, h5⟩, _, _⟩ := (show ObjOk X.prog X.w H s.heap a (nD X.prog X.w a es) from I.hok a _ e)
  have dd : s.heap.DictOfH (nestedKind X.prog X.w) a xs := ⟨o, ds, ep, h1, h2, h3, h4, keyed_is I.hok re ke, h5⟩
  have hel : (kvOf es).length = es.length := List.length_map ..
  have hz : xs.length ≤ sizeLine := by rw [← Paired.length re]; exact z
  refine wpAny_setItem_heap (knd := nestedKind X.prog X.w) (hsz := hz) (by show A.units + 1 + 8 < cLine; omega) ⟨ky.is I.hok rfl, kd⟩ dd fun h' dd' hs => ?_
  obtain ⟨o', ds', ep', g1, g2, g3, g4, _, g5⟩ := dd'
  have hzl : (putE es k b v).length ≤ sizeLine := by
    have := putE_len es k b v
    omega
  refine h _ _ (d_write (ob := nD X.prog X.w a (putE es k b v)) I (by rw [e]; exact True.intro) hs ⟨o', g1⟩ (nD_ok hzl hd (re_put rv re) ⟨o', ds', ep', g1, g2, g3, g4, g5⟩)) (q _ ⟨putE es k b v, upd_same, ?_, (kv_put es k b v).symm⟩)
  exact (keyed_put ke ky kd).keeps (upd_tup e)
end

/-! ### readings -/
section
variable (P : Program) (w : World)
def tNGet (td ty : TE) : TE := fun σ H Q => td σ H fun x H1 => ty σ H1 fun y H2 => ∃ a v, x = .ref a ∧ NGet P w H2 a y (some v) ∧ Q v H2
def tNIn (ty td : TE) : TE := fun σ H Q => ty σ H fun y H1 => td σ H1 fun x H2 => ∃ a o, x = .ref a ∧ NGet P w H2 a y o ∧ Q (.bl o.isSome) H2
def tNNotIn (ty td : TE) : TE := fun σ H Q => ty σ H fun y H1 => td σ H1 fun x H2 => ∃ a o, x = .ref a ∧ NGet P w H2 a y o ∧ Q (.bl (!o.isSome)) H2
def sNPut (td ty tv : TE) : TS := fun D σ H => tv σ H fun v H1 => td σ H1 fun x H2 => ty σ H2 fun y H3 => ∃ a, x = .ref a ∧ NPut P w H3 a y v (D.nx σ)
def tNGet1 (td ty : TE) : TE := fun σ H Q => td σ H fun x H1 => ∃ a kvs, x = .ref a ∧ AtR P w H1 a kvs ∧ ty σ H1 fun y H2 => ∃ o, NGet P w H2 a y o ∧ Q (o.getD .non) H2
def tNGet2 (td ty tx : TE) : TE := fun σ H Q => td σ H fun x H1 => ∃ a kvs, x = .ref a ∧ AtR P w H1 a kvs ∧ ty σ H1 fun y H2 => tx σ H2 fun z H3 => ∃ o, NGet P w H3 a y o ∧ Q (o.getD z) H3
def tNNew : TE := fun _ H Q => ∀ p φ, H p = none → At P w (upd H p (.ext φ)) p [] → Q (.ref p) (upd H p (.ext φ))
end
section
variable {X : Cx} {o i e f value : Expr} {pos pos' tpos apos cpos : Pos} {td ty tv tx : TE}
theorem typeIs_of {pins : List (Addr × Obj)} {σ : L2.St} {H : Hp} {s : Shared} {a : Addr} {kvs : List (NestedKey × V)} (I : Inv X pins σ H s) (g : AtR X.prog X.w H a kvs) : s.TypeIs (.ref a) "dict" := by
  obtain ⟨_, _, vs, _, dd⟩ := rd_all I.hok g
  exact dd.typeIs
theorem noDict_of {pins : List (Addr × Obj)} {σ : L2.St} {H : Hp} {s : Shared} {a : Addr} {kvs : List (NestedKey × V)} (I : Inv X pins σ H s) (g : AtR X.prog X.w H a kvs) :
    ∀ b, Value.ref a = .ref b → ∃ ob, s.heap.get? b = some ob ∧ ob.dict = none := fun b q => by
  cases q
  obtain ⟨_, _, vs, _, xs, ⟨ob, _, _, h1, h2, _⟩, _⟩ := rd_all I.hok g
  exact ⟨ob, h1, h2.2.1⟩
theorem pe_nget (hu : X.A.units + 9 < cLine) (ho : PE X o td) (hi : PE X i ty) (hs : NoSl i) : PE X (.Subscript o i pos) (tNGet X.prog X.w td ty) := by
  refine ⟨fun pins s σ H Q I h => ?_⟩
  refine subD_of PySem.F.slot_dict_getitem.lookup hs (thn (ho.run pins s σ H _ I h) fun u s1 ⟨x, H1, I1, rx, q1⟩ => thn (hi.run pins s1 σ H1 _ I1 q1) fun iv s2 ⟨y, H2, I2, ry, a, v, ex, g, q2⟩ => ?_)
  subst ex
  obtain rfl : u = Value.ref a := rx
  refine ⟨?_, n_getItem hu I2 g ry fun w' s3 I3 rw' => ⟨v, H2, I3, rw', q2⟩⟩
  obtain ⟨kvs, k, b, e, _⟩ := g
  exact typeIs_of I2 e
theorem pc_nin (hu : X.A.units + 9 < cLine) (hi : PE X i ty) (ho : PE X o td) : PC X .In i o (tNIn X.prog X.w ty td) := by
  refine ⟨fun pins s σ H Q I h => ?_⟩
  refine thn (hi.run pins s σ H _ I h) fun iv s1 ⟨y, H1, I1, ry, q1⟩ => thn (ho.run pins s1 σ H1 _ I1 q1) fun u s2 ⟨x, H2, I2, rx, a, ov, ex, g, q2⟩ => ?_
  subst ex
  obtain rfl : u = Value.ref a := rx
  exact n_in hu I2 g ry fun s3 I3 => ⟨.bl ov.isSome, H2, I3, rfl, q2⟩
theorem pc_nnotin (hu : X.A.units + 9 < cLine) (hi : PE X i ty) (ho : PE X o td) : PC X .NotIn i o (tNNotIn X.prog X.w ty td) := by
  refine ⟨fun pins s σ H Q I h => ?_⟩
  refine thn (hi.run pins s σ H _ I h) fun iv s1 ⟨y, H1, I1, ry, q1⟩ => thn (ho.run pins s1 σ H1 _ I1 q1) fun u s2 ⟨x, H2, I2, rx, a, ov, ex, g, q2⟩ => ?_
  subst ex
  obtain rfl : u = Value.ref a := rx
  exact n_notIn hu I2 g ry fun s3 I3 => ⟨.bl (!ov.isSome), H2, I3, rfl, q2⟩
theorem ps_nput (hu : X.A.units + 9 < cLine) (ho : PE X o td) (hi : PE X i ty) (hv : PE X value tv) (hs : swapsWith value (some (.Subscript o i pos')) pos.line X.env = pure false) :
    PS X (.Assign [.Subscript o i pos'] value pos) (sNPut X.prog X.w td ty tv) := by
  refine ⟨fun pins s σ H D I h => ?_⟩
  refine wpAny_Assign_Subscript (thn (hv.run pins s σ H _ I h) fun r s1 ⟨v, H1, I1, rv, q1⟩ => thn (ho.run pins s1 σ H1 _ I1 q1) fun u s2 ⟨x, H2, I2, rx, q2⟩ => thn (hi.run pins s2 σ H2 _ I2 q2) fun iv s3 ⟨y, H3, I3, ry, a, ex, g⟩ => ?_) hs
  subst ex
  obtain rfl : u = Value.ref a := rx
  exact n_setItem hu I3 g ry rv fun H4 s4 I4 q3 => ⟨σ, H4, I4, q3⟩
theorem pe_nget1 (hu : X.A.units + 9 < cLine) (ho : PE X o td) (he : PE X e ty) (m : M1 X o "get" apos e cpos) : PE X (.Call (.Attribute o "get" apos) [e] [] cpos) (tNGet1 X.prog X.w td ty) := by
  refine ⟨fun pins s σ H Q I h => ?_⟩
  refine wpAny_Call_method m.base m.few m.line PySem.F.plainAttrs_dict PySem.F.slot_dict_get PySem.F.type_dict_get (thn (ho.run pins s σ H _ I h) fun u s1 ⟨x, H1, I1, rx, a, kvs, ex, d, q1⟩ => ?_)
  subst ex
  obtain rfl : u = Value.ref a := rx
  refine ⟨typeIs_of I1 d, noDict_of I1 d, ?_⟩
  rw [m.trees]
  refine Calls.callWith_builtin rfl (Calls.evalArgs_plain (Calls.spliced_cons (thn (he.run pins s1 σ H1 _ I1 q1) fun iv s2 ⟨y, H2, I2, ry, ov, g, q2⟩ => Calls.spliced_nil ?_)))
  exact n_get1 hu I2 g ry fun w' s3 I3 rw' => ⟨_, H2, I3, rw', q2⟩
theorem pe_nget2 (hu : X.A.units + 9 < cLine) (ho : PE X o td) (he : PE X e ty) (hf : PE X f tx) (m : M2 X o "get" apos e f cpos) : PE X (.Call (.Attribute o "get" apos) [e, f] [] cpos) (tNGet2 X.prog X.w td ty tx) := by
  refine ⟨fun pins s σ H Q I h => ?_⟩
  refine wpAny_Call_method m.base m.few m.line PySem.F.plainAttrs_dict PySem.F.slot_dict_get PySem.F.type_dict_get (thn (ho.run pins s σ H _ I h) fun u s1 ⟨x, H1, I1, rx, a, kvs, ex, d, q1⟩ => ?_)
  subst ex
  obtain rfl : u = Value.ref a := rx
  refine ⟨typeIs_of I1 d, noDict_of I1 d, ?_⟩
  rw [m.trees]
  refine Calls.callWith_builtin rfl (Calls.evalArgs_plain (Calls.spliced_cons (thn (he.run pins s1 σ H1 _ I1 q1) fun iv s2 ⟨y, H2, I2, ry, q2⟩ =>
    Calls.spliced_cons (thn (hf.run pins s2 σ H2 _ I2 q2) fun fv s3 ⟨z, H3, I3, rz, ov, g, q3⟩ => Calls.spliced_nil ?_))))
  exact n_get2 hu I3 g ry rz fun w' s4 I4 rw' => ⟨_, H3, I4, rw', q3⟩
theorem n_empty {P : Program} {w : World} {H : Hp} (h : Heap) (hb : sysModules < h.objs.size) : ObjOk P w H (h.push { cls := .type "dict", data := .dict #[] }) h.objs.size (nD P w h.objs.size []) :=
  nD_ok (xs := []) (Nat.zero_le _) (beq_eq_false_iff_ne.mpr (Ne.symm (Nat.ne_of_lt hb))) .nil ⟨_, #[], 0, Heap.get?_push_size _ rfl, ⟨rfl, rfl, rfl⟩, rfl, rfl, List.nodup_nil⟩
theorem pe_nnew : PE X (.Dict [] [] pos) (tNNew X.prog X.w) := ⟨fun pins s σ H Q I h =>
  wpAny_Dict_empty ⟨.ref s.heap.objs.size, _, I.laid (a := s.heap.objs.size) (o := nD X.prog X.w s.heap.objs.size []) (t' := s.toks) (fun _ _ q => Heap.get?_push_of_some _ q) (Nat.le_refl _) (n_empty s.heap I.big), rfl,
    h _ _ (I.hok.fresh (Nat.le_refl _)) ⟨[], upd_same, (fun _ h => nomatch h), rfl⟩⟩⟩
end

/-! ### displays -/
inductive CK (H : Hp) : List (V × V) → List (NestedKey × Addr × V) → Prop
  | nil : CK H [] []
  | cons {k : NestedKey} {b : Addr} {v : V} {ps : List (V × V)} {es : List (NestedKey × Addr × V)} : Ky H k (.ref b) → k.depth ≤ 8 → CK H ps es → CK H ((.ref b, v) :: ps) ((k, b, v) :: es)
def mergeE (acc more : List (NestedKey × Addr × V)) : List (NestedKey × Addr × V) := more.foldl (fun acc e => putE acc e.1 e.2.1 e.2.2) acc
theorem mergeE_len : ∀ (more acc : List (NestedKey × Addr × V)), (mergeE acc more).length ≤ acc.length + more.length
  | [], acc => Nat.le_refl _
  | p :: r, acc => by
    have h1 := mergeE_len r (putE acc p.1 p.2.1 p.2.2)
    have h2 := putE_len acc p.1 p.2.1 p.2.2
    show (mergeE (putE acc p.1 p.2.1 p.2.2) r).length ≤ _
    rw [List.length_cons]; omega
theorem ck_carries {P : Program} {w : World} {H : Hp} {h : Heap} (ok : HOk P w H h) {ps : List (V × V)} {es : List (NestedKey × Addr × V)} (c : CK H ps es) :
    ∀ {ws : List (Value × Value)}, VV ps ws → ∃ xs, CarriesH (nestedKind P w) h ws xs ∧ RE es xs := by
  induction c with
  | nil => intro ws r; cases r; exact ⟨[], True.intro, .nil⟩
  | @cons k b v ps es ky kd c ih =>
    intro ws r
    cases r with
    | @cons _ q _ qs h1 t =>
      obtain ⟨xs, c', r'⟩ := ih t
      obtain ⟨q1, q2⟩ := q
      obtain rfl : q1 = Value.ref b := h1.1
      exact ⟨(k, b, q2) :: xs, ⟨rfl, rfl, ⟨ky.is ok rfl, kd⟩, c'⟩, .cons ⟨rfl, rfl, h1.2⟩ r'⟩
theorem re_merge {es : List (NestedKey × Addr × V)} {xs : List (NestedKey × Addr × Value)} (r : RE es xs) : ∀ {acc : List (NestedKey × Addr × V)} {acc' : List (NestedKey × Addr × Value)}, RE acc acc' → RE (mergeE acc es) (storedAllH acc' xs) := by
  induction r with
  | nil => intro _ _ r; exact r
  | @cons p q ps qs h t ih =>
    intro acc acc' r
    obtain ⟨h1, h2, h3⟩ := h
    have := ih (re_put (k := p.1) (b := p.2.1) h3 r)
    rw [show mergeE acc (p :: ps) = mergeE (putE acc p.1 p.2.1 p.2.2) ps from rfl, show storedAllH acc' (q :: qs) = storedAllH (storedH acc' q.1 q.2.1 q.2.2) qs from rfl, ← h1, ← h2]
    exact this
theorem keyed_merge {H : Hp} : ∀ {es acc : List (NestedKey × Addr × V)}, Keyed H es → Keyed H acc → Keyed H (mergeE acc es)
  | [], _, _, r => r
  | (k, b, v) :: es, acc, q, r => by
    have h1 := q (k, b, v) (List.mem_cons_self ..)
    exact keyed_merge (es := es) (fun e he => q e (List.mem_cons_of_mem _ he)) (keyed_put r h1.1 h1.2)
theorem CK.keyed {H : Hp} {ps : List (V × V)} {es : List (NestedKey × Addr × V)} (c : CK H ps es) : Keyed H es := by
  induction c with
  | nil => exact fun _ h => nomatch h
  | cons ky kd _ ih =>
    intro e he
    rcases List.mem_cons.mp he with h | h
    · rw [h]; exact ⟨ky, kd⟩
    · exact ih e h
theorem kv_merge : ∀ (es acc : List (NestedKey × Addr × V)), kvOf (mergeE acc es) = es.foldl (fun acc e => putK acc e.1 e.2.2) (kvOf acc)
  | [], _ => rfl
  | (k, b, v) :: es, acc => by
    show kvOf (mergeE (putE acc k b v) es) = List.foldl (fun acc (e : NestedKey × Addr × V) => putK acc e.1 e.2.2) (putK (kvOf acc) k v) es
    rw [kv_merge es, kv_put]
def tNDisp (P : Program) (w : World) (trs : List (TE × TE)) : TE := fun σ H Q => ∀ p φ, H p = none → At P w (upd H p (.ext φ)) p [] → tPairs trs σ (upd H p (.ext φ)) fun ps H2 => H2 p = some (.ext φ) ∧ ∃ es, CK H2 ps es ∧ es.length ≤ 15 ∧
  ∀ φ', At P w (upd H2 p (.ext φ')) p (kvOf (mergeE [] es)) → Q (.ref p) (upd H2 p (.ext φ'))
theorem pe_ndisp {X : Cx} {pos : Pos} {keys : List (Option Expr)} {values : List Expr} {trs : List (TE × TE)} (hu : X.A.units + 9 < cLine) (h : PPs X pos keys values trs) (hall : keys.all (·.isSome) = true) (hl : keys.length = values.length) (h0 : keys ≠ [])
    (h15 : keys.length ≤ 15) : PE X (.Dict keys values pos) (tNDisp X.prog X.w trs) := by
  refine ⟨fun pins s σ H Q I q => ?_⟩
  have hn := I.hok.fresh (Nat.le_refl s.heap.objs.size)
  have I1 := I.laid (a := s.heap.objs.size) (o := nD X.prog X.w s.heap.objs.size []) (h' := s.heap.push { cls := .type "dict", data := .dict #[] }) (t' := s.toks) (fun _ _ q => Heap.get?_push_of_some _ q) (Nat.le_refl _) (n_empty s.heap I.big)
  have hlen := pairTrees_length keys values X.env pos hall hl
  have hne : pairTrees keys values X.env pos ≠ [] := fun e => by
    rw [e] at hlen
    exact h0 (List.length_eq_zero_iff.mp hlen.symm)
  rw [arm_eval_Dict, zip_pairTrees keys values X.env pos hall hl, dictDisplay_pairs _ hne (by omega)]
  refine wpAny_bind (wpAny_standAt (wpAny_bind (wpAny_subDictH (knd := nestedKind X.prog X.w) (by show X.A.units + 8 < cLine; omega) (by rw [hlen]; exact h15) ?_)))
  refine thn (h.run pins _ σ _ _ I1 (q _ _ hn ⟨[], upd_same, (fun _ h => nomatch h), rfl⟩)) fun ws s2 ⟨ps, H2, I2, rel, e, es, ck, lk, q2⟩ => ?_
  obtain ⟨xs, c, rk⟩ := ck_carries (P := X.prog) (w := X.w) I2.hok ck rel
  obtain ⟨⟨z, hd, xs0, re0, o, ds, ep, h1, h2, h3, h4, h5⟩, _, _⟩ := (show ObjOk X.prog X.w H2 s2.heap s.heap.objs.size (nD X.prog X.w s.heap.objs.size []) from I2.hok _ _ e)
  cases re0
  refine ⟨xs, c, ⟨o, ds, ep, h1, h2, h3, h4, (fun _ h => nomatch h), h5⟩, fun h' tk dd' hs => wpAny_pure ⟨.ref s.heap.objs.size, _, ?_, rfl, q2 _ ⟨mergeE [] es, upd_same, (keyed_merge (acc := []) ck.keyed (fun _ h => nomatch h)).keeps (upd_tup e), rfl⟩⟩⟩
  obtain ⟨o', ds', ep', g1, g2, g3, g4, _, g5⟩ := dd'
  have hz : (mergeE [] es).length ≤ sizeLine := by
    have h1 := mergeE_len es []
    rw [List.length_nil] at h1
    rw [sizeLine_eq]; omega
  exact d_write (ob := nD X.prog X.w s.heap.objs.size (mergeE [] es)) I2 (by rw [e]; exact True.intro) hs ⟨o', g1⟩ (nD_ok hz hd (re_merge rk .nil) ⟨o', ds', ep', g1, g2, g3, g4, g5⟩)
end ND

set_option Elab.async false
set_option linter.all false
set_option maxRecDepth 100000
set_option maxHeartbeats 4000000
/-! d.items(), sorted(d), sorted(d.items()), len(d): d a dict with nested keys, or with int and text keys. -/
namespace NI
open PySem PySem.W PySem.Calls PyProof.Rows L2
open L2.DX (itemsO itemsO_ok takeT)
/-- the pairs that stand in the dict at a -/
def DictV (P : Program) (w : World) (H : Hp) (a : Addr) (ps : List (V × V)) : Prop :=
  (∃ es, Rd H a (ND.nD P w a es) ∧ ps = es.map fun e => (V.ref e.2.1, e.2.2)) ∨ ∃ kvs : List (L2.Key × V), Rd H a (.dK kvs) ∧ ps = kvs.map fun kv => (kV kv.1, kv.2)
def RawV (h : Heap) (a : Addr) (ps : List (V × V)) : Prop := ∃ es ep, h.DictRaw a es ep ∧ (a == sysModules) = false ∧ es.size = ps.length ∧ ps.length ≤ sizeLine ∧ ∀ (i : Nat) (p : V × V), ps[i]? = some p → ∃ e, es[i]? = some e ∧ RelV p.1 e.key ∧ RelV p.2 e.val
theorem re_at {es : List (NestedKey × Addr × V)} {xs : List (NestedKey × Addr × Value)} (r : ND.RE es xs) : ∀ (i : Nat) e, es[i]? = some e → ∃ x, xs[i]? = some x ∧ e.1 = x.1 ∧ e.2.1 = x.2.1 ∧ RelV e.2.2 x.2.2 := by
  induction r with
  | nil => intro i e h; simp at h
  | cons h t ih =>
    intro i e he
    rcases i with _ | i
    · cases he
      exact ⟨_, rfl, h⟩
    · exact ih i e he
theorem kv_at {κ : Type} {kvs : List (κ × V)} {vs : List (κ × Value)} (r : KV kvs vs) : ∀ (i : Nat) e, kvs[i]? = some e → ∃ x, vs[i]? = some x ∧ e.1 = x.1 ∧ RelV e.2 x.2 := by
  induction r with
  | nil => intro i e h; simp at h
  | cons h t ih =>
    intro i e he
    rcases i with _ | i
    · cases he
      exact ⟨_, rfl, h⟩
    · exact ih i e he
theorem each_of {α β : Type} {R : α → β → Prop} : ∀ {as : List α} {bs : List β}, as.length = bs.length → (∀ (i : Nat) a b, as[i]? = some a → bs[i]? = some b → R a b) → EachIs R as bs
  | [], [], _, _ => .nil
  | [], _ :: _, h, _ => by simp at h
  | _ :: _, [], h, _ => by simp at h
  | a :: as, b :: bs, h, f => .cons (f 0 a b rfl rfl) (each_of (by simpa using h) fun i a b x y => f (i + 1) a b x y)
theorem DictV.raw {P : Program} {w : World} {H : Hp} {h : Heap} {a : Addr} {ps : List (V × V)} (ok : HOk P w H h) (d : DictV P w H a ps) : RawV h a ps := by
  rcases d with ⟨es, e, rfl⟩ | ⟨kvs, e, rfl⟩
  · obtain ⟨⟨z, y, xs, r, o, ds, ep, h1, h2, h3, h4, h5⟩, _, _⟩ := (show ObjOk P w H h a (ND.nD P w a es) from rd_of ok e)
    have l := Paired.length r
    have ls : ds.size = xs.length := size_of_entries h4
    refine ⟨ds, ep, ⟨o, h1, h2, h3⟩, y, by rw [List.length_map, l, ls], by rw [List.length_map]; exact z, fun i p hp => ?_⟩
    rw [List.getElem?_map] at hp
    obtain ⟨e', he', rfl⟩ := Option.map_eq_some_iff.mp hp
    obtain ⟨x, hx, _, e2, r3⟩ := re_at r i e' he'
    refine ⟨entryOfKey (nestedKind P w) x, by rw [entry_at h4 i, hx]; rfl, ?_, r3⟩
    show Value.ref x.2.1 = Value.ref e'.2.1
    rw [e2]
  · obtain ⟨z, lo, vs, rel, dd⟩ := dk_rd ok e
    obtain ⟨es, ep, dr, sz, at_⟩ := Heap.DictOf.raw dd
    have l := Paired.length rel
    refine ⟨es, ep, dr, lo, by rw [List.length_map, sz, l], by rw [List.length_map]; exact z, fun i p hp => ?_⟩
    rw [List.getElem?_map] at hp
    obtain ⟨kv, hk, rfl⟩ := Option.map_eq_some_iff.mp hp
    have hi : i < kvs.length := (List.getElem?_eq_some_iff.mp hk).1
    have hv : i < vs.length := by omega
    have he : i < es.size := by omega
    obtain ⟨b1, b2⟩ := at_ i he vs[i].1 vs[i].2 (by rw [List.getElem?_eq_getElem hv])
    obtain ⟨x, hx, r1, r2⟩ := kv_at rel i kv hk
    rw [List.getElem?_eq_getElem hv] at hx
    cases hx
    refine ⟨es[i], Array.getElem?_eq_getElem he, ?_, by rw [b2]; exact r2⟩
    rw [← r1] at b1
    rcases keyIs_shape (show keyIs kv.1 es[i].key = true from b1) with ⟨n, t, ek, ev⟩ | ⟨z, t, ek, ev⟩
    · rw [ek, ev]; exact ⟨t, rfl⟩
    · rw [ek, ev]; exact ⟨t, rfl⟩
theorem KV_src {prog : Program} {w : World} {a : Addr} {es : Array DictEntry} {ep : Nat} (lo : (a == sysModules) = false) : KdlSrc prog w "dict" a a es.size (fun i v => ∃ hi : i < es.size, v = es[i].key) (fun h => h.DictRaw a es ep) where
  type := fun _ hm => hm.typeIs
  there := fun _ hm => let ⟨_, ho, _⟩ := hm; ⟨Heap.lt_size ho, Heap.lt_size ho⟩
  keep := fun _ _ hm hk => hm.at fun o e => hk a (.inl rfl) o e
  notList := by decide
  notTuple := by decide
  hint := fun _ _ _ _ hm hq => kdl_hint_dict hm.typeIs hq
  iter := fun _ _ hh hm => ⟨_, _, (fun _ _ hq => wpAny_pyIter_dict_raw lo hm hq), Walks.rawKeys hh _ a (let ⟨_, ho, _⟩ := hm; Nat.ne_of_lt (Heap.lt_size ho)) es ep, ⟨⟨_, Heap.get?_push_size _ rfl, rfl, rfl⟩, hm.at fun o e => Heap.get?_push_of_some _ e⟩⟩
/-! ### the sort of a list just made -/
section
variable {prog : Program} {w : World} {A : Around} {E : Value → Shared → Prop} {s : Shared}
theorem sort_here {a : Addr} {vs : List Value} {n : Nat} {Q : Value → Shared → Prop} (zs : List (V × PyData)) (ho : s.heap.get? a = some (seqObj "list" vs.toArray n)) (e : EachIs (fun v (z : V × PyData) => RelV z.1 v ∧ ∃ as, Reads (sortingHeap s.heap a vs) v z.2 as) vs zs) (hok : SortOk (zs.map (·.2)))
    (hu : ∀ z ∈ zs, A.in1.units + z.2.depth < cLine) (hL : vs.length ≤ sizeLine)
    (h : ∀ (out : List Value) (ys : List (V × PyData)), ys.Perm zs → ys.Pairwise (fun a b => dataLt b.2 a.2 = false) → Vals (ys.map (·.1)) out → EachIs (fun v (z : V × PyData) => RelV z.1 v ∧ ∃ as, Reads (sortingHeap s.heap a vs) v z.2 as) out ys → Q .none { s with heap := sortedHeap s.heap a vs out.toArray }) :
    wpAny (model prog w) A (call (.builtin "list.sort") [.ref a]) Q E s := by
  refine wpAny_call_entry slot_list_sort ⟨_, ho, rfl⟩ entry_list_sort ?_ (args_list_sort _)
  have er : EachIs (fun v (z : V × PyData) => ∃ as, Reads (sortingHeap s.heap a vs) v z.2 as) vs zs := e.mono fun _ _ h => h.2
  have em := each_map (R := fun v d => ∃ as, Reads (sortingHeap s.heap a vs) v d as) (fun z : V × PyData => z.2) er
  have hd : ∀ d, d ∈ zs.map (fun z => z.2) → A.in1.units + d.depth < cLine := fun d h => by
    obtain ⟨z, hz, rfl⟩ := List.mem_map.mp h
    exact hu z hz
  have S : SortsAt prog w A.in1 { s with heap := sortingHeap s.heap a vs } (dataKind (sortingHeap s.heap a vs) (zs.map fun z => z.2)) vs := by
    rcases hok.2 with ht | hn
    · exact SDx.sorts_tuples (s := { s with heap := sortingHeap s.heap a vs }) em hok.1 ht hd
    · exact SortsAt.data (s := { s with heap := sortingHeap s.heap a vs }) em hok.1 (.inr hn) hd
  have eo := sortVals_data false e er hok.1
  refine list_sort_vals ho S hL ⟨.none, rfl, ?_⟩
  generalize sortVals (dataKind (sortingHeap s.heap a vs) (zs.map fun z => z.2)) false vs vs = out at eo ⊢
  refine h out (zs.mergeSort (dataLe false fun z => z.2)) (List.mergeSort_perm ..) ?_ (vals_each (eo.mono fun _ _ h => h.1)) eo
  refine (sort_pairwise (sortLe_total _ _ _) zs).imp fun {a b} h => ?_
  have h' : (!dataLt b.2 a.2) = true := h
  simpa using h'
end
theorem perm_backL {α β : Type} {f : α → β} : ∀ (l : List α) {ys : List β}, ys.Perm (l.map f) → ∃ ts : List α, ts.Perm l ∧ ts.map f = ys := by
  intro l ys h
  generalize hm : l.map f = m at h
  induction h generalizing l with
  | nil => exact ⟨[], by rw [List.map_eq_nil_iff.mp hm], rfl⟩
  | @cons x l1 l2 p ih =>
    match l, hm with
    | a :: l, hm =>
      injection hm with h1 h2
      obtain ⟨ts, p', e⟩ := ih l h2
      exact ⟨a :: ts, p'.cons a, by rw [List.map_cons, h1, e]⟩
  | swap x y l1 =>
    match l, hm with
    | a :: b :: l, hm =>
      injection hm with h1 h2
      injection h2 with h2 h3
      exact ⟨b :: a :: l, List.Perm.swap a b l, by rw [List.map_cons, List.map_cons, h1, h2, h3]⟩
  | trans p1 p2 ih1 ih2 =>
    obtain ⟨ts, p', e⟩ := ih2 l hm
    obtain ⟨us, p'', e'⟩ := ih1 ts e
    exact ⟨us, p''.trans p', e'⟩
end NI
namespace L2
open PySem PySem.W PySem.Calls PyProof.Rows NI
open L2.DX (itemsO itemsO_ok takeT)
section
variable {X : Cx}
def rItemsV (P : Program) (w : World) : V → List V → Hp → VK → Prop := fun x xs H Q => ∃ a ps, x = .ref a ∧ xs = [] ∧ DictV P w H a ps ∧ ∀ p, H p = none → Q (.ref p) (upd H p (itemsO p a))
theorem mt_itemsV : MtR X "dict.items" (rItemsV X.prog X.w) := by
  intro pins s σ H x xs v us Q I rx rxs h
  obtain ⟨a, ps, rfl, rfl, ha, q⟩ := h
  cases rx
  cases rxs
  obtain ⟨es, ep, dr, lo, _⟩ := ha.raw I.hok
  refine DT.callItems (es := es) (ep := ep) lo dr ?_
  exact ⟨.ref s.heap.objs.size, upd H s.heap.objs.size (itemsO s.heap.objs.size a), I.laid (t' := s.toks) (fun b u e => Heap.get?_push_of_some _ e) (Nat.le_refl _) (itemsO_ok (Heap.get?_push_size _ rfl)), rfl, q _ (I.hok.fresh (Nat.le_refl _))⟩
/-- sorted(d): its keys -/
def rSortKeys (P : Program) (w : World) (K : PySem.W.Frag) : List V → Hp → VK → Prop := fun vs H Q => ∃ (a : Addr) (ps : List (V × V)) (zs : List (V × PyData)), vs = [V.ref a] ∧ DictV P w H a ps ∧ zs.map (·.1) = ps.map (·.1) ∧ (∀ z ∈ zs, Dp K H z.1 z.2 ∧ z.2.depth ≤ 60) ∧ SortOk (zs.map (·.2)) ∧
  ∀ (ys : List (V × PyData)) (p : Addr), ys.Perm zs → ys.Pairwise (fun a b => dataLt b.2 a.2 = false) → H p = none → Q (.ref p) (upd H p (.lst (ys.map (·.1))))
theorem cr_sortKeys (hc : X.calm = true) (hu : X.A.units + 64 < cLine) : CallR X (.builtin "sorted") (rSortKeys X.prog X.w X.K) := by
  intro pins s σ H xs us Q I r h
  obtain ⟨a, ps, zs, rfl, hd, hz, hx, hok, q⟩ := h
  obtain rfl := Vals.ref1 r
  obtain ⟨es, ep, dr, lo, sz, hl, at_⟩ := hd.raw I.hok
  have lz : zs.length = ps.length := by have := congrArg List.length hz; rw [List.length_map, List.length_map] at this; exact this
  refine Calls.call_function_entry PyProof.Rows.kind_sorted PyProof.Rows.plain_sorted PyProof.Rows.entry_sorted (PyProof.Rows.args_sorted1 _) ?_
  unfold Builtin.«sorted»
  refine wpAny_bind (m := checkCount "sorted" 1 1 _) (wpAny_pure ?_)
  refine wpAny_bind (PySem.W.kdu_collect (A := X.A.in1) (KV_src (es := es) (ep := ep) lo) (I.ok.hd hc) dr (by rw [sz]; exact hl) fun h' tk acc hk hacc => ?_)
  have hal : acc.toList.length = zs.length := by rw [Array.length_toList, hacc.1, sz, lz]
  refine wpAny_bind (wpAny_newList ?_ (by rw [hal, lz]; exact hl))
  have I1 : Inv X pins σ H { s with heap := h', toks := tk } := I.kept hk
  have hoL : (h'.push (seqObj "list" acc.toList.toArray 0)).get? h'.objs.size = some (seqObj "list" acc.toList.toArray 0) := Heap.get?_push_size _ rfl
  have keep : ∀ b o, s.heap.get? b = some o → (sortingHeap (h'.push (seqObj "list" acc.toList.toArray 0)) h'.objs.size acc.toList).get? b = some o := fun b o e =>
    sortingHeap_old (Nat.ne_of_lt (Heap.lt_size (hk b o e))) (Heap.get?_push_of_some _ (hk b o e))
  have ev : EachIs (fun v (z : V × PyData) => RelV z.1 v ∧ ∃ as, Reads (sortingHeap (h'.push (seqObj "list" acc.toList.toArray 0)) h'.objs.size acc.toList) v z.2 as) acc.toList zs := by
    refine each_of hal fun j v z hv hzj => ?_
    obtain ⟨hi, ek⟩ := hacc.2 j v (by rw [← Array.getElem?_toList]; exact hv)
    have e3 : (ps.map (·.1))[j]? = some z.1 := by rw [← hz, List.getElem?_map, hzj]; rfl
    rw [List.getElem?_map] at e3
    obtain ⟨p, hp, e4⟩ := Option.map_eq_some_iff.mp e3
    obtain ⟨e, he, r1, _⟩ := at_ j p hp
    rw [Array.getElem?_eq_getElem hi] at he
    have e5 : es[j] = e := Option.some.inj he
    have rv : RelV z.1 v := by rw [ek, e5, ← e4]; exact r1
    obtain ⟨as, rd⟩ := Dp.reads I z.2 z.1 v (hx z (List.mem_of_getElem? hzj)).1 rv
    exact ⟨rv, as, PyProof.Rows.Reads.keeps keep rd⟩
  show wpAny _ _ _ _ _ { s with heap := h'.push (seqObj "list" acc.toList.toArray 0), toks := tk }
  refine wpAny_bind (wpAny_holding (sort_here (s := { s with heap := h'.push (seqObj "list" acc.toList.toArray 0), toks := tk }) zs hoL ev hok (fun z hz' => by have := (hx z hz').2; show X.A.units + 1 + 1 + _ < cLine; omega) (by rw [hal, lz]; exact hl) fun out ys pp ps' rv _ => ?_))
  obtain ⟨e', he'⟩ := PyProof.Rows.sortedHeap_at (vs := acc.toList) (out := out.toArray) hoL
  refine wpAny_pure ⟨_, rfl, .ref h'.objs.size, upd H h'.objs.size (.lst (ys.map (·.1))), I1.laid (t' := tk) (fun b u e => ?_) (Nat.le_refl _)
    (show ObjOk X.prog X.w _ _ _ (.lst (ys.map (·.1))) from ⟨by rw [List.length_map, pp.length_eq, lz]; exact hl, out, e', rv, he'⟩), rfl, q ys _ pp ps' (I1.hok.fresh (Nat.le_refl _))⟩
  have hb : b < h'.objs.size := Heap.lt_size e
  rw [PyProof.Rows.sortedHeap_old (Nat.ne_of_lt hb) (by rw [size_push']; exact Nat.lt_succ_of_lt hb)]
  exact Heap.get?_push_of_some _ e
/-- sorted(d.items()): new pairs of key and value -/
def rSortItems (P : Program) (w : World) (K : PySem.W.Frag) : List V → Hp → VK → Prop := fun vs H Q => ∃ (v a : Addr) (zs : List ((V × V) × (PyData × PyData))), vs = [V.ref v] ∧ H v = some (itemsO v a) ∧ DictV P w H a (zs.map (·.1)) ∧
  (∀ z ∈ zs, Dp K H z.1.1 z.2.1 ∧ Dp K H z.1.2 z.2.2 ∧ (PyData.tuple [z.2.1, z.2.2]).depth ≤ 60) ∧ SortOk (zs.map fun z => .tuple [z.2.1, z.2.2]) ∧
  ∀ (H' : Hp) (l : Addr) (ts : List (Addr × ((V × V) × (PyData × PyData)))), (∀ b o, H b = some o → H' b = some o) → (ts.map (·.2)).Perm zs → ts.Pairwise (fun a b => dataLt (.tuple [b.2.2.1, b.2.2.2]) (.tuple [a.2.2.1, a.2.2.2]) = false) → H l = none → H' l = some (.lst (ts.map fun z => V.ref z.1)) →
    (∀ z ∈ ts, H' z.1 = some (.tup [z.2.1.1, z.2.1.2])) → Q (.ref l) H'
theorem cr_sortItems (hc : X.calm = true) (hu : X.A.units + 64 < cLine) : CallR X (.builtin "sorted") (rSortItems X.prog X.w X.K) := by
  intro pins s σ H xs us Q I r h
  obtain ⟨p, a, zs, rfl, hp, hd, hx, hok, q⟩ := h
  obtain rfl := Vals.ref1 r
  have view : s.heap.IsItemsView p a := (show ObjOk X.prog X.w H s.heap p (itemsO p a) from I.hok p _ hp).1
  obtain ⟨es, ep, dr, lo, sz, hl, at_⟩ := hd.raw I.hok
  rw [List.length_map] at sz hl
  have hh : X.A.handled = none := I.ok.hd hc
  refine DT.sortedI (es := es) (ep := ep) hh view dr (by rw [sz]; exact hl) fun h' tk as hk hlt hla hG => ?_
  have lak : as.length = zs.length := by omega
  have nd : as.Nodup := List.Pairwise.imp (fun h => Nat.ne_of_lt h) hG.rise
  have pr : ∀ (j : Nat) (b : Addr) z, as[j]? = some b → zs[j]? = some z → ∃ kv vv, RelV z.1.1 kv ∧ RelV z.1.2 vv ∧ h'.get? b = some { cls := .type "tuple", data := .seq #[kv, vv] } := by
    intro j b z hj hz
    obtain ⟨en, he, hg⟩ := hG.pairs j b hj
    obtain ⟨e, he2, r1, r2⟩ := at_ j z.1 (by rw [List.getElem?_map, hz]; rfl)
    rw [he] at he2
    cases he2
    exact ⟨_, _, r1, r2, hg⟩
  have hob : (h'.push { cls := .type "list", data := .seq (as.map Value.ref).toArray }).get? h'.objs.size = some (seqObj "list" (as.map Value.ref).toArray 0) := Heap.get?_push_size _ rfl
  have ne0 : ∀ b o, h'.get? b = some o → b ≠ h'.objs.size := fun b o e => Nat.ne_of_lt (Heap.lt_size e)
  have ka : ∀ b o, h'.get? b = some o → (h'.push { cls := .type "list", data := .seq (as.map Value.ref).toArray }).get? b = some o := fun b o e => Heap.get?_push_of_some _ e
  generalize h'.push { cls := .type "list", data := .seq (as.map Value.ref).toArray } = h2 at hob ka ⊢
  have keep : ∀ b o, h'.get? b = some o → (sortingHeap h2 h'.objs.size (as.map Value.ref)).get? b = some o := fun b o e => sortingHeap_old (ne0 b o e) (ka b o e)
  generalize hws : (as.zip zs).map (fun z => (V.ref z.1, PyData.tuple [z.2.2.1, z.2.2.2])) = ws
  have lz : (as.zip zs).length = zs.length := by rw [List.length_zip, lak, Nat.min_self]
  have w2 : ws.map (·.2) = zs.map fun z => PyData.tuple [z.2.1, z.2.2] := by
    rw [← hws, List.map_map]
    have : (as.zip zs).map (fun z => z.2) = zs := List.map_snd_zip (by rw [lak]; exact Nat.le_refl _)
    conv => rhs; rw [← this]
    rw [List.map_map]
    rfl
  have ev : EachIs (fun v (z : V × PyData) => RelV z.1 v ∧ ∃ as', Reads (sortingHeap h2 h'.objs.size (as.map Value.ref)) v z.2 as') (as.map Value.ref) ws := by
    refine each_of (by rw [← hws, List.length_map, List.length_map, lz, lak]) fun j v z hv hz => ?_
    rw [← hws, List.getElem?_map] at hz
    obtain ⟨⟨b, z0⟩, hz0, rfl⟩ := Option.map_eq_some_iff.mp hz
    obtain ⟨hb, hz1⟩ := List.getElem?_zip_eq_some.mp hz0
    rw [List.getElem?_map, hb] at hv
    cases hv
    obtain ⟨kv, vv, r1, r2, hg⟩ := pr j b z0 hb hz1
    obtain ⟨d1, d2, _⟩ := hx z0 (List.mem_of_getElem? hz1)
    obtain ⟨as1, rd1⟩ := Dp.reads I _ _ _ d1 r1
    obtain ⟨as2, rd2⟩ := Dp.reads I _ _ _ d2 r2
    have rds : ReadsAll (sortingHeap h2 h'.objs.size (as.map Value.ref)) [kv, vv] [z0.2.1, z0.2.2] (as1 ++ (as2 ++ [])) := .cons (PyProof.Rows.Reads.keeps (fun b o e => keep b o (hk b o e)) rd1) (.cons (PyProof.Rows.Reads.keeps (fun b o e => keep b o (hk b o e)) rd2) .nil)
    exact ⟨rfl, _, .tuple (keep _ _ hg) rfl rfl rds⟩
  refine sort_here (s := { s with heap := h2, toks := tk }) ws hob ev (by rw [w2]; exact hok) (fun z hz => ?_) (by rw [List.length_map, lak]; exact hl) fun out ys pp ps' rv _ => ?_
  · rw [← hws] at hz
    obtain ⟨⟨b, z0⟩, hz0, rfl⟩ := List.mem_map.mp hz
    have := (hx z0 (List.of_mem_zip hz0).2).2.2
    show X.A.units + 1 + 1 + (PyData.tuple [z0.2.1, z0.2.2]).depth < cLine
    omega
  · obtain ⟨ts, pt, et⟩ : ∃ ts : List (Addr × ((V × V) × (PyData × PyData))), ts.Perm (as.zip zs) ∧ ts.map (fun z => (V.ref z.1, PyData.tuple [z.2.2.1, z.2.2.2])) = ys := perm_backL (as.zip zs) (by rw [hws]; exact pp)
    have idx : ∀ z ∈ ts, ∃ j : Nat, as[j]? = some z.1 ∧ zs[j]? = some z.2 := fun z hz => by
      obtain ⟨j, hj⟩ := List.mem_iff_getElem?.mp (pt.mem_iff.mp hz)
      exact ⟨j, List.getElem?_zip_eq_some.mp hj⟩
    have hperm : (ts.map (·.2)).Perm zs := by
      have e := pt.map (·.2)
      rw [show (as.zip zs).map (·.2) = zs from List.map_snd_zip (by rw [lak]; exact Nat.le_refl _)] at e
      exact e
    have hsort : ts.Pairwise (fun a b => dataLt (.tuple [b.2.2.1, b.2.2.2]) (.tuple [a.2.2.1, a.2.2.2]) = false) := by
      rw [← et, List.pairwise_map] at ps'
      exact ps'
    have y1 : ys.map (·.1) = ts.map fun z => V.ref z.1 := by rw [← et, List.map_map]; rfl
    have kF : ∀ b o, b ≠ h'.objs.size → h2.get? b = some o → (sortedHeap h2 h'.objs.size (as.map Value.ref) out.toArray).get? b = some o := fun b o hb e => (PyProof.Rows.sortedHeap_old hb (Heap.lt_size e)).trans e
    have kS : ∀ b o, s.heap.get? b = some o → (sortedHeap h2 h'.objs.size (as.map Value.ref) out.toArray).get? b = some o := fun b o e => kF b o (ne0 _ _ (hk b o e)) (ka b o (hk b o e))
    obtain ⟨eF, heF⟩ := PyProof.Rows.sortedHeap_at (vs := as.map Value.ref) (out := out.toArray) hob
    have I1 : Inv X pins σ H { s with heap := sortedHeap h2 h'.objs.size (as.map Value.ref) out.toArray, toks := tk } := I.kept (t' := tk) kS
    have hn0 : H h'.objs.size = none := I.hok.fresh (Nat.le_of_lt hlt)
    have hlen : (ts.map fun z => V.ref z.1).length ≤ sizeLine := by
      rw [List.length_map, pt.length_eq, lz]
      exact hl
    have I2 : Inv X pins σ (upd H h'.objs.size (.lst (ts.map fun z => V.ref z.1))) { s with heap := sortedHeap h2 h'.objs.size (as.map Value.ref) out.toArray, toks := tk } :=
      I1.take (h' := sortedHeap h2 h'.objs.size (as.map Value.ref) out.toArray) (t' := tk) (fun b ob _ e => e) (I.fpOk (Nat.le_of_lt hlt) hn0) ⟨hlen, out, eF, by rw [← y1]; exact rv, heF⟩
    obtain ⟨H2, I3, g, qt⟩ := takeT (P := fun b vs => ∃ (j : Nat) (z : (V × V) × (PyData × PyData)), as[j]? = some b ∧ zs[j]? = some z ∧ vs = [z.1.1, z.1.2]) I as _ I2 nd fun b hb => by
      obtain ⟨j, hj⟩ := List.mem_iff_getElem?.mp hb
      have hjz : j < zs.length := by rw [← lak]; exact (List.getElem?_eq_some_iff.mp hj).1
      have hz := List.getElem?_eq_getElem hjz
      obtain ⟨kv, vv, r1, r2, hg⟩ := pr j b _ hj hz
      have hbl : s.heap.objs.size ≤ b := Nat.le_of_lt (hG.above b hb)
      refine ⟨hbl, ?_, [zs[j].1.1, zs[j].1.2], ⟨j, _, hj, hz, rfl⟩, fun H3 => ⟨(by rw [sizeLine_eq]; show 2 ≤ 16777216; omega), [kv, vv], .cons r1 (.cons r2 .nil), ⟨_, kF _ _ (ne0 _ _ hg) (ka _ _ hg), rfl, 0, rfl⟩⟩⟩
      rw [upd_ne (ne0 _ _ hg)]
      exact I.hok.fresh hbl
    have gr : ∀ b o, H b = some o → H2 b = some o := fun b o e => g b o (by rw [upd_ne (ne_of_none e hn0)]; exact e)
    refine ⟨.ref h'.objs.size, H2, I3, rfl, q H2 h'.objs.size ts gr hperm hsort hn0 (g _ _ upd_same) fun z' hz' => ?_⟩
    obtain ⟨i, i1, i2⟩ := idx z' hz'
    obtain ⟨vs, ⟨j, z, j1, j2, ev⟩, hH⟩ := qt z'.1 (List.mem_of_getElem? i1)
    have eij : i = j := (List.getElem?_inj (List.getElem?_eq_some_iff.mp i1).1 nd).mp (i1.trans j1.symm)
    subst eij
    rw [ev, show z = z'.2 from Option.some.inj (j2.symm.trans i2)] at hH
    exact hH
/-- len(d), d with nested keys -/
def rLenN (P : Program) (w : World) : List V → Hp → VK → Prop := fun vs H Q => ∃ a kvs, vs = [V.ref a] ∧ ND.AtR P w H a kvs ∧ Q (.int (kvs.length : Nat)) H
theorem call_lenN : CallR X (.builtin "len") (rLenN X.prog X.w) := by
  intro pins s σ H xs us Q I r h
  obtain ⟨a, kvs, rfl, ⟨es, e, ke, rfl⟩, q⟩ := h
  obtain rfl := Vals.ref1 r
  obtain ⟨⟨z, hd, xs, re, o, ds, ep, h1, h2, h3, h4, h5⟩, _, _⟩ := (show ObjOk X.prog X.w H s.heap a (ND.nD X.prog X.w a es) from rd_of I.hok e)
  have dd : s.heap.DictOfH (nestedKind X.prog X.w) a xs := ⟨o, ds, ep, h1, h2, h3, h4, ND.keyed_is I.hok re ke, h5⟩
  have hl : es.length = xs.length := Paired.length re
  refine call_len_dictH hd dd (by rw [← hl]; rw [sizeLine_eq] at z; omega) ?_
  have hk : (ND.kvOf es).length = xs.length := by unfold ND.kvOf; rw [List.length_map, hl]
  rw [hk] at q
  exact ⟨.int (xs.length : Nat), H, I.tok _, ⟨_, rfl⟩, q⟩
/-- d.items() -/
def tItems (P : Program) (w : World) (to : TE) : TE := fun σ H Q => to σ H fun x H1 => ∃ a ps, x = .ref a ∧ DictV P w H1 a ps ∧ ∀ p, H1 p = none → Q (.ref p) (upd H1 p (itemsO p a))
theorem pe_items {o : Expr} {apos cpos : Pos} {to : TE} (ho : PE X o to) (hbase : attributeBase o "items" X.env (eval o X.env) = eval o X.env := by rfl) (hline : (apos.endLine == cpos.line) = true := by rfl) :
    PE X (.Call (.Attribute o "items" apos) [] [] cpos) (tItems X.prog X.w to) := by
  refine ⟨fun pins s σ H Q I h => ?_⟩
  refine wpAny_Call_method0_late hbase hline (thn (ho.run pins s σ H _ I h) fun v s1 ⟨x, H1, I1, r1, a, ps, ex, hd, q1⟩ => ?_)
  subst ex
  obtain rfl : v = Value.ref a := r1
  obtain ⟨es, ep, dr, lo, _⟩ := hd.raw I1.hok
  refine ⟨"dict", _, PySem.F.plainAttrs_dict, PySem.F.slot_dict_items, PySem.F.type_dict_items, dr.typeIs, fun b q => ?_, Calls.callWith_builtin rfl (PySem.evalArgs_none (mt_itemsV pins s1 σ H1 (.ref a) [] (.ref a) [] Q I1 rfl .nil ⟨a, ps, rfl, rfl, hd, q1⟩))⟩
  cases q
  obtain ⟨ob, h1, h2, _⟩ := dr
  exact ⟨ob, h1, h2.2.1⟩
end
end L2

set_option linter.all false
/-! Masks as sets of bits: the lowest bit, parts, the least ones. -/
namespace WM
/-- the place of the lowest bit -/
def lowI (n : Nat) : Nat := if n = 0 then 0 else if n % 2 = 1 then 0 else lowI (n / 2) + 1
termination_by n
decreasing_by omega
theorem lowI_odd (m : Nat) : lowI (2 * m + 1) = 0 := by
  rw [lowI, if_neg (by omega), if_pos (by omega)]
theorem lowI_even {m : Nat} (h : 0 < m) : lowI (2 * m) = lowI m + 1 := by
  rw [lowI, if_neg (by omega), if_neg (by omega), show 2 * m / 2 = m by omega]
def low (n : Nat) : Nat := 2 ^ lowI n
theorem even_odd (n : Nat) : (∃ m, n = 2 * m) ∨ ∃ m, n = 2 * m + 1 := by
  rcases Nat.mod_two_eq_zero_or_one n with h | h
  · exact .inl ⟨n / 2, by omega⟩
  · exact .inr ⟨n / 2, by omega⟩
theorem tb_even (m i : Nat) : (2 * m).testBit (i + 1) = m.testBit i := by
  rw [Nat.testBit_succ, show 2 * m / 2 = m by omega]
theorem tb_odd (m i : Nat) : (2 * m + 1).testBit (i + 1) = m.testBit i := by
  rw [Nat.testBit_succ, show (2 * m + 1) / 2 = m by omega]
theorem tb_even0 (m : Nat) : (2 * m).testBit 0 = false := by rw [Nat.testBit_zero, decide_eq_false_iff_not]; omega
theorem tb_odd0 (m : Nat) : (2 * m + 1).testBit 0 = true := by rw [Nat.testBit_zero, decide_eq_true_eq]; omega
theorem tb_low : ∀ n, 0 < n → n.testBit (lowI n) = true := by
  intro n
  induction n using Nat.strongRecOn with
  | ind n ih =>
    intro h
    rcases even_odd n with ⟨m, rfl⟩ | ⟨m, rfl⟩
    · rw [lowI_even (by omega), tb_even]
      exact ih m (by omega) (by omega)
    · rw [lowI_odd, tb_odd0]
theorem tb_below : ∀ n i, i < lowI n → n.testBit i = false := by
  intro n
  induction n using Nat.strongRecOn with
  | ind n ih =>
    intro i h
    rcases even_odd n with ⟨m, rfl⟩ | ⟨m, rfl⟩
    · rcases Nat.eq_zero_or_pos m with rfl | hm
      · rw [Nat.mul_zero, Nat.zero_testBit]
      · rw [lowI_even hm] at h
        rcases i with _ | i
        · exact tb_even0 m
        · rw [tb_even]
          exact ih m (by omega) i (by omega)
    · rw [lowI_odd] at h
      omega
/-- the lowest bit is taken off -/
def clr (n : Nat) : Nat := n - low n
theorem low_le : ∀ n, 0 < n → low n ≤ n := fun n h => Nat.ge_two_pow_of_testBit (tb_low n h)
theorem clr_lt {n : Nat} (h : 0 < n) : clr n < n := by
  have h1 : 0 < low n := Nat.two_pow_pos _
  unfold clr
  omega
theorem clr_even (m : Nat) (h : 0 < m) : clr (2 * m) = 2 * clr m := by
  unfold clr low
  rw [lowI_even h, Nat.pow_succ, Nat.mul_sub, Nat.mul_comm 2 (2 ^ lowI m)]
theorem clr_odd (m : Nat) : clr (2 * m + 1) = 2 * m := by
  unfold clr low
  rw [lowI_odd, Nat.pow_zero]
  omega
theorem tb_clr : ∀ n, 0 < n → ∀ i, (clr n).testBit i = (n.testBit i && decide (i ≠ lowI n)) := by
  intro n
  induction n using Nat.strongRecOn with
  | ind n ih =>
    intro h i
    rcases even_odd n with ⟨m, rfl⟩ | ⟨m, rfl⟩
    · rw [clr_even m (by omega), lowI_even (by omega)]
      rcases i with _ | i
      · rw [tb_even0, tb_even0]; rfl
      · rw [tb_even, tb_even, ih m (by omega) (by omega) i]
        congr 1
        exact decide_eq_decide.mpr (by omega)
    · rw [clr_odd, lowI_odd]
      rcases i with _ | i
      · rw [tb_even0]; simp
      · rw [tb_even, tb_odd]
        simp
theorem and_pred : ∀ n, 0 < n → n &&& (n - 1) = clr n := fun n h => by
  refine Nat.eq_of_testBit_eq fun i => ?_
  rw [Nat.testBit_and, tb_clr n h i]
  by_cases c : n.testBit i = true
  · rw [c, Bool.true_and, Bool.true_and]
    revert h c
    induction n using Nat.strongRecOn generalizing i with
    | ind n ih =>
      intro h c
      rcases even_odd n with ⟨m, rfl⟩ | ⟨m, rfl⟩
      · have hm : 0 < m := by omega
        rw [lowI_even hm, show 2 * m - 1 = 2 * (m - 1) + 1 by omega]
        rcases i with _ | i
        · rw [tb_even0] at c; cases c
        · rw [tb_even] at c
          rw [tb_odd, ih m (by omega) i hm c]
          exact decide_eq_decide.mpr (by omega)
      · rw [lowI_odd, Nat.add_sub_cancel]
        rcases i with _ | i
        · rw [tb_even0]; simp
        · rw [tb_odd] at c
          rw [tb_even, c]
          simp
  · rw [Bool.not_eq_true] at c
    rw [c]; rfl
theorem xor_low (n : Nat) (h : 0 < n) : n ^^^ low n = clr n := by
  refine Nat.eq_of_testBit_eq fun i => ?_
  rw [Nat.testBit_xor, tb_clr n h i]
  unfold low
  rw [Nat.testBit_two_pow]
  by_cases e : lowI n = i
  · subst e
    rw [tb_low n h]; simp
  · have e' : i ≠ lowI n := fun z => e z.symm
    simp [e, e']
open PySem in
/-- n & -n -/
theorem and_neg {n : Nat} (h : 0 < n) : Builtin.bitAnd (n : Int) (-(n : Int)) = (low n : Nat) := by
  rw [PyProof.Rows.bitAnd_pn (Int.natCast_nonneg n) (by omega)]
  have e : (Builtin.bitNot (-(n : Int))).toNat = n - 1 := by
    unfold Builtin.bitNot
    omega
  rw [e, Int.toNat_natCast, and_pred n h]
  have := low_le n h
  unfold clr
  omega
open PySem in
theorem and_neg0 : Builtin.bitAnd ((0 : Nat) : Int) (-((0 : Nat) : Int)) = 0 := by decide
open PySem in
/-- n ^ (n & -n) -/
theorem xor_bit {n : Nat} (h : 0 < n) : Builtin.bitXor (n : Int) (low n : Nat) = (clr n : Nat) := by
  rw [Bits.bitXor_pp (Int.natCast_nonneg _) (Int.natCast_nonneg _), Int.toNat_natCast, Int.toNat_natCast, xor_low n h]
/-- all of a's bits are b's -/
def Sub (a b : Nat) : Prop := a &&& b = a
instance (a b : Nat) : Decidable (Sub a b) := inferInstanceAs (Decidable (a &&& b = a))
theorem sub_iff {a b : Nat} : Sub a b ↔ ∀ i, a.testBit i = true → b.testBit i = true := by
  constructor
  · intro h i hi
    have e : (a &&& b).testBit i = a.testBit i := congrArg (fun n => Nat.testBit n i) h
    rw [Nat.testBit_and, hi] at e
    simpa using e
  · intro h
    refine Nat.eq_of_testBit_eq fun i => ?_
    rw [Nat.testBit_and]
    cases c : a.testBit i with
    | false => rfl
    | true => rw [h i c]; rfl
theorem Sub.le {a b : Nat} (h : Sub a b) : a ≤ b := by
  have := Nat.and_le_right (n := a) (m := b)
  rw [h] at this
  exact this
theorem Sub.refl (a : Nat) : Sub a a := Nat.and_self a
theorem Sub.trans {a b c : Nat} (h : Sub a b) (h' : Sub b c) : Sub a c := sub_iff.mpr fun i hi => sub_iff.mp h' i (sub_iff.mp h i hi)
theorem Sub.antisymm {a b : Nat} (h : Sub a b) (h' : Sub b a) : a = b := Nat.le_antisymm h.le h'.le
theorem sub_zero {a : Nat} : Sub a 0 ↔ a = 0 := ⟨fun h => by have := h.le; omega, fun h => h ▸ Sub.refl _⟩
theorem zero_sub (a : Nat) : Sub 0 a := Nat.zero_and a
open PySem in
/-- part & mask == part -/
theorem and_sub (a b : Nat) : Builtin.bitAnd (a : Int) (b : Int) = (a : Int) ↔ Sub a b := by
  rw [PyProof.Rows.bitAnd_pp (Int.natCast_nonneg _) (Int.natCast_nonneg _), Int.toNat_natCast, Int.toNat_natCast]
  unfold Sub
  omega
/-- the lowest bit of a part is a bit of the whole -/
theorem sub_low {a b : Nat} (h : Sub a b) (ha : 0 < a) : b.testBit (lowI a) = true := sub_iff.mp h _ (tb_low a ha)
theorem low_inj {a b : Nat} (h : low a = low b) : lowI a = lowI b := (Nat.pow_right_inj (by decide : 1 < 2)).mp h
/-- one of the kept is a part -/
def HP (kept : List Nat) (m : Nat) : Prop := ∃ k ∈ kept, Sub k m
instance (kept : List Nat) (m : Nat) : Decidable (HP kept m) := inferInstanceAs (Decidable (∃ k ∈ kept, Sub k m))
/-- the least ones, the masks told ascending -/
def leastA : List Nat → List Nat → List Nat
  | kept, [] => kept
  | kept, m :: ms => leastA (if HP kept m then kept else kept ++ [m]) ms
/-- what the kept are behind the masks ms -/
structure Kept (ms kept : List Nat) : Prop where
  mem : ∀ k ∈ kept, k ∈ ms
  up : ∀ m ∈ ms, HP kept m
  ap : kept.Pairwise fun a b => a < b ∧ ¬ Sub a b
theorem Kept.nil : Kept [] [] := ⟨(fun _ h => nomatch h), (fun _ h => nomatch h), .nil⟩
theorem Kept.step {ms kept : List Nat} {m : Nat} (x : Kept ms kept) (hm : ∀ y ∈ ms, y ≤ m) : Kept (ms ++ [m]) (if HP kept m then kept else kept ++ [m]) := by
  by_cases c : HP kept m
  · rw [if_pos c]
    refine ⟨fun k hk => List.mem_append_left _ (x.mem k hk), fun y hy => ?_, x.ap⟩
    rcases List.mem_append.mp hy with h | h
    · exact x.up y h
    · rw [List.mem_singleton.mp h]; exact c
  · rw [if_neg c]
    refine ⟨fun k hk => ?_, fun y hy => ?_, List.pairwise_append.mpr ⟨x.ap, List.pairwise_singleton .., fun a ha b hb => ?_⟩⟩
    · rcases List.mem_append.mp hk with h | h
      · exact List.mem_append_left _ (x.mem k h)
      · exact List.mem_append_right _ h
    · rcases List.mem_append.mp hy with h | h
      · obtain ⟨k, hk, s⟩ := x.up y h
        exact ⟨k, List.mem_append_left _ hk, s⟩
      · rw [List.mem_singleton.mp h]
        exact ⟨m, List.mem_append_right _ (List.mem_singleton_self _), Sub.refl _⟩
    · rw [List.mem_singleton.mp hb]
      have ns : ¬ Sub a m := fun s => c ⟨a, ha, s⟩
      have := hm a (x.mem a ha)
      refine ⟨Nat.lt_of_le_of_ne this fun e => ns (e ▸ Sub.refl _), ns⟩
theorem least_kept : ∀ (ms pre kept : List Nat), Kept pre kept → (pre ++ ms).Pairwise (· ≤ ·) → Kept (pre ++ ms) (leastA kept ms)
  | [], pre, kept, x, _ => by rw [List.append_nil]; exact x
  | m :: ms, pre, kept, x, hs => by
    have e : pre ++ m :: ms = (pre ++ [m]) ++ ms := by simp
    rw [e] at hs ⊢
    refine least_kept ms (pre ++ [m]) _ (x.step fun y hy => ?_) hs
    exact (List.pairwise_append.mp (List.pairwise_append.mp hs).1).2.2 y hy m (List.mem_singleton_self _)
theorem least_of {ms : List Nat} (hs : ms.Pairwise (· ≤ ·)) : Kept ms (leastA [] ms) := least_kept ms [] [] .nil hs
/-- no two of the kept are parts of one another -/
theorem Kept.anti {ms kept : List Nat} (x : Kept ms kept) {a b : Nat} (ha : a ∈ kept) (hb : b ∈ kept) (s : Sub a b) : a = b := by
  obtain ⟨i, hi, rfl⟩ := List.mem_iff_getElem.mp ha
  obtain ⟨j, hj, rfl⟩ := List.mem_iff_getElem.mp hb
  rcases Nat.lt_trichotomy i j with h | h | h
  · exact absurd s (List.pairwise_iff_getElem.mp x.ap i j hi hj h).2
  · subst h; rfl
  · have := (List.pairwise_iff_getElem.mp x.ap j i hj hi h).1
    have := s.le
    omega
/-- what has a part among the masks has one among the kept -/
theorem Kept.upIff {ms kept : List Nat} (x : Kept ms kept) (m : Nat) : HP kept m ↔ HP ms m := by
  constructor
  · rintro ⟨k, hk, s⟩; exact ⟨k, x.mem k hk, s⟩
  · rintro ⟨y, hy, s⟩
    obtain ⟨k, hk, s'⟩ := x.up y hy
    exact ⟨k, hk, s'.trans s⟩
theorem Kept.nd {ms kept : List Nat} (x : Kept ms kept) : kept.Nodup := x.ap.imp fun h => Nat.ne_of_lt h.1
/-- the walk over the bits: if no kept part begins with a bit that was seen, none of them is a part that begins there -/
theorem walk_step {kept : List Nat} {mask rest : Nat} (h : 0 < rest) (inv : ∀ k ∈ kept, Sub k mask → rest.testBit (lowI k) = true) (no : ∀ k ∈ kept, low k = low rest → ¬ Sub k mask) : ∀ k ∈ kept, Sub k mask → (clr rest).testBit (lowI k) = true := fun k hk s => by
  rw [tb_clr rest h, inv k hk s, Bool.true_and]
  exact decide_eq_true fun e => no k hk (by unfold low; rw [e]) s
theorem walk_end {kept : List Nat} {mask : Nat} (inv : ∀ k ∈ kept, Sub k mask → (0 : Nat).testBit (lowI k) = true) : ¬ HP kept mask := fun ⟨k, hk, s⟩ => by
  have := inv k hk s
  rw [Nat.zero_testBit] at this
  cases this
theorem walk_start {kept : List Nat} {mask : Nat} (h0 : ¬ 0 ∈ kept) : ∀ k ∈ kept, Sub k mask → mask.testBit (lowI k) = true := fun k hk s =>
  sub_low s (Nat.pos_of_ne_zero fun e => h0 (e ▸ hk))
end WM

set_option linter.all false
/-! Least sets: sorted lists of ascending lists, none a part of another, and what lies above them. -/
namespace WS
open WM
theorem pw_ext {α : Type} {R : α → α → Prop} (as : ∀ a b, R a b → ¬ R b a) : ∀ {l m : List α}, l.Pairwise R → m.Pairwise R → (∀ x, x ∈ l ↔ x ∈ m) → l = m
  | [], [], _, _, _ => rfl
  | [], y :: m, _, _, h => absurd ((h y).mpr (List.mem_cons_self ..)) (List.not_mem_nil)
  | x :: l, [], _, _, h => absurd ((h x).mp (List.mem_cons_self ..)) (List.not_mem_nil)
  | x :: l, y :: m, hl, hm, h => by
    obtain ⟨h1, h2⟩ := List.pairwise_cons.mp hl
    obtain ⟨h3, h4⟩ := List.pairwise_cons.mp hm
    have e : x = y := by
      rcases List.mem_cons.mp ((h x).mp (List.mem_cons_self ..)) with e | a
      · exact e
      · rcases List.mem_cons.mp ((h y).mpr (List.mem_cons_self ..)) with e | b
        · exact e.symm
        · exact absurd (h1 y b) (as _ _ (h3 x a))
    subst e
    rw [pw_ext as h2 h4 fun z => ?_]
    constructor
    · intro hz
      rcases List.mem_cons.mp ((h z).mp (List.mem_cons_of_mem _ hz)) with e | a
      · subst e
        exact absurd (h1 z hz) (as _ _ (h1 z hz))
      · exact a
    · intro hz
      rcases List.mem_cons.mp ((h z).mpr (List.mem_cons_of_mem _ hz)) with e | a
      · subst e
        exact absurd (h3 z hz) (as _ _ (h3 z hz))
      · exact a
abbrev Asc (s : List Nat) : Prop := s.Pairwise (· < ·)
theorem asc_ext {a b : List Nat} (ha : Asc a) (hb : Asc b) (h : ∀ x, x ∈ a ↔ x ∈ b) : a = b := pw_ext (fun _ _ h h' => by omega) ha hb h
theorem Asc.nd {s : List Nat} (h : Asc s) : s.Nodup := h.imp fun h => Nat.ne_of_lt h
abbrev SubL (a b : List Nat) : Prop := ∀ x ∈ a, x ∈ b
abbrev iN (s : List Nat) : List Int := s.map fun (n : Nat) => (n : Int)
/-- a element of the least sets -/
structure Can (ss : List (List Nat)) : Prop where
  asc : ∀ s ∈ ss, Asc s
  anti : ∀ a ∈ ss, ∀ b ∈ ss, SubL a b → a = b
  srt : ss.Pairwise fun a b => HT.lexLt (iN a) (iN b) = true
/-- s has a part among the sets -/
def Up (ss : List (List Nat)) (s : List Nat) : Prop := ∃ t ∈ ss, SubL t s
theorem can_sub {a b : List (List Nat)} (ha : Can a) (hb : Can b) (h : ∀ s, Up a s ↔ Up b s) {t : List Nat} (ht : t ∈ a) : t ∈ b := by
  obtain ⟨t', h1, h2⟩ := (h t).mp ⟨t, ht, fun _ z => z⟩
  obtain ⟨t'', h3, h4⟩ := (h t').mpr ⟨t', h1, fun _ z => z⟩
  have e : t'' = t := ha.anti _ h3 _ ht fun x hx => h2 x (h4 x hx)
  subst e
  rw [asc_ext (ha.asc _ ht) (hb.asc _ h1) fun x => ⟨h4 x, h2 x⟩]
  exact h1
/-- two elements with the same above them are the same -/
theorem can_ext {a b : List (List Nat)} (ha : Can a) (hb : Can b) (h : ∀ s, Up a s ↔ Up b s) : a = b :=
  pw_ext (fun x y h1 h2 => by rw [NtL.lex_asym _ _ h1] at h2; cases h2) ha.srt hb.srt fun t => ⟨can_sub ha hb h, can_sub hb ha fun s => (h s).symm⟩
/-! ### masks of sets -/
theorem tb_add : ∀ (k n : Nat), n.testBit k = false → ∀ i, (2 ^ k + n).testBit i = (decide (i = k) || n.testBit i)
  | 0, n, h, i => by
    rcases even_odd n with ⟨m, rfl⟩ | ⟨m, rfl⟩
    · rw [show 2 ^ 0 + 2 * m = 2 * m + 1 by rw [Nat.pow_zero]; omega]
      rcases i with _ | i
      · rw [tb_odd0]; rfl
      · rw [tb_odd, tb_even]; simp
    · rw [tb_odd0] at h; cases h
  | k + 1, n, h, i => by
    rcases even_odd n with ⟨m, rfl⟩ | ⟨m, rfl⟩
    · rw [tb_even] at h
      rw [show 2 ^ (k + 1) + 2 * m = 2 * (2 ^ k + m) by rw [Nat.pow_succ]; omega]
      rcases i with _ | i
      · rw [tb_even0, tb_even0]; simp
      · rw [tb_even, tb_even, tb_add k m h i]
        congr 1
        exact decide_eq_decide.mpr (by omega)
    · rw [tb_odd] at h
      rw [show 2 ^ (k + 1) + (2 * m + 1) = 2 * (2 ^ k + m) + 1 by rw [Nat.pow_succ]; omega]
      rcases i with _ | i
      · rw [tb_odd0, tb_odd0]; simp
      · rw [tb_odd, tb_odd, tb_add k m h i]
        congr 1
        exact decide_eq_decide.mpr (by omega)
def mask (F : List Nat) (s : List Nat) : Nat := (s.map fun f => 2 ^ F.idxOf f).sum
theorem idx_inj {F : List Nat} {x y : Nat} (hx : x ∈ F) (hy : y ∈ F) (h : F.idxOf x = F.idxOf y) : x = y := by
  have h1 := List.getElem_idxOf (List.idxOf_lt_length_of_mem hx)
  have h2 := List.getElem_idxOf (List.idxOf_lt_length_of_mem hy)
  rw [← h1, ← h2]
  congr 1
theorem tb_mask {F : List Nat} : ∀ {s : List Nat}, s.Nodup → (∀ x ∈ s, x ∈ F) → ∀ i, (mask F s).testBit i = true ↔ ∃ x ∈ s, F.idxOf x = i
  | [], _, _, i => by
    rw [show mask F [] = 0 from rfl, Nat.zero_testBit]
    exact ⟨fun h => (nomatch h), fun ⟨_, h, _⟩ => (nomatch h)⟩
  | y :: s, hn, hF, i => by
    obtain ⟨n1, n2⟩ := List.nodup_cons.mp hn
    have ih := tb_mask (s := s) n2 fun x hx => hF x (List.mem_cons_of_mem _ hx)
    have h0 : (mask F s).testBit (F.idxOf y) = false := by
      rw [← Bool.not_eq_true]
      intro z
      obtain ⟨x, hx, e⟩ := (ih _).mp z
      exact n1 (idx_inj (hF x (List.mem_cons_of_mem _ hx)) (hF y (List.mem_cons_self ..)) e ▸ hx)
    rw [show mask F (y :: s) = 2 ^ F.idxOf y + mask F s from rfl, tb_add _ _ h0, Bool.or_eq_true, decide_eq_true_eq, ih]
    constructor
    · rintro (e | ⟨x, hx, e⟩)
      · exact ⟨y, List.mem_cons_self .., e.symm⟩
      · exact ⟨x, List.mem_cons_of_mem _ hx, e⟩
    · rintro ⟨x, hx, e⟩
      rcases List.mem_cons.mp hx with rfl | hx
      · exact .inl e.symm
      · exact .inr ⟨x, hx, e⟩
theorem sub_mask {F s t : List Nat} (hs : s.Nodup) (ht : t.Nodup) (sF : ∀ x ∈ s, x ∈ F) (tF : ∀ x ∈ t, x ∈ F) : Sub (mask F s) (mask F t) ↔ SubL s t := by
  rw [sub_iff]
  constructor
  · intro h x hx
    obtain ⟨y, hy, e⟩ := (tb_mask ht tF _).mp (h _ ((tb_mask hs sF _).mpr ⟨x, hx, rfl⟩))
    rw [← idx_inj (tF y hy) (sF x hx) e]
    exact hy
  · intro h i hi
    obtain ⟨x, hx, e⟩ := (tb_mask hs sF _).mp hi
    exact (tb_mask ht tF _).mpr ⟨x, h x hx, e⟩
theorem low_uniq {n k : Nat} (h : n.testBit k = true) (hl : ∀ i, i < k → n.testBit i = false) : lowI n = k := by
  have hn : 0 < n := by
    rcases Nat.eq_zero_or_pos n with e | e
    · rw [e, Nat.zero_testBit] at h; cases h
    · exact e
  rcases Nat.lt_trichotomy (lowI n) k with c | c | c
  · have := hl _ c
    rw [tb_low n hn] at this; cases this
  · exact c
  · rw [tb_below n k c] at h; cases h
/-- the set that a mask tells -/
def setOf (F : List Nat) (m : Nat) : List Nat := if h : m = 0 then [] else F.getD (lowI m) 0 :: setOf F (clr m)
termination_by m
decreasing_by exact clr_lt (Nat.pos_of_ne_zero h)
theorem idx_lt {F : List Nat} (hF : Asc F) {x y : Nat} (hx : x ∈ F) (hy : y ∈ F) (h : x < y) : F.idxOf x < F.idxOf y := by
  have lx := List.idxOf_lt_length_of_mem hx
  have ly := List.idxOf_lt_length_of_mem hy
  have h1 := List.getElem_idxOf lx
  have h2 := List.getElem_idxOf ly
  rcases Nat.lt_trichotomy (F.idxOf x) (F.idxOf y) with c | c | c
  · exact c
  · have := idx_inj hx hy c; omega
  · have := List.pairwise_iff_getElem.mp hF _ _ ly lx c
    omega
theorem mask_cons {F s : List Nat} {x : Nat} (hF : Asc F) (hs : Asc (x :: s)) (sF : ∀ y ∈ x :: s, y ∈ F) : lowI (mask F (x :: s)) = F.idxOf x ∧ clr (mask F (x :: s)) = mask F s := by
  have e : lowI (mask F (x :: s)) = F.idxOf x := by
    refine low_uniq ((tb_mask hs.nd sF _).mpr ⟨x, List.mem_cons_self .., rfl⟩) fun i hi => ?_
    rw [← Bool.not_eq_true]
    intro z
    obtain ⟨y, hy, e⟩ := (tb_mask hs.nd sF _).mp z
    rcases List.mem_cons.mp hy with rfl | hy'
    · omega
    · have := idx_lt hF (sF x (List.mem_cons_self ..)) (sF y hy) ((List.pairwise_cons.mp hs).1 y hy')
      omega
  refine ⟨e, ?_⟩
  unfold clr low
  rw [e, show mask F (x :: s) = 2 ^ F.idxOf x + mask F s from rfl]
  omega
theorem mask_pos {F s : List Nat} {x : Nat} : mask F (x :: s) ≠ 0 := by
  have : 0 < 2 ^ F.idxOf x := Nat.two_pow_pos _
  rw [show mask F (x :: s) = 2 ^ F.idxOf x + mask F s from rfl]
  omega
theorem setOf_mask {F : List Nat} (hF : Asc F) : ∀ {s : List Nat}, Asc s → (∀ x ∈ s, x ∈ F) → setOf F (mask F s) = s
  | [], _, _ => by rw [setOf]; rfl
  | x :: s, hs, sF => by
    obtain ⟨h1, h2⟩ := mask_cons hF hs sF
    have hx := sF x (List.mem_cons_self ..)
    rw [setOf, dif_neg mask_pos, h1, h2, setOf_mask hF (List.pairwise_cons.mp hs).2 fun y hy => sF y (List.mem_cons_of_mem _ hy)]
    have lx := List.idxOf_lt_length_of_mem hx
    rw [List.getD_eq_getElem?_getD, List.getElem?_eq_getElem lx, List.getElem_idxOf lx]
    rfl
/-- the program's way, over the facts F: masks, the least ones, sets again, sorted -/
theorem can_of {F : List Nat} (hF : Asc F) {ss : List (List Nat)} (hs : ∀ s ∈ ss, Asc s) (sF : ∀ s ∈ ss, ∀ x ∈ s, x ∈ F) {ms : List Nat} (hp : ms.Perm (ss.map (mask F))) (ho : ms.Pairwise (· ≤ ·))
    {out : List (List Nat)} (op : out.Perm ((leastA [] ms).map (setOf F))) (oo : out.Pairwise fun a b => HT.lexLt (iN b) (iN a) = false) : Can out ∧ ∀ s, Up out s ↔ Up ss s := by
  have K := least_of ho
  have src : ∀ k ∈ leastA [] ms, ∃ s ∈ ss, k = mask F s ∧ setOf F k = s := fun k hk => by
    obtain ⟨s, h1, h2⟩ := List.mem_map.mp (hp.mem_iff.mp (K.mem k hk))
    refine ⟨s, h1, h2.symm, ?_⟩
    rw [← h2]
    exact setOf_mask hF (hs s h1) (sF s h1)
  have mem : ∀ s ∈ out, s ∈ ss ∧ mask F s ∈ leastA [] ms := fun s h => by
    obtain ⟨k, hk, e⟩ := List.mem_map.mp (op.mem_iff.mp h)
    obtain ⟨s', h1, h2, h3⟩ := src k hk
    rw [h3] at e
    subst e
    exact ⟨h1, h2 ▸ hk⟩
  have nd : out.Nodup := by
    refine op.nodup_iff.mpr (List.Pairwise.map (R := fun a b => a ≠ b ∧ a ∈ leastA [] ms ∧ b ∈ leastA [] ms) _ (fun a b ⟨h, ha, hb⟩ e => ?_) ?_)
    · obtain ⟨s, _, h2, h3⟩ := src a ha
      obtain ⟨t, _, h4, h5⟩ := src b hb
      rw [h3, h5] at e
      exact h (by rw [h2, h4, e])
    · exact (List.Pairwise.and_mem.mp K.nd).imp fun ⟨h1, h2, h3⟩ => ⟨h3, h1, h2⟩
  refine ⟨⟨fun s h => hs s (mem s h).1, fun a ha b hb h => ?_, ?_⟩, fun s => ⟨fun ⟨t, h1, h2⟩ => ⟨t, (mem t h1).1, h2⟩, fun ⟨t, h1, h2⟩ => ?_⟩⟩
  · obtain ⟨a1, a2⟩ := mem a ha
    obtain ⟨b1, b2⟩ := mem b hb
    have e := K.anti a2 b2 ((sub_mask (hs a a1).nd (hs b b1).nd (sF a a1) (sF b b1)).mpr h)
    rw [← setOf_mask hF (hs a a1) (sF a a1), ← setOf_mask hF (hs b b1) (sF b b1), e]
  · refine (List.Pairwise.and oo nd).imp fun {a b} ⟨h1, h2⟩ => ?_
    rcases h : HT.lexLt (iN a) (iN b) with _ | _
    · exact absurd (lex_eq h h1) h2
    · rfl
  · obtain ⟨k, hk, s'⟩ := K.up (mask F t) (hp.mem_iff.mpr (List.mem_map.mpr ⟨t, h1, rfl⟩))
    obtain ⟨u, u1, u2, u3⟩ := src k hk
    refine ⟨u, op.mem_iff.mpr (List.mem_map.mpr ⟨k, hk, u3⟩), fun x hx => h2 x ?_⟩
    rw [u2] at s'
    exact (sub_mask (hs u u1).nd (hs t h1).nd (sF u u1) (sF t h1)).mp s' x hx
where
  lex_eq : ∀ {a b : List Nat}, HT.lexLt (iN a) (iN b) = false → HT.lexLt (iN b) (iN a) = false → a = b
  | [], [], _, _ => rfl
  | [], y :: b, h, _ => by rw [show iN [] = [] from rfl, show iN (y :: b) = (y : Int) :: iN b from rfl, HT.lexLt_nil_cons] at h; cases h
  | x :: a, [], _, h => by rw [show iN [] = [] from rfl, show iN (x :: a) = (x : Int) :: iN a from rfl, HT.lexLt_nil_cons] at h; cases h
  | x :: a, y :: b, h, h' => by
    rw [show iN (x :: a) = (x : Int) :: iN a from rfl, show iN (y :: b) = (y : Int) :: iN b from rfl, HT.lexLt_cons] at h h'
    by_cases e : x = y
    · subst e
      rw [if_pos rfl] at h h'
      rw [lex_eq h h']
    · rw [if_neg (by omega)] at h h'
      have h1 := of_decide_eq_false h
      have h2 := of_decide_eq_false h'
      omega
/-! ### above sums and products -/
theorem up_app (a b : List (List Nat)) (s : List Nat) : Up (a ++ b) s ↔ Up a s ∨ Up b s := by
  constructor
  · rintro ⟨t, ht, h⟩
    rcases List.mem_append.mp ht with c | c
    · exact .inl ⟨t, c, h⟩
    · exact .inr ⟨t, c, h⟩
  · rintro (⟨t, ht, h⟩ | ⟨t, ht, h⟩)
    · exact ⟨t, List.mem_append_left _ ht, h⟩
    · exact ⟨t, List.mem_append_right _ ht, h⟩
/-- the sets us are the unions of one of a and one of b -/
def Unions (a b us : List (List Nat)) : Prop := (∀ u ∈ us, ∃ x ∈ a, ∃ y ∈ b, ∀ z, z ∈ u ↔ z ∈ x ∨ z ∈ y) ∧ ∀ x ∈ a, ∀ y ∈ b, ∃ u ∈ us, ∀ z, z ∈ u ↔ z ∈ x ∨ z ∈ y
theorem up_unions {a b us : List (List Nat)} (h : Unions a b us) (s : List Nat) : Up us s ↔ Up a s ∧ Up b s := by
  constructor
  · rintro ⟨u, hu, hs⟩
    obtain ⟨x, hx, y, hy, e⟩ := h.1 u hu
    exact ⟨⟨x, hx, fun z hz => hs z ((e z).mpr (.inl hz))⟩, ⟨y, hy, fun z hz => hs z ((e z).mpr (.inr hz))⟩⟩
  · rintro ⟨⟨x, hx, h1⟩, ⟨y, hy, h2⟩⟩
    obtain ⟨u, hu, e⟩ := h.2 x hx y hy
    exact ⟨u, hu, fun z hz => ((e z).mp hz).elim (h1 z) (h2 z)⟩
end WS

set_option Elab.async false
set_option linter.all false
set_option maxRecDepth 100000
/-! Polynomials as lists of terms: coefficients, values, sums and products, canonical forms. -/
namespace PM
abbrev Mono := List (Nat × Nat)
abbrev Terms := List (Mono × Nat)
structure MCan (m : Mono) : Prop where
  asc : m.Pairwise fun a b => a.1 < b.1
  pos : ∀ x ∈ m, 1 ≤ x.2
/-- the exponent of a fact -/
def ex : Mono → Nat → Nat
  | [], _ => 0
  | (g, d) :: r, f => (if g = f then d else 0) + ex r f
theorem ex_zero {f : Nat} : ∀ {m : Mono}, (∀ x ∈ m, x.1 ≠ f) → ex m f = 0
  | [], _ => rfl
  | (g, d) :: r, h => by
    rw [ex, if_neg (h (g, d) (List.mem_cons_self ..)), Nat.zero_add]
    exact ex_zero fun x hx => h x (List.mem_cons_of_mem _ hx)
theorem MCan.tail {x : Nat × Nat} {m : Mono} (h : MCan (x :: m)) : MCan m := ⟨(List.pairwise_cons.mp h.asc).2, fun y hy => h.pos y (List.mem_cons_of_mem _ hy)⟩
theorem MCan.head_ex {g d : Nat} {m : Mono} (h : MCan ((g, d) :: m)) : ex m g = 0 := ex_zero fun x hx e => by
  have := (List.pairwise_cons.mp h.asc).1 x hx
  omega
theorem mono_ext : ∀ {a b : Mono}, MCan a → MCan b → (∀ f, ex a f = ex b f) → a = b
  | [], [], _, _, _ => rfl
  | [], (g, d) :: b, _, hb, h => by
    have h1 := h g
    rw [ex, ex, if_pos rfl, hb.head_ex] at h1
    have := hb.pos (g, d) (List.mem_cons_self ..)
    omega
  | (g, d) :: a, [], ha, _, h => by
    have h1 := h g
    rw [ex, ex, if_pos rfl, ha.head_ex] at h1
    have := ha.pos (g, d) (List.mem_cons_self ..)
    omega
  | (g, d) :: a, (g', d') :: b, ha, hb, h => by
    have pa := ha.pos (g, d) (List.mem_cons_self ..)
    have pb := hb.pos (g', d') (List.mem_cons_self ..)
    have e : g = g' := by
      rcases Nat.lt_trichotomy g g' with c | c | c
      · have h1 := h g
        rw [ex, ex, if_pos rfl, if_neg (by omega), ex_zero (m := b) (fun x hx e => by have := (List.pairwise_cons.mp hb.asc).1 x hx; omega)] at h1
        omega
      · exact c
      · have h1 := h g'
        rw [ex, ex, if_pos rfl, if_neg (by omega), ex_zero (m := a) (fun x hx e => by have := (List.pairwise_cons.mp ha.asc).1 x hx; omega)] at h1
        omega
    subst e
    have h1 := h g
    rw [ex, ex, if_pos rfl, if_pos rfl, ha.head_ex, hb.head_ex] at h1
    have ed : d = d' := by omega
    subst ed
    rw [mono_ext ha.tail hb.tail fun f => by
      have := h f
      rw [ex, ex] at this
      omega]
/-- one more power -/
def mput : Mono → Nat → Nat → Mono
  | [], f, e => [(f, e)]
  | (g, d) :: r, f, e => if f < g then (f, e) :: (g, d) :: r else if f = g then (g, d + e) :: r else (g, d) :: mput r f e
theorem ex_mput (f e h : Nat) : ∀ m : Mono, ex (mput m f e) h = ex m h + if f = h then e else 0
  | [] => by rw [mput, ex, Nat.add_comm]; rfl
  | (g, d) :: r => by
    rw [mput]
    split
    · rw [ex, ex]; omega
    · split
      · rename_i c1 c2
        subst c2
        rw [ex, ex]
        by_cases c : f = h
        · rw [if_pos c, if_pos c, if_pos c]; omega
        · rw [if_neg c, if_neg c, if_neg c]; omega
      · rw [ex, ex, ex_mput f e h r]; omega
theorem mput_mem {f e : Nat} {x : Nat × Nat} : ∀ {m : Mono}, x ∈ mput m f e → x.1 = f ∨ ∃ y ∈ m, y.1 = x.1
  | [], h => .inl (by rw [mput] at h; rw [List.mem_singleton.mp h])
  | (g, d) :: r, h => by
    rw [mput] at h
    split at h
    · rcases List.mem_cons.mp h with rfl | h
      · exact .inl rfl
      · exact .inr ⟨x, h, rfl⟩
    · split at h
      · rcases List.mem_cons.mp h with rfl | h
        · exact .inr ⟨(g, d), List.mem_cons_self .., rfl⟩
        · exact .inr ⟨x, List.mem_cons_of_mem _ h, rfl⟩
      · rcases List.mem_cons.mp h with rfl | h
        · exact .inr ⟨_, List.mem_cons_self .., rfl⟩
        · rcases mput_mem h with h | ⟨y, hy, e⟩
          · exact .inl h
          · exact .inr ⟨y, List.mem_cons_of_mem _ hy, e⟩
theorem mput_can {f e : Nat} (he : 1 ≤ e) : ∀ {m : Mono}, MCan m → MCan (mput m f e)
  | [], _ => ⟨List.pairwise_singleton .., fun x h => by rw [mput] at h; rw [List.mem_singleton.mp h]; exact he⟩
  | (g, d) :: r, h => by
    have hg := (List.pairwise_cons.mp h.asc).1
    have pd := h.pos (g, d) (List.mem_cons_self ..)
    rw [mput]
    split
    · rename_i c
      refine ⟨List.pairwise_cons.mpr ⟨fun x hx => ?_, h.asc⟩, fun x hx => ?_⟩
      · rcases List.mem_cons.mp hx with rfl | hx
        · exact c
        · exact Nat.lt_trans c (hg x hx)
      · rcases List.mem_cons.mp hx with rfl | hx
        · exact he
        · exact h.pos x hx
    · split
      · refine ⟨List.pairwise_cons.mpr ⟨hg, h.tail.asc⟩, fun x hx => ?_⟩
        rcases List.mem_cons.mp hx with rfl | hx
        · show 1 ≤ d + e; omega
        · exact h.tail.pos x hx
      · rename_i c1 c2
        have ih := mput_can (f := f) he h.tail
        refine ⟨List.pairwise_cons.mpr ⟨fun x hx => ?_, ih.asc⟩, fun x hx => ?_⟩
        · rcases mput_mem hx with e | ⟨y, hy, e⟩
          · show g < x.1; omega
          · show g < x.1
            have := hg y hy
            omega
        · rcases List.mem_cons.mp hx with rfl | hx
          · exact pd
          · exact ih.pos x hx
def mmul (a b : Mono) : Mono := b.foldl (fun acc x => mput acc x.1 x.2) a
theorem ex_mmul (h : Nat) : ∀ b a : Mono, ex (mmul a b) h = ex a h + ex b h
  | [], a => rfl
  | (f, e) :: b, a => by
    show ex (mmul (mput a f e) b) h = _
    rw [ex_mmul h b, ex_mput, ex]; omega
theorem mmul_can : ∀ {b a : Mono}, MCan a → MCan b → MCan (mmul a b)
  | [], _, h, _ => h
  | (f, e) :: b, a, ha, hb => mmul_can (b := b) (mput_can (hb.pos (f, e) (List.mem_cons_self ..)) ha) hb.tail
/-! ### values -/
def ev (φ : Nat → Int) : Mono → Int
  | [] => 1
  | (f, e) :: r => φ f ^ e * ev φ r
theorem ev_mput (φ : Nat → Int) (f e : Nat) : ∀ m : Mono, ev φ (mput m f e) = ev φ m * φ f ^ e
  | [] => by rw [mput, ev, Int.mul_comm]; rfl
  | (g, d) :: r => by
    rw [mput]
    split
    · rw [ev, ev, Int.mul_comm]
    · split
      · rename_i c1 c2
        subst c2
        rw [ev, ev, Int.pow_add, Int.mul_assoc, Int.mul_assoc, Int.mul_comm (φ f ^ e)]
      · rw [ev, ev, ev_mput φ f e r, Int.mul_assoc]
theorem ev_mmul (φ : Nat → Int) : ∀ b a : Mono, ev φ (mmul a b) = ev φ a * ev φ b
  | [], a => (Int.mul_one _).symm
  | (f, e) :: b, a => by
    show ev φ (mmul (mput a f e) b) = _
    rw [ev_mmul φ b, ev_mput, ev, Int.mul_assoc]
/-! ### lists of terms -/
def sumL (φ : Mono → Int) : Terms → Int
  | [] => 0
  | (m, c) :: r => (c : Int) * φ m + sumL φ r
def coef : Terms → Mono → Nat
  | [], _ => 0
  | (n, c) :: r, m => (if n = m then c else 0) + coef r m
theorem sumL_app (φ : Mono → Int) : ∀ a b : Terms, sumL φ (a ++ b) = sumL φ a + sumL φ b
  | [], b => (Int.zero_add _).symm
  | (m, c) :: a, b => by
    show (c : Int) * φ m + sumL φ (a ++ b) = (c : Int) * φ m + sumL φ a + sumL φ b
    rw [sumL_app φ a b, Int.add_assoc]
theorem coef_app (m : Mono) : ∀ a b : Terms, coef (a ++ b) m = coef a m + coef b m
  | [], b => (Nat.zero_add _).symm
  | (n, c) :: a, b => by
    show (if n = m then c else 0) + coef (a ++ b) m = _
    rw [coef_app m a b, coef, Nat.add_assoc]
theorem coef_sum (m : Mono) : ∀ a : Terms, (coef a m : Int) = sumL (fun n => if n = m then 1 else 0) a
  | [] => rfl
  | (n, c) :: a => by
    rw [coef, sumL, ← coef_sum m a]
    by_cases h : n = m
    · rw [if_pos h, if_pos h]; omega
    · rw [if_neg h, if_neg h]; omega
def del (m : Mono) (L : Terms) : Terms := L.filter fun x => !decide (x.1 = m)
theorem del_len (m : Mono) (L : Terms) : (del m L).length ≤ L.length := List.length_filter_le ..
theorem del_hit {m : Mono} {c : Nat} {L : Terms} : del m ((m, c) :: L) = del m L := List.filter_cons_of_neg (by simp)
theorem del_miss {m n : Mono} {c : Nat} {L : Terms} (h : ¬ n = m) : del m ((n, c) :: L) = (n, c) :: del m L := List.filter_cons_of_pos (by simp [h])
theorem sum_del (φ : Mono → Int) (m : Mono) : ∀ L : Terms, sumL φ L = (coef L m : Int) * φ m + sumL φ (del m L)
  | [] => by rw [coef]; show (0 : Int) = ((0 : Nat) : Int) * φ m + 0; rw [Int.natCast_zero, Int.zero_mul]; rfl
  | (n, c) :: L => by
    by_cases h : n = m
    · subst h
      rw [del_hit, sumL, coef, if_pos rfl, sum_del φ n L, Int.natCast_add, Int.add_mul, Int.add_assoc]
    · rw [del_miss h, sumL, sumL, coef, if_neg h, Nat.zero_add, sum_del φ m L]
      omega
theorem coef_del (m n : Mono) : ∀ L : Terms, coef (del m L) n = if n = m then 0 else coef L n
  | [] => by split <;> rfl
  | (k, c) :: L => by
    by_cases h : k = m
    · subst h
      rw [del_hit, coef_del k n L]
      by_cases e : n = k
      · rw [if_pos e, if_pos e]
      · rw [if_neg e, if_neg e, coef, if_neg (fun z => e z.symm), Nat.zero_add]
    · rw [del_miss h, coef, coef_del m n L]
      by_cases e : n = m
      · subst e
        rw [if_pos rfl, if_pos rfl, if_neg h]
      · rw [if_neg e, if_neg e, coef]
theorem sum_none (φ : Mono → Int) : ∀ L : Terms, (∀ m, coef L m = 0) → sumL φ L = 0
  | [], _ => rfl
  | (n, c) :: L, h => by
    have h1 := h n
    rw [coef, if_pos rfl] at h1
    have hc : c = 0 := by omega
    rw [sumL, sum_none φ L fun m => by have := h m; rw [coef] at this; omega, hc]
    simp
/-- sums depend on the coefficients alone -/
theorem lin (φ : Mono → Int) : ∀ (k : Nat) (L L' : Terms), L.length ≤ k → (∀ m, coef L m = coef L' m) → sumL φ L = sumL φ L'
  | _, [], L', _, h => (sum_none φ L' fun m => (h m).symm).symm
  | 0, _ :: _, _, hl, _ => absurd hl (Nat.not_succ_le_zero _)
  | k + 1, (m, c) :: L, L', hl, h => by
    rw [sum_del φ m ((m, c) :: L), sum_del φ m L', h m, del_hit, lin φ k (del m L) (del m L') (Nat.le_trans (del_len m L) (by simpa using hl)) fun n => by
      have := h n
      rw [coef_del, coef_del]
      by_cases e : n = m
      · rw [if_pos e, if_pos e]
      · rw [if_neg e, if_neg e, ← this, coef, if_neg (fun z => e z.symm), Nat.zero_add]]
theorem linear (φ : Mono → Int) {L L' : Terms} (h : ∀ m, coef L m = coef L' m) : sumL φ L = sumL φ L' := lin φ L.length L L' (Nat.le_refl _) h
def tmul (a b : Terms) : Terms := a.flatMap fun x => b.map fun y => (mmul x.1 y.1, x.2 * y.2)
theorem sum_one (φ : Mono → Int) (x : Mono × Nat) : ∀ b : Terms, sumL φ (b.map fun y => (mmul x.1 y.1, x.2 * y.2)) = (x.2 : Int) * sumL (fun n => φ (mmul x.1 n)) b
  | [] => (Int.mul_zero _).symm
  | (n, c) :: b => by
    show ((x.2 * c : Nat) : Int) * φ (mmul x.1 n) + sumL φ (b.map fun y => (mmul x.1 y.1, x.2 * y.2)) = _
    rw [sum_one φ x b, sumL, Int.mul_add, Int.natCast_mul, Int.mul_assoc]
theorem sum_tmul (φ : Mono → Int) (b : Terms) : ∀ a : Terms, sumL φ (tmul a b) = sumL (fun m => sumL (fun n => φ (mmul m n)) b) a
  | [] => rfl
  | (m, c) :: a => by
    show sumL φ ((b.map fun y => (mmul m y.1, c * y.2)) ++ tmul a b) = _
    rw [sumL_app, sum_tmul φ b a, sum_one φ (m, c) b, sumL]
theorem coefI {L L' : Terms} (h : ∀ m, sumL (fun n => if n = m then 1 else 0) L = sumL (fun n => if n = m then 1 else 0) L') (m : Mono) : coef L m = coef L' m := by
  have := h m
  rw [← coef_sum, ← coef_sum] at this
  omega
theorem tmul_congr {a a' b b' : Terms} (ha : ∀ m, coef a m = coef a' m) (hb : ∀ m, coef b m = coef b' m) (m : Mono) : coef (tmul a b) m = coef (tmul a' b') m := by
  refine coefI (fun m => ?_) m
  rw [sum_tmul, sum_tmul, linear _ ha]
  congr 1
  funext n
  exact linear _ hb
theorem tmul_add (a b c : Terms) (m : Mono) : coef (tmul a (b ++ c)) m = coef (tmul a b) m + coef (tmul a c) m := by
  have : coef (tmul a (b ++ c)) m = coef (tmul a b ++ tmul a c) m := by
    refine coefI (fun m => ?_) m
    rw [sumL_app, sum_tmul, sum_tmul, sum_tmul]
    induction a with
    | nil => rfl
    | cons x a ih =>
      obtain ⟨k, d⟩ := x
      rw [sumL, sumL, sumL, ih, sumL_app, Int.mul_add]
      omega
  rw [this, coef_app]
theorem tmul_one (a : Terms) (m : Mono) : coef (tmul a [([], 1)]) m = coef a m := by
  refine coefI (fun m => ?_) m
  rw [sum_tmul]
  congr 1
  funext n
  show ((1 : Nat) : Int) * _ + 0 = _
  rw [Int.natCast_one, Int.one_mul, Int.add_zero]
  rfl
theorem tmul_nil (a : Terms) : tmul a [] = [] := by
  induction a with
  | nil => rfl
  | cons x a ih => exact ih
theorem val_tmul (φ : Nat → Int) (a b : Terms) : sumL (ev φ) (tmul a b) = sumL (ev φ) a * sumL (ev φ) b := by
  rw [sum_tmul]
  induction a with
  | nil => exact (Int.zero_mul _).symm
  | cons x a ih =>
    obtain ⟨k, d⟩ := x
    rw [sumL, sumL, ih, Int.add_mul]
    congr 1
    have : ∀ b : Terms, sumL (fun n => ev φ (mmul k n)) b = ev φ k * sumL (ev φ) b := by
      intro b
      induction b with
      | nil => exact (Int.mul_zero _).symm
      | cons y b ih2 =>
        obtain ⟨n, c⟩ := y
        rw [sumL, sumL, ih2, ev_mmul, Int.mul_add, ← Int.mul_assoc, Int.mul_comm (c : Int) (ev φ k), Int.mul_assoc, ← Int.mul_assoc (ev φ k), Int.mul_comm (ev φ k) (c : Int), Int.mul_assoc, Int.mul_left_comm]
    rw [this, Int.mul_assoc]
/-! ### canonical -/
structure PCan (lt : Mono → Mono → Prop) (p : Terms) : Prop where
  srt : p.Pairwise fun a b => lt a.1 b.1
  mc : ∀ x ∈ p, MCan x.1
  pos : ∀ x ∈ p, 1 ≤ x.2
theorem coef_none {m : Mono} : ∀ {p : Terms}, (∀ x ∈ p, x.1 ≠ m) → coef p m = 0
  | [], _ => rfl
  | (n, c) :: p, h => by
    rw [coef, if_neg (h (n, c) (List.mem_cons_self ..)), Nat.zero_add]
    exact coef_none fun x hx => h x (List.mem_cons_of_mem _ hx)
theorem coef_at {m : Mono} {c : Nat} : ∀ {p : Terms}, (p.map (·.1)).Nodup → (m, c) ∈ p → coef p m = c
  | (n, d) :: p, nd, h => by
    obtain ⟨n1, n2⟩ := List.nodup_cons.mp (show (n :: p.map (·.1)).Nodup from nd)
    rcases List.mem_cons.mp h with e | h
    · cases e
      rw [coef, if_pos rfl, coef_none (fun x hx (e : x.1 = m) => n1 (by rw [← e]; exact List.mem_map.mpr ⟨x, hx, rfl⟩)), Nat.add_zero]
    · rw [coef, if_neg (fun (z : n = m) => n1 (by rw [z]; exact List.mem_map.mpr ⟨(m, c), h, rfl⟩)), Nat.zero_add, coef_at n2 h]
theorem coef_in {m : Mono} : ∀ {p : Terms}, 1 ≤ coef p m → ∃ c, (m, c) ∈ p
  | (n, d) :: p, h => by
    by_cases e : n = m
    · exact ⟨d, e ▸ List.mem_cons_self ..⟩
    · rw [coef, if_neg e, Nat.zero_add] at h
      obtain ⟨c, hc⟩ := coef_in h
      exact ⟨c, List.mem_cons_of_mem _ hc⟩
theorem PCan.nd {lt : Mono → Mono → Prop} {p : Terms} (as : ∀ a b, lt a b → ¬ lt b a) (h : PCan lt p) : (p.map (·.1)).Nodup :=
  List.pairwise_map.mpr (h.srt.imp fun {a b} l (e : a.1 = b.1) => as _ _ l (by rw [e] at l ⊢; exact l))
theorem can_ext {lt : Mono → Mono → Prop} (as : ∀ a b, lt a b → ¬ lt b a) {p q : Terms} (hp : PCan lt p) (hq : PCan lt q) (h : ∀ m, coef p m = coef q m) : p = q := by
  have go : ∀ {p q : Terms}, PCan lt p → PCan lt q → (∀ m, coef p m = coef q m) → ∀ x, x ∈ p → x ∈ q := fun {p q} hp hq h x hx => by
    obtain ⟨m, c⟩ := x
    have e := coef_at (hp.nd as) hx
    have p1 := hp.pos (m, c) hx
    obtain ⟨d, hd⟩ := coef_in (p := q) (m := m) (by rw [← h, e]; exact p1)
    have e2 := coef_at (hq.nd as) hd
    rw [← h, e] at e2
    rw [e2]
    exact hd
  exact WS.pw_ext (fun a b l => as _ _ l) hp.srt hq.srt fun x => ⟨go hp hq h x, go hq hp (fun m => (h m).symm) x⟩
end PM

set_option Elab.async false
set_option linter.all false
set_option maxRecDepth 100000
set_option maxHeartbeats 4000000
/-! all(.. for ..), any(.. for ..): the element is any expression that the reading serves. -/
namespace EwG
open PySem PySem.Spec PyProof.Rows L2 Ew GxR

/-- the context of a generator expression's frame -/
abbrev gx (X : Cx) (A1 : Around) (s : Shared) (H : Hp) (cenv : Env) (fp : List Addr) (pn : List (Addr × Obj)) : Cx :=
  { X with A := A1, s_0 := s, H_0 := H, env := cenv, outer := X.stack, stack := cenv :: X.stack, ex := fp, fn := fun _ => false, calm := true, pn := pn, xe := fun _ _ => False }

theorem inv_same {X : Cx} {pins : List (Addr × Obj)} {σ : L2.St} {H : Hp} {s s' : Shared} (I : Inv X pins σ H s) (hh : s'.heap = s.heap) (ho : s'.os = s.os) (hb : AllBare s'.gens) : Inv X pins σ H s' := by
  obtain ⟨h', g', d', t', o'⟩ := s'
  have e1 : h' = s.heap := hh
  have e2 : o' = s.os := ho
  subst e1 e2
  exact ⟨I.ok, I.os, hb, I.base, I.loc, I.cell, I.free, I.freeC, I.pin, I.hok, I.len⟩

section
variable {X : Cx} {pins : List (Addr × Obj)} {σ : L2.St} {H : Hp} {s : Shared}
abbrev genv (X : Cx) (scope : Scope) (C : Addr) (code : Value) : Env := genEnv scope (cloFrom X.env.cells scope.names []) C code builtinsNs X.env

theorem gen_start {scope : Scope} {own : List (Str × Nat)} {fp : List Addr} {A1 : Around} {h' : Heap} {obj : Obj} {code : Value} {m : Str → Option Value} {g' : Array GenState} {t' : Nat}
    (I : Inv X pins σ H s) (ok : BlkOk X.N X.env.scope scope own) (hcell : ∀ y ∈ scope.names, y.2 ≠ .cell) (hN : X.N.Nodup) (hfp : ∀ b ∈ fp, FpOk X pins H b ∧ b < s.heap.objs.size)
    (hA : A1.handled = none) (hfr : A1.frames = some (genv X scope s.heap.objs.size code :: X.stack)) (hn' : h'.Ns s.heap.objs.size m) (kp0 : ∀ b o, s.heap.get? b = some o → h'.get? b = some o) (hs : h'.objs.size = s.heap.objs.size + 1)
    (hob : (h'.push obj).get? h'.objs.size = some obj) (hod : ∀ v, obj.data ≠ .cell v) (hg : AllBare g') :
    Inv (gx X A1 s H (genv X scope s.heap.objs.size code) fp [(h'.objs.size, obj)]) [] (wipe σ (own.map (·.2))) H { s with heap := h'.push obj, gens := g', toks := t' } := by
  have hfree : ∀ y ∈ scope.names, y.2 = .free → ∃ c, X.env.cells.lookup y.1 = some c := fun y hy e => by
    rcases ok.free y hy e with k | k
    · exact I.ok.has _ (.inl k)
    · exact I.ok.has _ (.inr k)
  have kp : ∀ b o, s.heap.get? b = some o → (h'.push obj).get? b = some o := fun b o e => Heap.get?_push_of_some _ (kp0 b o e)
  generalize hcenv : genv X scope s.heap.objs.size code = cenv at hfr
  have hL : cenv.locals = s.heap.objs.size := by rw [← hcenv]; rfl
  have hF : cenv.frame = some cenv.locals := by rw [← hcenv]; rfl
  have hcl : cenv.cells = cloFrom X.env.cells scope.names [] := by rw [← hcenv]; rfl
  have hsc : cenv.scope = scope := by rw [← hcenv]; rfl
  have cm : ∀ {y c}, cenv.cells.lookup y = some c → X.env.cells.lookup y = some c ∧ c < s.heap.objs.size := fun {y c} hm => by
    rw [hcl] at hm
    rcases cloFrom_mem (PySem.mem_of_lookup hm) with hm | ⟨h1, rfl⟩
    · cases hm
    · obtain ⟨c, hc⟩ := hfree _ h1 rfl
      rw [hc]
      obtain ⟨w, z⟩ := I.cell _ _ hc
      exact ⟨rfl, z.lt⟩
  have look : ∀ {y}, scope.names.lookup y = some .free → ∃ c, cenv.cells.lookup y = some c ∧ X.env.cells.lookup y = some c := fun {y} hl => by
    have hy : (y, NameKind.free) ∈ scope.names := PySem.mem_of_lookup hl
    obtain ⟨c', e'⟩ := mem_lookup (cloFrom_has (cells := X.env.cells) (acc := []) hy)
    rw [← hcl] at e'
    exact ⟨c', e', (cm e').1⟩
  have okB : (gx X A1 s H cenv fp [(h'.objs.size, obj)]).Ok := by
    refine ⟨I.ok.mod, by show cenv.scope.kind = _; rw [hsc]; exact ok.kind, by show cenv.globals = _; rw [← hcenv]; exact I.ok.glob, by show cenv.builtins = _; rw [← hcenv]; rfl, by show s.heap.objs.size ≤ cenv.locals; rw [hL]; exact Nat.le_refl _,
      fun y z c e1 e2 => I.ok.inj y z c (cm e1).1 (cm e2).1, fun y hy => ?_, fun y c z e => absurd (show false = true from z) Bool.false_ne_true, fun _ => hA, hfr, .inr ⟨rfl, hF⟩, fun b hb => ⟨?_, fun y c e z => ?_⟩, I.bs, Nat.le_trans I.ok.bsz I.sz, fun b o e hb => ?_, fun b hb z => ?_, I.stack, I.stkFree⟩
    · show ∃ c, cenv.cells.lookup y = some c
      rcases hy with hy | hy
      · have hy : cenv.scope.names.lookup y = some .cell := hy
        rw [hsc] at hy
        exact absurd rfl (hcell _ (PySem.mem_of_lookup hy))
      · have hy : cenv.scope.names.lookup y = some .free := hy
        rw [hsc] at hy
        obtain ⟨c, h1, _⟩ := look hy
        exact ⟨c, h1⟩
    · show b ≠ cenv.locals
      rw [hL]; exact Nat.ne_of_lt (hfp b hb).2
    · exact (hfp b hb).1.2.2.2.2.1 y c (cm e).1 z
    · rcases (hfp b hb).1.2.2.2.1 with z | z
      · exact I.ok.noex b o e z
      · exact absurd (Nat.lt_of_lt_of_le (Heap.lt_size e) (Nat.le_trans I.ok.bsz z)) (Nat.lt_irrefl _)
    · rcases List.mem_cons.mp (I.stkSub b z) with z | z
      · exact (hfp b hb).1.2.1 z
      · exact (hfp b hb).1.2.2.1 z
  refine ⟨okB, rfl, hg, Un.kept kp, ⟨m, ?_, fun i y av e1 e2 e3 => ?_⟩, fun y c e => ?_, ?_, fun y c e => ?_, fun p hp => ?_, I.hok.kept kp, by rw [wipe_length]; exact I.len⟩
  · show Heap.Ns _ cenv.locals _
    rw [hL]
    exact hn'.push _
  · obtain ⟨e2, hne⟩ := wipe_some e2
    have hfr : scope.names.lookup y = some .free := by
      have key : ∀ k, scope.names.lookup y = some k → k = .local ∨ k = .cell → False := fun k hk hh => by
        rcases ok.own _ (PySem.mem_of_lookup hk) hh with e' | e'
        · obtain ⟨p, hp, hpy⟩ := List.mem_map.mp e'
          have e3 := ok.ix p hp
          have : p.1 = y := hpy
          rw [this] at e3
          exact hne (List.mem_map.mpr ⟨p, hp, nodup_ix hN e3 e1⟩)
        · exact e' (List.mem_of_getElem? e1)
      have e3 : Vis cenv.scope y := e3
      rw [hsc] at e3
      rcases e3 with e3 | e3 | e3
      · exact (key _ e3 (.inl rfl)).elim
      · exact (key _ e3 (.inr rfl)).elim
      · exact e3
    obtain ⟨m, hn, hl⟩ := I.loc
    have hvis : Vis X.env.scope y := (ok.free _ (PySem.mem_of_lookup hfr) rfl).elim (fun k => .inr (.inl k)) (fun k => .inr (.inr k))
    obtain ⟨w, r, q⟩ := hl i y av e1 e2 hvis
    refine ⟨w, r, .inr ⟨.inr (by show cenv.scope.names.lookup y = _; rw [hsc]; exact hfr), ?_⟩⟩
    obtain ⟨c, h1, h2⟩ := look hfr
    rcases q with ⟨k, _⟩ | ⟨_, c', e', z⟩
    · have k : X.env.scope.names.lookup y = some .local := k
      rcases ok.free _ (PySem.mem_of_lookup hfr) rfl with k' | k' <;> rw [show X.env.scope.names.lookup y = _ from k'] at k <;> cases k
    · rw [h2] at e'; cases e'
      exact ⟨c, h1, z.keeps kp⟩
  · obtain ⟨w, z⟩ := I.cell y c (cm e).1
    exact ⟨w, z.keeps kp⟩
  · show H cenv.locals = none
    rw [hL]; exact I.hok.fresh (Nat.le_refl _)
  · exact I.freeC y c (cm e).1
  · have e : p = (h'.objs.size, obj) := by
      have hp : p ∈ [(h'.objs.size, obj)] ++ [] := hp
      simpa using hp
    subst e
    have le : s.heap.objs.size ≤ h'.objs.size := by omega
    refine ⟨hob, I.hok.fresh le, ?_, fun z => ?_, hod⟩
    · show h'.objs.size ≠ cenv.locals
      rw [hL, hs]; exact Nat.succ_ne_self _
    · rcases List.mem_cons.mp (I.stkSub _ z) with z | z
      · have := I.lt
        rw [← show h'.objs.size = X.env.locals from z] at this
        exact absurd (Nat.lt_of_lt_of_le this le) (Nat.lt_irrefl _)
      · exact I.nofs le z

/-- e: the truth that goes on (all: True, any: False) -/
def GW (J : It) (g : TG) (te : TE) (vs : List Nat) (σ : L2.St) (e : Bool) (Q : VK) (W : Nat → Nat → Hp → Prop) : Prop := ∀ i m H, W i m H →
  (J.stop i H ∧ Q (.bl e) H) ∨ (J.go i H ∧ ∀ x H', J.yld i H x H' → g x (wipe σ vs) H' fun σ2 H2 => wipe σ2 vs = wipe σ vs ∧ te σ2 H2 fun y H3 => ∃ b, y = .bl b ∧ (b = e → ∃ m', m' < m ∧ W (i + 1) m' H3) ∧ (b ≠ e → Q (.bl b) H3))
abbrev GP (Y : Cx) (e : Bool) (Q : VK) : Nat → Shared → Shared → Prop := fun _ _ s => ∃ σ H, Inv Y [] σ H s ∧ Q (.bl e) H
abbrev GRn (Y : Cx) (e : Bool) (Q : VK) : GenEnd := fun n s₀ r s => r = .ok .next ∧ GP Y e Q n s₀ s
def GYp (Y : Cx) (e : Bool) (Q : VK) : Protocol := fun n s₀ v s kap => ∃ b σ H, v = .bool b ∧ Inv Y [] σ H s ∧ (b ≠ e → Q (.bl b) H) ∧ (b = e → ∀ s' : Shared, s'.heap = s.heap → s'.os = s.os → AllBare s'.gens → kap (.send .none) s')

theorem seg_loop {Y : Cx} {A2 : Around} {elt tg iter : Expr} {scope : Scope} {pos : Pos} {it : Addr} {fp : List Addr} {tn : Nat → Heap → Prop} {J : It} {g : TG} {te : TE} {vs : List Nat} {σ : L2.St} {e : Bool} {Q : VK} {W : Nat → Nat → Hp → Prop}
    (hA : Y.A = A2.over (.compLoop (.GeneratorExp elt [⟨tg, iter, [], 0⟩] scope pos) 0 (.ref it) .none Y.env) []) (hex : Y.ex = fp) (hc : Y.calm = true) (hx : Y.xe = fun _ _ => False) (hpn : ∀ b ∈ fp, ∀ p ∈ Y.pn, p.1 ≠ b) (hco : Y.env.scope.isCoroutine = false)
    (T : Turn Y.prog Y.w Y.K tg J fp it tn) (pg : PG Y tg g) (pe : PE Y elt te) (hW : GW J g te vs σ e Q W) :
    ∀ (m i n : Nat) (s₀ s : Shared) (H : Hp), m < n → Inv Y [] (wipe σ vs) H s → tn i s.heap → (∀ b ∈ fp, H b = none) → W i m H →
      Seg (model Y.prog Y.w) A2 (GRn Y e Q) (GYp Y e Q) n s₀ (.compLoop (.GeneratorExp elt [⟨tg, iter, [], 0⟩] scope pos) 0 (.ref it) .none Y.env)
        ((model Y.prog Y.w).den (.compLoop (.GeneratorExp elt [⟨tg, iter, [], 0⟩] scope pos) 0 (.ref it) .none Y.env)) [] s := by
  have stat : ∀ {σ' : L2.St} {H' : Hp} {s' : Shared}, Inv Y [] σ' H' s' → (∀ b ∈ fp, H' b = none) → ∀ b ∈ fp, FpOk Y [] H' b := fun {σ' H' s'} I' hn b hb =>
    have hb' : b ∈ Y.ex := by rw [hex]; exact hb
    ⟨hn b hb, (I'.ok.exf b hb').1, I'.ok.exfs b hb', .inl hb', fun x c e => (I'.ok.exf b hb').2 x c e, fun p hp => hpn b hb p (by simpa using hp)⟩
  intro m
  induction m using Nat.strongRecOn with
  | ind m ih =>
    intro i n s₀ s H hmn I st hn w
    show Seg _ A2 _ _ _ s₀ _ ((compTurn (.GeneratorExp elt [⟨tg, iter, [], 0⟩] scope pos) 0 (.ref it) .none Y.env).onRaise (leaving Y.env)) [] s
    rw [compTurn_gen, Sem.onRaise_eq_wrap]
    refine seg_bind_wrap (wpAny_standAt ?_)
    rcases hW i m H w with ⟨stop, q⟩ | ⟨go, step⟩
    · refine seg_bind_wrap ?_
      rw [← hA]
      refine thnF (T.done Y rfl rfl rfl hc i [] s _ H (fun _ _ => False) I (stat I hn) st stop) fun r s6 ⟨hr, I6⟩ => ?_
      subst hr
      exact seg_end (.ok .next) ⟨rfl, _, H, I6, q⟩
    · refine seg_bind_wrap ?_
      rw [← hA]
      refine thnF (T.item Y rfl rfl rfl hc i [] s _ H (fun _ _ => False) I (stat I hn) st go) fun r s6 ⟨u, hr, h6⟩ => ?_
      subst hr
      refine seg_bind_wrap ?_
      rw [← hA]
      refine thnF h6 fun _ s7 ⟨x, H7, I7, r7, y7, st7, n7⟩ => ?_
      have I7' := I7.pinned (stat I7 n7) (T.obj _ _ st7)
      refine seg_bind_wrap ?_
      rw [← hA]
      have hpg := pg.run _ s7 _ H7 x u _ I7' r7 (step x H7 y7)
      rw [hx] at hpg
      refine thnF hpg fun _ s8 ⟨σ8, H8, I8, hw8, q8⟩ => ?_
      refine seg_bind_wrap ?_
      rw [← hA]
      refine wpAny_tests_nil ?_
      simp only [if_true]
      have hy : ∀ v, yieldOut Y.env v = yieldValue v := fun v => by simp only [yieldOut, hco, Bool.false_eq_true, if_false]
      simp only [hy]
      rw [Sem.bind_eq_wrap', Sem.bind_eq_wrap', Sem.wrap_wrap, Sem.wrap_wrap]
      refine seg_wrap ?_
      rw [← hA]
      have hpe := pe.run _ s8 σ8 H8 _ I8 q8
      rw [hx] at hpe
      refine thnF hpe fun z s9 ⟨y, H9, I9, r9, b, hyb, q9⟩ => ?_
      subst hyb
      have hz : z = .bool b := r9
      subst hz
      have pin' : ∀ c ∈ fp, ∀ o, s7.heap.get? c = some o → s9.heap.get? c = some o ∧ H9 c = none := fun c hb o e =>
        let z := I9.pin (c, o) (List.mem_append_right _ (List.mem_append_right _ (mem_pinsAt hb e)))
        ⟨z.1, z.2.1⟩
      have hl : (wipe σ vs).length = σ8.length := by rw [← hw8, wipe_length]
      have I10 : Inv Y [] (wipe σ vs) H9 s9 := (I9.unpinned (pins := [])).weak hl fun j v e => by
        rw [← hw8] at e
        exact (wipe_some e).1
      obtain ⟨n', rfl⟩ : ∃ n', n = n' + 1 := ⟨n - 1, by omega⟩
      refine seg_at (seg_yield rfl rfl rfl ⟨b, _, H9, rfl, I10, q9.2, fun hb s' hh ho hg => ?_⟩)
      obtain ⟨m', hm, w'⟩ := q9.1 hb
      refine seg_again rfl (ih m' hm (i + 1) n' s' s' H9 (by omega) (inv_same I10 hh ho hg) ?_ (fun c hc => ?_) w')
      · rw [hh]
        exact T.keep _ _ _ st7 fun c hb o e => (pin' c hb o e).1
      · obtain ⟨o, e, _⟩ := T.obj _ _ st7 c hc
        exact (pin' c hc o e).2

theorem seg_start {Y : Cx} {A2 : Around} {elt tg iter : Expr} {scope : Scope} {pos : Pos} {it : Addr} {fp : List Addr} {tn : Nat → Heap → Prop} {J : It} {e : Bool} {Q : VK} {n : Nat} {s₀ s : Shared}
    (T : Turn Y.prog Y.w Y.K tg J fp it tn) (st : tn 0 s.heap)
    (loop : Seg (model Y.prog Y.w) A2 (GRn Y e Q) (GYp Y e Q) n s₀ (.compLoop (.GeneratorExp elt [⟨tg, iter, [], 0⟩] scope pos) 0 (.ref it) .none Y.env)
        ((model Y.prog Y.w).den (.compLoop (.GeneratorExp elt [⟨tg, iter, [], 0⟩] scope pos) 0 (.ref it) .none Y.env)) [] s) :
    Seg (model Y.prog Y.w) A2 (GRn Y e Q) (GYp Y e Q) n s₀ (.compStart (.GeneratorExp elt [⟨tg, iter, [], 0⟩] scope pos) 0 (.ref it) .none Y.env)
        ((model Y.prog Y.w).den (.compStart (.GeneratorExp elt [⟨tg, iter, [], 0⟩] scope pos) 0 (.ref it) .none Y.env)) [] s := by
  show Seg _ A2 _ _ _ s₀ _ ((compStart (.GeneratorExp elt [⟨tg, iter, [], 0⟩] scope pos) 0 (.ref it) .none Y.env).onRaise (leaving Y.env)) [] s
  unfold compStart
  rw [Sem.onRaise_eq_wrap]
  show Seg _ A2 _ _ _ s₀ _ ((ask >>= _).wrap _ _ _ _) [] s
  refine seg_bind_wrap (wpAny_askSetting ?_)
  split
  · exact seg_again rfl loop
  · first
      | exact seg_bind_wrap (wpAny_rule (seg_bind_wrap (wpAny_standAt (seg_bind_wrap (T.self _ 0 s _ _ st (seg_again rfl loop))))))
      | (refine seg_bind_wrap (wpAny_rule ?_); show Seg _ A2 _ _ _ s₀ _ ((standAt iter.pos >>= _).wrap _ _ _ _) [] s; exact seg_bind_wrap (wpAny_standAt (seg_bind_wrap (T.self _ 0 s _ _ st (seg_again rfl loop)))))

theorem fin_heap {Y : Cx} {σ : L2.St} {H : Hp} {s₁ : Shared} {g : Nat} {h' : Heap} (I : Inv Y [] σ H s₁) (k : ∀ b o, s₁.heap.get? b = some o → h'.get? b = some o) : Inv Y [] σ H { s₁.setGen g .finished with heap := h' } :=
  inv_same (s' := { s₁.setGen g .finished with heap := h' }) (Inv.kept (t' := s₁.toks) I k) rfl rfl (allBare_setGen I.bare rfl)

/-- one step of the walk -/
theorem next_gen {Y : Cx} {A : Around} {a : Addr} {g n : Nat} {gs : GenState} {e : Bool} {Q : VK} {s : Shared} {Qo : Option Value → Shared → Prop} {E : Value → Shared → Prop} (hh : A.handled = none) (hroom : A.depth < recursionLimit)
    (hl : s.heap.NoLimit) (hg : s.heap.IsGen a g) (hgs : s.gens[g]? = some gs) (hb : AllBare s.gens)
    (hgo : ∀ s' : Shared, s'.heap = s.heap → s'.os = s.os → AllBare s'.gens → gs.Goes (model Y.prog Y.w) A.in1 (GRn Y e Q) (GYp Y e Q) n (.send .none) s')
    (hE : ∀ σ H s', Inv Y [] σ H s' → Q (.bl e) H → Qo none s')
    (hO : ∀ b σ H s', b ≠ e → Inv Y [] σ H s' → Q (.bl b) H → Qo (some (.bool b)) s')
    (hN : ∀ n' gs' σ H s', n = n' + 1 → Inv Y [] σ H s' → s'.gens[g]? = some gs' → (∀ s'' : Shared, s''.heap = s'.heap → s''.os = s'.os → AllBare s''.gens → gs'.Goes (model Y.prog Y.w) A.in1 (GRn Y e Q) (GYp Y e Q) n' (.send .none) s'') → Qo (some (.bool e)) s') :
    wpAny (model Y.prog Y.w) A (pyNext (.ref a)) Qo E s := by
  have hgl : g < s.gens.size := by
    rcases Nat.lt_or_ge g s.gens.size with h | h
    · exact h
    · rw [Array.getElem?_eq_none h] at hgs; cases hgs
  refine GenW.wpAny_gsz (Nat.le_refl s.gens.size) ?_
  refine wpAny_pyNext_genexpQ (P := GP Y e Q) hh hl hroom hg hgs (hgo _ rfl rfl (allBare_setGen hb rfl)) (fun v s₁ gs' hbr hY => ?_) (fun s₁ hP h' hk => ?_)
  · obtain ⟨b, σ, H, rfl, I, qne, qe⟩ := hY
    intro hsz
    have hsz1 : g < s₁.gens.size := by
      rw [GenW.setGen_size] at hsz
      omega
    have I' : Inv Y [] σ H (s₁.setGen g gs') := inv_same (s' := s₁.setGen g gs') I rfl rfl (allBare_setGen I.bare hbr)
    by_cases hbe : b = e
    · subst hbe
      have k := qe rfl
      cases n with
      | zero => exact False.elim (k s₁ rfl rfl I.bare)
      | succ n' =>
        refine hN n' gs' σ H _ rfl I' (setGen_self (gs := s₁.gens[g]) (Array.getElem?_eq_getElem hsz1)) fun s'' h1 h2 h3 => ?_
        exact k s'' h1 h2 h3
    · exact hO b σ H _ hbe I' (qne hbe)
  · obtain ⟨σ, H, I, q⟩ := hP
    intro _
    exact hE σ H _ (fin_heap I hk) q

theorem drv_all {Y : Cx} {A : Around} {a : Addr} {g : Nat} {Q : VK} {R : Result → Shared → Prop} {og : Obj} (hpn : (a, og) ∈ Y.pn) (hig : ∀ h : Heap, h.get? a = some og → h.IsGen a g)
    (hh : A.in1.handled = none) (hroom : A.in1.depth < recursionLimit) (hR : ∀ b σ H s', Inv Y [] σ H s' → Q (.bl b) H → R (.ok (.ret (.bool b))) s') :
    ∀ (n : Nat) (gs : GenState) (σ : L2.St) (H : Hp) (s : Shared), Inv Y [] σ H s → s.gens[g]? = some gs →
      (∀ s' : Shared, s'.heap = s.heap → s'.os = s.os → AllBare s'.gens → gs.Goes (model Y.prog Y.w) A.in1.in1 (GRn Y true Q) (GYp Y true Q) n (.send .none) s') →
      codeAny (model Y.prog Y.w) A (.builtin "all.loop" ⟨[.ref a], []⟩) R s := by
  intro n
  induction n with
  | zero =>
    intro gs σ H s I hgs hgo
    refine codeAny_builtin F.entry_all_loop ?_
    rw [Around.under_plainId F.plain_all_loop _]
    show wpAny _ A.in1 (pyNext (.ref a) >>= _) _ _ s
    refine wpAny_bind (next_gen hh hroom I.nolimit (hig _ (I.pin _ (List.mem_append_left _ hpn)).1) hgs I.bare hgo (fun σ H s' I' q => ?_) (fun b σ H s' hb I' q => ?_) fun n' gs' σ H s' hn I' h1 h2 => absurd hn (Nat.succ_ne_zero n').symm)
    · exact wpAny_bind (wpAny_rule (wpAny_pure (hR true σ H s' I' q)))
    · have hb : b = false := by cases b <;> simp_all
      subst hb
      refine wpAny_bind (wpAny_holding (wpAny_truthy_bool ?_))
      refine wpAny_bind (wpAny_letGo ?_)
      simp only [Bool.false_eq_true, if_false]
      exact wpAny_bind (wpAny_rule (wpAny_pure (hR false σ H s' I' q)))
  | succ n ih =>
    intro gs σ H s I hgs hgo
    refine codeAny_builtin F.entry_all_loop ?_
    rw [Around.under_plainId F.plain_all_loop _]
    show wpAny _ A.in1 (pyNext (.ref a) >>= _) _ _ s
    refine wpAny_bind (next_gen hh hroom I.nolimit (hig _ (I.pin _ (List.mem_append_left _ hpn)).1) hgs I.bare hgo (fun σ H s' I' q => ?_) (fun b σ H s' hb I' q => ?_) fun n' gs' σ H s' hn I' h1 h2 => ?_)
    · exact wpAny_bind (wpAny_rule (wpAny_pure (hR true σ H s' I' q)))
    · have hb : b = false := by cases b <;> simp_all
      subst hb
      refine wpAny_bind (wpAny_holding (wpAny_truthy_bool ?_))
      refine wpAny_bind (wpAny_letGo ?_)
      simp only [Bool.false_eq_true, if_false]
      exact wpAny_bind (wpAny_rule (wpAny_pure (hR false σ H s' I' q)))
    · cases hn
      refine wpAny_bind (wpAny_holding (wpAny_truthy_bool ?_))
      refine wpAny_bind (wpAny_letGo ?_)
      simp only [if_true]
      exact wpAny_pure ⟨plainId_quiet F.plain_all_loop _, ih gs' σ H s' I' h1 h2⟩
theorem drv_any {Y : Cx} {A : Around} {a : Addr} {g : Nat} {Q : VK} {R : Result → Shared → Prop} {og : Obj} (hpn : (a, og) ∈ Y.pn) (hig : ∀ h : Heap, h.get? a = some og → h.IsGen a g)
    (hh : A.in1.handled = none) (hroom : A.in1.depth < recursionLimit) (hR : ∀ b σ H s', Inv Y [] σ H s' → Q (.bl b) H → R (.ok (.ret (.bool b))) s') :
    ∀ (n : Nat) (gs : GenState) (σ : L2.St) (H : Hp) (s : Shared), Inv Y [] σ H s → s.gens[g]? = some gs →
      (∀ s' : Shared, s'.heap = s.heap → s'.os = s.os → AllBare s'.gens → gs.Goes (model Y.prog Y.w) A.in1.in1 (GRn Y false Q) (GYp Y false Q) n (.send .none) s') →
      codeAny (model Y.prog Y.w) A (.builtin "any.loop" ⟨[.ref a], []⟩) R s := by
  intro n
  induction n with
  | zero =>
    intro gs σ H s I hgs hgo
    refine codeAny_builtin F.entry_any_loop ?_
    rw [Around.under_plainId F.plain_any_loop _]
    show wpAny _ A.in1 (pyNext (.ref a) >>= _) _ _ s
    refine wpAny_bind (next_gen hh hroom I.nolimit (hig _ (I.pin _ (List.mem_append_left _ hpn)).1) hgs I.bare hgo (fun σ H s' I' q => ?_) (fun b σ H s' hb I' q => ?_) fun n' gs' σ H s' hn I' h1 h2 => absurd hn (Nat.succ_ne_zero n').symm)
    · exact wpAny_bind (wpAny_rule (wpAny_pure (hR false σ H s' I' q)))
    · have hb : b = true := by cases b <;> simp_all
      subst hb
      refine wpAny_bind (wpAny_holding (wpAny_truthy_bool ?_))
      refine wpAny_bind (wpAny_letGo ?_)
      simp only [if_true]
      exact wpAny_bind (wpAny_rule (wpAny_pure (hR true σ H s' I' q)))
  | succ n ih =>
    intro gs σ H s I hgs hgo
    refine codeAny_builtin F.entry_any_loop ?_
    rw [Around.under_plainId F.plain_any_loop _]
    show wpAny _ A.in1 (pyNext (.ref a) >>= _) _ _ s
    refine wpAny_bind (next_gen hh hroom I.nolimit (hig _ (I.pin _ (List.mem_append_left _ hpn)).1) hgs I.bare hgo (fun σ H s' I' q => ?_) (fun b σ H s' hb I' q => ?_) fun n' gs' σ H s' hn I' h1 h2 => ?_)
    · exact wpAny_bind (wpAny_rule (wpAny_pure (hR false σ H s' I' q)))
    · have hb : b = true := by cases b <;> simp_all
      subst hb
      refine wpAny_bind (wpAny_holding (wpAny_truthy_bool ?_))
      refine wpAny_bind (wpAny_letGo ?_)
      simp only [if_true]
      exact wpAny_bind (wpAny_rule (wpAny_pure (hR true σ H s' I' q)))
    · cases hn
      refine wpAny_bind (wpAny_holding (wpAny_truthy_bool ?_))
      refine wpAny_bind (wpAny_letGo ?_)
      simp only [Bool.false_eq_true, if_false]
      exact wpAny_pure ⟨plainId_quiet F.plain_any_loop _, ih gs' σ H s' I' h1 h2⟩

/-- the around of the generator's body, of a consumer that is called at A -/
abbrev gA (A : Around) (elt tg iter : Expr) (scope : Scope) (pos : Pos) (it : Addr) (cenv : Env) : Around := A.in1.in1.over (.compLoop (.GeneratorExp elt [⟨tg, iter, [], 0⟩] scope pos) 0 (.ref it) .none cenv) []
theorem gA_room {k : Nat} {A : Around} {elt tg iter : Expr} {scope : Scope} {pos : Pos} {it : Addr} {cenv : Env} (r : Room (k + 1) A) : Room k (gA A elt tg iter scope pos it cenv) :=
  ⟨r.hd, by have := r.dp; show A.depth + 0 + 1 + 3 * k + 5 < _; omega, by have := r.un; show A.units + 1 + 1 + 0 + 3 + 16 * k + 200 < _; omega⟩
theorem gA_frames {A : Around} {elt tg iter : Expr} {scope : Scope} {pos : Pos} {it : Addr} {cenv : Env} {l : List Env} (h : A.frames = some l) : (gA A elt tg iter scope pos it cenv).frames = some (cenv :: l) := by
  show pushEnvs [cenv] (pushEnvs [] A.frames) = _
  rw [h]
  rfl

/-- the generator at a, that has not begun -/
def Ready2 (X : Cx) (pins : List (Addr × Obj)) (σ : L2.St) (e : Bool) (Q : VK) (a : Addr) (s5 : Shared) : Prop :=
  ∃ (A1 : Around) (s4 : Shared) (H4 : Hp) (cenv : Env) (fp : List Addr) (pn : List (Addr × Obj)) (og : Obj) (g : Nat) (gs : GenState) (σ' : L2.St) (H5 : Hp) (n : Nat),
    (a, og) ∈ pn ∧ (∀ h : Heap, h.get? a = some og → h.IsGen a g) ∧ Inv (gx X A1 s4 H4 cenv fp pn) [] σ' H5 s5 ∧ s5.gens[g]? = some gs ∧
    (∀ s' : Shared, s'.heap = s5.heap → s'.os = s5.os → AllBare s'.gens → gs.Goes (model X.prog X.w) X.A.in1.in1 (GRn (gx X A1 s4 H4 cenv fp pn) e Q) (GYp (gx X A1 s4 H4 cenv fp pn) e Q) n (.send .none) s') ∧
    ∀ σ' H' s', Inv (gx X A1 s4 H4 cenv fp pn) [] σ' H' s' → Inv X pins σ H' s'

/-- all(.., any(..: the reading; e: the truth that goes on -/
def tGen (e : Bool) (P : Addr) (wi : TI) (g : TG) (te : TE) (vs : List Nat) : TE := fun σ H Q => wi σ H fun J H1 => TabG H1 P ∧ ∀ H2, Tabbed P H1 H2 → ∃ W : Nat → Nat → Hp → Prop, (∃ m, W 0 m H2) ∧ GW J g te vs σ e Q W

theorem gen_make {c P : Addr} {elt tg iter : Expr} {gpos : Pos} {scope : Scope} {own : List (Str × Nat)} {wi : TI} {g : TG} {te : TE} {k : Nat} {e : Bool} {Q : VK} {Q' : Value → Shared → Prop}
    (hr : Room (k + 1) X.A) (TB : TabB X.base X.mg c P) (hcode : X.env.code = .ref c) (hN : X.N.Nodup) (ok : BlkOk X.N X.env.scope scope own) (hcell : ∀ y ∈ scope.names, y.2 ≠ .cell) (hco : scope.isCoroutine = false) (h0 : scope.names.lookup (".0" : Str) = some NameKind.local)
    (hi : PI X tg iter wi)
    (hpg : ∀ (A1 : Around) (s : Shared) (H : Hp) (C : Addr) (code : Value) (fp : List Addr) (pn : List (Addr × Obj)), PG (gx X A1 s H (genv X scope C code) fp pn) tg g)
    (hpe : ∀ (A1 : Around) (s : Shared) (H : Hp) (C : Addr) (code : Value) (fp : List Addr) (pn : List (Addr × Obj)), Room k A1 → PE (gx X A1 s H (genv X scope C code) fp pn) elt te)
    (hs : ∀ v, genFold iter X.env v = pure v) (I : Inv X pins σ H s) (h : tGen e P wi g te (own.map (·.2)) σ H Q)
    (hQ : ∀ a s5, Ready2 X pins σ e Q a s5 → Q' (.ref a) s5) :
    wpAny (model X.prog X.w) X.A (eval (.GeneratorExp elt [⟨tg, iter, [], 0⟩] scope gpos) X.env) Q' X.xe s := by
  have hfree : ∀ y ∈ scope.names, y.2 = .free → ∃ c, X.env.cells.lookup y.1 = some c := fun y hy e => by
    rcases ok.free y hy e with k | k
    · exact I.ok.has _ (.inl k)
    · exact I.ok.has _ (.inr k)
  refine wpAny_GeneratorExp_make hco (closure_ok hfree) hcell h0 ok.kind (by have := hr.dp; omega) ?_ hs
  refine thn (hi.run pins s σ H _ I h) fun xv s1 hx => thn hx fun itv s2 h2 => ?_
  obtain ⟨it, fp, tn, J, H2, e2, I2, T, st2, f2, ⟨ps, hP, ht⟩, q⟩ := h2
  subst e2
  have hPs : s2.heap.get? P = some { cls := .none, data := .fields ps } := I2.hok P _ hP
  have cd : PySem.W.CodeHd s2.heap c P := TB.code.keeps fun b u e => I2.bk b u e
  have sz : ∀ b ∈ fp, b < s2.heap.objs.size := fun b hb => by
    obtain ⟨o, e, _⟩ := T.obj _ _ st2 b hb
    exact Heap.lt_size e
  have cont : ∀ (code : Value) (h3 : Heap) (tk : Nat) (ps' : Array Value), Heap.ExtBut P s2.heap h3 → s2.heap.objs.size ≤ h3.objs.size → h3.get? P = some { cls := .none, data := .fields ps' } → (∃ more, ps' = ps ++ more) → TriplesOk ps'.toList →
      wpAny (model X.prog X.w) X.A (builtinsFor X.env.globals X.env.builtins) (fun bi s₄ =>
        ∀ h', h'.Ns s₄.heap.objs.size (fun y => if y = ".0" then some (.ref it) else none) → Heap.SameBut s₄.heap.objs.size (s₄.heap.push { cls := .type "frame", data := .dict #[] }) h' →
          Q' (.ref h'.objs.size) { s₄ with
            gens := s₄.gens.push (.fresh (.compStart (.GeneratorExp elt [⟨tg, iter, [], 0⟩] scope gpos) 0 (.ref it) .none (genEnv scope (cloFrom X.env.cells scope.names []) s₄.heap.objs.size code bi X.env))),
            toks := s₄.toks + 1 + 1 + 1,
            heap := h'.push { cls := .type "generator", data := .fields #[.int s₄.gens.size 0, .str "<genexpr>" (s₄.toks + 1), .str (X.env.qual ++ "<genexpr>") (s₄.toks + 1 + 1)] } }) X.xe { s2 with heap := h3, toks := tk } := by
    intro code h3 tk ps' hx hsz hP3 hmore ht3
    obtain ⟨bm, ob, e1, e2, e3, e4, e5, e6, e7, e8⟩ := TB.bm
    have keep3 : ∀ b u, b ≠ P → s2.heap.get? b = some u → h3.get? b = some u := fun b u hb e => hx b u hb e
    refine wpAny_builtinsFor (m := X.mg) (by rw [I2.ok.glob]; exact (I2.mod.glob.keeps I2.bk).extBut hx TB.gP) e1 e2 (keep3 _ _ e4 (I2.bk _ _ e5)) e6 e7 e8 ?_
    obtain ⟨more, em⟩ := hmore
    have I4 : Inv X pins σ (upd H2 P (.tbl (ps ++ more))) { s2 with heap := h3, toks := tk } :=
      inv_tab (more := more) (h' := h3) (g' := s2.gens) (d' := s2.drawn) (t' := tk) I2 hP keep3 (by rw [← em]; exact hP3) I2.bare
    have nP : ∀ b ∈ fp, b ≠ P := fun b hb z => by
      have := (f2 b hb).1
      rw [z, hP] at this
      cases this
    have f4 : ∀ b ∈ fp, FpOk X pins (upd H2 P (.tbl (ps ++ more))) b ∧ b < h3.objs.size := fun b hb =>
      ⟨⟨by rw [upd_ne (nP b hb)]; exact (f2 b hb).1, (f2 b hb).2⟩, Nat.lt_of_lt_of_le (sz b hb) hsz⟩
    have st4 : tn 0 h3 := T.keep _ _ _ st2 fun b hb o e => keep3 b o (nP b hb) e
    obtain ⟨W, ⟨m0, w0⟩, gw⟩ := q _ ⟨⟨ps ++ more, upd_same, by rw [← em]; exact ht3⟩, fun b hb => upd_ne hb⟩
    intro h' hn' hs'
    have hn' : h'.Ns h3.objs.size (fun y => if y = ".0" then some (.ref it) else none) := hn'
    have hs' : Heap.SameBut h3.objs.size (h3.push { cls := .type "frame", data := .dict #[] }) h' := hs'
    have hsz' : h'.objs.size = h3.objs.size + 1 := by rw [hs'.1, Heap.size_push]
    have keep' : ∀ b o, h3.get? b = some o → h'.get? b = some o := fun b o e => hs'.extBut b o (Nat.ne_of_lt (Heap.lt_size e)) (Heap.get?_push_of_some _ e)
    generalize hcenv : genv X scope h3.objs.size code = cenv
    have I5 := gen_start (A1 := gA X.A elt tg iter scope gpos it cenv) (code := code) (t' := tk + 1 + 1 + 1)
      (obj := { cls := .type "generator", data := .fields #[.int s2.gens.size 0, .str "<genexpr>" (tk + 1), .str (X.env.qual ++ "<genexpr>") (tk + 1 + 1)] })
      (g' := s2.gens.push (.fresh (.compStart (.GeneratorExp elt [⟨tg, iter, [], 0⟩] scope gpos) 0 (.ref it) .none cenv)))
      I4 ok hcell hN f4 hr.hd (by rw [hcenv]; exact gA_frames I.ok.frames) hn' keep' hsz' (Heap.get?_push_size _ rfl) (fun v z => by cases z) (I2.bare.push rfl)
    have pg := hpg (gA X.A elt tg iter scope gpos it cenv) { s2 with heap := h3, toks := tk } (upd H2 P (.tbl (ps ++ more))) h3.objs.size code fp [(h'.objs.size, { cls := .type "generator", data := .fields #[.int s2.gens.size 0, .str "<genexpr>" (tk + 1), .str (X.env.qual ++ "<genexpr>") (tk + 1 + 1)] })]
    have pe := hpe (gA X.A elt tg iter scope gpos it cenv) { s2 with heap := h3, toks := tk } (upd H2 P (.tbl (ps ++ more))) h3.objs.size code fp [(h'.objs.size, { cls := .type "generator", data := .fields #[.int s2.gens.size 0, .str "<genexpr>" (tk + 1), .str (X.env.qual ++ "<genexpr>") (tk + 1 + 1)] })] (gA_room hr)
    have I5 : Inv (gx X (gA X.A elt tg iter scope gpos it cenv) { s2 with heap := h3, toks := tk } (upd H2 P (.tbl (ps ++ more))) (genv X scope h3.objs.size code) fp [(h'.objs.size, _)]) [] (wipe σ (own.map (·.2))) _ _ := I5
    rw [hcenv] at I5 pg pe
    have hcoE : cenv.scope.isCoroutine = false := by rw [← hcenv]; exact hco
    generalize hog : ({ cls := .type "generator", data := .fields #[.int s2.gens.size 0, .str "<genexpr>" (tk + 1), .str (X.env.qual ++ "<genexpr>") (tk + 1 + 1)] } : Obj) = og at I5 pg pe
    have hig : ∀ h : Heap, h.get? h'.objs.size = some og → h.IsGen h'.objs.size s2.gens.size := fun hh e => ⟨og, _, _, e, by rw [← hog], by rw [← hog], by rw [← hog]⟩
    have mI5 : ∀ b ∈ fp, (upd H2 P (.tbl (ps ++ more))) b = none := fun b hb => (f4 b hb).1.1
    have back : ∀ σ' H' s', Inv (gx X (gA X.A elt tg iter scope gpos it cenv) { s2 with heap := h3, toks := tk } (upd H2 P (.tbl (ps ++ more))) cenv fp [(h'.objs.size, og)]) [] σ' H' s' → Inv X pins σ H' s' := fun σ' H' s' I6 =>
      I4.call' (ch := fp) I6.os I6.base I6.hok I6.bare fun b hb => ⟨(f4 b hb).1.2.2.2.1, (f4 b hb).1.2.1, (f4 b hb).1.2.2.2.2.1, (f4 b hb).1.2.2.2.2.2⟩
    have goes : ∀ s' : Shared, s'.heap = h'.push og → s'.os = s2.os → AllBare s'.gens →
        Seg (model X.prog X.w) X.A.in1.in1 (GRn (gx X (gA X.A elt tg iter scope gpos it cenv) { s2 with heap := h3, toks := tk } (upd H2 P (.tbl (ps ++ more))) cenv fp [(h'.objs.size, og)]) e Q)
          (GYp (gx X (gA X.A elt tg iter scope gpos it cenv) { s2 with heap := h3, toks := tk } (upd H2 P (.tbl (ps ++ more))) cenv fp [(h'.objs.size, og)]) e Q) (m0 + 1) s'
          (.compStart (.GeneratorExp elt [⟨tg, iter, [], 0⟩] scope gpos) 0 (.ref it) .none cenv) ((model X.prog X.w).den (.compStart (.GeneratorExp elt [⟨tg, iter, [], 0⟩] scope gpos) 0 (.ref it) .none cenv)) [] s' := fun s' hh ho hg => by
      have I6 := inv_same (s' := s') I5 hh ho hg
      have st6 : tn 0 s'.heap := by
        rw [hh]
        exact T.keep _ _ _ st4 fun b _ o e => Heap.get?_push_of_some _ (keep' b o e)
      refine seg_start (Y := gx X (gA X.A elt tg iter scope gpos it cenv) { s2 with heap := h3, toks := tk } (upd H2 P (.tbl (ps ++ more))) cenv fp [(h'.objs.size, og)]) T st6
        (seg_loop rfl rfl rfl rfl (fun b hb p hp z => ?_) hcoE T pg pe gw m0 0 (m0 + 1) s' s' _ (Nat.lt_succ_self _) I6 st6 mI5 w0)
      have hp : p ∈ [(h'.objs.size, og)] := hp
      rw [List.mem_singleton.mp hp] at z
      have z : h'.objs.size = b := z
      have h9 := (f4 b hb).2
      rw [← z, hsz'] at h9
      exact absurd h9 (Nat.not_lt.mpr (Nat.le_succ _))
    have ee : genEnv scope (cloFrom X.env.cells scope.names []) h3.objs.size code builtinsNs X.env = cenv := hcenv
    have fin := hQ h'.objs.size { s2 with heap := h'.push og, gens := s2.gens.push (.fresh (.compStart (.GeneratorExp elt [⟨tg, iter, [], 0⟩] scope gpos) 0 (.ref it) .none cenv)), toks := tk + 1 + 1 + 1 }
      ⟨gA X.A elt tg iter scope gpos it cenv, { s2 with heap := h3, toks := tk }, upd H2 P (.tbl (ps ++ more)), cenv, fp, [(h'.objs.size, og)], og, s2.gens.size, .fresh (.compStart (.GeneratorExp elt [⟨tg, iter, [], 0⟩] scope gpos) 0 (.ref it) .none cenv), wipe σ (own.map (·.2)), upd H2 P (.tbl (ps ++ more)), m0 + 1,
        List.mem_singleton.mpr rfl, hig, I5, Array.getElem?_push_size .., fun s' hh ho hg => ⟨rfl, goes s' hh ho hg⟩, back⟩
    rw [← ee] at fin
    exact fin
  cases hf : codeAmong gpos ps.toList with
  | none =>
    refine ⟨I2.nolimit, ?_⟩
    refine wpAny_genexprCodeX hcode (cd.code hPs ht) (cd.tab hPs) hf fun c' h' tk hx hge hlt hco' _ htab' _ => ?_
    obtain ⟨o1, vs, f1, tf, fl, tg, inF, tx, tt, op, _, _, _, _, _, _, _, _, _, htr, _⟩ := hco'
    exact cont _ h' tk _ hx (Nat.le_trans hge (Nat.le_of_lt hlt)) htab'.2 ⟨_, rfl⟩ htr
  | some cv =>
    refine ⟨I2.nolimit, ?_⟩
    refine wpAny_genexprCode_hit hcode (cd.code hPs ht) hf ?_
    exact cont cv s2.heap s2.toks ps (Heap.ExtBut.refl _ _) (Nat.le_refl _) hPs ⟨#[], by simp⟩ ht

theorem pe_all {c P : Addr} {elt tg iter : Expr} {p pos gpos : Pos} {scope : Scope} {own : List (Str × Nat)} {wi : TI} {g : TG} {te : TE} {k : Nat}
    (hr : Room (k + 1) X.A) (hg : Gl X "all") (hm : X.mg "all" = none) (TB : TabB X.base X.mg c P) (hcode : X.env.code = .ref c) (hN : X.N.Nodup) (ok : BlkOk X.N X.env.scope scope own) (hcell : ∀ y ∈ scope.names, y.2 ≠ .cell) (hco : scope.isCoroutine = false) (h0 : scope.names.lookup (".0" : Str) = some NameKind.local)
    (hi : PI X tg iter wi)
    (hpg : ∀ (A1 : Around) (s : Shared) (H : Hp) (C : Addr) (code : Value) (fp : List Addr) (pn : List (Addr × Obj)), PG (gx X A1 s H (genv X scope C code) fp pn) tg g)
    (hpe : ∀ (A1 : Around) (s : Shared) (H : Hp) (C : Addr) (code : Value) (fp : List Addr) (pn : List (Addr × Obj)), Room k A1 → PE (gx X A1 s H (genv X scope C code) fp pn) elt te)
    (hs : ∀ v, genFold iter X.env v = pure v := by intro _; rfl)
    (he : starEach [.GeneratorExp elt [⟨tg, iter, [], 0⟩] scope gpos] X.env = (false, eval (.GeneratorExp elt [⟨tg, iter, [], 0⟩] scope gpos) X.env) :: starEach [] X.env := by rfl) :
    PE X (.Call (.Name "all" p) [.GeneratorExp elt [⟨tg, iter, [], 0⟩] scope gpos] [] pos) (tGen true P wi g te (own.map (·.2))) := by
  refine ⟨fun pins s σ H Q I h => ?_⟩
  refine wpAny_Call_Name_kw (ld_blt I hg hm boot_all ?_)
  refine PyProof.Rows.callWith_builtin1 ?_ he (by rfl)
  rw [he]
  show wpAny _ _ (spliced ((false, eval (.GeneratorExp elt [⟨tg, iter, [], 0⟩] scope gpos) X.env) :: backTo pos (starEach [] X.env))) _ _ s
  refine Calls.spliced_cons (gen_make (e := true) (Q := Q) hr TB hcode hN ok hcell hco h0 hi hpg hpe hs I h fun a s5 hG => ?_)
  obtain ⟨A1, s4, H4, cenv, fp, pn, og, gi, gs, σ', H5, n, hpn, hig, I5, hgs, hgo, back⟩ := hG
  refine Calls.spliced_nil ?_
  refine call_function_tree F.kind_all F.plain_all F.entry_all (F.args_all1 _) ?_
  unfold Builtin.«all»
  refine wpAny_bind (m := oneArg "all" _) (wpAny_pure ?_)
  refine wpAny_bind (wpAny_pyIter_gen (hig _ (I5.pin _ (List.mem_append_left _ hpn)).1) ?_)
  refine wpAny_pure ⟨plainId_quiet F.plain_all_loop _, drv_all (Y := gx X A1 s4 H4 cenv fp pn) (A := X.A) hpn hig hr.hd (by have := hr.dp; show X.A.depth + 0 < _; omega) (fun b σ6 H6 s6 I6 q => ?_) n gs σ' H5 s5 I5 hgs hgo⟩
  exact ⟨.bl b, H6, back σ6 H6 s6 I6, rfl, q⟩
theorem pe_any {c P : Addr} {elt tg iter : Expr} {p pos gpos : Pos} {scope : Scope} {own : List (Str × Nat)} {wi : TI} {g : TG} {te : TE} {k : Nat}
    (hr : Room (k + 1) X.A) (hg : Gl X "any") (hm : X.mg "any" = none) (TB : TabB X.base X.mg c P) (hcode : X.env.code = .ref c) (hN : X.N.Nodup) (ok : BlkOk X.N X.env.scope scope own) (hcell : ∀ y ∈ scope.names, y.2 ≠ .cell) (hco : scope.isCoroutine = false) (h0 : scope.names.lookup (".0" : Str) = some NameKind.local)
    (hi : PI X tg iter wi)
    (hpg : ∀ (A1 : Around) (s : Shared) (H : Hp) (C : Addr) (code : Value) (fp : List Addr) (pn : List (Addr × Obj)), PG (gx X A1 s H (genv X scope C code) fp pn) tg g)
    (hpe : ∀ (A1 : Around) (s : Shared) (H : Hp) (C : Addr) (code : Value) (fp : List Addr) (pn : List (Addr × Obj)), Room k A1 → PE (gx X A1 s H (genv X scope C code) fp pn) elt te)
    (hs : ∀ v, genFold iter X.env v = pure v := by intro _; rfl)
    (he : starEach [.GeneratorExp elt [⟨tg, iter, [], 0⟩] scope gpos] X.env = (false, eval (.GeneratorExp elt [⟨tg, iter, [], 0⟩] scope gpos) X.env) :: starEach [] X.env := by rfl) :
    PE X (.Call (.Name "any" p) [.GeneratorExp elt [⟨tg, iter, [], 0⟩] scope gpos] [] pos) (tGen false P wi g te (own.map (·.2))) := by
  refine ⟨fun pins s σ H Q I h => ?_⟩
  refine wpAny_Call_Name_kw (ld_blt I hg hm boot_any ?_)
  refine PyProof.Rows.callWith_builtin1 ?_ he (by rfl)
  rw [he]
  show wpAny _ _ (spliced ((false, eval (.GeneratorExp elt [⟨tg, iter, [], 0⟩] scope gpos) X.env) :: backTo pos (starEach [] X.env))) _ _ s
  refine Calls.spliced_cons (gen_make (e := false) (Q := Q) hr TB hcode hN ok hcell hco h0 hi hpg hpe hs I h fun a s5 hG => ?_)
  obtain ⟨A1, s4, H4, cenv, fp, pn, og, gi, gs, σ', H5, n, hpn, hig, I5, hgs, hgo, back⟩ := hG
  refine Calls.spliced_nil ?_
  refine call_function_tree F.kind_any F.plain_any F.entry_any (F.args_any1 _) ?_
  unfold Builtin.«any»
  refine wpAny_bind (m := oneArg "any" _) (wpAny_pure ?_)
  refine wpAny_bind (wpAny_pyIter_gen (hig _ (I5.pin _ (List.mem_append_left _ hpn)).1) ?_)
  refine wpAny_pure ⟨plainId_quiet F.plain_any_loop _, drv_any (Y := gx X A1 s4 H4 cenv fp pn) (A := X.A) hpn hig hr.hd (by have := hr.dp; show X.A.depth + 0 < _; omega) (fun b σ6 H6 s6 I6 q => ?_) n gs σ' H5 s5 I5 hgs hgo⟩
  exact ⟨.bl b, H6, back σ6 H6 s6 I6, rfl, q⟩
end
end EwG

set_option Elab.async false
set_option linter.all false
set_option maxRecDepth 100000
set_option maxHeartbeats 4000000
/-! all(.. for .. for ..): two clauses. -/
namespace EwG
open PySem PySem.Spec PyProof.Rows L2 Ew GxR
open Sem (wp)

theorem eval_GE2 (elt t0 i0 t1 i1 : Expr) (scope : Scope) (pos : Pos) (env : Env) (hco : scope.isCoroutine = false) :
    eval (.GeneratorExp elt [⟨t0, i0, [], 0⟩, ⟨t1, i1, [], 0⟩] scope pos) env = (do
      let x ← eval i0 env
      standAt i0.pos
      let x ← genFold i0 env x
      let it ← holding [x] (pyIter x)
      enterFrame
      let cl ← closureFor scope env
      let code ← genexprCode env pos (env.qual ++ "<genexpr>") scope
      let bi ← builtinsFor env.globals env.builtins
      let cenv ← newFunctionEnv scope env.globals cl [(".0", it)] (env.qual ++ "<genexpr>.") none code none bi
      newGenerator (.compStart (.GeneratorExp elt [⟨t0, i0, [], 0⟩, ⟨t1, i1, [], 0⟩] scope pos) 0 it .none cenv) "<genexpr>" (env.qual ++ "<genexpr>")) := by
  rw [arm_eval_GeneratorExp]
  simp only [hco, Bool.false_eq_true, if_false]
  cases i0 <;> rfl

theorem make_GE2 {M : Model} {A : Around} {E : Value → Shared → Prop} {s : Shared} {env : Env} {elt t0 i0 t1 i1 : Expr} {scope : Scope} {cl : List (Str × Addr)} {pos : Pos} {Q : Value → Shared → Prop}
    (hco : scope.isCoroutine = false) (hclos : closureFor scope env = pure cl) (hcell : ∀ y ∈ scope.names, y.2 ≠ .cell) (h0 : scope.names.lookup (".0" : Str) = some NameKind.local) (hkind : scope.kind = .function)
    (hroom : A.depth < recursionLimit)
    (h : wpAny M A (eval i0 env) (fun xv s₁ => wpAny M A (pyIter xv) (fun it s₂ => s₂.heap.NoLimit ∧
      wpAny M A (genexprCode env pos (env.qual ++ "<genexpr>") scope) (fun code s₃ => wpAny M A (builtinsFor env.globals env.builtins) (fun bi s₄ =>
        ∀ h', h'.Ns s₄.heap.objs.size (fun y => if y = ".0" then some it else none) → Heap.SameBut s₄.heap.objs.size (s₄.heap.push { cls := .type "frame", data := .dict #[] }) h' →
          Q (.ref h'.objs.size) { s₄ with
            gens := s₄.gens.push (.fresh (.compStart (.GeneratorExp elt [⟨t0, i0, [], 0⟩, ⟨t1, i1, [], 0⟩] scope pos) 0 it .none (genEnv scope cl s₄.heap.objs.size code bi env))),
            toks := s₄.toks + 1 + 1 + 1,
            heap := h'.push { cls := .type "generator", data := .fields #[.int s₄.gens.size 0, .str "<genexpr>" (s₄.toks + 1), .str (env.qual ++ "<genexpr>") (s₄.toks + 1 + 1)] } }) E s₃) E s₂) E s₁) E s)
    (hs : ∀ x, genFold i0 env x = pure x) :
    wpAny M A (eval (.GeneratorExp elt [⟨t0, i0, [], 0⟩, ⟨t1, i1, [], 0⟩] scope pos) env) Q E s := by
  rw [eval_GE2 _ _ _ _ _ _ _ _ hco, hclos]
  refine wpAny_bind (wpAny_mono h (fun xv s₁ h₁ => ?_) fun _ _ e => e)
  refine wpAny_bind (wpAny_standAt ?_)
  refine wpAny_bind (wpAny_of_eq (hs xv) ?_)
  refine wpAny_bind (wpAny_holding (wpAny_mono h₁ (fun it s₂ h₂ => ?_) fun _ _ e => e))
  refine wpAny_bind (wpAny_enterFrame h₂.1 hroom ?_)
  refine wpAny_bind (wpAny_pure ?_)
  refine wpAny_bind (wpAny_mono h₂.2 (fun code s₃ h₃ => ?_) fun _ _ e => e)
  refine wpAny_bind (wpAny_mono h₃ (fun bi s₄ h₄ => ?_) fun _ _ e => e)
  have hbinds : ∀ y ∈ ([((".0" : Str), it)] : List (Str × Value)), scope.names.lookup y.1 = some NameKind.local := by
    intro y hy
    rcases List.mem_cons.mp hy with rfl | hy
    · exact h0
    · cases hy
  refine wpAny_bind (wpAny_newFunctionEnv hcell hbinds (fun h' hn' hs' => ?_) hkind)
  have e : (fun y : Str => ([((".0" : Str), it)] : List (Str × Value)).reverse.lookup y) = fun y : Str => if y = (".0" : Str) then some it else none := by
    funext y
    by_cases hy : y = ".0"
    · subst hy; simp
    · have : (y == (".0" : Str)) = false := by simpa using hy
      simp [List.lookup, this, hy]
  rw [e] at hn'
  simp only [newGenerator, newFields]
  refine wpAny_bind (wpAny_newGen (wpAny_bind (wpAny_mkText (wpAny_bind (wpAny_mkText (wpAny_newObj_type ?_ (by size_fits)))))))
  exact h₄ h' hn' hs'

theorem turn2_out (elt t0 i0 t1 i1 : Expr) (scope : Scope) (pos : Pos) (it acc : Value) (env : Env) :
    compTurn (.GeneratorExp elt [⟨t0, i0, [], 0⟩, ⟨t1, i1, [], 0⟩] scope pos) 0 it acc env = (do
      standAt i0.pos
      match ← pyNext it with
      | none => pure (.done .next)
      | some v =>
        letOwnedTupleGo t0 it v
        assign t0 env v
        let mut ok := true
        for c in ([] : List Expr) do
          if ok then ok ← isTrue c env (eval c env)
        if ok then
          let x ← eval i1 env
          standAt i1.pos
          let x ← foldedSetIterable i1 env x
          let _ ← runOwn (.compStart (.GeneratorExp elt [⟨t0, i0, [], 0⟩, ⟨t1, i1, [], 0⟩] scope pos) 1 (← holding [x] (pyIter x)) acc env) env
        again (.compLoop (.GeneratorExp elt [⟨t0, i0, [], 0⟩, ⟨t1, i1, [], 0⟩] scope pos) 0 it acc env)) := by rfl
theorem turn2_in (elt t0 i0 t1 i1 : Expr) (scope : Scope) (pos : Pos) (it acc : Value) (env : Env) :
    compTurn (.GeneratorExp elt [⟨t0, i0, [], 0⟩, ⟨t1, i1, [], 0⟩] scope pos) 1 it acc env = (do
      standAt i1.pos
      match ← pyNext it with
      | none => pure (.done .next)
      | some v =>
        letOwnedTupleGo t1 it v
        assign t1 env v
        let mut ok := true
        for c in ([] : List Expr) do
          if ok then ok ← isTrue c env (eval c env)
        if ok then
          (do let v ← eval elt env; standAt elt.pos; let _ ← yieldOut env v)
        again (.compLoop (.GeneratorExp elt [⟨t0, i0, [], 0⟩, ⟨t1, i1, [], 0⟩] scope pos) 1 it acc env)) := by rfl

def GW2 (J : It) (g : TG) (wi1 : TI) (g1 : TG) (te : TE) (vs vs1 : List Nat) (σ : L2.St) (e : Bool) (Q : VK) (W : Nat → Nat → Hp → Prop) : Prop := ∀ i m H, W i m H →
  (J.stop i H ∧ Q (.bl e) H) ∨ (J.go i H ∧ ∀ x H', J.yld i H x H' → g x (wipe σ vs) H' fun σ2 H2 => wipe σ2 vs = wipe σ vs ∧ wi1 σ2 H2 fun J1 H3 => ∃ W1 : Nat → Nat → Hp → Prop, (∃ k, k < m ∧ W1 0 k H3) ∧ ∀ j k H, W1 j k H →
    (J1.stop j H ∧ ∃ m', m' ≤ k ∧ m' < m ∧ W (i + 1) m' H) ∨ (J1.go j H ∧ ∀ x H', J1.yld j H x H' → g1 x (wipe σ2 vs1) H' fun σ3 H5 => wipe σ3 vs1 = wipe σ2 vs1 ∧ te σ3 H5 fun y H6 => ∃ b, y = .bl b ∧ (b = e → ∃ k', k' < k ∧ W1 (j + 1) k' H6) ∧ (b ≠ e → Q (.bl b) H6)))

section
variable {X : Cx} {pins : List (Addr × Obj)} {σ : L2.St} {H : Hp} {s : Shared}
theorem seg_in {Y : Cx} {A2 : Around} {elt t0 i0 t1 i1 : Expr} {scope : Scope} {pos : Pos} {it1 : Addr} {fp1 : List Addr} {tn1 : Nat → Heap → Prop} {J1 : It} {g1 : TG} {te : TE} {vs1 : List Nat} {σ8 : L2.St} {e : Bool} {Q : VK} {W1 : Nat → Nat → Hp → Prop} {Nx : Nat → Hp → Prop} {fs : List Frame} {pins : List (Addr × Obj)}
    (hA : Y.A = A2.over (.compLoop (.GeneratorExp elt [⟨t0, i0, [], 0⟩, ⟨t1, i1, [], 0⟩] scope pos) 1 (.ref it1) .none Y.env) fs) (hsp : splitAtGen fs = none) (hgd : fs.any Frame.guarded = false) (hc : Y.calm = true) (hx : Y.xe = fun _ _ => False) (hco : Y.env.scope.isCoroutine = false)
    (T1 : Turn Y.prog Y.w Y.K t1 J1 fp1 it1 tn1) (stat1 : ∀ {H' : Hp}, (∀ b ∈ fp1, H' b = none) → ∀ b ∈ fp1, FpOk Y pins H' b) (pg1 : PG Y t1 g1) (pe : PE Y elt te)
    (hW1 : ∀ j k H, W1 j k H → (J1.stop j H ∧ Nx k H) ∨ (J1.go j H ∧ ∀ x H', J1.yld j H x H' → g1 x (wipe σ8 vs1) H' fun σ3 H5 => wipe σ3 vs1 = wipe σ8 vs1 ∧ te σ3 H5 fun y H6 => ∃ b, y = .bl b ∧ (b = e → ∃ k', k' < k ∧ W1 (j + 1) k' H6) ∧ (b ≠ e → Q (.bl b) H6)))
    (leave : ∀ (k n : Nat) (s₀ s : Shared) (H : Hp), k < n → Inv Y pins (wipe σ8 vs1) H s → Nx k H → Seg (model Y.prog Y.w) A2 (GRn Y e Q) (GYp Y e Q) n s₀ (.compLoop (.GeneratorExp elt [⟨t0, i0, [], 0⟩, ⟨t1, i1, [], 0⟩] scope pos) 1 (.ref it1) .none Y.env) (leafOf (.ok .next)) fs s) :
    ∀ (k j n : Nat) (s₀ s : Shared) (H : Hp), k < n → Inv Y pins (wipe σ8 vs1) H s → tn1 j s.heap → (∀ b ∈ fp1, H b = none) → W1 j k H →
      Seg (model Y.prog Y.w) A2 (GRn Y e Q) (GYp Y e Q) n s₀ (.compLoop (.GeneratorExp elt [⟨t0, i0, [], 0⟩, ⟨t1, i1, [], 0⟩] scope pos) 1 (.ref it1) .none Y.env)
        ((model Y.prog Y.w).den (.compLoop (.GeneratorExp elt [⟨t0, i0, [], 0⟩, ⟨t1, i1, [], 0⟩] scope pos) 1 (.ref it1) .none Y.env)) fs s := by
  intro k
  induction k using Nat.strongRecOn with
  | ind k ih =>
    intro j n s₀ s H hkn I st hn w
    show Seg _ A2 _ _ _ s₀ _ ((compTurn (.GeneratorExp elt [⟨t0, i0, [], 0⟩, ⟨t1, i1, [], 0⟩] scope pos) 1 (.ref it1) .none Y.env).onRaise (fun x => do noteFrame x Y.env; theTreesLotGoes x)) fs s
    rw [turn2_in, Sem.onRaise_eq_wrap]
    refine seg_bind_wrap (wpAny_standAt ?_)
    rcases hW1 j k H w with ⟨stop, q⟩ | ⟨go, step⟩
    · refine seg_bind_wrap ?_
      rw [← hA]
      refine thnF (T1.done Y rfl rfl rfl hc j pins s _ H (fun _ _ => False) I (stat1 hn) st stop) fun r s6 ⟨hr, I6⟩ => ?_
      subst hr
      exact leave k n s₀ s6 H hkn I6 q
    · refine seg_bind_wrap ?_
      rw [← hA]
      refine thnF (T1.item Y rfl rfl rfl hc j pins s _ H (fun _ _ => False) I (stat1 hn) st go) fun r s6 ⟨u, hr, h6⟩ => ?_
      subst hr
      refine seg_bind_wrap ?_
      rw [← hA]
      refine thnF h6 fun _ s7 ⟨x, H7, I7, r7, y7, st7, n7⟩ => ?_
      have I7' := I7.pinned (stat1 n7) (T1.obj _ _ st7)
      refine seg_bind_wrap ?_
      rw [← hA]
      have hpg := pg1.run _ s7 _ H7 x u _ I7' r7 (step x H7 y7)
      rw [hx] at hpg
      refine thnF hpg fun _ s8 ⟨σ15, H8, I8, hw8, q8⟩ => ?_
      refine seg_bind_wrap ?_
      rw [← hA]
      refine wpAny_tests_nil ?_
      simp only [if_true]
      have hy : ∀ v, yieldOut Y.env v = yieldValue v := fun v => by simp only [yieldOut, hco, Bool.false_eq_true, if_false]
      simp only [hy]
      rw [Sem.bind_eq_wrap', Sem.bind_eq_wrap', Sem.wrap_wrap, Sem.wrap_wrap]
      refine seg_wrap ?_
      rw [← hA]
      have hpe := pe.run _ s8 σ15 H8 _ I8 q8
      rw [hx] at hpe
      refine thnF hpe fun z s9 ⟨y, H9, I9, r9, b, hyb, q9⟩ => ?_
      subst hyb
      have hz : z = .bool b := r9
      subst hz
      have pin' : ∀ c ∈ fp1, ∀ o, s7.heap.get? c = some o → s9.heap.get? c = some o ∧ H9 c = none := fun c hb o e =>
        let z := I9.pin (c, o) (List.mem_append_right _ (List.mem_append_right _ (mem_pinsAt hb e)))
        ⟨z.1, z.2.1⟩
      have hl : (wipe σ8 vs1).length = σ15.length := by rw [← hw8, wipe_length]
      have I10 : Inv Y pins (wipe σ8 vs1) H9 s9 := (I9.unpinned (pins := pins)).weak hl fun j v e => by
        rw [← hw8] at e
        exact (wipe_some e).1
      obtain ⟨n', rfl⟩ : ∃ n', n = n' + 1 := ⟨n - 1, by omega⟩
      refine seg_at (seg_yield hsp rfl hgd ⟨b, _, H9, rfl, I10.pins_of (pins' := []) (fun p hp => absurd hp (by simp)), q9.2, fun hb s' hh ho hg => ?_⟩)
      obtain ⟨k', hk, w'⟩ := q9.1 hb
      refine seg_again rfl (ih k' hk (j + 1) n' s' s' H9 (by omega) (inv_same I10 hh ho hg) ?_ (fun c hc => ?_) w')
      · rw [hh]
        exact T1.keep _ _ _ st7 fun c hb o e => (pin' c hb o e).1
      · obtain ⟨o, e, _⟩ := T1.obj _ _ st7 c hc
        exact (pin' c hc o e).2

theorem seg_loop2 {Y : Cx} {A2 : Around} {elt t0 i0 t1 i1 : Expr} {scope : Scope} {pos : Pos} {it : Addr} {fp : List Addr} {tn : Nat → Heap → Prop} {J : It} {g g1 : TG} {wi1 : TI} {te : TE} {vs vs1 : List Nat} {σ : L2.St} {e : Bool} {Q : VK} {W : Nat → Nat → Hp → Prop}
    (hA : Y.A = A2.over (.compLoop (.GeneratorExp elt [⟨t0, i0, [], 0⟩, ⟨t1, i1, [], 0⟩] scope pos) 0 (.ref it) .none Y.env) []) (hex : Y.ex = fp) (hc : Y.calm = true) (hx : Y.xe = fun _ _ => False) (hpn : ∀ b ∈ fp, ∀ p ∈ Y.pn, p.1 ≠ b) (hco : Y.env.scope.isCoroutine = false)
    (T : Turn Y.prog Y.w Y.K t0 J fp it tn) (pg : PG Y t0 g) (pi1 : PI Y t1 i1 wi1) (pg1 : PG Y t1 g1) (pe : PE Y elt te) (hs1 : ∀ x, foldedSetIterable i1 Y.env x = pure x) (hv : ∀ i ∈ vs1, i ∈ vs) (hW : GW2 J g wi1 g1 te vs vs1 σ e Q W) :
    ∀ (m i n : Nat) (s₀ s : Shared) (H : Hp), m < n → Inv Y [] (wipe σ vs) H s → tn i s.heap → (∀ b ∈ fp, H b = none) → W i m H →
      Seg (model Y.prog Y.w) A2 (GRn Y e Q) (GYp Y e Q) n s₀ (.compLoop (.GeneratorExp elt [⟨t0, i0, [], 0⟩, ⟨t1, i1, [], 0⟩] scope pos) 0 (.ref it) .none Y.env)
        ((model Y.prog Y.w).den (.compLoop (.GeneratorExp elt [⟨t0, i0, [], 0⟩, ⟨t1, i1, [], 0⟩] scope pos) 0 (.ref it) .none Y.env)) [] s := by
  have stat : ∀ {σ' : L2.St} {H' : Hp} {s' : Shared}, Inv Y [] σ' H' s' → (∀ b ∈ fp, H' b = none) → ∀ b ∈ fp, FpOk Y [] H' b := fun {σ' H' s'} I' hn b hb =>
    have hb' : b ∈ Y.ex := by rw [hex]; exact hb
    ⟨hn b hb, (I'.ok.exf b hb').1, I'.ok.exfs b hb', .inl hb', fun x c e => (I'.ok.exf b hb').2 x c e, fun p hp => hpn b hb p (by simpa using hp)⟩
  intro m
  induction m using Nat.strongRecOn with
  | ind m ih =>
    intro i n s₀ s H hmn I st hn w
    show Seg _ A2 _ _ _ s₀ _ ((compTurn (.GeneratorExp elt [⟨t0, i0, [], 0⟩, ⟨t1, i1, [], 0⟩] scope pos) 0 (.ref it) .none Y.env).onRaise (leaving Y.env)) [] s
    rw [turn2_out, Sem.onRaise_eq_wrap]
    refine seg_bind_wrap (wpAny_standAt ?_)
    rcases hW i m H w with ⟨stop, q⟩ | ⟨go, step⟩
    · refine seg_bind_wrap ?_
      rw [← hA]
      refine thnF (T.done Y rfl rfl rfl hc i [] s _ H (fun _ _ => False) I (stat I hn) st stop) fun r s6 ⟨hr, I6⟩ => ?_
      subst hr
      exact seg_end (.ok .next) ⟨rfl, _, H, I6, q⟩
    · refine seg_bind_wrap ?_
      rw [← hA]
      refine thnF (T.item Y rfl rfl rfl hc i [] s _ H (fun _ _ => False) I (stat I hn) st go) fun r s6 ⟨u, hr, h6⟩ => ?_
      subst hr
      refine seg_bind_wrap ?_
      rw [← hA]
      refine thnF h6 fun _ s7 ⟨x, H7, I7, r7, y7, st7, n7⟩ => ?_
      have I7' := I7.pinned (stat I7 n7) (T.obj _ _ st7)
      refine seg_bind_wrap ?_
      rw [← hA]
      have hpg := pg.run _ s7 _ H7 x u _ I7' r7 (step x H7 y7)
      rw [hx] at hpg
      refine thnF hpg fun _ s8 ⟨σ8, H8, I8, hw8, q8⟩ => ?_
      refine seg_bind_wrap ?_
      rw [← hA]
      refine wpAny_tests_nil ?_
      simp only [if_true]
      refine seg_bind_wrap ?_
      rw [← hA]
      have hpi := pi1.run _ s8 σ8 H8 _ I8 q8
      rw [hx] at hpi
      refine thnF hpi fun xv s9 h9 => ?_
      refine seg_bind_wrap (wpAny_standAt ?_)
      refine seg_bind_wrap (wpAny_of_eq (hs1 xv) ?_)
      refine seg_bind_wrap ?_
      rw [← hA]
      refine wpAny_holding (thnF h9 fun itv s11 h11 => ?_)
      obtain ⟨it1, fp1, tn1, J1, H11, e1, I11, T1, st11, f11, W1, ⟨k1, hk1, w1⟩, turn1⟩ := h11
      subst e1
      rw [Sem.bind_eq_wrap', Sem.wrap_wrap]
      unfold runOwn
      rw [Sem.onRaise_eq_wrap, Sem.wrap_wrap]
      have pin' : ∀ {σ' : L2.St} {H' : Hp} {s' : Shared}, Inv Y ([] ++ pinsAt fp s7.heap) σ' H' s' → ∀ c ∈ fp, ∀ o, s7.heap.get? c = some o → s'.heap.get? c = some o ∧ H' c = none := fun I' c hb o e =>
        let z := I'.pin (c, o) (List.mem_append_right _ (List.mem_append_right _ (mem_pinsAt hb e)))
        ⟨z.1, z.2.1⟩
      have hl : (wipe σ vs).length = (wipe σ8 vs1).length := by rw [← hw8, wipe_length, wipe_length]
      refine seg_call fun pc => ?_
      have hA1 : Y.A = A2.over (.compLoop (.GeneratorExp elt [⟨t0, i0, [], 0⟩, ⟨t1, i1, [], 0⟩] scope pos) 0 (.ref it) .none Y.env) [] := hA
      generalize hK : (fun r : Result => _) = kk
      have loop1 := seg_in (e := e) (Q := Q) (Nx := fun k H => ∃ m', m' ≤ k ∧ m' < m ∧ W (i + 1) m' H) (A2 := A2) (t0 := t0) (i0 := i0) (i1 := i1) (scope := scope) (pos := pos) (fs := [.ret kk none (id false) (id []) (.compLoop (.GeneratorExp elt [⟨t0, i0, [], 0⟩, ⟨t1, i1, [], 0⟩] scope pos) 0 (.ref it) .none Y.env) pc []])
        (hA.trans (GenW.over_loop (c := .compLoop (.GeneratorExp elt [⟨t0, i0, [], 0⟩, ⟨t1, i1, [], 0⟩] scope pos) 0 (.ref it) .none Y.env) rfl rfl).symm) rfl rfl hc hx hco T1 (fun hn b hb => ⟨hn b hb, (f11 b hb).2⟩) pg1 pe turn1 (fun k n s₀ s' H' hkn I' ⟨m', hm1, hm2, w'⟩ => ?_) k1 0 n s₀ s11 H11 (by omega) (I11.weak (wipe_length _ _) fun j v e => (wipe_some e).1) st11 (fun b hb => (f11 b hb).1) w1
      · show Seg _ A2 _ _ _ s₀ _ ((compStart (.GeneratorExp elt [⟨t0, i0, [], 0⟩, ⟨t1, i1, [], 0⟩] scope pos) 1 (.ref it1) .none Y.env).onRaise (fun x => do noteFrame x Y.env; standAt theWindowsPlace)) _ s11
        unfold compStart
        rw [Sem.onRaise_eq_wrap]
        show Seg _ A2 _ _ _ s₀ _ ((ask >>= _).wrap _ _ _ _) _ s11
        refine seg_bind_wrap (wpAny_askSetting ?_)
        split
        · exact seg_again rfl loop1
        · first
            | exact seg_bind_wrap (wpAny_rule (seg_bind_wrap (wpAny_standAt (seg_bind_wrap (T1.self _ 0 s11 _ _ st11 (seg_again rfl loop1))))))
            | (refine seg_bind_wrap (wpAny_rule ?_); show Seg _ A2 _ _ _ s₀ _ ((standAt i1.pos >>= _).wrap _ _ _ _) _ s11; exact seg_bind_wrap (wpAny_standAt (seg_bind_wrap (T1.self _ 0 s11 _ _ st11 (seg_again rfl loop1)))))
      · subst hK
        refine seg_leaf (.ok .next) ?_
        refine seg_again rfl (ih m' hm2 (i + 1) n s₀ s' H' (by omega) ((I'.unpinned (pins := [])).weak hl fun j v e => ?_) (T.keep _ _ _ st7 fun c hb o e => (pin' I' c hb o e).1) (fun c hc => ?_) w')
        · rw [← hw8] at e
          obtain ⟨e1, e2⟩ := wipe_some e
          rw [wipe_out fun z => e2 (hv j z)]
          exact e1
        · obtain ⟨o, e, _⟩ := T.obj _ _ st7 c hc
          exact (pin' I' c hc o e).2
theorem seg_start2 {Y : Cx} {A2 : Around} {elt t0 i0 t1 i1 : Expr} {scope : Scope} {pos : Pos} {it : Addr} {fp : List Addr} {tn : Nat → Heap → Prop} {J : It} {e : Bool} {Q : VK} {n : Nat} {s₀ s : Shared}
    (T : Turn Y.prog Y.w Y.K t0 J fp it tn) (st : tn 0 s.heap)
    (loop : Seg (model Y.prog Y.w) A2 (GRn Y e Q) (GYp Y e Q) n s₀ (.compLoop (.GeneratorExp elt [⟨t0, i0, [], 0⟩, ⟨t1, i1, [], 0⟩] scope pos) 0 (.ref it) .none Y.env)
        ((model Y.prog Y.w).den (.compLoop (.GeneratorExp elt [⟨t0, i0, [], 0⟩, ⟨t1, i1, [], 0⟩] scope pos) 0 (.ref it) .none Y.env)) [] s) :
    Seg (model Y.prog Y.w) A2 (GRn Y e Q) (GYp Y e Q) n s₀ (.compStart (.GeneratorExp elt [⟨t0, i0, [], 0⟩, ⟨t1, i1, [], 0⟩] scope pos) 0 (.ref it) .none Y.env)
        ((model Y.prog Y.w).den (.compStart (.GeneratorExp elt [⟨t0, i0, [], 0⟩, ⟨t1, i1, [], 0⟩] scope pos) 0 (.ref it) .none Y.env)) [] s := by
  show Seg _ A2 _ _ _ s₀ _ ((compStart (.GeneratorExp elt [⟨t0, i0, [], 0⟩, ⟨t1, i1, [], 0⟩] scope pos) 0 (.ref it) .none Y.env).onRaise (leaving Y.env)) [] s
  unfold compStart
  rw [Sem.onRaise_eq_wrap]
  show Seg _ A2 _ _ _ s₀ _ ((ask >>= _).wrap _ _ _ _) [] s
  refine seg_bind_wrap (wpAny_askSetting ?_)
  split
  · exact seg_again rfl loop
  · first
      | exact seg_bind_wrap (wpAny_rule (seg_bind_wrap (wpAny_standAt (seg_bind_wrap (T.self _ 0 s _ _ st (seg_again rfl loop))))))
      | (refine seg_bind_wrap (wpAny_rule ?_); show Seg _ A2 _ _ _ s₀ _ ((standAt i0.pos >>= _).wrap _ _ _ _) [] s; exact seg_bind_wrap (wpAny_standAt (seg_bind_wrap (T.self _ 0 s _ _ st (seg_again rfl loop)))))

/-- the around of the generator's body, of a consumer that is called at A -/
abbrev gB (A : Around) (elt t0 i0 t1 i1 : Expr) (scope : Scope) (pos : Pos) (it : Addr) (cenv : Env) : Around := A.in1.in1.over (.compLoop (.GeneratorExp elt [⟨t0, i0, [], 0⟩, ⟨t1, i1, [], 0⟩] scope pos) 0 (.ref it) .none cenv) []
theorem gB_room {k : Nat} {A : Around} {elt t0 i0 t1 i1 : Expr} {scope : Scope} {pos : Pos} {it : Addr} {cenv : Env} (r : Room (k + 1) A) : Room k (gB A elt t0 i0 t1 i1 scope pos it cenv) :=
  ⟨r.hd, by have := r.dp; show A.depth + 0 + 1 + 3 * k + 5 < _; omega, by have := r.un; show A.units + 1 + 1 + 0 + 3 + 16 * k + 200 < _; omega⟩
theorem gB_frames {A : Around} {elt t0 i0 t1 i1 : Expr} {scope : Scope} {pos : Pos} {it : Addr} {cenv : Env} {l : List Env} (h : A.frames = some l) : (gB A elt t0 i0 t1 i1 scope pos it cenv).frames = some (cenv :: l) := by
  show pushEnvs [cenv] (pushEnvs [] A.frames) = _
  rw [h]
  rfl

def tGen2 (e : Bool) (P : Addr) (wi : TI) (g : TG) (wi1 : TI) (g1 : TG) (te : TE) (vs vs1 : List Nat) : TE := fun σ H Q => wi σ H fun J H1 => TabG H1 P ∧ ∀ H2, Tabbed P H1 H2 → ∃ W : Nat → Nat → Hp → Prop, (∃ m, W 0 m H2) ∧ GW2 J g wi1 g1 te vs vs1 σ e Q W

theorem gen_make2 {c P : Addr} {elt t0 i0 t1 i1 : Expr} {gpos : Pos} {scope : Scope} {own : List (Str × Nat)} {wi wi1 : TI} {g g1 : TG} {vs1 : List Nat} {te : TE} {k : Nat} {e : Bool} {Q : VK} {Q' : Value → Shared → Prop}
    (hr : Room (k + 1) X.A) (TB : TabB X.base X.mg c P) (hcode : X.env.code = .ref c) (hN : X.N.Nodup) (ok : BlkOk X.N X.env.scope scope own) (hcell : ∀ y ∈ scope.names, y.2 ≠ .cell) (hco : scope.isCoroutine = false) (h0 : scope.names.lookup (".0" : Str) = some NameKind.local)
    (hi : PI X t0 i0 wi) (hv : ∀ i ∈ vs1, i ∈ own.map (·.2))
    (hpg : ∀ (A1 : Around) (s : Shared) (H : Hp) (C : Addr) (code : Value) (fp : List Addr) (pn : List (Addr × Obj)), PG (gx X A1 s H (genv X scope C code) fp pn) t0 g)
    (hpi1 : ∀ (A1 : Around) (s : Shared) (H : Hp) (C : Addr) (code : Value) (fp : List Addr) (pn : List (Addr × Obj)), Room k A1 → PI (gx X A1 s H (genv X scope C code) fp pn) t1 i1 wi1)
    (hpg1 : ∀ (A1 : Around) (s : Shared) (H : Hp) (C : Addr) (code : Value) (fp : List Addr) (pn : List (Addr × Obj)), PG (gx X A1 s H (genv X scope C code) fp pn) t1 g1)
    (hpe : ∀ (A1 : Around) (s : Shared) (H : Hp) (C : Addr) (code : Value) (fp : List Addr) (pn : List (Addr × Obj)), Room k A1 → PE (gx X A1 s H (genv X scope C code) fp pn) elt te)
    (hs : ∀ v, genFold i0 X.env v = pure v) (hs1 : ∀ env x, foldedSetIterable i1 env x = pure x) (I : Inv X pins σ H s) (h : tGen2 e P wi g wi1 g1 te (own.map (·.2)) vs1 σ H Q)
    (hQ : ∀ a s5, Ready2 X pins σ e Q a s5 → Q' (.ref a) s5) :
    wpAny (model X.prog X.w) X.A (eval (.GeneratorExp elt [⟨t0, i0, [], 0⟩, ⟨t1, i1, [], 0⟩] scope gpos) X.env) Q' X.xe s := by
  have hfree : ∀ y ∈ scope.names, y.2 = .free → ∃ c, X.env.cells.lookup y.1 = some c := fun y hy e => by
    rcases ok.free y hy e with k | k
    · exact I.ok.has _ (.inl k)
    · exact I.ok.has _ (.inr k)
  refine make_GE2 hco (closure_ok hfree) hcell h0 ok.kind (by have := hr.dp; omega) ?_ hs
  refine thn (hi.run pins s σ H _ I h) fun xv s1 hx => thn hx fun itv s2 h2 => ?_
  obtain ⟨it, fp, tn, J, H2, e2, I2, T, st2, f2, ⟨ps, hP, ht⟩, q⟩ := h2
  subst e2
  have hPs : s2.heap.get? P = some { cls := .none, data := .fields ps } := I2.hok P _ hP
  have cd : PySem.W.CodeHd s2.heap c P := TB.code.keeps fun b u e => I2.bk b u e
  have sz : ∀ b ∈ fp, b < s2.heap.objs.size := fun b hb => by
    obtain ⟨o, e, _⟩ := T.obj _ _ st2 b hb
    exact Heap.lt_size e
  have cont : ∀ (code : Value) (h3 : Heap) (tk : Nat) (ps' : Array Value), Heap.ExtBut P s2.heap h3 → s2.heap.objs.size ≤ h3.objs.size → h3.get? P = some { cls := .none, data := .fields ps' } → (∃ more, ps' = ps ++ more) → TriplesOk ps'.toList →
      wpAny (model X.prog X.w) X.A (builtinsFor X.env.globals X.env.builtins) (fun bi s₄ =>
        ∀ h', h'.Ns s₄.heap.objs.size (fun y => if y = ".0" then some (.ref it) else none) → Heap.SameBut s₄.heap.objs.size (s₄.heap.push { cls := .type "frame", data := .dict #[] }) h' →
          Q' (.ref h'.objs.size) { s₄ with
            gens := s₄.gens.push (.fresh (.compStart (.GeneratorExp elt [⟨t0, i0, [], 0⟩, ⟨t1, i1, [], 0⟩] scope gpos) 0 (.ref it) .none (genEnv scope (cloFrom X.env.cells scope.names []) s₄.heap.objs.size code bi X.env))),
            toks := s₄.toks + 1 + 1 + 1,
            heap := h'.push { cls := .type "generator", data := .fields #[.int s₄.gens.size 0, .str "<genexpr>" (s₄.toks + 1), .str (X.env.qual ++ "<genexpr>") (s₄.toks + 1 + 1)] } }) X.xe { s2 with heap := h3, toks := tk } := by
    intro code h3 tk ps' hx hsz hP3 hmore ht3
    obtain ⟨bm, ob, e1, e2, e3, e4, e5, e6, e7, e8⟩ := TB.bm
    have keep3 : ∀ b u, b ≠ P → s2.heap.get? b = some u → h3.get? b = some u := fun b u hb e => hx b u hb e
    refine wpAny_builtinsFor (m := X.mg) (by rw [I2.ok.glob]; exact (I2.mod.glob.keeps I2.bk).extBut hx TB.gP) e1 e2 (keep3 _ _ e4 (I2.bk _ _ e5)) e6 e7 e8 ?_
    obtain ⟨more, em⟩ := hmore
    have I4 : Inv X pins σ (upd H2 P (.tbl (ps ++ more))) { s2 with heap := h3, toks := tk } :=
      inv_tab (more := more) (h' := h3) (g' := s2.gens) (d' := s2.drawn) (t' := tk) I2 hP keep3 (by rw [← em]; exact hP3) I2.bare
    have nP : ∀ b ∈ fp, b ≠ P := fun b hb z => by
      have := (f2 b hb).1
      rw [z, hP] at this
      cases this
    have f4 : ∀ b ∈ fp, FpOk X pins (upd H2 P (.tbl (ps ++ more))) b ∧ b < h3.objs.size := fun b hb =>
      ⟨⟨by rw [upd_ne (nP b hb)]; exact (f2 b hb).1, (f2 b hb).2⟩, Nat.lt_of_lt_of_le (sz b hb) hsz⟩
    have st4 : tn 0 h3 := T.keep _ _ _ st2 fun b hb o e => keep3 b o (nP b hb) e
    obtain ⟨W, ⟨m0, w0⟩, gw⟩ := q _ ⟨⟨ps ++ more, upd_same, by rw [← em]; exact ht3⟩, fun b hb => upd_ne hb⟩
    intro h' hn' hs'
    have hn' : h'.Ns h3.objs.size (fun y => if y = ".0" then some (.ref it) else none) := hn'
    have hs' : Heap.SameBut h3.objs.size (h3.push { cls := .type "frame", data := .dict #[] }) h' := hs'
    have hsz' : h'.objs.size = h3.objs.size + 1 := by rw [hs'.1, Heap.size_push]
    have keep' : ∀ b o, h3.get? b = some o → h'.get? b = some o := fun b o e => hs'.extBut b o (Nat.ne_of_lt (Heap.lt_size e)) (Heap.get?_push_of_some _ e)
    generalize hcenv : genv X scope h3.objs.size code = cenv
    have I5 := gen_start (A1 := gB X.A elt t0 i0 t1 i1 scope gpos it cenv) (code := code) (t' := tk + 1 + 1 + 1)
      (obj := { cls := .type "generator", data := .fields #[.int s2.gens.size 0, .str "<genexpr>" (tk + 1), .str (X.env.qual ++ "<genexpr>") (tk + 1 + 1)] })
      (g' := s2.gens.push (.fresh (.compStart (.GeneratorExp elt [⟨t0, i0, [], 0⟩, ⟨t1, i1, [], 0⟩] scope gpos) 0 (.ref it) .none cenv)))
      I4 ok hcell hN f4 hr.hd (by rw [hcenv]; exact gB_frames I.ok.frames) hn' keep' hsz' (Heap.get?_push_size _ rfl) (fun v z => by cases z) (I2.bare.push rfl)
    have pg := hpg (gB X.A elt t0 i0 t1 i1 scope gpos it cenv) { s2 with heap := h3, toks := tk } (upd H2 P (.tbl (ps ++ more))) h3.objs.size code fp [(h'.objs.size, { cls := .type "generator", data := .fields #[.int s2.gens.size 0, .str "<genexpr>" (tk + 1), .str (X.env.qual ++ "<genexpr>") (tk + 1 + 1)] })]
    have pi1 := hpi1 (gB X.A elt t0 i0 t1 i1 scope gpos it cenv) { s2 with heap := h3, toks := tk } (upd H2 P (.tbl (ps ++ more))) h3.objs.size code fp [(h'.objs.size, { cls := .type "generator", data := .fields #[.int s2.gens.size 0, .str "<genexpr>" (tk + 1), .str (X.env.qual ++ "<genexpr>") (tk + 1 + 1)] })] (gB_room hr)
    have pg1 := hpg1 (gB X.A elt t0 i0 t1 i1 scope gpos it cenv) { s2 with heap := h3, toks := tk } (upd H2 P (.tbl (ps ++ more))) h3.objs.size code fp [(h'.objs.size, { cls := .type "generator", data := .fields #[.int s2.gens.size 0, .str "<genexpr>" (tk + 1), .str (X.env.qual ++ "<genexpr>") (tk + 1 + 1)] })]
    have pe := hpe (gB X.A elt t0 i0 t1 i1 scope gpos it cenv) { s2 with heap := h3, toks := tk } (upd H2 P (.tbl (ps ++ more))) h3.objs.size code fp [(h'.objs.size, { cls := .type "generator", data := .fields #[.int s2.gens.size 0, .str "<genexpr>" (tk + 1), .str (X.env.qual ++ "<genexpr>") (tk + 1 + 1)] })] (gB_room hr)
    have I5 : Inv (gx X (gB X.A elt t0 i0 t1 i1 scope gpos it cenv) { s2 with heap := h3, toks := tk } (upd H2 P (.tbl (ps ++ more))) (genv X scope h3.objs.size code) fp [(h'.objs.size, _)]) [] (wipe σ (own.map (·.2))) _ _ := I5
    rw [hcenv] at I5 pg pi1 pg1 pe
    have hcoE : cenv.scope.isCoroutine = false := by rw [← hcenv]; exact hco
    generalize hog : ({ cls := .type "generator", data := .fields #[.int s2.gens.size 0, .str "<genexpr>" (tk + 1), .str (X.env.qual ++ "<genexpr>") (tk + 1 + 1)] } : Obj) = og at I5 pg pi1 pg1 pe
    have hig : ∀ h : Heap, h.get? h'.objs.size = some og → h.IsGen h'.objs.size s2.gens.size := fun hh e => ⟨og, _, _, e, by rw [← hog], by rw [← hog], by rw [← hog]⟩
    have mI5 : ∀ b ∈ fp, (upd H2 P (.tbl (ps ++ more))) b = none := fun b hb => (f4 b hb).1.1
    have back : ∀ σ' H' s', Inv (gx X (gB X.A elt t0 i0 t1 i1 scope gpos it cenv) { s2 with heap := h3, toks := tk } (upd H2 P (.tbl (ps ++ more))) cenv fp [(h'.objs.size, og)]) [] σ' H' s' → Inv X pins σ H' s' := fun σ' H' s' I6 =>
      I4.call' (ch := fp) I6.os I6.base I6.hok I6.bare fun b hb => ⟨(f4 b hb).1.2.2.2.1, (f4 b hb).1.2.1, (f4 b hb).1.2.2.2.2.1, (f4 b hb).1.2.2.2.2.2⟩
    have goes : ∀ s' : Shared, s'.heap = h'.push og → s'.os = s2.os → AllBare s'.gens →
        Seg (model X.prog X.w) X.A.in1.in1 (GRn (gx X (gB X.A elt t0 i0 t1 i1 scope gpos it cenv) { s2 with heap := h3, toks := tk } (upd H2 P (.tbl (ps ++ more))) cenv fp [(h'.objs.size, og)]) e Q)
          (GYp (gx X (gB X.A elt t0 i0 t1 i1 scope gpos it cenv) { s2 with heap := h3, toks := tk } (upd H2 P (.tbl (ps ++ more))) cenv fp [(h'.objs.size, og)]) e Q) (m0 + 1) s'
          (.compStart (.GeneratorExp elt [⟨t0, i0, [], 0⟩, ⟨t1, i1, [], 0⟩] scope gpos) 0 (.ref it) .none cenv) ((model X.prog X.w).den (.compStart (.GeneratorExp elt [⟨t0, i0, [], 0⟩, ⟨t1, i1, [], 0⟩] scope gpos) 0 (.ref it) .none cenv)) [] s' := fun s' hh ho hg => by
      have I6 := inv_same (s' := s') I5 hh ho hg
      have st6 : tn 0 s'.heap := by
        rw [hh]
        exact T.keep _ _ _ st4 fun b _ o e => Heap.get?_push_of_some _ (keep' b o e)
      refine seg_start2 (Y := gx X (gB X.A elt t0 i0 t1 i1 scope gpos it cenv) { s2 with heap := h3, toks := tk } (upd H2 P (.tbl (ps ++ more))) cenv fp [(h'.objs.size, og)]) T st6
        (seg_loop2 rfl rfl rfl rfl (fun b hb p hp z => ?_) hcoE T pg pi1 pg1 pe (hs1 _) hv gw m0 0 (m0 + 1) s' s' _ (Nat.lt_succ_self _) I6 st6 mI5 w0)
      have hp : p ∈ [(h'.objs.size, og)] := hp
      rw [List.mem_singleton.mp hp] at z
      have z : h'.objs.size = b := z
      have h9 := (f4 b hb).2
      rw [← z, hsz'] at h9
      exact absurd h9 (Nat.not_lt.mpr (Nat.le_succ _))
    have ee : genEnv scope (cloFrom X.env.cells scope.names []) h3.objs.size code builtinsNs X.env = cenv := hcenv
    have fin := hQ h'.objs.size { s2 with heap := h'.push og, gens := s2.gens.push (.fresh (.compStart (.GeneratorExp elt [⟨t0, i0, [], 0⟩, ⟨t1, i1, [], 0⟩] scope gpos) 0 (.ref it) .none cenv)), toks := tk + 1 + 1 + 1 }
      ⟨gB X.A elt t0 i0 t1 i1 scope gpos it cenv, { s2 with heap := h3, toks := tk }, upd H2 P (.tbl (ps ++ more)), cenv, fp, [(h'.objs.size, og)], og, s2.gens.size, .fresh (.compStart (.GeneratorExp elt [⟨t0, i0, [], 0⟩, ⟨t1, i1, [], 0⟩] scope gpos) 0 (.ref it) .none cenv), wipe σ (own.map (·.2)), upd H2 P (.tbl (ps ++ more)), m0 + 1,
        List.mem_singleton.mpr rfl, hig, I5, Array.getElem?_push_size .., fun s' hh ho hg => ⟨rfl, goes s' hh ho hg⟩, back⟩
    rw [← ee] at fin
    exact fin
  cases hf : codeAmong gpos ps.toList with
  | none =>
    refine ⟨I2.nolimit, ?_⟩
    refine wpAny_genexprCodeX hcode (cd.code hPs ht) (cd.tab hPs) hf fun c' h' tk hx hge hlt hco' _ htab' _ => ?_
    obtain ⟨o1, vs, f1, tf, fl, tg, inF, tx, tt, op, _, _, _, _, _, _, _, _, _, htr, _⟩ := hco'
    exact cont _ h' tk _ hx (Nat.le_trans hge (Nat.le_of_lt hlt)) htab'.2 ⟨_, rfl⟩ htr
  | some cv =>
    refine ⟨I2.nolimit, ?_⟩
    refine wpAny_genexprCode_hit hcode (cd.code hPs ht) hf ?_
    exact cont cv s2.heap s2.toks ps (Heap.ExtBut.refl _ _) (Nat.le_refl _) hPs ⟨#[], by simp⟩ ht

theorem pe_all2 {c P : Addr} {elt t0 i0 t1 i1 : Expr} {p pos gpos : Pos} {scope : Scope} {own : List (Str × Nat)} {wi wi1 : TI} {g g1 : TG} {vs1 : List Nat} {te : TE} {k : Nat}
    (hr : Room (k + 1) X.A) (hg : Gl X "all") (hm : X.mg "all" = none) (TB : TabB X.base X.mg c P) (hcode : X.env.code = .ref c) (hN : X.N.Nodup) (ok : BlkOk X.N X.env.scope scope own) (hcell : ∀ y ∈ scope.names, y.2 ≠ .cell) (hco : scope.isCoroutine = false) (h0 : scope.names.lookup (".0" : Str) = some NameKind.local)
    (hi : PI X t0 i0 wi) (hv : ∀ i ∈ vs1, i ∈ own.map (·.2))
    (hpg : ∀ (A1 : Around) (s : Shared) (H : Hp) (C : Addr) (code : Value) (fp : List Addr) (pn : List (Addr × Obj)), PG (gx X A1 s H (genv X scope C code) fp pn) t0 g)
    (hpi1 : ∀ (A1 : Around) (s : Shared) (H : Hp) (C : Addr) (code : Value) (fp : List Addr) (pn : List (Addr × Obj)), Room k A1 → PI (gx X A1 s H (genv X scope C code) fp pn) t1 i1 wi1)
    (hpg1 : ∀ (A1 : Around) (s : Shared) (H : Hp) (C : Addr) (code : Value) (fp : List Addr) (pn : List (Addr × Obj)), PG (gx X A1 s H (genv X scope C code) fp pn) t1 g1)
    (hpe : ∀ (A1 : Around) (s : Shared) (H : Hp) (C : Addr) (code : Value) (fp : List Addr) (pn : List (Addr × Obj)), Room k A1 → PE (gx X A1 s H (genv X scope C code) fp pn) elt te)
    (hs : ∀ v, genFold i0 X.env v = pure v := by intro _; rfl)
    (hs1 : ∀ env x, foldedSetIterable i1 env x = pure x := by intro _ _; rfl)
    (he : starEach [.GeneratorExp elt [⟨t0, i0, [], 0⟩, ⟨t1, i1, [], 0⟩] scope gpos] X.env = (false, eval (.GeneratorExp elt [⟨t0, i0, [], 0⟩, ⟨t1, i1, [], 0⟩] scope gpos) X.env) :: starEach [] X.env := by rfl) :
    PE X (.Call (.Name "all" p) [.GeneratorExp elt [⟨t0, i0, [], 0⟩, ⟨t1, i1, [], 0⟩] scope gpos] [] pos) (tGen2 true P wi g wi1 g1 te (own.map (·.2)) vs1) := by
  refine ⟨fun pins s σ H Q I h => ?_⟩
  refine wpAny_Call_Name_kw (ld_blt I hg hm boot_all ?_)
  refine PyProof.Rows.callWith_builtin1 ?_ he (by rfl)
  rw [he]
  show wpAny _ _ (spliced ((false, eval (.GeneratorExp elt [⟨t0, i0, [], 0⟩, ⟨t1, i1, [], 0⟩] scope gpos) X.env) :: backTo pos (starEach [] X.env))) _ _ s
  refine Calls.spliced_cons (gen_make2 (e := true) (Q := Q) hr TB hcode hN ok hcell hco h0 hi hv hpg hpi1 hpg1 hpe hs hs1 I h fun a s5 hG => ?_)
  obtain ⟨A1, s4, H4, cenv, fp, pn, og, gi, gs, σ', H5, n, hpn, hig, I5, hgs, hgo, back⟩ := hG
  refine Calls.spliced_nil ?_
  refine call_function_tree F.kind_all F.plain_all F.entry_all (F.args_all1 _) ?_
  unfold Builtin.«all»
  refine wpAny_bind (m := oneArg "all" _) (wpAny_pure ?_)
  refine wpAny_bind (wpAny_pyIter_gen (hig _ (I5.pin _ (List.mem_append_left _ hpn)).1) ?_)
  refine wpAny_pure ⟨plainId_quiet F.plain_all_loop _, drv_all (Y := gx X A1 s4 H4 cenv fp pn) (A := X.A) hpn hig hr.hd (by have := hr.dp; show X.A.depth + 0 < _; omega) (fun b σ6 H6 s6 I6 q => ?_) n gs σ' H5 s5 I5 hgs hgo⟩
  exact ⟨.bl b, H6, back σ6 H6 s6 I6, rfl, q⟩
end
end EwG

set_option Elab.async false
set_option linter.all false
set_option maxRecDepth 100000
set_option maxHeartbeats 4000000
/-! Finite commutative semirings given by tables. -/
namespace SRm
structure SR (n : Nat) (p t : Nat → Nat → Nat) (o : Nat) : Prop where
  pos : 0 < n
  oo : o < n
  pc : ∀ a, a < n → ∀ b, b < n → p a b < n
  tc : ∀ a, a < n → ∀ b, b < n → t a b < n
  p0 : ∀ a, a < n → p 0 a = a
  ps : ∀ a, a < n → ∀ b, b < n → p a b = p b a
  pa : ∀ a, a < n → ∀ b, b < n → ∀ c, c < n → p a (p b c) = p (p a b) c
  t1 : ∀ a, a < n → t o a = a
  t0 : ∀ a, a < n → t 0 a = 0
  ts : ∀ a, a < n → ∀ b, b < n → t a b = t b a
  ta : ∀ a, a < n → ∀ b, b < n → ∀ c, c < n → t a (t b c) = t (t a b) c
  ds : ∀ a, a < n → ∀ b, b < n → ∀ c, c < n → t a (p b c) = p (t a b) (t a c)
abbrev SRp (n : Nat) (p t : Nat → Nat → Nat) (o : Nat) : Prop :=
  0 < n ∧ o < n ∧ (∀ a, a < n → p 0 a = a ∧ t o a = a ∧ t 0 a = 0 ∧ ∀ b, b < n → p a b < n ∧ t a b < n ∧ p a b = p b a ∧ t a b = t b a ∧ ∀ c, c < n → p a (p b c) = p (p a b) c ∧ t a (t b c) = t (t a b) c ∧ t a (p b c) = p (t a b) (t a c))
theorem SR.of {n : Nat} {p t : Nat → Nat → Nat} {o : Nat} (h : SRp n p t o) : SR n p t o where
  pos := h.1
  oo := h.2.1
  pc := fun a ha b hb => ((h.2.2 a ha).2.2.2 b hb).1
  tc := fun a ha b hb => ((h.2.2 a ha).2.2.2 b hb).2.1
  p0 := fun a ha => (h.2.2 a ha).1
  ps := fun a ha b hb => ((h.2.2 a ha).2.2.2 b hb).2.2.1
  pa := fun a ha b hb c hc => (((h.2.2 a ha).2.2.2 b hb).2.2.2.2 c hc).1
  t1 := fun a ha => (h.2.2 a ha).2.1
  t0 := fun a ha => (h.2.2 a ha).2.2.1
  ts := fun a ha b hb => ((h.2.2 a ha).2.2.2 b hb).2.2.2.1
  ta := fun a ha b hb c hc => (((h.2.2 a ha).2.2.2 b hb).2.2.2.2 c hc).2.1
  ds := fun a ha b hb c hc => (((h.2.2 a ha).2.2.2 b hb).2.2.2.2 c hc).2.2
/-- equal within the range -/
theorem SR.congr {n : Nat} {p t p' t' : Nat → Nat → Nat} {o : Nat} (h : SR n p t o) (hp : ∀ a, a < n → ∀ b, b < n → p' a b = p a b) (ht : ∀ a, a < n → ∀ b, b < n → t' a b = t a b) : SR n p' t' o := by
  refine SR.of ⟨h.pos, h.oo, fun a ha => ⟨by rw [hp _ h.pos _ ha]; exact h.p0 a ha, by rw [ht _ h.oo _ ha]; exact h.t1 a ha, by rw [ht _ h.pos _ ha]; exact h.t0 a ha, fun b hb => ?_⟩⟩
  have e1 := hp _ ha _ hb
  have e2 := hp _ hb _ ha
  have e3 := ht _ ha _ hb
  have e4 := ht _ hb _ ha
  refine ⟨by rw [e1]; exact h.pc a ha b hb, by rw [e3]; exact h.tc a ha b hb, by rw [e1, e2]; exact h.ps a ha b hb, by rw [e3, e4]; exact h.ts a ha b hb, fun c hc => ?_⟩
  have pbc := h.pc b hb c hc
  have pab := h.pc a ha b hb
  have tbc := h.tc b hb c hc
  have tab := h.tc a ha b hb
  have tac := h.tc a ha c hc
  refine ⟨?_, ?_, ?_⟩
  · rw [hp _ hb _ hc, e1, hp _ ha _ pbc, hp _ pab _ hc]; exact h.pa a ha b hb c hc
  · rw [ht _ hb _ hc, e3, ht _ ha _ tbc, ht _ tab _ hc]; exact h.ta a ha b hb c hc
  · rw [hp _ hb _ hc, e3, ht _ ha _ pbc, ht _ ha _ hc, hp _ tab _ tac]; exact h.ds a ha b hb c hc
/-- the drawn families -/
def fP (kind n : Nat) : Nat → Nat → Nat := fun a b => match kind with
  | 0 => (a + b) % n
  | 1 => min (a + b) (n - 1)
  | 2 => max a b
  | 3 => a ||| b
  | 4 => a ^^^ b
  | _ => if a * b = 0 then max a b else min a b
def fT (kind n : Nat) : Nat → Nat → Nat := fun a b => match kind with
  | 0 => (a * b) % n
  | 1 => min (a * b) (n - 1)
  | 2 => min a b
  | 3 => a &&& b
  | 4 => a &&& b
  | _ => if a * b = 0 then 0 else min (a + b - 1) (n - 1)
def fO (kind n : Nat) : Nat := match kind with
  | 0 => 1 % n
  | 1 => min 1 (n - 1)
  | 2 => n - 1
  | 3 => n - 1
  | 4 => n - 1
  | _ => 1
def SRb (n : Nat) (p t : Nat → Nat → Nat) (o : Nat) : Bool :=
  Nat.blt 0 n && Nat.blt o n && (List.range n).all fun a => p 0 a == a && t o a == a && t 0 a == 0 && (List.range n).all fun b => Nat.blt (p a b) n && Nat.blt (t a b) n && p a b == p b a && t a b == t b a &&
    (List.range n).all fun c => p a (p b c) == p (p a b) c && t a (t b c) == t (t a b) c && t a (p b c) == p (t a b) (t a c)
theorem SR.ofb {n : Nat} {p t : Nat → Nat → Nat} {o : Nat} (h : SRb n p t o = true) : SR n p t o := by
  unfold SRb at h
  simp only [Bool.and_eq_true, List.all_eq_true, List.mem_range, beq_iff_eq, Nat.blt_eq] at h
  obtain ⟨⟨h1, h2⟩, h3⟩ := h
  refine SR.of ⟨h1, h2, fun a ha => ?_⟩
  obtain ⟨⟨⟨a1, a2⟩, a3⟩, a4⟩ := h3 a ha
  refine ⟨a1, a2, a3, fun b hb => ?_⟩
  obtain ⟨⟨⟨⟨b1, b2⟩, b3⟩, b4⟩, b5⟩ := a4 b hb
  refine ⟨b1, b2, b3, b4, fun c hc => ?_⟩
  obtain ⟨⟨c1, c2⟩, c3⟩ := b5 c hc
  exact ⟨c1, c2, c3⟩
theorem sr_smallb : ((List.range 3).all fun k => (List.range 6).all fun n => SRb (n + 1) (fP k (n + 1)) (fT k (n + 1)) (fO k (n + 1))) = true := by decide +kernel
theorem sr_bitsb : ((List.range 3).all fun k => (List.range 3).all fun m => SRb (2 ^ (m + 1)) (fP (k + 3) (2 ^ (m + 1))) (fT (k + 3) (2 ^ (m + 1))) (fO (k + 3) (2 ^ (m + 1)))) = true := by decide +kernel
theorem sr_small {k n : Nat} (hk : k < 3) (h0 : 0 < n) (hn : n < 7) : SR n (fP k n) (fT k n) (fO k n) := by
  have h := sr_smallb
  simp only [List.all_eq_true, List.mem_range] at h
  have q := h k hk (n - 1) (by omega)
  rw [show n - 1 + 1 = n by omega] at q
  exact SR.ofb q
theorem sr_bits {k m : Nat} (hk : k < 3) (hm : m < 3) : SR (2 ^ (m + 1)) (fP (k + 3) (2 ^ (m + 1))) (fT (k + 3) (2 ^ (m + 1))) (fO (k + 3) (2 ^ (m + 1))) := by
  have h := sr_bitsb
  simp only [List.all_eq_true, List.mem_range] at h
  exact SR.ofb (h k hk m hm)

theorem dm {m x y : Nat} (h : y < m) : (x * m + y) / m = x ∧ (x * m + y) % m = y := by
  have hm : 0 < m := Nat.lt_of_le_of_lt (Nat.zero_le _) h
  refine ⟨?_, ?_⟩
  · rw [Nat.mul_comm, Nat.mul_add_div hm, Nat.div_eq_of_lt h]; rfl
  · rw [Nat.mul_comm, Nat.mul_add_mod, Nat.mod_eq_of_lt h]
theorem lt_mul {n m x y : Nat} (hx : x < n) (hy : y < m) : x * m + y < n * m := by
  have : (x + 1) * m ≤ n * m := Nat.mul_le_mul_right m hx
  rw [Nat.succ_mul] at this
  omega
/-- both at once -/
def pr2 (m : Nat) (f g : Nat → Nat → Nat) : Nat → Nat → Nat := fun a b => f (a / m) (b / m) * m + g (a % m) (b % m)
theorem sr_pair {n m o o' : Nat} {p t p' t' : Nat → Nat → Nat} (x : SR n p t o) (y : SR m p' t' o') : SR (n * m) (pr2 m p p') (pr2 m t t') (o * m + o') := by
  have hm := y.pos
  have dl : ∀ {a}, a < n * m → a / m < n := fun h => Nat.div_lt_of_lt_mul (by rw [Nat.mul_comm]; exact h)
  have ml : ∀ a, a % m < m := fun a => Nat.mod_lt _ hm
  have eq : ∀ a, a / m * m + a % m = a := fun a => by rw [Nat.mul_comm]; exact Nat.div_add_mod a m
  have z : 0 / m = 0 ∧ 0 % m = 0 := ⟨Nat.zero_div _, Nat.zero_mod _⟩
  refine SR.of ⟨Nat.mul_pos x.pos hm, lt_mul x.oo y.oo, fun a ha => ⟨?_, ?_, ?_, fun b hb => ⟨?_, ?_, ?_, ?_, fun c hc => ⟨?_, ?_, ?_⟩⟩⟩⟩
  · unfold pr2; rw [z.1, z.2, x.p0 _ (dl ha), y.p0 _ (ml a), eq]
  · unfold pr2; rw [(dm y.oo).1, (dm y.oo).2, x.t1 _ (dl ha), y.t1 _ (ml a), eq]
  · unfold pr2; rw [z.1, z.2, x.t0 _ (dl ha), y.t0 _ (ml a)]; simp
  · exact lt_mul (x.pc _ (dl ha) _ (dl hb)) (y.pc _ (ml a) _ (ml b))
  · exact lt_mul (x.tc _ (dl ha) _ (dl hb)) (y.tc _ (ml a) _ (ml b))
  · unfold pr2; rw [x.ps _ (dl ha) _ (dl hb), y.ps _ (ml a) _ (ml b)]
  · unfold pr2; rw [x.ts _ (dl ha) _ (dl hb), y.ts _ (ml a) _ (ml b)]
  · unfold pr2
    rw [(dm (y.pc _ (ml b) _ (ml c))).1, (dm (y.pc _ (ml b) _ (ml c))).2, (dm (y.pc _ (ml a) _ (ml b))).1, (dm (y.pc _ (ml a) _ (ml b))).2, x.pa _ (dl ha) _ (dl hb) _ (dl hc), y.pa _ (ml a) _ (ml b) _ (ml c)]
  · unfold pr2
    rw [(dm (y.tc _ (ml b) _ (ml c))).1, (dm (y.tc _ (ml b) _ (ml c))).2, (dm (y.tc _ (ml a) _ (ml b))).1, (dm (y.tc _ (ml a) _ (ml b))).2, x.ta _ (dl ha) _ (dl hb) _ (dl hc), y.ta _ (ml a) _ (ml b) _ (ml c)]
  · unfold pr2
    rw [(dm (y.pc _ (ml b) _ (ml c))).1, (dm (y.pc _ (ml b) _ (ml c))).2, (dm (y.tc _ (ml a) _ (ml b))).1, (dm (y.tc _ (ml a) _ (ml b))).2, (dm (y.tc _ (ml a) _ (ml c))).1, (dm (y.tc _ (ml a) _ (ml c))).2, x.ds _ (dl ha) _ (dl hb) _ (dl hc), y.ds _ (ml a) _ (ml b) _ (ml c)]
/-- renamed by s, back by b -/
theorem sr_ren {n o : Nat} {p t : Nat → Nat → Nat} {s b : Nat → Nat} (x : SR n p t o) (hs : ∀ i, i < n → s i < n) (hb : ∀ i, i < n → b i < n) (sb : ∀ i, i < n → s (b i) = i) (bs : ∀ i, i < n → b (s i) = i) (s0 : s 0 = 0) :
    SR n (fun i j => s (p (b i) (b j))) (fun i j => s (t (b i) (b j))) (s o) := by
  have b0 : b 0 = 0 := by have := bs 0 x.pos; rw [s0] at this; exact this
  refine SR.of ⟨x.pos, hs _ x.oo, fun i hi => ⟨?_, ?_, ?_, fun j hj => ⟨?_, ?_, ?_, ?_, fun k hk => ⟨?_, ?_, ?_⟩⟩⟩⟩
  · show s (p (b 0) (b i)) = i
    rw [b0, x.p0 _ (hb i hi), sb i hi]
  · show s (t (b (s o)) (b i)) = i
    rw [bs _ x.oo, x.t1 _ (hb i hi), sb i hi]
  · show s (t (b 0) (b i)) = 0
    rw [b0, x.t0 _ (hb i hi), s0]
  · exact hs _ (x.pc _ (hb i hi) _ (hb j hj))
  · exact hs _ (x.tc _ (hb i hi) _ (hb j hj))
  · show s (p (b i) (b j)) = s (p (b j) (b i))
    rw [x.ps _ (hb i hi) _ (hb j hj)]
  · show s (t (b i) (b j)) = s (t (b j) (b i))
    rw [x.ts _ (hb i hi) _ (hb j hj)]
  · show s (p (b i) (b (s (p (b j) (b k))))) = s (p (b (s (p (b i) (b j)))) (b k))
    rw [bs _ (x.pc _ (hb j hj) _ (hb k hk)), bs _ (x.pc _ (hb i hi) _ (hb j hj)), x.pa _ (hb i hi) _ (hb j hj) _ (hb k hk)]
  · show s (t (b i) (b (s (t (b j) (b k))))) = s (t (b (s (t (b i) (b j)))) (b k))
    rw [bs _ (x.tc _ (hb j hj) _ (hb k hk)), bs _ (x.tc _ (hb i hi) _ (hb j hj)), x.ta _ (hb i hi) _ (hb j hj) _ (hb k hk)]
  · show s (t (b i) (b (s (p (b j) (b k))))) = s (p (b (s (t (b i) (b j)))) (b (s (t (b i) (b k)))))
    rw [bs _ (x.pc _ (hb j hj) _ (hb k hk)), bs _ (x.tc _ (hb i hi) _ (hb j hj)), bs _ (x.tc _ (hb i hi) _ (hb k hk)), x.ds _ (hb i hi) _ (hb j hj) _ (hb k hk)]
end SRm

set_option Elab.async false
set_option linter.all false
set_option maxRecDepth 100000
set_option maxHeartbeats 4000000
/-! Readings of comprehensions and loops over tables. -/
namespace Tb
open PySem PySem.Spec PyProof.Rows L2 Ew EwG GxR

theorem yes_then {σ : L2.St} {H : Hp} {Q : Bool → Hp → Prop} (q : Q true H) : tYes σ H Q := q
/-- all but what stands at a is as it was -/
def But (a : Addr) (H H' : Hp) : Prop := ∀ b o, b ≠ a → H b = some o → H' b = some o
theorem but_app {D : Addr} {H : Hp} {o : HO} : But D H (upd H D o) := fun b u n e => by rw [upd_ne n]; exact e
theorem But.of {D : Addr} {H H' : Hp} (s : Same H H') : But D H H' := fun b o _ e => s b o e
theorem But.trans {D : Addr} {H H' H'' : Hp} (x : But D H H') (y : But D H' H'') : But D H H'' := fun b o n e => y b o n (x b o n e)
theorem same_but {D : Addr} {H1 H H' : Hp} (hD : H1 D = none) (s : Same H1 H) (b : But D H H') : Same H1 H' := fun c o e => b c o (ne_of_none e hD) (s c o e)
theorem same_new {p : Addr} {H H1 : Hp} {o : HO} (x : Same H H1) (h : H p = none) : Same H (L2.upd H1 p o) := fun b u e => by rw [upd_ne (ne_of_none e h)]; exact x b u e
theorem ext_of {xs : List V} {n : Nat} {f : Nat → V} (hl : xs.length = n) (h : ∀ (i : Nat) v, xs[i]? = some v → v = f i) : xs = (List.range n).map f := by
  refine List.ext_getElem? fun i => ?_
  rw [List.getElem?_map]
  by_cases c : i < n
  · have e : (List.range n)[i]? = some i := by rw [List.getElem?_eq_getElem (by simpa using c), List.getElem_range]
    rw [e]
    obtain ⟨v, hv⟩ : ∃ v, xs[i]? = some v := ⟨_, List.getElem?_eq_getElem (by omega)⟩
    rw [hv, h i v hv]
    rfl
  · rw [List.getElem?_eq_none (by omega), List.getElem?_eq_none (by simpa using c)]
    rfl
theorem at_map {n i : Nat} {f : Nat → V} (h : i < n) : ((List.range n).map f)[i]? = some (f i) := by
  rw [List.getElem?_map, List.getElem?_eq_getElem (by simpa using h), List.getElem_range]
  rfl

/-- [e for x in range(lo, lo + n)]: the heap grows; each element satisfies R -/
theorem lc_rng {lo : Int} {n k : Nat} {te : TE} {vs : List Nat} {σ : L2.St} {H1 : Hp} {D : Addr} {Qd : Hp → Prop} (R : Nat → V → Hp → Prop) (hD : H1 D = none)
    (NR : ∀ i v H H', But D H H' → R i v H → R i v H') (hn : n ≤ 100000) (hw : ∀ x, wipe ((wipe σ vs).set k (some x)) vs = wipe σ vs)
    (hs : ∀ (i : Nat) (H : Hp) (acc : List V) (Kt : VK), i < n → Same H1 H → H D = some (.lst acc) → (∀ y H4, Same H H4 → R i y H4 → Kt y H4) → te ((wipe σ vs).set k (some (.int (lo + i)))) H Kt)
    (hd : ∀ H rows, Same H1 H → H D = some (.lst rows) → rows.length = n → (∀ (i : Nat) v, rows[i]? = some v → R i v H) → Qd H) :
    ∃ W : Nat → Nat → Hp → Prop, (∃ m, W 0 m (upd H1 D (.lst []))) ∧ ∀ i m H, W i m H →
      ((Itr lo n).stop i H ∧ Qd H) ∨ ((Itr lo n).go i H ∧ ∃ Nx : Hp → Prop, (∀ H', Nx H' → ∃ m', m' < m ∧ W (i + 1) m' H') ∧ ∀ x H', (Itr lo n).yld i H x H' → gName k x (wipe σ vs) H' fun σ2 H2 => wipe σ2 vs = wipe σ vs ∧ tYes σ2 H2 fun b H3 =>
        if b = true then te σ2 H3 fun y H4 => ∃ acc, H4 D = some (.lst acc) ∧ acc.length < sizeLine ∧ Nx (upd H4 D (.lst (acc ++ [y]))) else Nx H3) := by
  refine lc_range (fun i H => Same H1 H ∧ ∃ rows, H D = some (.lst rows) ∧ rows.length = i ∧ ∀ (j : Nat) v, rows[j]? = some v → R j v H) ⟨same_new (Same.refl _) hD, [], upd_same, rfl, fun j v e => by simp at e⟩ (fun i H hi ⟨s1, rows, e1, e2, e3⟩ => ?_) (fun H ⟨s1, rows, e1, e2, e3⟩ => hd H rows s1 e1 e2 e3)
  refine ⟨hw _, ?_⟩
  refine yes_then ?_
  refine iteT ?_
  refine hs i H rows _ hi s1 e1 fun y H4 s4 r4 => ⟨rows, s4 _ _ e1, ?_, same_but hD (fun b o e => s4 b o (s1 b o e)) but_app, rows ++ [y], upd_same, by rw [List.length_append, e2]; rfl, fun j v e => ?_⟩
  · rw [e2]
    exact Nat.lt_of_lt_of_le hi (Nat.le_trans hn (by decide))
  · by_cases c : j < rows.length
    · rw [List.getElem?_append_left c] at e
      exact NR _ _ _ _ (But.trans (But.of s4) but_app) (e3 j v e)
    · rw [List.getElem?_append_right (by omega)] at e
      have hj : j = i := by
        have : j - rows.length < [y].length := by
          rcases Nat.lt_or_ge (j - rows.length) [y].length with h | h
          · exact h
          · rw [List.getElem?_eq_none h] at e; cases e
        have h1 : [y].length = 1 := rfl
        omega
      subst hj
      rw [e2, Nat.sub_self] at e
      have : y = v := by simpa using e
      subst this
      exact NR _ _ _ _ but_app r4
/-- .. whose elements are plain values -/
theorem lc_vals {lo : Int} {n k : Nat} {te : TE} {vs : List Nat} {σ : L2.St} {H1 : Hp} {D : Addr} {Qd : Hp → Prop} (f : Nat → V) (hD : H1 D = none)
    (hn : n ≤ 100000) (hw : ∀ x, wipe ((wipe σ vs).set k (some x)) vs = wipe σ vs)
    (hs : ∀ (i : Nat) (H : Hp) (Kt : VK), i < n → Same H1 H → (∀ H4, Same H H4 → Kt (f i) H4) → te ((wipe σ vs).set k (some (.int (lo + i)))) H Kt)
    (hd : ∀ H, Same H1 H → H D = some (.lst ((List.range n).map f)) → Qd H) :
    ∃ W : Nat → Nat → Hp → Prop, (∃ m, W 0 m (upd H1 D (.lst []))) ∧ ∀ i m H, W i m H →
      ((Itr lo n).stop i H ∧ Qd H) ∨ ((Itr lo n).go i H ∧ ∃ Nx : Hp → Prop, (∀ H', Nx H' → ∃ m', m' < m ∧ W (i + 1) m' H') ∧ ∀ x H', (Itr lo n).yld i H x H' → gName k x (wipe σ vs) H' fun σ2 H2 => wipe σ2 vs = wipe σ vs ∧ tYes σ2 H2 fun b H3 =>
        if b = true then te σ2 H3 fun y H4 => ∃ acc, H4 D = some (.lst acc) ∧ acc.length < sizeLine ∧ Nx (upd H4 D (.lst (acc ++ [y]))) else Nx H3) :=
  lc_rng (fun i v _ => v = f i) hD (fun _ _ _ _ _ h => h) hn hw (fun i H _ Kt hi s _ k => hs i H Kt hi s fun H4 s4 => k _ H4 s4 rfl) fun H rows s e l h => hd H s (by rw [e, ext_of l h])

/-- a list (at D) of n lists of n ints; none of them at a -/
def LL (a : Addr) (H : Hp) (D : Addr) (n : Nat) (F : Nat → Nat → Int) : Prop :=
  ∃ rows : List V, D ≠ a ∧ H D = some (.lst rows) ∧ rows.length = n ∧ ∀ i, i < n → ∃ r, rows[i]? = some (.ref r) ∧ r ≠ a ∧ H r = some (.lst ((List.range n).map fun j => V.int (F i j)))
theorem LL.but {a D : Addr} {H H' : Hp} {n : Nat} {F : Nat → Nat → Int} (x : LL a H D n F) (b : But a H H') : LL a H' D n F := by
  obtain ⟨rows, h1, h2, h3, h4⟩ := x
  exact ⟨rows, h1, b _ _ h1 h2, h3, fun i hi => let ⟨r, e1, e2, e3⟩ := h4 i hi; ⟨r, e1, e2, b _ _ e2 e3⟩⟩
theorem LL.congr {a D : Addr} {H : Hp} {n : Nat} {F G : Nat → Nat → Int} (x : LL a H D n F) (e : ∀ i, i < n → ∀ j, j < n → F i j = G i j) : LL a H D n G := by
  obtain ⟨rows, h1, h2, h3, h4⟩ := x
  refine ⟨rows, h1, h2, h3, fun i hi => ?_⟩
  obtain ⟨r, e1, e2, e3⟩ := h4 i hi
  refine ⟨r, e1, e2, ?_⟩
  rw [e3]
  refine congrArg (fun z => some (HO.lst z)) (List.map_congr_left fun j hj => ?_)
  rw [e i hi j (List.mem_range.mp hj)]
/-- a tuple of n tuples of n ints -/
def TT (H : Hp) (D : Addr) (n : Nat) (F : Nat → Nat → Int) : Prop :=
  ∃ rows : List V, H D = some (.tup rows) ∧ rows.length = n ∧ ∀ i, i < n → ∃ r, rows[i]? = some (.ref r) ∧ H r = some (.tup ((List.range n).map fun j => V.int (F i j)))
theorem TT.same {D : Addr} {H H' : Hp} {n : Nat} {F : Nat → Nat → Int} (x : TT H D n F) (b : ∀ c xs, H c = some (.tup xs) → H' c = some (.tup xs)) : TT H' D n F := by
  obtain ⟨rows, h2, h3, h4⟩ := x
  exact ⟨rows, b _ _ h2, h3, fun i hi => let ⟨r, e1, e3⟩ := h4 i hi; ⟨r, e1, b _ _ e3⟩⟩
/-- [[e for b in range(n)] for a in range(n)] : the outer one -/
theorem lc_LL {a : Addr} {ao : HO} {n k : Nat} {te : TE} {vs : List Nat} {σ : L2.St} {H1 : Hp} {D : Addr} {Qd : Hp → Prop} (F : Nat → Nat → Int) (hD : H1 D = none) (ha : H1 a = some ao)
    (hn : n ≤ 100000) (hw : ∀ x, wipe ((wipe σ vs).set k (some x)) vs = wipe σ vs)
    (hs : ∀ (i : Nat) (H : Hp) (Kt : VK), i < n → Same H1 H → (∀ r H4, Same H H4 → H r = none → H4 r = some (.lst ((List.range n).map fun j => V.int (F i j))) → Kt (.ref r) H4) → te ((wipe σ vs).set k (some (.int (0 + i)))) H Kt)
    (hd : ∀ H, Same H1 H → LL a H D n F → Qd H) :
    ∃ W : Nat → Nat → Hp → Prop, (∃ m, W 0 m (upd H1 D (.lst []))) ∧ ∀ i m H, W i m H →
      ((Itr 0 n).stop i H ∧ Qd H) ∨ ((Itr 0 n).go i H ∧ ∃ Nx : Hp → Prop, (∀ H', Nx H' → ∃ m', m' < m ∧ W (i + 1) m' H') ∧ ∀ x H', (Itr 0 n).yld i H x H' → gName k x (wipe σ vs) H' fun σ2 H2 => wipe σ2 vs = wipe σ vs ∧ tYes σ2 H2 fun b H3 =>
        if b = true then te σ2 H3 fun y H4 => ∃ acc, H4 D = some (.lst acc) ∧ acc.length < sizeLine ∧ Nx (upd H4 D (.lst (acc ++ [y]))) else Nx H3) := by
  refine lc_rng (fun i v H => ∃ r, v = .ref r ∧ r ≠ D ∧ r ≠ a ∧ H r = some (.lst ((List.range n).map fun j => V.int (F i j)))) hD (fun i v H H' b ⟨r, e1, e2, e3, e4⟩ => ⟨r, e1, e2, e3, b _ _ e2 e4⟩) hn hw
    (fun i H acc Kt hi s e k => hs i H Kt hi s fun r H4 s4 hr h4 => k _ H4 s4 ⟨r, rfl, (fun z => by rw [z, e] at hr; cases hr), (fun z => by rw [z, s _ _ ha] at hr; cases hr), h4⟩) fun H rows s e l h => hd H s ⟨rows, (fun z => by rw [z, ha] at hD; cases hD), e, l, fun i hi => ?_⟩
  obtain ⟨v, hv⟩ : ∃ v, rows[i]? = some v := ⟨_, List.getElem?_eq_getElem (by omega)⟩
  obtain ⟨r, rfl, _, h1, h2⟩ := h i v hv
  exact ⟨r, hv, h1, h2⟩

/-- [[e for b in range(n)] for a in range(n)] as a reading -/
theorem tab_lc {a : Addr} {ao : HO} {n ns ka kb : Nat} {te : TE} {σ : L2.St} {H : Hp} {Q : VK} (F : Nat → Nat → Int) (ha : H a = some ao) (hn : n ≤ 100000)
    (hs : ∀ (i j : Nat) (H' : Hp) (Kt : VK), i < n → j < n → Same H H' → (∀ H4, Same H' H4 → Kt (.int (F i j)) H4) → te ((wipe ((wipe σ [ka]).set ka (some (.int (i : Int)))) [kb]).set kb (some (.int (j : Int)))) H' Kt)
    (hd : ∀ H' D, Same H H' → H D = none → LL a H' D n F → Q (.ref D) H')
    (h1 : σ[ns]? = some (some (.int (n : Int))) := by rfl) (h2 : ∀ x, ((wipe σ [ka]).set ka (some x))[ns]? = some (some (.int (n : Int))) := by intro _; rfl)
    (w1 : ∀ x, wipe ((wipe σ [ka]).set ka (some x)) [ka] = wipe σ [ka] := by intro _; rfl) (w2 : ∀ y x, wipe ((wipe ((wipe σ [ka]).set ka (some y)) [kb]).set kb (some x)) [kb] = wipe ((wipe σ [ka]).set ka (some y)) [kb] := by intro _ _; rfl) :
    tLc (iRng1 (tCons (tVar ns) tNil)) (gName ka) tYes (tLc (iRng1 (tCons (tVar ns) tNil)) (gName kb) tYes te [kb]) [ka] σ H Q := by
  refine ⟨_, h1, _, rfl, by omega, by omega, fun D hD => ?_⟩
  refine lc_LL (a := a) F hD ha hn w1 (fun i H' Kt hi s k => ?_) (fun H' s l => hd H' D s hD l)
  refine ⟨_, h2 _, _, rfl, by omega, by omega, fun D' hD' => ?_⟩
  refine lc_vals (fun j => V.int (F i j)) hD' hn (w2 _) (fun j H4 Kt4 hj s4 k4 => ?_) (fun H4 s4 e4 => k D' H4 s4 hD' e4)
  rw [Int.zero_add, Int.zero_add]
  exact hs i j H4 Kt4 hi hj (fun b o e => s4 b o (s b o e)) k4

/-- [e for x in l], l a list that the turns leave as it is -/
theorem lc_lst {K : PySem.W.Frag} {L : Addr} {xs : List V} {k : Nat} {te : TE} {vs : List Nat} {σ : L2.St} {H1 : Hp} {D : Addr} {Qd : Hp → Prop} (R : Nat → V → Hp → Prop) (hD : H1 D = none) (hL : SqL K H1 L xs) (hLs : ∀ H, Same H1 H → SqL K H L xs)
    (NR : ∀ i v H H', But D H H' → R i v H → R i v H') (hn : xs.length ≤ 100000) (hw : ∀ x, wipe ((wipe σ vs).set k (some x)) vs = wipe σ vs)
    (hs : ∀ (i : Nat) (x : V) (H : Hp) (acc : List V) (Kt : VK), xs[i]? = some x → Same H1 H → H D = some (.lst acc) → (∀ y H4, Same H H4 → R i y H4 → Kt y H4) → te ((wipe σ vs).set k (some x)) H Kt)
    (hd : ∀ H rows, Same H1 H → H D = some (.lst rows) → rows.length = xs.length → (∀ (i : Nat) v, rows[i]? = some v → R i v H) → Qd H) :
    ∃ W : Nat → Nat → Hp → Prop, (∃ m, W 0 m (upd H1 D (.lst []))) ∧ ∀ i m H, W i m H →
      ((Itl K L).stop i H ∧ Qd H) ∨ ((Itl K L).go i H ∧ ∃ Nx : Hp → Prop, (∀ H', Nx H' → ∃ m', m' < m ∧ W (i + 1) m' H') ∧ ∀ x H', (Itl K L).yld i H x H' → gName k x (wipe σ vs) H' fun σ2 H2 => wipe σ2 vs = wipe σ vs ∧ tYes σ2 H2 fun b H3 =>
        if b = true then te σ2 H3 fun y H4 => ∃ acc, H4 D = some (.lst acc) ∧ acc.length < sizeLine ∧ Nx (upd H4 D (.lst (acc ++ [y]))) else Nx H3) := by
  refine lc_list (fun i H => Same H1 H ∧ ∃ rows, H D = some (.lst rows) ∧ rows.length = i ∧ ∀ (j : Nat) v, rows[j]? = some v → R j v H) ⟨same_new (Same.refl _) hD, [], upd_same, rfl, fun j v e => by simp at e⟩ (fun i H _ ⟨s1, _⟩ => hLs H s1) (fun i x H hx ⟨s1, rows, e1, e2, e3⟩ => ?_) (fun H ⟨s1, rows, e1, e2, e3⟩ => hd H rows s1 e1 e2 e3)
  refine ⟨hw _, ?_⟩
  refine yes_then ?_
  refine iteT ?_
  have hi : i < xs.length := by
    rcases Nat.lt_or_ge i xs.length with h | h
    · exact h
    · rw [List.getElem?_eq_none h] at hx; cases hx
  refine hs i x H rows _ hx s1 e1 fun y H4 s4 r4 => ⟨rows, s4 _ _ e1, ?_, same_but hD (fun b o e => s4 b o (s1 b o e)) but_app, rows ++ [y], upd_same, by rw [List.length_append, e2]; rfl, fun j v e => ?_⟩
  · rw [e2]
    exact Nat.lt_of_lt_of_le hi (Nat.le_trans hn (by decide))
  · by_cases c : j < rows.length
    · rw [List.getElem?_append_left c] at e
      exact NR _ _ _ _ (But.trans (But.of s4) but_app) (e3 j v e)
    · rw [List.getElem?_append_right (by omega)] at e
      have hj : j = i := by
        have : j - rows.length < [y].length := by
          rcases Nat.lt_or_ge (j - rows.length) [y].length with h | h
          · exact h
          · rw [List.getElem?_eq_none h] at e; cases e
        have h1 : [y].length = 1 := rfl
        omega
      subst hj
      rw [e2, Nat.sub_self] at e
      have : y = v := by simpa using e
      subst this
      exact NR _ _ _ _ but_app r4
/-- [[e for b in l] for a in l], l a list of n things, as a reading: a list of n lists of n ints -/
theorem tab_lst {K : PySem.W.Frag} {a L : Addr} {ao : HO} {xs : List V} {n ns ka kb : Nat} {te : TE} {σ : L2.St} {H : Hp} {Q : VK} (F : Nat → Nat → Int) (ha : H a = some ao) (hL : H L = some (.lst xs)) (hxl : xs.length = n) (hn : n ≤ 100000)
    (hs : ∀ (i j : Nat) (x y : V) (H' : Hp) (Kt : VK), i < n → j < n → xs[i]? = some x → xs[j]? = some y → Same H H' → (∀ H4, Same H' H4 → Kt (.int (F i j)) H4) → te ((wipe ((wipe σ [ka]).set ka (some x)) [kb]).set kb (some y)) H' Kt)
    (hd : ∀ H' D, Same H H' → H D = none → LL a H' D n F → Q (.ref D) H')
    (h1 : σ[ns]? = some (some (.ref L)) := by rfl) (h2 : ∀ x, ((wipe σ [ka]).set ka (some x))[ns]? = some (some (.ref L)) := by intro _; rfl)
    (w1 : ∀ x, wipe ((wipe σ [ka]).set ka (some x)) [ka] = wipe σ [ka] := by intro _; rfl) (w2 : ∀ y x, wipe ((wipe ((wipe σ [ka]).set ka (some y)) [kb]).set kb (some x)) [kb] = wipe ((wipe σ [ka]).set ka (some y)) [kb] := by intro _ _; rfl) :
    tLc (iList K (tVar ns)) (gName ka) tYes (tLc (iList K (tVar ns)) (gName kb) tYes te [kb]) [ka] σ H Q := by
  have at_ : ∀ {i : Nat} {x : V}, xs[i]? = some x → i < n := fun {i x} h => by
    rcases Nat.lt_or_ge i xs.length with h' | h'
    · omega
    · rw [List.getElem?_eq_none h'] at h; cases h
  refine ⟨_, h1, L, rfl, ⟨xs, SqL.of hL⟩, fun D hD => ?_⟩
  refine lc_lst (K := K) (xs := xs) (fun i v H => ∃ r, v = .ref r ∧ r ≠ D ∧ r ≠ a ∧ H r = some (.lst ((List.range n).map fun j => V.int (F i j)))) hD (SqL.of hL) (fun H' s => SqL.of (s _ _ hL)) (fun i v H H' b ⟨r, e1, e2, e3, e4⟩ => ⟨r, e1, e2, e3, b _ _ e2 e4⟩) (by omega) w1 (fun i x H' acc Kt hx s e k => ?_) (fun H' rows s e l h => ?_)
  · refine ⟨_, h2 _, L, rfl, ⟨xs, SqL.of (s _ _ hL)⟩, fun D' hD' => ?_⟩
    refine lc_lst (K := K) (xs := xs) (fun j v _ => v = V.int (F i j)) hD' (SqL.of (s _ _ hL)) (fun H4 s4 => SqL.of (s4 _ _ (s _ _ hL))) (fun _ _ _ _ _ h => h) (by omega) (w2 _) (fun j y H4 acc' Kt4 hy s4 e4 k4 => ?_) (fun H4 rows s4 e4 l4 h4 => ?_)
    · exact hs i j x y H4 Kt4 (at_ hx) (at_ hy) hx hy (fun b o e => s4 b o (s b o e)) fun H5 s5 => k4 _ H5 s5 rfl
    · refine k _ H4 s4 ⟨D', rfl, (fun z => by rw [z, e] at hD'; cases hD'), (fun z => by rw [z, s _ _ ha] at hD'; cases hD'), ?_⟩
      rw [e4, ext_of (l4.trans hxl) h4]
  · refine hd H' D s hD ⟨rows, (fun z => by rw [z, ha] at hD; cases hD), e, l.trans hxl, fun i hi => ?_⟩
    obtain ⟨v, hv⟩ : ∃ v, rows[i]? = some v := ⟨_, List.getElem?_eq_getElem (by omega)⟩
    obtain ⟨r, rfl, _, h1, h2⟩ := h i v hv
    exact ⟨r, hv, h1, h2⟩
abbrev rTupOf (K : PySem.W.Frag) : List V → Hp → VK → Prop := fun xs H Q => ∃ p ys, xs = [.ref p] ∧ ((SqL K H p ys ∧ ∀ l, H l = none → Q (.ref l) (upd H l (.tup ys))) ∨ (SqT K H p ys ∧ Q (.ref p) H))
/-- tuple([tuple([e for b in range(n)]) for a in range(n)]) as a reading -/
theorem tab_tt {K : PySem.W.Frag} {n ns ka kb : Nat} {te : TE} {σ : L2.St} {H : Hp} {Q : VK} (F : Nat → Nat → Int) (hn : n ≤ 100000)
    (hs : ∀ (i j : Nat) (H' : Hp) (Kt : VK), i < n → j < n → Same H H' → (∀ H4, Same H' H4 → Kt (.int (F i j)) H4) → te ((wipe ((wipe σ [ka]).set ka (some (.int (i : Int)))) [kb]).set kb (some (.int (j : Int)))) H' Kt)
    (hd : ∀ H' D, Same H H' → TT H' D n F → Q (.ref D) H')
    (h1 : σ[ns]? = some (some (.int (n : Int))) := by rfl) (h2 : ∀ x, ((wipe σ [ka]).set ka (some x))[ns]? = some (some (.int (n : Int))) := by intro _; rfl)
    (w1 : ∀ x, wipe ((wipe σ [ka]).set ka (some x)) [ka] = wipe σ [ka] := by intro _; rfl) (w2 : ∀ y x, wipe ((wipe ((wipe σ [ka]).set ka (some y)) [kb]).set kb (some x)) [kb] = wipe ((wipe σ [ka]).set ka (some y)) [kb] := by intro _ _; rfl) :
    tCB (rTupOf K) (tCons (tLc (iRng1 (tCons (tVar ns) tNil)) (gName ka) tYes (tCB (rTupOf K) (tCons (tLc (iRng1 (tCons (tVar ns) tNil)) (gName kb) tYes te [kb]) tNil)) [ka]) tNil) σ H Q := by
  refine ⟨_, h1, _, rfl, by omega, by omega, fun D hD => ?_⟩
  rw [Int.toNat_natCast]
  refine lc_rng (lo := 0) (n := n) (fun i v H => ∃ r, v = .ref r ∧ r ≠ D ∧ H r = some (.tup ((List.range n).map fun j => V.int (F i j)))) hD (fun i v H H' b ⟨r, e1, e2, e3⟩ => ⟨r, e1, e2, b _ _ e2 e3⟩) hn w1 (fun i H' acc Kt hi s e k => ?_) (fun H' rows s e l h => ?_)
  · rw [Int.zero_add]
    refine ⟨_, h2 _, _, rfl, by omega, by omega, fun D' hD' => ?_⟩
    rw [Int.toNat_natCast]
    refine lc_vals (lo := 0) (n := n) (fun j => V.int (F i j)) hD' hn (w2 _) (fun j H4 Kt4 hj s4 k4 => ?_) (fun H4 s4 e4 => ?_)
    · rw [Int.zero_add]
      exact hs i j H4 Kt4 hi hj (fun b o e => s4 b o (s b o e)) k4
    · refine ⟨D', _, rfl, .inl ⟨SqL.of e4, fun r hr => ?_⟩⟩
      exact k _ _ (fun b o e => same_new (Same.refl _) hr b o (s4 b o e)) ⟨r, rfl, (fun z => by rw [z, s4 _ _ e] at hr; cases hr), upd_same⟩
  · refine ⟨D, rows, rfl, .inl ⟨SqL.of e, fun q hq => ?_⟩⟩
    have sq : Same H' (upd H' q (.tup rows)) := same_new (Same.refl _) hq
    refine hd _ q (fun b o e => sq b o (s b o e)) ⟨rows, upd_same, l, fun i hi => ?_⟩
    obtain ⟨v, hv⟩ : ∃ v, rows[i]? = some v := ⟨_, List.getElem?_eq_getElem (by omega)⟩
    obtain ⟨r, rfl, _, h2⟩ := h i v hv
    exact ⟨r, hv, sq _ _ h2⟩
section
variable {X : Cx} {o e : Expr} {es : List Expr} {to : TE} {t : TA} {name : Str} {apos cpos : Pos} {T id : String} {r : V → List V → Hp → VK → Prop}
theorem kpe_bm {K : PySem.W.Frag} (pa : PlainAttrs T) (slot : Slot T name id) (hty : typeOf (.builtin id) = pure (.type "method_descriptor")) (hm : MtR X id r) (ho : PE X o to) (ha : PA X (e :: es) t) (hK : X.K = K := by rfl)
    (hbase : attributeBase o name X.env (eval o X.env) = eval o X.env := by rfl)
    (hfew : ((backTo cpos (starEach (e :: es) X.env)).all (fun x => !x.1) && (backToKw cpos (keywordEach [] X.env)).all (fun x => x.1.isSome)
      && decide ((e :: es).length + ([] : List Keyword).length + (if ([] : List Keyword).isEmpty then 0 else 1) < 30)) = true := by rfl)
    (hline : (apos.endLine == cpos.line) = true := by rfl) (hs : starEach (e :: es) X.env = (false, eval e X.env) :: starEach es X.env := by rfl) (hplain : (backTo cpos (starEach es X.env)).any (·.1) = false := by rfl) :
    PE X (.Call (.Attribute o name apos) (e :: es) [] cpos) (tBM K T r to t) := hK ▸ pe_bm pa slot hty hm ho ha hbase hfew hline hs hplain
theorem kmt_index {K : PySem.W.Frag} (hK : X.K = K := by rfl) : MtR X "list.index" (rIndex K) := hK ▸ mt_index
theorem kcall_tuple_of {K : PySem.W.Frag} (hK : X.K = K := by rfl) : CallR X (.type "tuple") (rTupOf K) := hK ▸ call_tuple_of
end
theorem erase_perm {α : Type} : ∀ (l : List α) (i : Nat) (y : α), l[i]? = some y → (y :: l.eraseIdx i).Perm l
  | [], i, y, e => by simp at e
  | a :: l, 0, y, e => by
    have q : a = y := by simpa using e
    subst q
    exact List.Perm.refl _
  | a :: l, i + 1, y, e => by
    have q := erase_perm l i y (by simpa using e)
    show (y :: a :: l.eraseIdx i).Perm (a :: l)
    exact (List.Perm.swap a y _).trans (q.cons a)
/-- names: a renaming of 0 .. n - 1 that keeps 0, and its inverse -/
theorem ren_of {n : Nat} {ns : List Nat} (p : ns.Perm (List.range n)) (h0 : ns[0]? = some 0) :
    (∀ i, i < n → ns[i]? = some (ns.getD i 0)) ∧ (∀ i, i < n → ns.getD i 0 < n) ∧ (∀ k, k < n → ns.idxOf k < n) ∧ (∀ k, k < n → ns.getD (ns.idxOf k) 0 = k) ∧ (∀ i, i < n → ns.idxOf (ns.getD i 0) = i) ∧ ns.getD 0 0 = 0 := by
  have hl : ns.length = n := by rw [p.length_eq, List.length_range]
  have nd : ns.Nodup := p.nodup_iff.mpr List.nodup_range
  have at_ : ∀ i, i < n → ns[i]? = some (ns.getD i 0) := fun i hi => by
    rw [List.getD_eq_getElem?_getD, List.getElem?_eq_getElem (by omega)]
    rfl
  have mem : ∀ k, k < n → k ∈ ns := fun k hk => p.mem_iff.mpr (List.mem_range.mpr hk)
  have ix : ∀ k, k < n → ns.idxOf k < n := fun k hk => by
    have := List.idxOf_lt_length_iff.mpr (mem k hk)
    omega
  refine ⟨at_, fun i hi => List.mem_range.mp (p.mem_iff.mp (List.mem_of_getElem? (at_ i hi))), ix, fun k hk => ?_, fun i hi => ?_, ?_⟩
  · have h := ix k hk
    rw [← hl] at h
    rw [List.getD_eq_getElem?_getD, List.getElem?_eq_getElem h, List.getElem_idxOf h]
    rfl
  · have h : i < ns.length := by omega
    rw [List.getD_eq_getElem?_getD, List.getElem?_eq_getElem h]
    exact nd.idxOf_getElem i h
  · rw [List.getD_eq_getElem?_getD, h0]
    rfl
theorem idx_first {n : Nat} {ns : List Nat} (p : ns.Perm (List.range n)) {k m z : Nat} (h : m < ns.idxOf k) (e : ns[m]? = some z) : z ≠ k := fun q => by
  have nd : ns.Nodup := p.nodup_iff.mpr List.nodup_range
  obtain ⟨hm, e⟩ := List.getElem?_eq_some_iff.mp e
  have := nd.idxOf_getElem m hm
  rw [e, q] at this
  omega
theorem go_seq {te : TE} {g : TG} {u : TS} {D : Ends} {σ : L2.St} {H : Hp} (h : te σ H fun x H1 => g x σ H1 fun σ' H' => u D σ' H') : tSeq (tAsg te g) u D σ H := h
theorem go_next {f : L2.St → Hp → Prop} {rt : VK} {bk ct : L2.St → Hp → Prop} {σ : L2.St} {H : Hp} (h : f σ H) : tNext ⟨f, rt, bk, ct⟩ σ H := h
theorem go_nx {f : L2.St → Hp → Prop} {rt : VK} {bk ct : L2.St → Hp → Prop} {σ : L2.St} {H : Hp} (h : f σ H) : (Ends.mk f rt bk ct).nx σ H := h
theorem go_ret {te : TE} {D : Ends} {σ : L2.St} {H : Hp} (h : te σ H D.rt) : tRet te D σ H := h
theorem go_tup {t : TA} {σ : L2.St} {H : Hp} {Q : VK} (h : t σ H fun xs H1 => xs.length ≤ sizeLine ∧ ∀ p, H1 p = none → Q (.ref p) (upd H1 p (.tup xs))) : tTup t σ H Q := h
theorem go_lst {t : TA} {σ : L2.St} {H : Hp} {Q : VK} (h : t σ H fun xs H1 => xs.length ≤ sizeLine ∧ ∀ p, H1 p = none → Q (.ref p) (upd H1 p (.lst xs))) : tLst t σ H Q := h
theorem go_cons {t : TE} {u : TA} {σ : L2.St} {H : Hp} {Q : List V → Hp → Prop} (h : t σ H fun x H1 => u σ H1 fun xs H2 => Q (x :: xs) H2) : tCons t u σ H Q := h
theorem go_nil {σ : L2.St} {H : Hp} {Q : List V → Hp → Prop} (h : Q [] H) : tNil σ H Q := h
theorem go_var {i : Nat} {v : V} {σ : L2.St} {H : Hp} {Q : VK} (e : σ[i]? = some (some v)) (h : Q v H) : tVar i σ H Q := ⟨v, e, h⟩
theorem go_name {i : Nat} {v v' : V} {σ : L2.St} {H : Hp} {Q : L2.St → Hp → Prop} (e : v = v') (h : Q (σ.set i (some v')) H) : gName i v σ H Q := e ▸ h
end Tb

set_option Elab.async false
set_option linter.all false
set_option maxRecDepth 100000
set_option maxHeartbeats 4000000
/-! Defs that hold a generator expression; readings of all(..), any(..) where every turn goes on. -/
namespace Tb
open PySem PySem.Spec PyProof.Rows L2 Ew EwG GxR

/-- a def whose code object stands at c -/
structure FunC (K : PySem.W.Frag) (x qual : Str) (st : Stmt) (f : Addr) (fd : FuncData) (c : Addr) : Prop where
  ex : ∃ (oc : Value) (od : Option Addr) (kV doc pm : Value) (an : Option Addr) (ct : Value) (osl : Array (Option Value)),
    fd = PySem.W.fnOf x qual (defArgs st) (defBody st) (defScope st) .none kV doc pm an (.ref c) ct ∧ K.lookup f = some ⟨oc, od, .func fd, osl⟩ ∧ PySem.W.codeIn K (.ref c) qual = true
  kp : PySem.W.keepIn K (.ref f) = true
section
variable {P : Program} {w : World} {K : PySem.W.Frag} {mg : Str → Option Value} {base : Heap}
theorem FunC.okX {x qual : Str} {st : Stmt} {f c : Addr} {fd : FuncData} {N ps : List Str} {k : Nat} {sp : Sp} (F : FunC K x qual st f fd c) (S : FnScope N ps (defScope st)) (len : ∀ vs H Q E, sp vs H Q E → vs.length = ps.length)
    (hbody : ∀ (A : Around) (outer : List Env) (s : Shared) (H : Hp) (vs : List V) (Q : VK) (E : XK), Room k (A.deeper (envOfC qual (defScope st) s.heap.objs.size f (.ref c))) → sp vs H Q E →
      ∃ t, PSs (cxOf (L2.CX P w) P w K mg base N qual (defScope st) f (.ref c) A outer s H E) (defBody st) t ∧ t { nx := fun _ H' => Q .non H', rt := Q } (start N vs) H) : FnOk P w K mg base (L2.CX P w) (k + 1) f fd ps sp := by
  obtain ⟨oc, od, kV, doc, pm, an, ct, osl, rfl, lk, hcd⟩ := F.ex
  exact fn_of lk hcd S len fun A outer s H vs Q E hr hsp => hbody A outer s H vs Q E hr hsp
theorem FunC.fun_ {x qual : Str} {st : Stmt} {f c : Addr} {fd : FuncData} (F : FunC K x qual st f fd c) : Fun K x qual st f fd := by
  obtain ⟨oc, od, kV, doc, pm, an, ct, osl, rfl, lk, hcd⟩ := F.ex
  exact ⟨⟨oc, od, kV, doc, pm, an, .ref c, ct, osl, rfl, lk, hcd⟩, F.kp⟩
theorem func_mk {x qual : Str} {st : Stmt} {f c : Addr} {oc : Value} {od an : Option Addr} {osl : Array (Option Value)} {kV doc pm ct : Value} (l : K.lookup f = some ⟨oc, od, .func (PySem.W.fnOf x qual (defArgs st) (defBody st) (defScope st) .none kV doc pm an (.ref c) ct), osl⟩)
    (cc : PySem.W.codeIn K (.ref c) qual = true) (k : PySem.W.keepIn K (.ref f) = true) : FunC K x qual st f (PySem.W.fnOf x qual (defArgs st) (defBody st) (defScope st) .none kV doc pm an (.ref c) ct) c := ⟨⟨oc, od, kV, doc, pm, an, ct, osl, rfl, l, cc⟩, k⟩
end
def rAnyT (K : PySem.W.Frag) : List V → Hp → VK → Prop := fun vs H Q => ∃ (a : Addr) (ns : List Int), vs = [V.ref a] ∧ SqT K H a (ns.map V.int) ∧ Q (.bl (ns.any fun i => i != 0)) H
theorem cr_anyT {X : Cx} (hc : X.calm = true) : CallR X (.builtin "any") (rAnyT X.K) := by
  intro pins s σ H vs us Q I r h
  obtain ⟨a, ns, rfl, hs, q⟩ := h
  obtain ⟨its, rv, hl, _⟩ := I.tuple hs
  rw [Vals.ref1 r]
  have hlt : a < s.heap.objs.size := hl.lt
  refine call_any_walk ?_
  refine wpAny_pyIter_tuple (show s.heap.IsTuple a its.toArray from hl) ?_
  refine ⟨_, _, _, _, _, _, fun i => (ns.getD i 0) != 0, rfl, Walks.tuple (A := X.A.in1) (I.ok.hd hc) _ a (Nat.ne_of_lt hlt) its.toArray, ⟨⟨_, Heap.get?_push_size _ rfl, rfl, rfl⟩, (show s.heap.IsTuple a its.toArray from hl).push _⟩, fun i v s' Q' E' hv hq => ?_, fun h' tk hk => ?_⟩
  · have hv' : its[i]? = some v := by simpa using hv
    obtain ⟨n, hn⟩ : ∃ n, ns[i]? = some n := by
      have l := rv.length
      rw [List.length_map] at l
      have : i < its.length := by
        rcases Nat.lt_or_ge i its.length with h | h
        · exact h
        · rw [List.getElem?_eq_none h] at hv'; cases hv'
      exact ⟨_, List.getElem?_eq_getElem (by omega)⟩
    obtain ⟨u, e1, e2⟩ := rv.get (x := V.int n) (i := i) (by rw [List.getElem?_map, hn]; rfl)
    rw [hv'] at e1
    cases e1
    obtain ⟨t, rfl⟩ := e2
    have hq' : Q' ((ns.getD i 0) != 0) s' := hq
    rw [List.getD_eq_getElem?_getD, hn] at hq'
    first | exact PySem.truthy_int hq' | exact PySem.P.truthy_int hq' | exact truthy_int hq'
  · refine ⟨.bl _, H, I.kept fun b o eo => hk b o (fun hmem => ?_) (Heap.get?_push_of_some _ eo), ?_, q⟩
    · rcases List.mem_cons.mp hmem with e1 | hmem
      · exact absurd (e1 ▸ Heap.lt_size eo) (Nat.lt_irrefl _)
      · cases hmem
    · show Value.bool _ = Value.bool _
      have l := rv.length
      rw [List.length_map] at l
      rw [List.size_toArray, ← l]
      have key : ∀ ns : List Int, (List.range ns.length).any (fun i => ns.getD i 0 != 0) = ns.any fun i => i != 0 := fun ns => by
        induction ns with
        | nil => rfl
        | cons b bs ih =>
          rw [List.length_cons, List.range_succ_eq_map, List.any_cons, List.any_map, List.any_cons, ← ih]
          rfl
      rw [key]
/-- a statement that is never reached -/
def tNever : TS := fun _ _ _ => False
theorem ps_never {X : Cx} {st : Stmt} : PS X st tNever := ⟨fun _ _ _ _ _ _ h => h.elim⟩

/-- the heap has grown; tables too -/
structure FrT (H H' : Hp) : Prop where
  keep : ∀ b o, H b = some o → (∀ ps, o ≠ .tbl ps) → H' b = some o
  tabs : ∀ P, TabG H P → TabG H' P
theorem FrT.refl (H : Hp) : FrT H H := ⟨fun _ _ h _ => h, fun _ h => h⟩
theorem FrT.trans {H H' H'' : Hp} (x : FrT H H') (y : FrT H' H'') : FrT H H'' := ⟨fun b o h n => y.keep b o (x.keep b o h n) n, fun P h => y.tabs P (x.tabs P h)⟩
theorem FrT.of {H H' : Hp} (s : Same H H') : FrT H H' := ⟨fun b o h _ => s b o h, fun P h => let ⟨ps, e, t⟩ := h; ⟨ps, s _ _ e, t⟩⟩
theorem FrT.tab {P : Addr} {H H' : Hp} (t : TabG H P) (x : Tabbed P H H') : FrT H H' := by
  refine ⟨fun b o h n => ?_, fun P' h => ?_⟩
  · by_cases e : b = P
    · obtain ⟨ps, e2, _⟩ := t
      rw [e, e2] at h
      cases h
      exact absurd rfl (n ps)
    · rw [x.2 b e]; exact h
  · by_cases e : P' = P
    · rw [e]; exact x.1
    · obtain ⟨ps, e2, e3⟩ := h
      exact ⟨ps, by rw [x.2 P' e]; exact e2, e3⟩
theorem FrT.tup {H H' : Hp} (x : FrT H H') {b : Addr} {xs : List V} (h : H b = some (.tup xs)) : H' b = some (.tup xs) := x.keep b _ h fun ps z => by cases z
theorem FrT.lst {H H' : Hp} (x : FrT H H') {b : Addr} {xs : List V} (h : H b = some (.lst xs)) : H' b = some (.lst xs) := x.keep b _ h fun ps z => by cases z
theorem FrT.ins {H H' : Hp} (x : FrT H H') {b C d : Addr} {fs : List (Str × V)} (h : H b = some (.ins C d fs)) : H' b = some (.ins C d fs) := x.keep b _ h fun ps z => by cases z

theorem gw_rng {n k : Nat} {te : TE} {vs : List Nat} {σ : L2.St} {e : Bool} {Q : VK} {H2 : Hp} (hw : ∀ x, wipe ((wipe σ vs).set k (some x)) vs = wipe σ vs)
    (hs : ∀ (i : Nat) (Kt : VK), i < n → Kt (.bl e) H2 → te ((wipe σ vs).set k (some (.int (i : Int)))) H2 Kt) (hd : Q (.bl e) H2) :
    ∃ W : Nat → Nat → Hp → Prop, (∃ m, W 0 m H2) ∧ GW (Itr 0 n) (gName k) te vs σ e Q W := by
  refine ⟨fun i m H => m = n - i ∧ i ≤ n ∧ H = H2, ⟨n, by simp, Nat.zero_le _, rfl⟩, ?_⟩
  rintro i m H ⟨rfl, hi, rfl⟩
  by_cases hlt : i < n
  · refine .inr ⟨hlt, fun x H' y => ?_⟩
    obtain ⟨e1, y⟩ := y
    subst e1 y
    refine ⟨hw _, ?_⟩
    rw [Int.zero_add]
    exact hs i _ hlt ⟨e, rfl, fun _ => ⟨n - (i + 1), by omega, rfl, hlt, rfl⟩, fun z => absurd rfl z⟩
  · have e1 : i = n := by omega
    subst e1
    exact .inl ⟨Nat.le_refl _, hd⟩
theorem gw_lst {K : PySem.W.Frag} {L : Addr} {xs : List V} {k : Nat} {te : TE} {vs : List Nat} {σ : L2.St} {e : Bool} {Q : VK} {H2 : Hp} (hL : SqL K H2 L xs) (hw : ∀ x, wipe ((wipe σ vs).set k (some x)) vs = wipe σ vs)
    (hs : ∀ (i : Nat) (x : V) (Kt : VK), xs[i]? = some x → Kt (.bl e) H2 → te ((wipe σ vs).set k (some x)) H2 Kt) (hd : Q (.bl e) H2) :
    ∃ W : Nat → Nat → Hp → Prop, (∃ m, W 0 m H2) ∧ GW (Itl K L) (gName k) te vs σ e Q W := by
  refine ⟨fun i m H => m = xs.length - i ∧ i ≤ xs.length ∧ H = H2, ⟨xs.length, by simp, Nat.zero_le _, rfl⟩, ?_⟩
  rintro i m H ⟨rfl, hi, rfl⟩
  by_cases hlt : i < xs.length
  · refine .inr ⟨⟨xs, xs[i], hL, by simp [hlt]⟩, fun x H' y => ?_⟩
    obtain ⟨e1, y⟩ := y
    subst e1
    refine ⟨hw _, ?_⟩
    exact hs i x _ (y xs hL) ⟨e, rfl, fun _ => ⟨xs.length - (i + 1), by omega, rfl, hlt, rfl⟩, fun z => absurd rfl z⟩
  · have e1 : i = xs.length := by omega
    subst e1
    exact .inl ⟨⟨xs, hL, Nat.le_refl _⟩, hd⟩
theorem gw_tup {K : PySem.W.Frag} {L : Addr} {xs : List V} {k : Nat} {te : TE} {vs : List Nat} {σ : L2.St} {e : Bool} {Q : VK} {H2 : Hp} (hL : SqT K H2 L xs) (hw : ∀ x, wipe ((wipe σ vs).set k (some x)) vs = wipe σ vs)
    (hs : ∀ (i : Nat) (x : V) (Kt : VK), xs[i]? = some x → Kt (.bl e) H2 → te ((wipe σ vs).set k (some x)) H2 Kt) (hd : Q (.bl e) H2) :
    ∃ W : Nat → Nat → Hp → Prop, (∃ m, W 0 m H2) ∧ GW (Itt K L) (gName k) te vs σ e Q W := by
  refine ⟨fun i m H => m = xs.length - i ∧ i ≤ xs.length ∧ H = H2, ⟨xs.length, by simp, Nat.zero_le _, rfl⟩, ?_⟩
  rintro i m H ⟨rfl, hi, rfl⟩
  by_cases hlt : i < xs.length
  · refine .inr ⟨⟨xs, xs[i], hL, by simp [hlt]⟩, fun x H' y => ?_⟩
    obtain ⟨e1, y⟩ := y
    subst e1
    refine ⟨hw _, ?_⟩
    exact hs i x _ (y xs hL) ⟨e, rfl, fun _ => ⟨xs.length - (i + 1), by omega, rfl, hlt, rfl⟩, fun z => absurd rfl z⟩
  · have e1 : i = xs.length := by omega
    subst e1
    exact .inl ⟨⟨xs, hL, Nat.le_refl _⟩, hd⟩
/-- .. for a in range(n) for b in range(a) -/
theorem gw2_rng {n ka kb : Nat} {te : TE} {vs : List Nat} {σ : L2.St} {e : Bool} {Q : VK} {H2 : Hp} (hn : n ≤ 100000) (h2 : ∀ x, ((wipe σ vs).set ka (some x))[ka]? = some (some x)) (w1 : ∀ x, wipe ((wipe σ vs).set ka (some x)) vs = wipe σ vs)
    (w2 : ∀ y x, wipe ((wipe ((wipe σ vs).set ka (some y)) [kb]).set kb (some x)) [kb] = wipe ((wipe σ vs).set ka (some y)) [kb])
    (hs : ∀ (i j : Nat) (Kt : VK), i < n → j < i → Kt (.bl e) H2 → te ((wipe ((wipe σ vs).set ka (some (.int (i : Int)))) [kb]).set kb (some (.int (j : Int)))) H2 Kt) (hd : Q (.bl e) H2) :
    ∃ W : Nat → Nat → Hp → Prop, (∃ m, W 0 m H2) ∧ GW2 (Itr 0 n) (gName ka) (iRng1 (tCons (tVar ka) tNil)) (gName kb) te vs [kb] σ e Q W := by
  have step : ∀ i, i < n → (n - i) * (n + 1) = (n - (i + 1)) * (n + 1) + n + 1 := fun i hi => by
    have : n - i = (n - (i + 1)) + 1 := by omega
    rw [this, Nat.succ_mul]
    omega
  refine ⟨fun i m H => m = (n - i) * (n + 1) ∧ i ≤ n ∧ H = H2, ⟨_, rfl, Nat.zero_le _, rfl⟩, ?_⟩
  rintro i m H ⟨rfl, hi, rfl⟩
  by_cases hlt : i < n
  · have st := step i hlt
    refine .inr ⟨hlt, fun x HH y => ?_⟩
    obtain ⟨e1, y⟩ := y
    subst e1 y
    refine ⟨w1 _, ?_⟩
    rw [Int.zero_add]
    refine ⟨_, h2 _, _, rfl, by omega, by omega, ?_⟩
    rw [Int.toNat_natCast]
    refine ⟨fun j k H' => k = (n - i) * (n + 1) - 1 - j ∧ j ≤ i ∧ H' = HH, ⟨_, ?_, rfl, Nat.zero_le _, rfl⟩, ?_⟩
    · omega
    rintro j k H' ⟨rfl, hj, rfl⟩
    by_cases hlj : j < i
    · refine .inr ⟨hlj, fun x H4 y => ?_⟩
      obtain ⟨e1, y⟩ := y
      subst e1 y
      refine ⟨w2 _ _, ?_⟩
      rw [Int.zero_add]
      exact hs i j _ hlt hlj ⟨e, rfl, fun _ => ⟨(n - i) * (n + 1) - 1 - (j + 1), by omega, rfl, hlj, rfl⟩, fun z => absurd rfl z⟩
    · have e1 : j = i := by omega
      subst e1
      exact .inl ⟨Nat.le_refl _, (n - (j + 1)) * (n + 1), by omega, by omega, rfl, hlt, rfl⟩
  · have e1 : i = n := by omega
    subst e1
    exact .inl ⟨Nat.le_refl _, hd⟩
/-- [e for x in l], l a list that the turns leave as it is -/
theorem lc_tupR {K : PySem.W.Frag} {L : Addr} {xs : List V} {k : Nat} {te : TE} {vs : List Nat} {σ : L2.St} {H1 : Hp} {D : Addr} {Qd : Hp → Prop} (R : Nat → V → Hp → Prop) (hD : H1 D = none) (hL : SqT K H1 L xs) (hLs : ∀ H, Same H1 H → SqT K H L xs)
    (NR : ∀ i v H H', But D H H' → R i v H → R i v H') (hn : xs.length ≤ 100000) (hw : ∀ x, wipe ((wipe σ vs).set k (some x)) vs = wipe σ vs)
    (hs : ∀ (i : Nat) (x : V) (H : Hp) (acc : List V) (Kt : VK), xs[i]? = some x → Same H1 H → H D = some (.lst acc) → (∀ y H4, Same H H4 → R i y H4 → Kt y H4) → te ((wipe σ vs).set k (some x)) H Kt)
    (hd : ∀ H rows, Same H1 H → H D = some (.lst rows) → rows.length = xs.length → (∀ (i : Nat) v, rows[i]? = some v → R i v H) → Qd H) :
    ∃ W : Nat → Nat → Hp → Prop, (∃ m, W 0 m (upd H1 D (.lst []))) ∧ ∀ i m H, W i m H →
      ((Itt K L).stop i H ∧ Qd H) ∨ ((Itt K L).go i H ∧ ∃ Nx : Hp → Prop, (∀ H', Nx H' → ∃ m', m' < m ∧ W (i + 1) m' H') ∧ ∀ x H', (Itt K L).yld i H x H' → gName k x (wipe σ vs) H' fun σ2 H2 => wipe σ2 vs = wipe σ vs ∧ tYes σ2 H2 fun b H3 =>
        if b = true then te σ2 H3 fun y H4 => ∃ acc, H4 D = some (.lst acc) ∧ acc.length < sizeLine ∧ Nx (upd H4 D (.lst (acc ++ [y]))) else Nx H3) := by
  refine lc_tup (fun i H => Same H1 H ∧ ∃ rows, H D = some (.lst rows) ∧ rows.length = i ∧ ∀ (j : Nat) v, rows[j]? = some v → R j v H) ⟨same_new (Same.refl _) hD, [], upd_same, rfl, fun j v e => by simp at e⟩ (fun i H _ ⟨s1, _⟩ => hLs H s1) (fun i x H hx ⟨s1, rows, e1, e2, e3⟩ => ?_) (fun H ⟨s1, rows, e1, e2, e3⟩ => hd H rows s1 e1 e2 e3)
  refine ⟨hw _, ?_⟩
  refine yes_then ?_
  refine iteT ?_
  have hi : i < xs.length := by
    rcases Nat.lt_or_ge i xs.length with h | h
    · exact h
    · rw [List.getElem?_eq_none h] at hx; cases hx
  refine hs i x H rows _ hx s1 e1 fun y H4 s4 r4 => ⟨rows, s4 _ _ e1, ?_, same_but hD (fun b o e => s4 b o (s1 b o e)) but_app, rows ++ [y], upd_same, by rw [List.length_append, e2]; rfl, fun j v e => ?_⟩
  · rw [e2]
    exact Nat.lt_of_lt_of_le hi (Nat.le_trans hn (by decide))
  · by_cases c : j < rows.length
    · rw [List.getElem?_append_left c] at e
      exact NR _ _ _ _ (But.trans (But.of s4) but_app) (e3 j v e)
    · rw [List.getElem?_append_right (by omega)] at e
      have hj : j = i := by
        have : j - rows.length < [y].length := by
          rcases Nat.lt_or_ge (j - rows.length) [y].length with h | h
          · exact h
          · rw [List.getElem?_eq_none h] at e; cases e
        have h1 : [y].length = 1 := rfl
        omega
      subst hj
      rw [e2, Nat.sub_self] at e
      have : y = v := by simpa using e
      subst this
      exact NR _ _ _ _ but_app r4
end Tb

set_option Elab.async false
set_option linter.all false
set_option maxRecDepth 100000
set_option maxHeartbeats 4000000
/-! Monomials and polynomials as nested tuples of the heap: keys, data, their order. -/
namespace PK
open PySem L2 Ew Tb ND PM
/-! ### things as nested keys -/
def kQ (q : Nat × Nat) : NestedKey := .tup [.num (q.1 : Int), .num (q.2 : Int)]
def kM (m : Mono) : NestedKey := .tup (m.map kQ)
def kT (t : Mono × Nat) : NestedKey := .tup [kM t.1, .num (t.2 : Int)]
def kP (p : Terms) : NestedKey := .tup (p.map kT)
theorem kQ_inj {a b : Nat × Nat} (h : kQ a = kQ b) : a = b := by
  injection h with h
  injection h with h1 h2
  injection h1 with h1
  injection h2 with h2 _
  injection h2 with h2
  exact Prod.ext (by omega) (by omega)
theorem map_inj {α β : Type} {f : α → β} (hf : ∀ a b, f a = f b → a = b) : ∀ {l m : List α}, l.map f = m.map f → l = m
  | [], [], _ => rfl
  | [], _ :: _, h => by cases h
  | _ :: _, [], h => by cases h
  | a :: l, b :: m, h => by
    rw [List.map_cons, List.map_cons] at h
    injection h with h1 h2
    rw [hf _ _ h1, map_inj hf h2]
theorem kM_inj {a b : Mono} (h : kM a = kM b) : a = b := by
  injection h with h
  exact map_inj (fun _ _ => kQ_inj) h
theorem kT_inj {a b : Mono × Nat} (h : kT a = kT b) : a = b := by
  injection h with h
  injection h with h1 h2
  injection h2 with h2 _
  injection h2 with h2
  exact Prod.ext (kM_inj h1) (by omega)
theorem kP_inj {a b : Terms} (h : kP a = kP b) : a = b := by
  injection h with h
  exact map_inj (fun _ _ => kT_inj) h
theorem dep_all {α : Type} {f : α → NestedKey} {d : Nat} (h : ∀ x, (f x).depth ≤ d) : ∀ l : List α, NestedKey.depthAll (l.map f) ≤ d
  | [] => Nat.zero_le _
  | x :: l => by
    rw [List.map_cons, NestedKey.depthAll]
    exact Nat.max_le.mpr ⟨h x, dep_all h l⟩
theorem dep_kQ (q : Nat × Nat) : (kQ q).depth ≤ 1 := Nat.le_refl _
theorem dep_kM (m : Mono) : (kM m).depth ≤ 2 := by
  have := dep_all dep_kQ m
  show NestedKey.depthAll _ + 1 ≤ 2
  omega
theorem dep_kT (t : Mono × Nat) : (kT t).depth ≤ 3 := by
  have := dep_kM t.1
  show max (kM t.1).depth (max 0 0) + 1 ≤ 3
  omega
theorem dep_kP (p : Terms) : (kP p).depth ≤ 4 := by
  have := dep_all dep_kT p
  show NestedKey.depthAll _ + 1 ≤ 4
  omega
theorem kys_len {H : Hp} : ∀ {ks : List NestedKey} {xs : List V}, Kys H ks xs → ks.length = xs.length
  | _, _, .nil => rfl
  | _, _, .cons _ r => congrArg (· + 1) (kys_len r)
theorem kys_at {H : Hp} : ∀ {ks : List NestedKey} {xs : List V}, Kys H ks xs → ∀ (i : Nat) {k : NestedKey} {x : V}, ks[i]? = some k → xs[i]? = some x → Ky H k x
  | _, _, .cons a r, i, k, x, h1, h2 => by
    rcases i with _ | i
    · cases h1; cases h2; exact a
    · exact kys_at r i h1 h2
theorem kys_of {H : Hp} : ∀ {ks : List NestedKey} {xs : List V}, ks.length = xs.length → (∀ (i : Nat) k x, ks[i]? = some k → xs[i]? = some x → Ky H k x) → Kys H ks xs
  | [], [], _, _ => .nil
  | [], _ :: _, h, _ => by simp at h
  | _ :: _, [], h, _ => by simp at h
  | k :: ks, x :: xs, h, f => .cons (f 0 k x rfl rfl) (kys_of (by simpa using h) fun i k x a b => f (i + 1) k x a b)
theorem kys_app {H : Hp} : ∀ {ks ks' : List NestedKey} {xs xs' : List V}, Kys H ks xs → Kys H ks' xs' → Kys H (ks ++ ks') (xs ++ xs')
  | _, _, _, _, .nil, r => r
  | _, _, _, _, .cons a q, r => .cons a (kys_app q r)
theorem ky_tup {H : Hp} {ks : List NestedKey} {v : V} (h : Ky H (.tup ks) v) : ∃ a xs, v = .ref a ∧ H a = some (.tup xs) ∧ Kys H ks xs := by
  cases h with
  | tup e r => exact ⟨_, _, rfl, e, r⟩
theorem ky_num {H : Hp} {i : Int} {v : V} (h : Ky H (.num i) v) : v = .int i := by cases h; rfl
theorem Ky.sm {H H' : Hp} {k : NestedKey} {v : V} (s : Same H H') (h : Ky H k v) : Ky H' k v := h.keeps fun b ys e => s _ _ e
theorem Ky.frt {H H' : Hp} {k : NestedKey} {v : V} (f : FrT H H') (h : Ky H k v) : Ky H' k v := h.keeps fun b ys e => f.tup e
/-- a pair -/
theorem ky_pair {H : Hp} {k1 k2 : NestedKey} {v : V} (h : Ky H (.tup [k1, k2]) v) : ∃ a x y, v = .ref a ∧ H a = some (.tup [x, y]) ∧ Ky H k1 x ∧ Ky H k2 y := by
  obtain ⟨a, xs, rfl, e, r⟩ := ky_tup h
  cases r with
  | cons q r =>
    cases r with
    | cons q2 r2 =>
      cases r2
      exact ⟨a, _, _, rfl, e, q, q2⟩
/-! ### the same as data -/
mutual
def kD : NestedKey → PyData
  | .none => .none
  | .num i => .int i
  | .text x => .str x
  | .tup ks => .tuple (kDs ks)
def kDs : List NestedKey → List PyData
  | [] => []
  | k :: ks => kD k :: kDs ks
end
mutual
theorem Ky.dp {K : PySem.W.Frag} {H : Hp} : ∀ {k : NestedKey} {v : V}, Ky H k v → Dp K H v (kD k)
  | _, _, .non => .non
  | _, _, .int i => .int i
  | _, _, .str x => .str x
  | _, _, .tup e r => .tup (SqT.of e) (Kys.dp r)
theorem Kys.dp {K : PySem.W.Frag} {H : Hp} : ∀ {ks : List NestedKey} {xs : List V}, Kys H ks xs → DpAll K H xs (kDs ks)
  | _, _, .nil => .nil
  | _, _, .cons a r => .cons (Ky.dp a) (Kys.dp r)
end
mutual
theorem kD_dep : ∀ k : NestedKey, (kD k).depth = k.depth
  | .none => rfl
  | .num _ => rfl
  | .text _ => rfl
  | .tup ks => congrArg (· + 1) (kDs_dep ks)
theorem kDs_dep : ∀ ks : List NestedKey, PyData.depthAll (kDs ks) = NestedKey.depthAll ks
  | [] => rfl
  | k :: ks => by
    show max (kD k).depth (PyData.depthAll (kDs ks)) = max k.depth (NestedKey.depthAll ks)
    rw [kD_dep k, kDs_dep ks]
end
theorem kDs_map {α : Type} (f : α → NestedKey) : ∀ l : List α, kDs (l.map f) = l.map fun x => kD (f x)
  | [] => rfl
  | x :: l => by
    show kD (f x) :: kDs (l.map f) = _
    rw [kDs_map f l]
    rfl
theorem alike_maps {α : Type} {f : α → PyData} (h : ∀ x y, PySem.W.alike (f x) (f y) = true) : ∀ l m : List α, PySem.W.alikeAll (l.map f) (m.map f) = true
  | [], _ => by simp [PySem.W.alikeAll]
  | _ :: _, [] => by simp [PySem.W.alikeAll]
  | x :: l, y :: m => by
    show PySem.W.alikeAll (f x :: l.map f) (f y :: m.map f) = true
    rw [PySem.W.alikeAll, h x y, alike_maps h l m]
    rfl
def dM (m : Mono) : PyData := kD (kM m)
theorem dM_eq (m : Mono) : dM m = .tuple (m.map fun q => kD (kQ q)) := by
  show PyData.tuple (kDs (m.map kQ)) = _
  rw [kDs_map]
theorem alike_kQ (a b : Nat × Nat) : PySem.W.alike (kD (kQ a)) (kD (kQ b)) = true := by
  show PySem.W.alike (.tuple [.int (a.1 : Int), .int (a.2 : Int)]) (.tuple [.int (b.1 : Int), .int (b.2 : Int)]) = true
  simp [PySem.W.alike, PySem.W.alikeAll]
theorem alike_dM (a b : Mono) : PySem.W.alike (dM a) (dM b) = true := by
  rw [dM_eq, dM_eq, PySem.W.alike]
  exact alike_maps alike_kQ a b
mutual
theorem eqv_self : ∀ k : NestedKey, PyData.eqv (kD k) (kD k) = true
  | .none => rfl
  | .num i => by simp [kD, PyData.eqv]
  | .text x => by simp [kD, PyData.eqv]
  | .tup ks => by simpa [kD, PyData.eqv] using eqv_selfs ks
theorem eqv_selfs : ∀ ks : List NestedKey, PyData.eqvAll (kDs ks) (kDs ks) = true
  | [] => rfl
  | k :: ks => by
    show (PyData.eqv (kD k) (kD k) && PyData.eqvAll (kDs ks) (kDs ks)) = true
    rw [eqv_self k, eqv_selfs ks]; rfl
end
mutual
theorem eqv_kD : ∀ k k' : NestedKey, PyData.eqv (kD k) (kD k') = true → k = k'
  | .none, k', h => by cases k' <;> first | rfl | (exact absurd h (by simp [kD, PyData.eqv]))
  | .num i, k', h => by
    cases k' with
    | num j => exact congrArg _ (by simpa [kD, PyData.eqv] using h)
    | _ => exact absurd h (by simp [kD, PyData.eqv])
  | .text x, k', h => by
    cases k' with
    | text y => exact congrArg _ (by simpa [kD, PyData.eqv] using h)
    | _ => exact absurd h (by simp [kD, PyData.eqv])
  | .tup ks, k', h => by
    cases k' with
    | tup ks' => exact congrArg _ (eqv_kDs ks ks' (by simpa [kD, PyData.eqv] using h))
    | _ => exact absurd h (by simp [kD, PyData.eqv])
theorem eqv_kDs : ∀ ks ks' : List NestedKey, PyData.eqvAll (kDs ks) (kDs ks') = true → ks = ks'
  | [], [], _ => rfl
  | [], _ :: _, h => by simp [kDs, PyData.eqvAll] at h
  | _ :: _, [], h => by simp [kDs, PyData.eqvAll] at h
  | k :: ks, k' :: ks', h => by
    have h' : (PyData.eqv (kD k) (kD k') && PyData.eqvAll (kDs ks) (kDs ks')) = true := by simpa [kDs, PyData.eqvAll] using h
    rw [Bool.and_eq_true] at h'
    rw [eqv_kD k k' h'.1, eqv_kDs ks ks' h'.2]
end
/-- the order of monomials -/
def mlt (a b : Mono) : Prop := PySem.W.dataLt (dM a) (dM b) = true
theorem mlt_as (a b : Mono) (h : mlt a b) : ¬ mlt b a := fun z => by
  have := PyProof.Rows.lex_trans (O := PyProof.Rows.itemOrd) _ _ _ h z
  rw [PyProof.Rows.lex_irrefl] at this
  cases this
theorem mlt_of {a b : Mono} (h : PySem.W.dataLt (dM b) (dM a) = false) (ne : a ≠ b) : mlt a b := by
  rcases e : PySem.W.dataLt (dM a) (dM b) with _ | _
  · exact absurd (kM_inj (eqv_kD _ _ (data_tie (alike_dM a b) e h))) ne
  · exact e
theorem terms_lt {a b : Mono} {x y : Int} (h : PySem.W.dataLt (.tuple [dM b, .int y]) (.tuple [dM a, .int x]) = false) (ne : a ≠ b) : mlt a b := by
  rw [PySem.W.dataLt_pair (alike_dM b a) (by simp [PySem.W.alike])] at h
  by_cases c : PyData.eqv (dM b) (dM a) = true
  · exact absurd (kM_inj (eqv_kD _ _ c)).symm ne
  · rw [if_neg c] at h
    exact mlt_of h ne
theorem go_sq {t u : TS} {D : Ends} {σ : L2.St} {H : Hp} (h : t { D with nx := fun σ' H' => u D σ' H' } σ H) : tSeq t u D σ H := h
theorem snew {p : Addr} {H H1 : Hp} {o : HO} (x : Same H H1) (h : H p = none) : Same H (L2.upd H1 p o) := fun b u e => by rw [upd_ne (ne_of_none e h)]; exact x b u e
theorem catT {K : PySem.W.Frag} {H : Hp} {a b : Addr} {xs ys : List V} {Q : VK} (h1 : H a = some (.tup xs)) (h2 : H b = some (.tup ys)) (hl : xs.length + ys.length ≤ 100000) (q : ∀ x H', Same H H' → H' x = some (.tup (xs ++ ys)) → Q (.ref x) H') : rCatA K (.ref a) (.ref b) H Q :=
  ⟨a, b, xs, ys, rfl, rfl, SqT.of h1, SqT.of h2, Nat.le_trans hl (by decide), fun e => q b H (Same.refl _) (by rw [e]; exact h2), fun _ e => q a H (Same.refl _) (by rw [e, List.append_nil]; exact h1), fun _ _ x hx => q x _ (snew (Same.refl _) hx) upd_same⟩
theorem kpg_tup {X : Cx} {K : PySem.W.Frag} {es : List Expr} {k : Nat} {t : TGs} {pos : Pos} (hc : X.calm = true) (h : PGs X es t)
    (hn : (assignEach es X.env).length = es.length := by rfl) (hst : (assignEach es X.env).findIdx? (·.1) = none := by rfl) (hK : X.K = K := by rfl) : PG X (.Tuple es k pos) (gTup K es.length t) := hK ▸ pg_tup hc h hn hst
/-! ### == and != of nested numbers -/
mutual
def numK : NestedKey → Bool
  | .num _ => true
  | .tup ks => numKs ks
  | _ => false
def numKs : List NestedKey → Bool
  | [] => true
  | k :: ks => numK k && numKs ks
end
mutual
theorem lay_num : ∀ k : NestedKey, numK k = true → (kD k).canLay0 = true
  | .num _, _ => rfl
  | .tup ks, h => by
    show PyData.canLayAll0 (kDs ks) = true
    exact lay_nums ks (by simpa [numK] using h)
  | .none, h => by simp [numK] at h
  | .text _, h => by simp [numK] at h
theorem lay_nums : ∀ ks : List NestedKey, numKs ks = true → PyData.canLayAll0 (kDs ks) = true
  | [], _ => rfl
  | k :: ks, h => by
    have h' : (numK k && numKs ks) = true := by simpa [numKs] using h
    rw [Bool.and_eq_true] at h'
    show ((kD k).canLay0 && PyData.canLayAll0 (kDs ks)) = true
    rw [lay_num k h'.1, lay_nums ks h'.2]; rfl
end
theorem numKs_map {α : Type} {f : α → NestedKey} (h : ∀ x, numK (f x) = true) : ∀ l : List α, numKs (l.map f) = true
  | [] => by simp [numKs]
  | x :: l => by
    show numKs (f x :: l.map f) = true
    rw [numKs, h x, numKs_map h l]; rfl
theorem num_kQ (q : Nat × Nat) : numK (kQ q) = true := by simp [kQ, numK, numKs]
theorem num_kM (m : Mono) : numK (kM m) = true := by rw [kM, numK]; exact numKs_map num_kQ m
theorem num_kT (t : Mono × Nat) : numK (kT t) = true := by rw [kT, numK, numKs, num_kM, numKs, numK, numKs]; rfl
theorem num_kP (p : Terms) : numK (kP p) = true := by rw [kP, numK]; exact numKs_map num_kT p
def rNK (neg : Bool) : R2 := fun x y H Q => ∃ k k', Ky H k x ∧ Ky H k' y ∧ numK k = true ∧ numK k' = true ∧ k.depth ≤ 60 ∧ k'.depth ≤ 60 ∧ Q (.bl (if neg then !decide (k = k') else decide (k = k'))) H
theorem eqv_dec (k k' : NestedKey) : PyData.eqv (kD k) (kD k') = decide (k = k') := by
  rcases h : PyData.eqv (kD k) (kD k') with _ | _
  · exact (decide_eq_false fun e => by rw [e, eqv_self] at h; cases h).symm
  · exact (decide_eq_true (eqv_kD _ _ h)).symm
theorem sh_num {k : NestedKey} (h : numK k = true) (d : k.depth ≤ 60) : SeqAt.shaped (kD k) = true := by
  unfold SeqAt.shaped
  rw [lay_num k h, Bool.true_and, kD_dep]
  exact decide_eq_true (by omega)
theorem op_eqNK {X : Cx} (hu : X.A.units + 64 < cLine) : OpR X (compareOp .Eq) (rNK false) := by
  intro pins s σ H x y v u Q I rx ry h
  obtain ⟨k, k', h1, h2, n1, n2, d1, d2, q⟩ := h
  refine op_eqD hu pins s σ H _ _ v u Q I rx ry ⟨kD k, kD k', Ky.dp h1, Ky.dp h2, sh_num n1 d1, sh_num n2 d2, ?_⟩
  rw [eqv_dec]
  exact q
theorem op_neNK {X : Cx} (hu : X.A.units + 64 < cLine) : OpR X (compareOp .NotEq) (rNK true) := by
  intro pins s σ H x y v u Q I rx ry h
  obtain ⟨k, k', h1, h2, n1, n2, d1, d2, q⟩ := h
  refine op_neD hu pins s σ H _ _ v u Q I rx ry ⟨kD k, kD k', Ky.dp h1, Ky.dp h2, sh_num n1 d1, sh_num n2 d2, ?_⟩
  rw [eqv_dec]
  exact q
/-! ### dicts of exponents -/
/-- an int dict holds the exponents of these powers -/
structure ED (H : Hp) (d : Addr) (L : List (Nat × Nat)) : Prop where
  ex_ : ∃ kvs : List (L2.Key × V), H d = some (.dK kvs) ∧ (kvs.map (·.1)).Nodup ∧ kvs.length ≤ L.length ∧ (∀ kv ∈ kvs, ∃ f : Nat, kv.1 = .inl (f : Int)) ∧ ∀ f : Nat, valV kvs (.inl (f : Int)) = if ex L f = 0 then none else some (.int (ex L f : Nat))
theorem ex_app (f : Nat) : ∀ a b : List (Nat × Nat), ex (a ++ b) f = ex a f + ex b f
  | [], b => (Nat.zero_add _).symm
  | (g, d) :: a, b => by
    show (if g = f then d else 0) + ex (a ++ b) f = _
    rw [ex_app f a b, ex, Nat.add_assoc]
theorem val_not {κ : Type} [DecidableEq κ] {kvs : List (κ × V)} {k : κ} (h : valV kvs k = none) : ¬ k ∈ kvs.map (·.1) := by
  intro m
  obtain ⟨p, hp, e⟩ := List.mem_map.mp m
  have q : (kvs.any fun kv => decide (kv.1 = k)) = true := List.any_eq_true.mpr ⟨p, hp, decide_eq_true e⟩
  rw [valV_any, h] at q
  cases q
theorem keys_putK {κ : Type} [DecidableEq κ] (kvs : List (κ × V)) (k : κ) (v : V) : (putK kvs k v).map (·.1) = if (valV kvs k).isSome = true then kvs.map (·.1) else kvs.map (·.1) ++ [k] := by
  unfold putK
  rw [valV_any]
  split
  · rw [List.map_map]
    refine List.map_congr_left fun kv _ => ?_
    show (if kv.1 = k then (kv.1, v) else kv).1 = kv.1
    split <;> rfl
  · rw [List.map_append]; rfl
theorem nd_keys {κ : Type} [DecidableEq κ] {kvs : List (κ × V)} {k : κ} {v : V} (h : (kvs.map (·.1)).Nodup) : ((putK kvs k v).map (·.1)).Nodup := by
  rw [keys_putK]
  rcases e : valV kvs k with _ | w
  · rw [if_neg (by simp)]
    refine List.nodup_append.mpr ⟨h, by simp, fun a ha b hb => ?_⟩
    rw [List.mem_singleton.mp hb]
    exact fun z => val_not e (z ▸ ha)
  · rw [if_pos (by rfl)]; exact h
theorem mem_keys {κ : Type} [DecidableEq κ] {kvs : List (κ × V)} {k : κ} {v : V} {x : κ} (h : x ∈ (putK kvs k v).map (·.1)) : x ∈ kvs.map (·.1) ∨ x = k := by
  rw [keys_putK] at h
  split at h
  · exact .inl h
  · rcases List.mem_append.mp h with h | h
    · exact .inl h
    · exact .inr (List.mem_singleton.mp h)
/-- one power more -/
theorem ed_put {H' : Hp} {d : Addr} {L : List (Nat × Nat)} {kvs : List (L2.Key × V)} {f e : Nat} (he : 1 ≤ e) (n1 : (kvs.map (·.1)).Nodup) (n2 : kvs.length ≤ L.length) (n3 : ∀ kv ∈ kvs, ∃ f : Nat, kv.1 = .inl (f : Int)) (n4 : ∀ f : Nat, valV kvs (.inl (f : Int)) = if ex L f = 0 then none else some (.int (ex L f : Nat)))
    (hd : H' d = some (.dK (putK kvs (.inl (f : Int)) (.int ((ex L f + e : Nat) : Int))))) : ED H' d (L ++ [(f, e)]) := by
  refine ⟨_, hd, nd_keys n1, ?_, fun kv hk => ?_, fun g => ?_⟩
  · have := length_putK kvs (.inl (f : Int)) (.int ((ex L f + e : Nat) : Int))
    rw [List.length_append, List.length_singleton]; omega
  · rcases mem_keys (List.mem_map.mpr ⟨kv, hk, rfl⟩) with h | h
    · obtain ⟨kv', h1, h2⟩ := List.mem_map.mp h
      rw [← h2]
      exact n3 kv' h1
    · exact ⟨f, h⟩
  · rw [valV_put, ex_app, ex, ex]
    by_cases c : g = f
    · subst c
      rw [if_pos rfl, if_pos rfl, if_neg (by omega)]
      congr 3
    · have c' : ¬ f = g := fun z => c z.symm
      rw [if_neg (fun z => c (by injection z with z; omega)), n4 g, if_neg c', Nat.add_zero]
theorem ED.fr {H H' : Hp} {d : Addr} {L : List (Nat × Nat)} (x : ED H d L) (h : ∀ o, H d = some o → H' d = some o) : ED H' d L := let ⟨kvs, e, r⟩ := x.ex_; ⟨kvs, h _ e, r⟩
def kvD : L2.Key → PyData
  | .inl i => .int i
  | .inr x => .str x
def vD : V → PyData
  | .int i => .int i
  | _ => .none
def natK : L2.Key → Nat
  | .inl i => i.toNat
  | _ => 0
def natW : V → Nat
  | .int i => i.toNat
  | _ => 0
def mq (z : (V × V) × (PyData × PyData)) : Nat × Nat := (natW z.1.1, natW z.1.2)
theorem val_at {κ : Type} [DecidableEq κ] : ∀ {kvs : List (κ × V)} {kv : κ × V}, (kvs.map (·.1)).Nodup → kv ∈ kvs → valV kvs kv.1 = some kv.2
  | p :: kvs, kv, nd, h => by
    obtain ⟨n1, n2⟩ := List.nodup_cons.mp (show (p.1 :: kvs.map (·.1)).Nodup from nd)
    rcases List.mem_cons.mp h with rfl | h
    · exact valV_pos rfl
    · rw [valV_neg fun e => n1 (by rw [e]; exact List.mem_map.mpr ⟨kv, h, rfl⟩)]
      exact val_at n2 h
theorem val_mem {κ : Type} [DecidableEq κ] : ∀ {kvs : List (κ × V)} {k : κ} {v : V}, valV kvs k = some v → (k, v) ∈ kvs
  | [], _, _, h => by simp [valV_nil] at h
  | p :: kvs, k, v, h => by
    by_cases e : p.1 = k
    · rw [valV_pos e] at h
      cases h
      exact List.mem_cons.mpr (.inl (by rw [← e]))
    · rw [valV_neg e] at h
      exact List.mem_cons_of_mem _ (val_mem h)
theorem ex_at {f e : Nat} : ∀ {L : List (Nat × Nat)}, (L.map (·.1)).Nodup → (f, e) ∈ L → ex L f = e
  | (g, d) :: L, nd, h => by
    obtain ⟨n1, n2⟩ := List.nodup_cons.mp (show (g :: L.map (·.1)).Nodup from nd)
    rcases List.mem_cons.mp h with z | h
    · cases z
      rw [ex, if_pos rfl, ex_zero (fun x hx (e : x.1 = f) => n1 (by rw [← e]; exact List.mem_map.mpr ⟨x, hx, rfl⟩)), Nat.add_zero]
    · rw [ex, if_neg (fun (z : g = f) => n1 (by rw [z]; exact List.mem_map.mpr ⟨(f, e), h, rfl⟩)), Nat.zero_add, ex_at n2 h]
/-- sorted items of a dict of exponents: the monomial -/
theorem ed_sorted {P : Program} {w : World} {K : PySem.W.Frag} {H : Hp} {v d : Addr} {L : List (Nat × Nat)} {Q : VK} (hv : H v = some (L2.DX.itemsO v d)) (x : ED H d L) (q : ∀ H' l (ts : List Addr) (m : Mono), (∀ b o, H b = some o → H' b = some o) → H l = none → H' l = some (.lst (ts.map V.ref)) → Kys H' (m.map kQ) (ts.map V.ref) → MCan m → (∀ f, ex m f = ex L f) → m.length ≤ L.length → Q (.ref l) H') :
    rSortItems P w K [.ref v] H Q := by
  obtain ⟨kvs, e, nd, len, ks, vs⟩ := x.ex_
  have val : ∀ kv ∈ kvs, ∃ f e : Nat, kv = (.inl (f : Int), .int (e : Int)) ∧ 1 ≤ e ∧ ex L f = e := fun kv hk => by
    obtain ⟨f, hf⟩ := ks kv hk
    have h1 : valV kvs kv.1 = some kv.2 := val_at nd hk
    rw [hf, vs f] at h1
    split at h1
    · cases h1
    · rename_i c
      refine ⟨f, ex L f, Prod.ext hf (Option.some.inj h1).symm, by omega, rfl⟩
  refine ⟨v, d, kvs.map fun kv => ((kV kv.1, kv.2), (kvD kv.1, vD kv.2)), rfl, hv, .inr ⟨kvs, .inl e, by rw [List.map_map]; rfl⟩, fun z hz => ?_, ⟨fun x hx y hy => ?_, .inl fun x hx => ?_⟩, fun H' l ts fr pt st hl el et => ?_⟩
  · obtain ⟨kv, hk, rfl⟩ := List.mem_map.mp hz
    obtain ⟨f, e, rfl, _⟩ := val kv hk
    exact ⟨.int _, .int _, (show max 0 (max 0 0) + 1 ≤ 60 by decide)⟩
  · rw [List.map_map] at hx hy
    obtain ⟨kv, hk, rfl⟩ := List.mem_map.mp hx
    obtain ⟨kv', hk', rfl⟩ := List.mem_map.mp hy
    obtain ⟨f, e, rfl, _⟩ := val kv hk
    obtain ⟨f', e', rfl, _⟩ := val kv' hk'
    exact alike_kQ (f, e) (f', e')
  · rw [List.map_map] at hx
    obtain ⟨kv, hk, rfl⟩ := List.mem_map.mp hx
    exact ⟨_, rfl⟩
  · have src : ∀ z ∈ ts, ∃ f e : Nat, z.2 = ((.int (f : Int), .int (e : Int)), (.int (f : Int), .int (e : Int))) ∧ 1 ≤ e ∧ ex L f = e ∧ ((.inl (f : Int), .int (e : Int)) : L2.Key × V) ∈ kvs := fun z hz => by
      obtain ⟨kv, hk, ez⟩ := List.mem_map.mp (pt.mem_iff.mp (List.mem_map.mpr ⟨z, hz, rfl⟩))
      obtain ⟨f, e, rfl, h1, h2⟩ := val kv hk
      exact ⟨f, e, ez.symm, h1, h2, hk⟩
    have nat : ∀ z ∈ ts, ∃ f e : Nat, mq z.2 = (f, e) ∧ z.2.1 = (.int (f : Int), .int (e : Int)) ∧ z.2.2 = (.int (f : Int), .int (e : Int)) ∧ 1 ≤ e ∧ ex L f = e := fun z hz => by
      obtain ⟨f, e, h1, h2, h3, _⟩ := src z hz
      exact ⟨f, e, by rw [h1]; rfl, by rw [h1], by rw [h1], h2, h3⟩
    have zl : ts.length = kvs.length := by have := pt.length_eq; rw [List.length_map, List.length_map] at this; exact this
    have ndk : (ts.map fun z => (mq z.2).1).Nodup := by
      have h1 : (kvs.map fun kv => natK kv.1).Nodup := by
        refine List.Pairwise.map (R := fun a b => a.1 ≠ b.1 ∧ a ∈ kvs ∧ b ∈ kvs) _ (fun a b ⟨h, ha, hb⟩ e => ?_) ((List.Pairwise.and_mem.mp (List.pairwise_map.mp nd)).imp fun ⟨h1, h2, h3⟩ => ⟨h3, h1, h2⟩)
        obtain ⟨f, hf⟩ := ks a ha
        obtain ⟨g, hg⟩ := ks b hb
        rw [hf, hg] at e
        have : f = g := by
          have e' : ((f : Int)).toNat = ((g : Int)).toNat := e
          omega
        exact h (by rw [hf, hg, this])
      have h2 := pt.map fun z : (V × V) × (PyData × PyData) => (mq z).1
      rw [List.map_map, List.map_map] at h2
      have e3 : (kvs.map ((fun z : (V × V) × (PyData × PyData) => (mq z).1) ∘ fun kv : L2.Key × V => ((kV kv.1, kv.2), (kvD kv.1, vD kv.2)))) = kvs.map fun kv => natK kv.1 := List.map_congr_left fun kv hk => by
        obtain ⟨f, hf⟩ := ks kv hk
        show natW (kV kv.1) = natK kv.1
        rw [hf]
        rfl
      rw [e3] at h2
      exact h2.nodup_iff.mpr h1
    refine q H' l (ts.map (·.1)) (ts.map fun z => mq z.2) fr hl (by rw [el, List.map_map]; rfl) ?_ ⟨?_, fun x hx => ?_⟩ (fun f => ?_) ?_
    · rw [List.map_map, List.map_map]
      refine kys_of (by rw [List.length_map, List.length_map]) fun i k x hk hx => ?_
      rw [List.getElem?_map] at hk hx
      obtain ⟨z, hz, rfl⟩ := Option.map_eq_some_iff.mp hk
      rw [hz] at hx
      cases hx
      have zm := List.mem_of_getElem? hz
      obtain ⟨f, e, h1, h2, _⟩ := nat z zm
      have h5 := et z zm
      rw [h2] at h5
      show Ky H' (kQ (mq z.2)) (.ref z.1)
      rw [h1]
      exact .tup h5 (.cons (.int _) (.cons (.int _) .nil))
    · have hp := List.pairwise_map.mp ndk
      refine List.pairwise_map.mpr (List.Pairwise.imp_of_mem (fun {a b} ha hb h => ?_) (List.Pairwise.and st hp))
      obtain ⟨f, e, h1, _, h2, _⟩ := nat a ha
      obtain ⟨g, e', h3, _, h4, _⟩ := nat b hb
      obtain ⟨hs, hn⟩ := h
      rw [h1, h3] at hn ⊢
      rw [h2, h4, PySem.W.dataLt_ii] at hs
      have := of_decide_eq_false hs
      have hn' : f ≠ g := hn
      show f < g
      omega
    · obtain ⟨z, hz, rfl⟩ := List.mem_map.mp hx
      obtain ⟨f, e, h1, _, _, h2, _⟩ := nat z hz
      rw [h1]
      exact h2
    · by_cases c : ex L f = 0
      · rw [c]
        refine ex_zero fun x hx e => ?_
        obtain ⟨z, hz, rfl⟩ := List.mem_map.mp hx
        obtain ⟨g, e', h1, _, _, h2, h3⟩ := nat z hz
        rw [h1] at e
        have e : g = f := e
        subst e
        omega
      · have hv := vs f
        rw [if_neg c] at hv
        have hm : ((.inl (f : Int), .int ((ex L f : Nat) : Int)) : L2.Key × V) ∈ kvs := val_mem hv
        have : ((kV (.inl (f : Int)), V.int ((ex L f : Nat) : Int)), (kvD (.inl (f : Int)), vD (.int ((ex L f : Nat) : Int)))) ∈ ts.map (·.2) := pt.mem_iff.mpr (List.mem_map.mpr ⟨_, hm, rfl⟩)
        obtain ⟨z, hz, ez⟩ := List.mem_map.mp this
        exact ex_at (by rw [List.map_map]; exact ndk) (List.mem_map.mpr ⟨z, hz, by unfold mq; rw [ez]; rfl⟩)
    · rw [List.length_map, zl]; exact len

/-! ### dicts of terms -/
/-- a dict with monomials as keys holds the sums of the coefficients of these terms -/
structure PD (P : Program) (w : World) (H : Hp) (d : Addr) (L : Terms) : Prop where
  ex_ : ∃ kvs : List (NestedKey × V), ND.At P w H d kvs ∧ (kvs.map (·.1)).Nodup ∧ kvs.length ≤ L.length ∧ (∀ kv ∈ kvs, ∃ m : Mono, MCan m ∧ kv.1 = kM m) ∧ ∀ m : Mono, valV kvs (kM m) = if coef L m = 0 then none else some (.int (coef L m : Nat))
  mc : ∀ x ∈ L, MCan x.1
theorem PD.nil {P : Program} {w : World} {H : Hp} {d : Addr} (h : ND.At P w H d []) : PD P w H d [] := ⟨⟨[], h, List.nodup_nil, Nat.le_refl _, fun _ h => (nomatch h), fun m => rfl⟩, fun _ h => (nomatch h)⟩
theorem PD.keeps {P : Program} {w : World} {H H' : Hp} {d : Addr} {L : Terms} (x : PD P w H d L) (ha : ∀ u, H d = some u → H' d = some u) (ht : ∀ b ys, H b = some (.tup ys) → H' b = some (.tup ys)) : PD P w H' d L :=
  let ⟨kvs, e, r⟩ := x.ex_; ⟨⟨kvs, e.keeps ha ht, r⟩, x.mc⟩
theorem pd_put {P : Program} {w : World} {H' : Hp} {d : Addr} {L : Terms} {kvs : List (NestedKey × V)} {m : Mono} {c : Nat} (hc : 1 ≤ c) (hm : MCan m) (hL : ∀ x ∈ L, MCan x.1) (n1 : (kvs.map (·.1)).Nodup) (n2 : kvs.length ≤ L.length) (n3 : ∀ kv ∈ kvs, ∃ m : Mono, MCan m ∧ kv.1 = kM m)
    (n4 : ∀ m : Mono, valV kvs (kM m) = if coef L m = 0 then none else some (.int (coef L m : Nat))) (hd : ND.At P w H' d (putK kvs (kM m) (.int ((coef L m + c : Nat) : Int)))) : PD P w H' d (L ++ [(m, c)]) := by
  refine ⟨⟨_, hd, nd_keys n1, ?_, fun kv hk => ?_, fun n => ?_⟩, fun x hx => ?_⟩
  · have := length_putK kvs (kM m) (.int ((coef L m + c : Nat) : Int))
    rw [List.length_append, List.length_singleton]; omega
  · rcases mem_keys (List.mem_map.mpr ⟨kv, hk, rfl⟩) with h | h
    · obtain ⟨kv', h1, h2⟩ := List.mem_map.mp h
      rw [← h2]
      exact n3 kv' h1
    · exact ⟨m, hm, h⟩
  · rw [valV_put, coef_app, coef, coef]
    by_cases e : n = m
    · subst e
      rw [if_pos rfl, if_pos rfl, if_neg (by omega)]
      congr 3
    · have e' : ¬ m = n := fun z => e z.symm
      rw [if_neg (fun z => e (kM_inj z)), n4 n, if_neg e', Nat.add_zero]
  · rcases List.mem_append.mp hx with h | h
    · exact hL x h
    · rw [List.mem_singleton.mp h]; exact hm
theorem coef_tot (m : Mono) : ∀ L : Terms, coef L m ≤ (L.map (·.2)).sum
  | [] => Nat.le_refl _
  | (n, c) :: L => by
    have := coef_tot m L
    show (if n = m then c else 0) + coef L m ≤ c + (L.map (·.2)).sum
    split <;> omega
/-- the whole of the coefficients -/
def tot (L : Terms) : Nat := (L.map (·.2)).sum
theorem tot_sum : ∀ L : Terms, (tot L : Int) = sumL (fun _ => 1) L
  | [] => rfl
  | (m, c) :: L => by
    show ((c + tot L : Nat) : Int) = (c : Int) * 1 + sumL (fun _ => 1) L
    rw [← tot_sum L, Int.natCast_add, Int.mul_one]
theorem tot_of {L L' : Terms} (h : ∀ m, coef L m = coef L' m) : tot L = tot L' := by
  have := linear (fun _ => 1) h
  rw [← tot_sum, ← tot_sum] at this
  omega
theorem tot_app (a b : Terms) : tot (a ++ b) = tot a + tot b := by unfold tot; rw [List.map_append, List.sum_append]
theorem tot_tmul (a b : Terms) : tot (tmul a b) = tot a * tot b := by
  have e : ∀ m : Mono, ev (fun _ => 1) m = 1 := fun m => by
    induction m with
    | nil => rfl
    | cons x m ih => obtain ⟨f, e⟩ := x; rw [ev, ih, Int.one_pow, Int.one_mul]
  have h := val_tmul (fun _ => 1) a b
  have e2 : ev (fun _ => 1) = fun _ : Mono => (1 : Int) := funext e
  rw [e2, ← tot_sum, ← tot_sum, ← tot_sum] at h
  have : ((tot (tmul a b) : Nat) : Int) = ((tot a * tot b : Nat) : Int) := by rw [h, Int.natCast_mul]
  omega
theorem tot_mem {L : Terms} {x : Mono × Nat} (h : x ∈ L) : x.2 ≤ tot L := by
  unfold tot
  induction L with
  | nil => cases h
  | cons y L ih =>
    rw [List.map_cons, List.sum_cons]
    rcases List.mem_cons.mp h with rfl | h
    · omega
    · have := ih h; omega
theorem tmul_len (a b : Terms) : (tmul a b).length = a.length * b.length := by
  induction a with
  | nil => exact (Nat.zero_mul _).symm
  | cons x a ih =>
    show ((b.map fun y => (mmul x.1 y.1, x.2 * y.2)) ++ tmul a b).length = _
    rw [List.length_append, List.length_map, ih, List.length_cons, Nat.succ_mul, Nat.add_comm]
/-- terms whose monomials are canonical, with coefficients from 1 on -/
structure TOk (L : Terms) : Prop where
  mc : ∀ x ∈ L, MCan x.1
  pos : ∀ x ∈ L, 1 ≤ x.2
theorem TOk.app {a b : Terms} (ha : TOk a) (hb : TOk b) : TOk (a ++ b) := ⟨fun x h => (List.mem_append.mp h).elim (ha.mc x) (hb.mc x), fun x h => (List.mem_append.mp h).elim (ha.pos x) (hb.pos x)⟩
theorem TOk.mul {a b : Terms} (ha : TOk a) (hb : TOk b) : TOk (tmul a b) := by
  have src : ∀ x ∈ tmul a b, ∃ u ∈ a, ∃ v ∈ b, x = (mmul u.1 v.1, u.2 * v.2) := fun x h => by
    obtain ⟨u, h1, h2⟩ := List.mem_flatMap.mp h
    obtain ⟨v, h3, h4⟩ := List.mem_map.mp h2
    exact ⟨u, h1, v, h3, h4.symm⟩
  refine ⟨fun x h => ?_, fun x h => ?_⟩
  · obtain ⟨u, h1, v, h2, rfl⟩ := src x h
    exact mmul_can (ha.mc u h1) (hb.mc v h2)
  · obtain ⟨u, h1, v, h2, rfl⟩ := src x h
    exact Nat.mul_le_mul (ha.pos u h1) (hb.pos v h2)
abbrev PC (p : Terms) : Prop := PCan mlt p
theorem PM.PCan.ok {p : Terms} (h : PC p) : TOk p := ⟨h.mc, h.pos⟩
/-- sorted items of a dict of terms: the polynomial -/
theorem pd_sorted {P : Program} {w : World} {K : PySem.W.Frag} {H : Hp} {v d : Addr} {L : Terms} {Q : VK} (hv : H v = some (L2.DX.itemsO v d)) (x : PD P w H d L) (q : ∀ H' l (ts : List Addr) (p : Terms), (∀ b o, H b = some o → H' b = some o) → H l = none → H' l = some (.lst (ts.map V.ref)) → Kys H' (p.map kT) (ts.map V.ref) → PC p → (∀ m, coef p m = coef L m) → p.length ≤ L.length → Q (.ref l) H') :
    rSortItems P w K [.ref v] H Q := by
  obtain ⟨kvs, ⟨es, he, hk, ekv⟩, nd, len, ks, vs⟩ := x.ex_
  have val : ∀ e ∈ es, ∃ (m : Mono) (c : Nat), e = (kM m, e.2.1, .int (c : Int)) ∧ MCan m ∧ 1 ≤ c ∧ coef L m = c ∧ Ky H (kM m) (.ref e.2.1) ∧ (kM m, V.int (c : Int)) ∈ kvs := fun e hm => by
    have hkv : (e.1, e.2.2) ∈ kvs := by rw [ekv]; exact List.mem_map.mpr ⟨e, hm, rfl⟩
    obtain ⟨m, mc, ek⟩ := ks _ hkv
    have ek : e.1 = kM m := ek
    have h1 : valV kvs e.1 = some e.2.2 := val_at nd hkv
    rw [ek, vs m] at h1
    have hky := (hk e hm).1
    rw [ek] at hky
    split at h1
    · cases h1
    · rename_i c
      have ev := (Option.some.inj h1).symm
      rw [ev, ek] at hkv
      exact ⟨m, coef L m, Prod.ext ek (Prod.ext rfl ev), mc, by omega, rfl, hky, hkv⟩
  have memk : ∀ m, coef L m ≠ 0 → ∃ e ∈ es, e.1 = kM m ∧ e.2.2 = .int (coef L m : Nat) := fun m hm => by
    have hv := vs m
    rw [if_neg hm] at hv
    have := val_mem hv
    rw [ekv] at this
    obtain ⟨e, h1, h2⟩ := List.mem_map.mp this
    exact ⟨e, h1, congrArg Prod.fst h2, congrArg Prod.snd h2⟩
  have ndE : (es.map (·.1)).Nodup := by
    rw [ekv] at nd
    unfold ND.kvOf at nd
    rw [List.map_map] at nd
    exact nd
  have lenE : es.length ≤ L.length := by
    rw [ekv] at len
    unfold ND.kvOf at len
    rw [List.length_map] at len
    exact len
  generalize hg : (fun e : NestedKey × Addr × V => (((V.ref e.2.1, e.2.2), (kD e.1, vD e.2.2)) : (V × V) × (PyData × PyData))) = g
  have gE : ∀ e, g e = ((V.ref e.2.1, e.2.2), (kD e.1, vD e.2.2)) := fun e => by rw [← hg]
  refine ⟨v, d, es.map g, rfl, hv, .inl ⟨es, .inl he, by rw [List.map_map]; exact List.map_congr_left fun e _ => by show (g e).1 = _; rw [gE]⟩, fun z hz => ?_, ⟨fun x hx y hy => ?_, .inl fun x hx => ?_⟩, fun H' l ts fr pt st hl el et => ?_⟩
  · obtain ⟨e, hm, rfl⟩ := List.mem_map.mp hz
    obtain ⟨m, c, e1, _, _, _, hky, _⟩ := val e hm
    rw [gE, e1]
    refine ⟨Ky.dp hky, .int _, ?_⟩
    show max (kD (kM m)).depth (max 0 0) + 1 ≤ 60
    rw [kD_dep]
    have := dep_kM m
    omega
  · rw [List.map_map] at hx hy
    obtain ⟨e, hm, rfl⟩ := List.mem_map.mp hx
    obtain ⟨e', hm', rfl⟩ := List.mem_map.mp hy
    obtain ⟨m, c, e1, _⟩ := val e hm
    obtain ⟨m', c', e2, _⟩ := val e' hm'
    show PySem.W.alike (.tuple [(g e).2.1, (g e).2.2]) (.tuple [(g e').2.1, (g e').2.2]) = true
    rw [gE, gE, e1, e2]
    show PySem.W.alike (.tuple [dM m, .int (c : Int)]) (.tuple [dM m', .int (c' : Int)]) = true
    rw [PySem.W.alike, PySem.W.alikeAll, alike_dM, PySem.W.alikeAll, PySem.W.alikeAll]
    simp [PySem.W.alike]
  · rw [List.map_map] at hx
    obtain ⟨e, hm, rfl⟩ := List.mem_map.mp hx
    exact ⟨_, rfl⟩
  · have src : ∀ z ∈ ts, ∃ e ∈ es, z.2 = g e := fun z hz => by
      obtain ⟨e, hm, ez⟩ := List.mem_map.mp (pt.mem_iff.mp (List.mem_map.mpr ⟨z, hz, rfl⟩))
      exact ⟨e, hm, ez.symm⟩
    have pick : ∀ z : Addr × ((V × V) × (PyData × PyData)), ∃ t : Mono × Nat, z ∈ ts → ∃ e ∈ es, z.2 = g e ∧ e.1 = kM t.1 ∧ e.2.2 = .int (t.2 : Int) ∧ MCan t.1 ∧ 1 ≤ t.2 ∧ coef L t.1 = t.2 ∧ Ky H (kM t.1) (.ref e.2.1) := fun z => by
      by_cases hz : z ∈ ts
      · obtain ⟨e, hm, ez⟩ := src z hz
        obtain ⟨m, c, e1, h1, h2, h3, h4, _⟩ := val e hm
        exact ⟨(m, c), fun _ => ⟨e, hm, ez, congrArg Prod.fst e1, congrArg (fun x => x.2.2) e1, h1, h2, h3, h4⟩⟩
      · exact ⟨([], 0), fun h => absurd h hz⟩
    obtain ⟨tm, htm⟩ := Classical.axiomOfChoice pick
    have zl : ts.length = es.length := by have := pt.length_eq; rw [List.length_map, List.length_map] at this; exact this
    have ndk : (ts.map fun z => (tm z).1).Nodup := by
      have h2 := pt.map fun z : (V × V) × (PyData × PyData) => z.2.1
      rw [List.map_map, List.map_map] at h2
      have h1 : (es.map fun e => kD e.1).Nodup := by
        refine List.Pairwise.map (R := fun a b => a.1 ≠ b.1 ∧ a ∈ es ∧ b ∈ es) _ (fun a b ⟨h, ha, hb⟩ e => ?_) ((List.Pairwise.and_mem.mp (List.pairwise_map.mp ndE)).imp fun ⟨h1, h2, h3⟩ => ⟨h3, h1, h2⟩)
        obtain ⟨m, _, e1, _⟩ := val a ha
        obtain ⟨n, _, e2, _⟩ := val b hb
        have i1 : a.1 = kM m := congrArg Prod.fst e1
        have i2 : b.1 = kM n := congrArg Prod.fst e2
        have e : kD a.1 = kD b.1 := e
        have := eqv_kD a.1 b.1 (by rw [e]; exact eqv_self _)
        exact h this
      have e3 : (es.map ((fun z : (V × V) × (PyData × PyData) => z.2.1) ∘ g)) = es.map fun e => kD e.1 := List.map_congr_left fun e _ => by
        show (g e).2.1 = _
        rw [gE]
      rw [e3] at h2
      have h3 := h2.nodup_iff.mpr h1
      have h4 := List.pairwise_map.mp h3
      refine List.pairwise_map.mpr (List.Pairwise.imp_of_mem (fun {a b} ha hb h e => ?_) h4)
      obtain ⟨ea, _, za, ka, _⟩ := htm a ha
      obtain ⟨eb, _, zb, kb, _⟩ := htm b hb
      refine h ?_
      show a.2.2.1 = b.2.2.1
      rw [za, zb, gE, gE, ka, kb, e]
    refine q H' l (ts.map (·.1)) (ts.map tm) fr hl (by rw [el, List.map_map]; rfl) ?_ ⟨?_, fun x hx => ?_, fun x hx => ?_⟩ (fun m => ?_) ?_
    · rw [List.map_map, List.map_map]
      refine kys_of (by rw [List.length_map, List.length_map]) fun i k x hk hx => ?_
      rw [List.getElem?_map] at hk hx
      obtain ⟨z, hz, rfl⟩ := Option.map_eq_some_iff.mp hk
      rw [hz] at hx
      cases hx
      have zm := List.mem_of_getElem? hz
      obtain ⟨e, _, ze, ke, ve, _, _, _, hky⟩ := htm z zm
      have h5 := et z zm
      rw [ze, gE] at h5
      show Ky H' (kT (tm z)) (.ref z.1)
      refine .tup h5 (.cons (hky.keeps fun b ys h => fr _ _ h) (.cons ?_ .nil))
      show Ky H' (.num ((tm z).2 : Int)) e.2.2
      rw [ve]
      exact .int _
    · refine List.pairwise_map.mpr (List.Pairwise.imp_of_mem (fun {a b} ha hb h => ?_) (List.Pairwise.and st (List.pairwise_map.mp ndk)))
      obtain ⟨ea, _, za, ka, va, _⟩ := htm a ha
      obtain ⟨eb, _, zb, kb, vb, _⟩ := htm b hb
      obtain ⟨hs, hn⟩ := h
      rw [za, zb, gE, gE, ka, kb, va, vb] at hs
      exact terms_lt hs hn
    · obtain ⟨z, hz, rfl⟩ := List.mem_map.mp hx
      obtain ⟨_, _, _, _, _, h, _⟩ := htm z hz
      exact h
    · obtain ⟨z, hz, rfl⟩ := List.mem_map.mp hx
      obtain ⟨_, _, _, _, _, _, h, _⟩ := htm z hz
      exact h
    · have nd2 : ((ts.map tm).map (·.1)).Nodup := by rw [List.map_map]; exact ndk
      by_cases c : coef L m = 0
      · rw [c]
        refine coef_none fun x hx e => ?_
        obtain ⟨z, hz, rfl⟩ := List.mem_map.mp hx
        obtain ⟨_, _, _, _, _, _, h1, h2, _⟩ := htm z hz
        rw [e, c] at h2
        omega
      · obtain ⟨e, hm, ek, ev⟩ := memk m c
        obtain ⟨z, hz, ez⟩ := List.mem_map.mp (pt.mem_iff.mpr (List.mem_map.mpr ⟨e, hm, rfl⟩))
        obtain ⟨e', _, ze, ke, ve, _, _, h3, _⟩ := htm z hz
        have ez : z.2 = g e := ez
        have e1 : kD e.1 = kD e'.1 := by
          have : (g e).2.1 = (g e').2.1 := by rw [← ez, ← ze]
          rw [gE, gE] at this
          exact this
        have e2 := eqv_kD e.1 e'.1 (by rw [e1]; exact eqv_self _)
        have em : m = (tm z).1 := kM_inj (by rw [← ek, e2, ke])
        rw [em, h3]
        exact coef_at nd2 (List.mem_map.mpr ⟨z, hz, rfl⟩)
    · rw [List.length_map, zl]; exact lenE
end PK

set_option Elab.async false
set_option linter.all false
set_option maxRecDepth 100000
set_option maxHeartbeats 4000000
/-! all(..), any(..) whose turns may end it; tables of any form. -/
namespace Tb
open PySem PySem.Spec PyProof.Rows L2 Ew EwG GxR
theorem ne_not {a e : Bool} (h : a ≠ e) : a = !e := by cases a <;> cases e <;> simp_all
theorem gwb_rng {n k : Nat} {te : TE} {vs : List Nat} {σ : L2.St} {e : Bool} {Q : VK} {H2 : Hp} (b : Nat → Bool) (hw : ∀ x, wipe ((wipe σ vs).set k (some x)) vs = wipe σ vs)
    (hs : ∀ (i : Nat) (Kt : VK), i < n → Kt (.bl (b i)) H2 → te ((wipe σ vs).set k (some (.int (i : Int)))) H2 Kt) (hd : (∀ i, i < n → b i = e) → Q (.bl e) H2) (hx : ∀ i, i < n → b i = (!e) → Q (.bl (!e)) H2) :
    ∃ W : Nat → Nat → Hp → Prop, (∃ m, W 0 m H2) ∧ GW (Itr 0 n) (gName k) te vs σ e Q W := by
  refine ⟨fun i m H => m = n - i ∧ i ≤ n ∧ H = H2 ∧ ∀ j, j < i → b j = e, ⟨n, by simp, Nat.zero_le _, rfl, fun j h => absurd h (Nat.not_lt_zero _)⟩, ?_⟩
  rintro i m H ⟨rfl, hi, rfl, ha⟩
  by_cases hlt : i < n
  · refine .inr ⟨hlt, fun x H' y => ?_⟩
    obtain ⟨e1, y⟩ := y
    subst e1 y
    refine ⟨hw _, ?_⟩
    rw [Int.zero_add]
    refine hs i _ hlt ⟨b i, rfl, fun z => ⟨n - (i + 1), by omega, rfl, hlt, rfl, fun j hj => ?_⟩, fun z => ?_⟩
    · by_cases h : j < i
      · exact ha j h
      · rw [show j = i by omega]; exact z
    · have z' := ne_not z
      rw [z']
      exact hx i hlt z'
  · have e1 : i = n := by omega
    subst e1
    exact .inl ⟨Nat.le_refl _, hd ha⟩
theorem gwb_tup {K : PySem.W.Frag} {L : Addr} {xs : List V} {k : Nat} {te : TE} {vs : List Nat} {σ : L2.St} {e : Bool} {Q : VK} {H2 : Hp} (b : Nat → Bool) (hL : SqT K H2 L xs) (hw : ∀ x, wipe ((wipe σ vs).set k (some x)) vs = wipe σ vs)
    (hs : ∀ (i : Nat) (x : V) (Kt : VK), xs[i]? = some x → Kt (.bl (b i)) H2 → te ((wipe σ vs).set k (some x)) H2 Kt) (hd : (∀ i, i < xs.length → b i = e) → Q (.bl e) H2) (hx : ∀ i, i < xs.length → b i = (!e) → Q (.bl (!e)) H2) :
    ∃ W : Nat → Nat → Hp → Prop, (∃ m, W 0 m H2) ∧ GW (Itt K L) (gName k) te vs σ e Q W := by
  refine ⟨fun i m H => m = xs.length - i ∧ i ≤ xs.length ∧ H = H2 ∧ ∀ j, j < i → b j = e, ⟨xs.length, by simp, Nat.zero_le _, rfl, fun j h => absurd h (Nat.not_lt_zero _)⟩, ?_⟩
  rintro i m H ⟨rfl, hi, rfl, ha⟩
  by_cases hlt : i < xs.length
  · refine .inr ⟨⟨xs, xs[i], hL, by simp [hlt]⟩, fun x H' y => ?_⟩
    obtain ⟨e1, y⟩ := y
    subst e1
    refine ⟨hw _, ?_⟩
    refine hs i x _ (y xs hL) ⟨b i, rfl, fun z => ⟨xs.length - (i + 1), by omega, rfl, hlt, rfl, fun j hj => ?_⟩, fun z => ?_⟩
    · by_cases h : j < i
      · exact ha j h
      · rw [show j = i by omega]; exact z
    · have z' := ne_not z
      rw [z']
      exact hx i hlt z'
  · have e1 : i = xs.length := by omega
    subst e1
    exact .inl ⟨⟨xs, hL, Nat.le_refl _⟩, hd ha⟩
theorem gwb_lst {K : PySem.W.Frag} {L : Addr} {xs : List V} {k : Nat} {te : TE} {vs : List Nat} {σ : L2.St} {e : Bool} {Q : VK} {H2 : Hp} (b : Nat → Bool) (hL : SqL K H2 L xs) (hw : ∀ x, wipe ((wipe σ vs).set k (some x)) vs = wipe σ vs)
    (hs : ∀ (i : Nat) (x : V) (Kt : VK), xs[i]? = some x → Kt (.bl (b i)) H2 → te ((wipe σ vs).set k (some x)) H2 Kt) (hd : (∀ i, i < xs.length → b i = e) → Q (.bl e) H2) (hx : ∀ i, i < xs.length → b i = (!e) → Q (.bl (!e)) H2) :
    ∃ W : Nat → Nat → Hp → Prop, (∃ m, W 0 m H2) ∧ GW (Itl K L) (gName k) te vs σ e Q W := by
  refine ⟨fun i m H => m = xs.length - i ∧ i ≤ xs.length ∧ H = H2 ∧ ∀ j, j < i → b j = e, ⟨xs.length, by simp, Nat.zero_le _, rfl, fun j h => absurd h (Nat.not_lt_zero _)⟩, ?_⟩
  rintro i m H ⟨rfl, hi, rfl, ha⟩
  by_cases hlt : i < xs.length
  · refine .inr ⟨⟨xs, xs[i], hL, by simp [hlt]⟩, fun x H' y => ?_⟩
    obtain ⟨e1, y⟩ := y
    subst e1
    refine ⟨hw _, ?_⟩
    refine hs i x _ (y xs hL) ⟨b i, rfl, fun z => ⟨xs.length - (i + 1), by omega, rfl, hlt, rfl, fun j hj => ?_⟩, fun z => ?_⟩
    · by_cases h : j < i
      · exact ha j h
      · rw [show j = i by omega]; exact z
    · have z' := ne_not z
      rw [z']
      exact hx i hlt z'
  · have e1 : i = xs.length := by omega
    subst e1
    exact .inl ⟨⟨xs, hL, Nat.le_refl _⟩, hd ha⟩
/-- .. for a in range(n) for b in range(a) -/
theorem gwb2_rng {n ka kb : Nat} {te : TE} {vs : List Nat} {σ : L2.St} {e : Bool} {Q : VK} {H2 : Hp} (c : Nat → Nat → Bool) (hn : n ≤ 100000) (h2 : ∀ x, ((wipe σ vs).set ka (some x))[ka]? = some (some x)) (w1 : ∀ x, wipe ((wipe σ vs).set ka (some x)) vs = wipe σ vs)
    (w2 : ∀ y x, wipe ((wipe ((wipe σ vs).set ka (some y)) [kb]).set kb (some x)) [kb] = wipe ((wipe σ vs).set ka (some y)) [kb])
    (hs : ∀ (i j : Nat) (Kt : VK), i < n → j < i → Kt (.bl (c i j)) H2 → te ((wipe ((wipe σ vs).set ka (some (.int (i : Int)))) [kb]).set kb (some (.int (j : Int)))) H2 Kt) (hd : (∀ i j, i < n → j < i → c i j = e) → Q (.bl e) H2) (hx : ∀ i j, i < n → j < i → c i j = (!e) → Q (.bl (!e)) H2) :
    ∃ W : Nat → Nat → Hp → Prop, (∃ m, W 0 m H2) ∧ GW2 (Itr 0 n) (gName ka) (iRng1 (tCons (tVar ka) tNil)) (gName kb) te vs [kb] σ e Q W := by
  have step : ∀ i, i < n → (n - i) * (n + 1) = (n - (i + 1)) * (n + 1) + n + 1 := fun i hi => by
    have : n - i = (n - (i + 1)) + 1 := by omega
    rw [this, Nat.succ_mul]
    omega
  refine ⟨fun i m H => m = (n - i) * (n + 1) ∧ i ≤ n ∧ H = H2 ∧ ∀ a b, a < i → b < a → c a b = e, ⟨_, rfl, Nat.zero_le _, rfl, fun a b h => absurd h (Nat.not_lt_zero _)⟩, ?_⟩
  rintro i m H ⟨rfl, hi, rfl, ha⟩
  by_cases hlt : i < n
  · have st := step i hlt
    refine .inr ⟨hlt, fun x HH y => ?_⟩
    obtain ⟨e1, y⟩ := y
    subst e1 y
    refine ⟨w1 _, ?_⟩
    rw [Int.zero_add]
    refine ⟨_, h2 _, _, rfl, by omega, by omega, ?_⟩
    rw [Int.toNat_natCast]
    refine ⟨fun j k H' => k = (n - i) * (n + 1) - 1 - j ∧ j ≤ i ∧ H' = HH ∧ ∀ b, b < j → c i b = e, ⟨_, ?_, rfl, Nat.zero_le _, rfl, fun b h => absurd h (Nat.not_lt_zero _)⟩, ?_⟩
    · omega
    rintro j k H' ⟨rfl, hj, rfl, hb⟩
    by_cases hlj : j < i
    · refine .inr ⟨hlj, fun x H4 y => ?_⟩
      obtain ⟨e1, y⟩ := y
      subst e1 y
      refine ⟨w2 _ _, ?_⟩
      rw [Int.zero_add]
      refine hs i j _ hlt hlj ⟨c i j, rfl, fun z => ⟨(n - i) * (n + 1) - 1 - (j + 1), by omega, rfl, hlj, rfl, fun b hb' => ?_⟩, fun z => ?_⟩
      · by_cases h : b < j
        · exact hb b h
        · rw [show b = j by omega]; exact z
      · have z' := ne_not z
        rw [z']
        exact hx i j hlt hlj z'
    · have e1 : j = i := by omega
      subst e1
      refine .inl ⟨Nat.le_refl _, (n - (j + 1)) * (n + 1), by omega, by omega, rfl, hlt, rfl, fun a b h1 h2 => ?_⟩
      by_cases h : a < j
      · exact ha a b h h2
      · rw [show a = j by omega] at h2 ⊢
        exact hb b h2
  · have e1 : i = n := by omega
    subst e1
    exact .inl ⟨Nat.le_refl _, hd fun a b h1 h2 => ha a b h1 h2⟩
/-- a tuple of tuples of ints -/
def RR (H : Hp) (p : Addr) (P : List (List Int)) : Prop := ∃ rows : List V, H p = some (.tup rows) ∧ rows.length = P.length ∧ ∀ (i : Nat) row, P[i]? = some row → ∃ r, rows[i]? = some (.ref r) ∧ H r = some (.tup (row.map V.int))
theorem RR.same {H H' : Hp} {p : Addr} {P : List (List Int)} (x : RR H p P) (s : ∀ b xs, H b = some (.tup xs) → H' b = some (.tup xs)) : RR H' p P := by
  obtain ⟨rows, e1, e2, e3⟩ := x
  refine ⟨rows, s _ _ e1, e2, fun i row h => ?_⟩
  obtain ⟨r, h1, h2⟩ := e3 i row h
  exact ⟨r, h1, s _ _ h2⟩
theorem RR.len {H : Hp} {p : Addr} {P : List (List Int)} (x : RR H p P) : ∃ rows, H p = some (.tup rows) ∧ rows.length = P.length := by
  obtain ⟨rows, e1, e2, e3⟩ := x
  exact ⟨rows, e1, e2⟩
theorem RR.at {H : Hp} {p : Addr} {P : List (List Int)} {rows : List V} {i : Nat} {v : V} (x : RR H p P) (e : H p = some (.tup rows)) (h : rows[i]? = some v) : ∃ r row, v = .ref r ∧ P[i]? = some row ∧ H r = some (.tup (row.map V.int)) := by
  obtain ⟨rows', e1, e2, e3⟩ := x
  rw [e] at e1
  cases e1
  have hi : i < P.length := by
    rcases Nat.lt_or_ge i rows.length with h' | h'
    · omega
    · rw [List.getElem?_eq_none h'] at h; cases h
  obtain ⟨r, h1, h2⟩ := e3 i P[i] (List.getElem?_eq_getElem hi)
  rw [h] at h1
  cases h1
  exact ⟨r, _, rfl, List.getElem?_eq_getElem hi, h2⟩
/-- both tables' rows, one behind the other -/
theorem RR.app {H : Hp} {p m q : Addr} {P T : List (List Int)} {rp rm : List V} (x : RR H p P) (y : RR H m T) (ep : H p = some (.tup rp)) (em : H m = some (.tup rm)) (eq : H q = some (.tup (rp ++ rm))) : RR H q (P ++ T) := by
  obtain ⟨rp', a1, a2, a3⟩ := x
  obtain ⟨rm', b1, b2, b3⟩ := y
  rw [ep] at a1
  cases a1
  rw [em] at b1
  cases b1
  refine ⟨_, eq, by rw [List.length_append, List.length_append, a2, b2], fun i row h => ?_⟩
  by_cases c : i < P.length
  · rw [List.getElem?_append_left c] at h
    rw [List.getElem?_append_left (by omega)]
    exact a3 i row h
  · rw [List.getElem?_append_right (by omega)] at h
    rw [List.getElem?_append_right (by omega), a2]
    exact b3 _ row h
/-- the entry at a, b -/
def fnI (P : List (List Int)) (a b : Nat) : Int := (P.getD a []).getD b 0
def fnN (P : List (List Int)) (a b : Nat) : Nat := (fnI P a b).toNat
theorem RR.tt {H : Hp} {p : Addr} {P : List (List Int)} (x : RR H p P) (hl : ∀ row ∈ P, row.length = P.length) : TT H p P.length (fnI P) := by
  obtain ⟨rows, e1, e2, e3⟩ := x
  refine ⟨rows, e1, e2, fun i hi => ?_⟩
  obtain ⟨r, h1, h2⟩ := e3 i P[i] (List.getElem?_eq_getElem hi)
  refine ⟨r, h1, ?_⟩
  have hrow := hl P[i] (List.getElem_mem hi)
  have : P[i].map V.int = (List.range P.length).map fun j => V.int (fnI P i j) := by
    refine ext_of (by rw [List.length_map, hrow]) fun j v hv => ?_
    rw [List.getElem?_map] at hv
    cases hj : P[i][j]? with
    | none => rw [hj] at hv; cases hv
    | some z =>
      rw [hj] at hv
      have hv' : V.int z = v := Option.some.inj hv
      rw [← hv']
      unfold fnI
      rw [List.getD_eq_getElem?_getD, List.getD_eq_getElem?_getD, List.getElem?_eq_getElem hi]
      show V.int z = V.int (P[i][j]?.getD 0)
      rw [hj]
      rfl
  rw [this] at h2
  exact h2
theorem TT.congr {H : Hp} {p : Addr} {n : Nat} {F G : Nat → Nat → Int} (x : TT H p n F) (h : ∀ i j, i < n → j < n → F i j = G i j) : TT H p n G := by
  obtain ⟨rows, e1, e2, e3⟩ := x
  refine ⟨rows, e1, e2, fun i hi => ?_⟩
  obtain ⟨r, h1, h2⟩ := e3 i hi
  refine ⟨r, h1, h2.trans (congrArg (fun l => some (HO.tup l)) (List.map_congr_left fun j hj => ?_))⟩
  rw [h i j hi (List.mem_range.mp hj)]
theorem fn_mem {P : List (List Int)} {n i j : Nat} (hP : P.length = n) (hl : ∀ row ∈ P, row.length = n) (hi : i < n) (hj : j < n) : ∃ row, row ∈ P ∧ fnI P i j ∈ row := by
  have h1 : i < P.length := by omega
  have hr := hl P[i] (List.getElem_mem h1)
  refine ⟨P[i], List.getElem_mem h1, ?_⟩
  unfold fnI
  rw [List.getD_eq_getElem?_getD, List.getD_eq_getElem?_getD, List.getElem?_eq_getElem h1]
  show (P[i][j]?).getD 0 ∈ P[i]
  rw [List.getElem?_eq_getElem (by omega)]
  exact List.getElem_mem _
end Tb

set_option Elab.async false
set_option linter.all false
set_option maxRecDepth 100000
set_option maxHeartbeats 4000000
/-! ==, !=, in, not in, list.index of nested tuples. -/
namespace ND
open PySem PySem.W L2
open Sem (wp)

theorem Kys.depth_le {H : Hp} : ∀ {ks : List NestedKey} {d : Nat}, NestedKey.depthAll ks ≤ d → ∀ k ∈ ks, k.depth ≤ d
  | [], _, _, _, h => nomatch h
  | k :: ks, d, hd, x, hx => by
    rw [NestedKey.depthAll] at hd
    rcases List.mem_cons.mp hx with rfl | h
    · omega
    · exact Kys.depth_le (H := H) (by omega) x h
section
variable {X : Cx}
/-- two tuples that are keys are compared -/
def rEqK : R2 := fun x y H Q => ∃ ks ks', Ky H (.tup ks) x ∧ Ky H (.tup ks') y ∧ NestedKey.depthAll ks ≤ 7 ∧ Q (.bl (decide (ks = ks'))) H
theorem decide_tup (ks ks' : List NestedKey) : decide (ks = ks') = NestedKey.beqAll ks ks' := by
  rw [← (show NestedKey.beq (.tup ks) (.tup ks') = NestedKey.beqAll ks ks' from rfl), ← NestedKey.decide_eq]
  by_cases e : ks = ks'
  · rw [e]; simp
  · rw [decide_eq_false e, decide_eq_false fun z => e (by injection z)]
theorem op_eqK (hu : X.A.units + 9 < cLine) : OpR X (compareOp .Eq) rEqK := by
  intro pins s σ H x y v u Q I rx ry h
  obtain ⟨ks, ks', a, b, hd, q⟩ := h
  have ha := a.is I.hok rx
  have hb := b.is I.hok ry
  cases ha with
  | @tup l o vs n _ h1 h2 h3 h4 =>
    cases hb with
    | @tup l' o' vs' n' _ k1 k2 k3 k4 =>
      have hl : s.heap.IsTuple l vs := ⟨_, h1, h2, _, h3⟩
      have hl' : s.heap.IsTuple l' vs' := ⟨_, k1, k2, _, k3⟩
      have n1 : vs.size = ks.length := by simpa using NestedAll.length _ _ h4
      have n2 : vs'.size = ks'.length := by simpa using NestedAll.length _ _ k4
      refine SeqAt.eq_tupleAt (e := keyEqAt ks ks') hl hl' (by omega) (fun j j1 j2 => ?_) ?_
      · have := eqAt_keys ks ks' X.A.in1 s vs.toList vs'.toList h4 k4 (by show X.A.units + 1 + _ < cLine; omega) j (by simpa using j1) (by simpa using j2)
        simpa using this
      · rw [n1, n2, beqAll_eq, ← decide_tup]
        exact ⟨.bl _, H, I, rfl, q⟩
/-- the item is the key k -/
noncomputable def isK (h : Heap) (k : NestedKey) (v : Value) : Bool := @decide (NestedIs h k v) (Classical.propDecidable _)
theorem isK_of {h : Heap} {k k' : NestedKey} {v : Value} (x : NestedIs h k' v) : isK h k v = decide (k' = k) := by
  unfold isK
  by_cases e : k' = k
  · subst e
    rw [decide_eq_true rfl]
    exact @decide_eq_true _ (Classical.propDecidable _) x
  · rw [decide_eq_false e]
    exact @decide_eq_false _ (Classical.propDecidable _) fun y => e (NestedIs.inj _ _ _ x y)
theorem any_isK {h : Heap} {k : NestedKey} : ∀ {ks : List NestedKey} {vs : List Value}, NestedAll h ks vs → vs.any (isK h k) = decide (k ∈ ks)
  | _, _, .nil => rfl
  | _, _, .cons (k := k') a r => by
    rw [List.any_cons, isK_of a, any_isK r]
    by_cases e : k' = k
    · simp [e]
    · have e' : ¬ k = k' := fun z => e z.symm
      simp [e, e']
theorem all_eq {h : Heap} {A : Around} {s : Shared} {k : NestedKey} {u : Value} (hs : s.heap = h) (hu : A.units + 8 < cLine) (hk : NestedIs h k u) (hd : k.depth ≤ 8) : ∀ {ks : List NestedKey} {vs : List Value}, NestedAll h ks vs → ∀ v ∈ vs, SeqAt.EqAt A s v u (isK h k v)
  | _, _, .nil => fun _ hv => nomatch hv
  | _, _, .cons (k := k') (v := v0) a r => fun v hv => by
    rcases List.mem_cons.mp hv with rfl | hv
    · rw [isK_of a, NestedKey.decide_eq]
      exact eqAt_key k' k A s _ u (by rw [hs]; exact a) (by rw [hs]; exact hk) (by omega)
    · exact all_eq hs hu hk hd r v hv
def rInK (K : PySem.W.Frag) (neg : Bool) : R2 := fun x y H Q => ∃ k p ks xs, y = .ref p ∧ SqL K H p xs ∧ Ky H k x ∧ k.depth ≤ 8 ∧ Kys H ks xs ∧ Q (.bl (if neg then !decide (k ∈ ks) else decide (k ∈ ks))) H
theorem op_inK (hu : X.A.units + 9 < cLine) : OpR X (compareOp .In) (rInK X.K false) := by
  intro pins s σ H x y v u Q I rx ry h
  obtain ⟨k, p, ks, xs, rfl, hq, hk, hd, hks, q⟩ := h
  cases ry
  obtain ⟨its, r, pl, hz⟩ := I.list hq
  have hv := hk.is I.hok rx
  have hi := hks.is I.hok r
  refine SeqAt.in_listAt (isK s.heap k) pl.isList (fun w hw => all_eq rfl (by show X.A.units + 1 + 8 < cLine; omega) hv hd hi w (by simpa using hw)) ⟨.bl _, H, I, rfl, ?_⟩
  rw [show its.toArray.any (isK s.heap k) = its.any (isK s.heap k) by simp, any_isK hi]
  exact q
theorem op_notInK (hu : X.A.units + 9 < cLine) : OpR X (compareOp .NotIn) (rInK X.K true) := by
  intro pins s σ H x y v u Q I rx ry h
  obtain ⟨k, p, ks, xs, rfl, hq, hk, hd, hks, q⟩ := h
  cases ry
  obtain ⟨its, r, pl, hz⟩ := I.list hq
  have hv := hk.is I.hok rx
  have hi := hks.is I.hok r
  refine SeqAt.notIn_listAt (isK s.heap k) pl.isList (fun w hw => all_eq rfl (by show X.A.units + 1 + 8 < cLine; omega) hv hd hi w (by simpa using hw)) ⟨.bl _, H, I, rfl, ?_⟩
  rw [show its.toArray.any (isK s.heap k) = its.any (isK s.heap k) by simp, any_isK hi]
  exact q
def rIndexK (K : PySem.W.Frag) : V → List V → Hp → VK → Prop := fun x ys H Q => ∃ p k y ks xs, x = .ref p ∧ ys = [y] ∧ SqL K H p xs ∧ Ky H k y ∧ k.depth ≤ 8 ∧ Kys H ks xs ∧ k ∈ ks ∧ Q (.int (ks.idxOf k : Nat)) H
theorem mt_indexK (hu : X.A.units + 9 < cLine) : MtR X "list.index" (rIndexK X.K) := by
  intro pins s σ H x xs v us Q I rx rxs h
  obtain ⟨p, k, y, ks, ys, rfl, rfl, hq, hk, hd, hks, hm, q⟩ := h
  cases rx
  cases rxs with
  | cons ry rt =>
    rename_i uy ut
    cases rt
    obtain ⟨its, r, pl, hz⟩ := I.list hq
    have hv := hk.is I.hok ry
    have hi := hks.is I.hok r
    have hl := NestedAll.length _ _ hi
    exact SeqAt.call_list_index pl.isList (SeqAt.ItemsEq.nested hi hv (by show X.A.units + 1 + k.depth < cLine; omega)) (by rw [← hl, ← r.length]; exact hz) hm ⟨.int (ks.idxOf k : Nat), H, I.tok _, ⟨_, rfl⟩, q⟩
/-- y in d, y not in d: d a dict with nested keys -/
def rInN (P : Program) (w : World) (neg : Bool) : R2 := fun y x H Q => ∃ a o, x = .ref a ∧ NGet P w H a y o ∧ Q (.bl (if neg then !o.isSome else o.isSome)) H
theorem op_inN (hu : X.A.units + 9 < cLine) : OpR X (compareOp .In) (rInN X.prog X.w false) := by
  intro pins s σ H y x u v Q I ry rx h
  obtain ⟨a, o, rfl, g, q⟩ := h
  cases rx
  exact n_in hu I g ry fun s3 I3 => ⟨.bl o.isSome, H, I3, rfl, q⟩
theorem op_notInN (hu : X.A.units + 9 < cLine) : OpR X (compareOp .NotIn) (rInN X.prog X.w true) := by
  intro pins s σ H y x u v Q I ry rx h
  obtain ⟨a, o, rfl, g, q⟩ := h
  cases rx
  exact n_notIn hu I g ry fun s3 I3 => ⟨.bl (!o.isSome), H, I3, rfl, q⟩
/-- a list or a tuple is walked -/
def iSeq (K : PySem.W.Frag) (tl : TE) : TI := fun σ H R => tl σ H fun x H1 => ∃ a xs, x = .ref a ∧ ((SqL K H1 a xs ∧ R (Itl K a) H1) ∨ (SqT K H1 a xs ∧ R (Itt K a) H1))
theorem pi_seq {tg l : Expr} {tl : TE} (hl : PE X l tl) : PI X tg l (iSeq X.K tl) := by
  refine ⟨fun pins s σ H R I h => ?_⟩
  refine thn (hl.run pins s σ H _ I h) fun v s1 ⟨x, H1, I1, r1, q1⟩ => ?_
  obtain ⟨a, xs, e, q⟩ := q1
  subst e
  cases r1
  rcases q with ⟨hq, q⟩ | ⟨hq, q⟩
  · obtain ⟨its, rv, p, hz⟩ := I1.list hq
    refine wpAny_pyIter_list p.isList ?_
    refine ⟨s1.heap.objs.size, [s1.heap.objs.size], _, _, H1, rfl, I1.kept (t' := s1.toks) fun b o e => Heap.get?_push_of_some _ e, turn_list a _, ⟨_, Heap.get?_push_size _ rfl, rfl, rfl⟩, fun b hb => ?_, q⟩
    have e : b = s1.heap.objs.size := by simpa using hb
    subst e
    exact I1.fpOk (Nat.le_refl _) (I1.hok.fresh (Nat.le_refl _))
  · obtain ⟨its, rv, p, hz⟩ := I1.tuple hq
    refine wpAny_pyIter_tuple (show s1.heap.IsTuple a its.toArray from p) ?_
    refine ⟨s1.heap.objs.size, [s1.heap.objs.size], _, _, H1, rfl, I1.kept (t' := s1.toks) fun b o e => Heap.get?_push_of_some _ e, turn_tuple a _, ⟨_, Heap.get?_push_size _ rfl, rfl, rfl⟩, fun b hb => ?_, q⟩
    have e : b = s1.heap.objs.size := by simpa using hb
    subst e
    exact I1.fpOk (Nat.le_refl _) (I1.hok.fresh (Nat.le_refl _))
theorem hu9 {A : Around} {k : Nat} (hr : Room k A) : A.units + 9 < cLine := by have := hr.un; omega
end
end ND

set_option Elab.async false
set_option linter.all false
set_option maxRecDepth 100000
set_option maxHeartbeats 4000000
/-! name = {k: v for ..}: the block is run with the store. -/
namespace DCx
open PySem PySem.W L2
open Sem (wp)
section
variable {X : Cx}
theorem swd_true {kx vx : Expr} {gs : List Comprehension} {scope : Scope} {pos py : Pos} {y : Str} {l : Nat} {env : Env} (hk : env.scope.kind = .function) (hy : env.scope.names.lookup y = some .local) (hl : (py.line == pos.line) = true)
    (ha : (scope.names.any fun (n, k) => n == y && (k == .local || k == .cell)) = false) : swapsWith (.DictComp kx vx gs scope pos) (some (.Name y py)) l env = pure true := by
  have ky : env.kindOf y = some .local := hy
  have hb : env.blockKind = .function := by unfold Env.blockKind; rw [hk]; rfl
  unfold swapsWith
  simp only [hb, ky, ha, Expr.pos, hl]
  rfl
theorem ps_setDc {i : Nat} {y : Str} {py : Pos} {kx vx tg iter : Expr} {ifs : List Expr} {scope : Scope} {own : List (Str × Nat)} {pos spos : Pos} {wi : TI} {g : TG} {tt : TT} {tk tv : TE} (hc : X.calm = true) (hN : X.N.Nodup) (hy : X.N[i]? = some y) (hyl : X.env.scope.names.lookup y = some .local)
    (hsw : swapsWith (.DictComp kx vx [⟨tg, iter, ifs, 0⟩] scope pos) (some (.Name y py)) spos.line X.env = pure true) (hi : PI X tg iter wi) (ok : BlkOk X.N X.env.scope scope own)
    (hg : ∀ (s : Shared) (H : Hp) (C : Addr) (cl : List (Str × Addr)) (fp : List Addr), PG (X.blk s H scope (compEnvC scope cl C X.env) fp) tg g) (ht : ∀ (s : Shared) (H : Hp) (C : Addr) (cl : List (Str × Addr)) (fp : List Addr), PTs (X.blk s H scope (compEnvC scope cl C X.env) fp) ifs tt)
    (hk : ∀ (s : Shared) (H : Hp) (C : Addr) (cl : List (Str × Addr)) (fp : List Addr), PE (X.blk s H scope (compEnvC scope cl C X.env) fp) kx tk)
    (he : ∀ (s : Shared) (H : Hp) (C : Addr) (cl : List (Str × Addr)) (fp : List Addr), PE (X.blk s H scope (compEnvC scope cl C X.env) fp) vx tv) (hs : ∀ x, foldedSetIterable iter X.env x = pure x := by intro _; rfl) :
    PS X (.Assign [.Name y py] (.DictComp kx vx [⟨tg, iter, ifs, 0⟩] scope pos) spos) (tAsg (tDc wi g tt tk tv (own.map (·.2))) (gName i)) := by
  refine ⟨fun pins s σ H D I h => ?_⟩
  rw [exec_Assign_Name_used _ _ _ _ hsw]
  refine wpAny_bind (wpAny_standAt (wpAny_bind ?_))
  show wpAny _ X.A (do let _ ← comprehension (.DictComp kx vx [⟨tg, iter, ifs, 0⟩] scope pos) scope X.env (firstIterPos [⟨tg, iter, ifs, 0⟩] pos) newDict false (eval iter X.env) (some (assign (.Name y py) X.env))) _ _ s
  have h : tDc wi g tt tk tv (own.map (·.2)) σ H (fun x H1 => gName i x σ H1 D.nx) := h
  refine wpAny_bind (thn (dc_core (Qf := fun _ s' => SP X pins D .next s') hc hN I hi ok hg ht hk he hs h fun L C s' m H' I' q hn f => ?_) fun _ s' hq => wpAny_pure (wpAny_pure hq))
  show wpAny _ _ (assign (.Name y py) X.env (.ref L)) _ _ _
  refine wpAny_assign_Name (store_ok2 (v := V.ref L) I' hN hy (.inl hyl) rfl (fun s2 I2 ⟨a, sb, ha⟩ => ?_) (.inr hyl))
  obtain ⟨f0, f1, f2, f3, f4, f5⟩ := f
  have haC : C ≠ a := by
    rcases ha with z | z
    · rw [z]; exact f1
    · exact fun e => f4 y a z e.symm
  refine ⟨m, hn.sameBut sb haC, fun h3 sb3 => ?_⟩
  exact ⟨_, H', I2.turned (t' := s2.toks) (fun b o hb e => (sb3.2 b hb).trans e) f0 f1 f3 f4 f5, q⟩
end
end DCx

set_option Elab.async false
set_option linter.all false
set_option maxRecDepth 100000
set_option maxHeartbeats 4000000
/-! {k: v for a in A for b in B}: two walks, no tests. -/
namespace DC2
open PySem PySem.Spec PyProof.Rows L2
section
variable {kx vx ta ia tb ib : Expr} {scope : Scope} {pos : Pos} {it acc : Value} {env : Env}
/-- the comprehension -/
abbrev two (kx vx ta ia tb ib : Expr) (scope : Scope) (pos : Pos) : Expr := .DictComp kx vx [⟨ta, ia, [], 0⟩, ⟨tb, ib, [], 0⟩] scope pos
theorem turnA : compTurn (two kx vx ta ia tb ib scope pos) 0 it acc env = (do
      standAt ia.pos
      match ← pyNext it with
      | none => pure (.done .next)
      | some u => do
        letOwnedTupleGo ta it u
        assign ta env u
        let y ← eval ib env
        standAt ib.pos
        let y' ← foldedSetIterable ib env y
        let _ ← runOwn (.compStart (two kx vx ta ia tb ib scope pos) 1 (← holding [y'] (pyIter y')) acc env) env
        again (.compLoop (two kx vx ta ia tb ib scope pos) 0 it acc env)) := by rfl
theorem turnB {D : Addr} : compTurn (two kx vx ta ia tb ib scope pos) 1 it (.ref D) env = (do
      standAt ib.pos
      match ← pyNext it with
      | none => pure (.done .next)
      | some u => do
        letOwnedTupleGo tb it u
        assign tb env u
        (do
          let k ← eval kx env
          let z ← holding [k] (eval vx env)
          standAt { kx.pos with endLine := vx.pos.endLine, endCol := vx.pos.endCol }
          holding [k, z] (dictSet D k z))
        again (.compLoop (two kx vx ta ia tb ib scope pos) 1 it (.ref D) env)) := by rfl
end
section
variable {P : Program} {w : World} {A : Around} {R : Result → Shared → Prop} {s : Shared} {kx vx ta ia tb ib : Expr} {scope : Scope} {pos : Pos} {it : Value} {D : Addr} {env : Env}
/-- what is wanted where an error leaves -/
abbrev Er (P : Program) (w : World) (A : Around) (env : Env) (R : Result → Shared → Prop) : Value → Shared → Prop := notedBy (model P w) A env fun x s' => R (.error x) s'
theorem loopA (hf : ∀ y, foldedSetIterable ib env y = pure y) (J : Nat → Shared → Prop)
    (go : ∀ n s, J n s → wpAny (model P w) A (pyNext it) (fun r s₁ => match r with
      | none => R (.ok .next) s₁
      | some u => wpAny (model P w) A (letOwnedTupleGo ta it u) (fun _ s₂ => wpAny (model P w) A (assign ta env u) (fun _ s₃ => wpAny (model P w) A (eval ib env) (fun y s₄ => wpAny (model P w) A (pyIter y) (fun it1 s₅ =>
              codeAny (model P w) A (.compStart (two kx vx ta ia tb ib scope pos) 1 it1 (.ref D) env) (fun r s' => match r with
                | .ok _ => ∃ m, m < n ∧ J m s'
                | .error _ => False) s₅) (Er P w A env R) s₄) (Er P w A env R) s₃) (Er P w A env R) s₂) (Er P w A env R) s₁) (Er P w A env R) s)
    (n : Nat) (h : J n s) : codeAny (model P w) A (.compLoop (two kx vx ta ia tb ib scope pos) 0 it (.ref D) env) R s := by
  refine codeAny_loop rfl J (fun n s hJ => ?_) n h
  show wpAny _ A ((compTurn (two kx vx ta ia tb ib scope pos) 0 it (.ref D) env).onRaise (fun x => do noteFrame x env; theTreesLotGoes x)) _ _ s
  refine wpAny_noted ?_
  rw [turnA]
  refine wpAny_bind (wpAny_standAt (wpAny_bind (wpAny_mono (go n s hJ) (fun r s₁ h₁ => ?_) fun _ _ z => z)))
  cases r with
  | none => exact wpAny_pure h₁
  | some u =>
    refine wpAny_bind (wpAny_mono h₁ (fun _ s₂ h₂ => wpAny_bind (wpAny_mono h₂ (fun _ s₃ h₃ => wpAny_bind (wpAny_mono h₃ (fun y s₄ h₄ => ?_) fun _ _ z => z)) fun _ _ z => z)) fun _ _ z => z)
    refine wpAny_bind (wpAny_standAt (wpAny_bind (wpAny_of_eq (hf y) (wpAny_bind (wpAny_holding (wpAny_mono h₄ (fun it1 s₅ h₅ => wpAny_bind (wpAny_runOwn ?_)) fun _ _ z => z))))))
    rw [Around.mark_none]
    refine codeAny_mono h₅ fun r s' hr => ?_
    cases r with
    | ok f => first | exact wpAny_pure ⟨rfl, hr⟩ | exact wpAny_bind (wpAny_pure (wpAny_pure ⟨rfl, hr⟩))
    | error e => exact hr.elim
theorem loopB (J : Nat → Shared → Prop)
    (go : ∀ n s, J n s → wpAny (model P w) A (pyNext it) (fun r s₁ => match r with
      | none => R (.ok .next) s₁
      | some u => wpAny (model P w) A (letOwnedTupleGo tb it u) (fun _ s₂ => wpAny (model P w) A (assign tb env u) (fun _ s₃ => wpAny (model P w) A (eval kx env) (fun k s₄ => wpAny (model P w) A (eval vx env) (fun z s₅ =>
              wpAny (model P w) A (dictSet D k z) (fun _ s₆ => ∃ m, m < n ∧ J m s₆) (Er P w A env R) s₅) (Er P w A env R) s₄) (Er P w A env R) s₃) (Er P w A env R) s₂) (Er P w A env R) s₁) (Er P w A env R) s)
    (n : Nat) (h : J n s) : codeAny (model P w) A (.compLoop (two kx vx ta ia tb ib scope pos) 1 it (.ref D) env) R s := by
  refine codeAny_loop rfl J (fun n s hJ => ?_) n h
  show wpAny _ A ((compTurn (two kx vx ta ia tb ib scope pos) 1 it (.ref D) env).onRaise (fun x => do noteFrame x env; theTreesLotGoes x)) _ _ s
  refine wpAny_noted ?_
  rw [turnB]
  refine wpAny_bind (wpAny_standAt (wpAny_bind (wpAny_mono (go n s hJ) (fun r s₁ h₁ => ?_) fun _ _ z => z)))
  cases r with
  | none => exact wpAny_pure h₁
  | some u =>
    refine wpAny_bind (wpAny_mono h₁ (fun _ s₂ h₂ => wpAny_bind (wpAny_mono h₂ (fun _ s₃ h₃ => wpAny_bind (wpAny_bind (wpAny_mono h₃ (fun k s₄ h₄ => ?_) fun _ _ z => z))) fun _ _ z => z)) fun _ _ z => z)
    exact wpAny_bind (wpAny_holding (wpAny_mono h₄ (fun z s₅ h₅ => wpAny_bind (wpAny_standAt (wpAny_holding (wpAny_mono h₅ (fun _ s₆ h₆ => wpAny_pure ⟨rfl, h₆⟩) fun _ _ z => z)))) fun _ _ z => z))
theorem startB (h0 : codeAny (model P w) A (.compLoop (two kx vx ta ia tb ib scope pos) 1 it (.ref D) env) R s)
    (h : wpAny (model P w) A (pyIter it) (fun it' s' => codeAny (model P w) A (.compLoop (two kx vx ta ia tb ib scope pos) 1 it' (.ref D) env) R s') (Er P w A env R) s) :
    codeAny (model P w) A (.compStart (two kx vx ta ia tb ib scope pos) 1 it (.ref D) env) R s := by
  refine codeAny_of_tree ?_
  show wpAny _ _ ((compStart (two kx vx ta ia tb ib scope pos) 1 it (.ref D) env).onRaise (fun x => do noteFrame x env; standAt theWindowsPlace)) _ _ s
  refine wpAny_notedAt ?_
  unfold compStart
  show wpAny _ _ (ask >>= _) _ _ s
  refine wpAny_bind (wpAny_askSetting (wpAny_ite ?_))
  split
  · first | exact wpAny_bind (wpAny_pure (wpAny_pure (And.intro rfl h0))) | exact wpAny_pure (And.intro rfl h0)
  · have hm := fun (x : Sem (Value × Unit)) => x
    refine wpAny_bind (wpAny_rule ?_)
    show wpAny _ _ (standAt ib.pos >>= _) _ _ s
    exact wpAny_bind (wpAny_standAt (wpAny_bind (wpAny_mono h (fun it' s' h' => wpAny_pure (And.intro rfl h')) fun _ _ x => x)))
end
section
variable {X : Cx}
/-- the reading: W for the outer walk, W1 for the inner one; vs all names of the comprehension, vs1 those of the second target -/
def tDc2 (wa : TI) (ga : TG) (wb : TI) (gb : TG) (tk tv : TE) (vs vs1 : List Nat) : TE := fun σ H Q => wa σ H fun Ja H1 => ∀ D, H1 D = none → ∃ W : Nat → Nat → Hp → Prop, (∃ m, W 0 m (upd H1 D (.dK []))) ∧ ∀ i m H, W i m H →
  (Ja.stop i H ∧ Q (.ref D) H) ∨ (Ja.go i H ∧ ∃ Nx : Hp → Prop, (∀ H', Nx H' → ∃ m', m' < m ∧ W (i + 1) m' H') ∧ ∀ x H', Ja.yld i H x H' → ga x (wipe σ vs) H' fun σ2 H2 => wipe σ2 vs = wipe σ vs ∧
    wb σ2 H2 fun Jb H4 => ∃ W1 : Nat → Nat → Hp → Prop, (∃ m, W1 0 m H4) ∧ ∀ j k H, W1 j k H →
      (Jb.stop j H ∧ Nx H) ∨ (Jb.go j H ∧ ∃ Nx1 : Hp → Prop, (∀ H', Nx1 H' → ∃ k', k' < k ∧ W1 (j + 1) k' H') ∧ ∀ x H', Jb.yld j H x H' → gb x (wipe σ2 vs1) H' fun σ3 H5 => wipe σ3 vs1 = wipe σ2 vs1 ∧
        tk σ3 H5 fun y H6 => tv σ3 H6 fun z H7 => ∃ kvs k, y = kV k ∧ H7 D = some (.dK kvs) ∧ kvs.length < sizeLine ∧ Nx1 (upd H7 D (.dK (putK kvs k z)))))
/-- a piece of the block serves wherever the block stands -/
abbrev InBlk (X : Cx) (scope : Scope) (p : Cx → Prop) : Prop := ∀ (s : Shared) (H : Hp) (C : Addr) (cl : List (Str × Addr)) (fp : List Addr), p (X.blk s H scope (compEnvC scope cl C X.env) fp)
theorem core {pins : List (Addr × Obj)} {s : Shared} {σ : L2.St} {H : Hp} {Q : VK} {kx vx ta ia tb ib : Expr} {scope : Scope} {own : List (Str × Nat)} {vs1 : List Nat} {pos pos' : Pos} {wa wb : TI} {ga gb : TG} {tk tv : TE} {use : Option (Value → Sem Unit)} {Qf : Value → Shared → Prop}
    (hc : X.calm = true) (hN : X.N.Nodup) (I : Inv X pins σ H s) (hi : PI X ta ia wa) (ok : BlkOk X.N X.env.scope scope own) (hv : ∀ i ∈ vs1, i ∈ own.map (·.2))
    (hga : InBlk X scope fun Y => PG Y ta ga) (hib : InBlk X scope fun Y => PI Y tb ib wb) (hgb : InBlk X scope fun Y => PG Y tb gb) (hk : InBlk X scope fun Y => PE Y kx tk) (hz : InBlk X scope fun Y => PE Y vx tv)
    (fa : ∀ x, foldedSetIterable ia X.env x = pure x) (fb : ∀ env x, foldedSetIterable ib env x = pure x) (h : tDc2 wa ga wb gb tk tv (own.map (·.2)) vs1 σ H Q)
    (fin : ∀ D C s' m H', Inv X pins σ H' s' → Q (.ref D) H' → s'.heap.Ns C m → FpOk X pins H' C → compPost (model X.prog X.w) X.A X.xe use Qf (.ref D) C (.ok .next) s') :
    wpAny (model X.prog X.w) X.A (comprehension (two kx vx ta ia tb ib scope pos) scope X.env pos' newDict false (eval ia X.env) use) Qf X.xe s := by
  have free : ∀ y ∈ scope.names, y.2 = .free → ∃ c, X.env.cells.lookup y.1 = some c := fun y hy e => (ok.free y hy e).elim (fun z => I.ok.has _ (.inl z)) fun z => I.ok.has _ (.inr z)
  refine wpAny_comprehension_free (use := use) rfl fa (closure_ok free) ok.kind (fun y hy e => by rw [ok.uniq y hy, e]) (thn (hi.run pins s σ H _ I h) fun xv s1 hx => thn hx fun itv s2 h2 => ?_)
  obtain ⟨it, fp, tn, Ja, H2, e, I2, T, st2, f2, q⟩ := h2
  subst e
  refine wpAny_newObj_type (newEnv_comp ?_)
  generalize hD : s2.heap.objs.size = D
  obtain ⟨W, ⟨m0, w0⟩, turn⟩ := q D (I2.hok.fresh (Nat.le_of_eq hD))
  generalize hs3 : ({ s2 with heap := s2.heap.push { cls := .type "dict", data := .dict #[] } } : Shared) = s3
  have h3 : s3.heap = s2.heap.push { cls := .type "dict", data := .dict #[] } := by rw [← hs3]
  have I3 : Inv X pins σ (upd H2 D (.dK [])) s3 := by
    rw [← hs3]
    exact I2.laid (t' := s2.toks) (fun b o e => Heap.get?_push_of_some _ e) (Nat.le_of_eq hD) (hD ▸ dk_empty s2.heap I2.big)
  have lt2 : ∀ b ∈ fp, b < s2.heap.objs.size := fun b hb => let ⟨_, e, _⟩ := T.obj _ _ st2 b hb; Heap.lt_size e
  have f3 : ∀ b ∈ fp, FpOk X pins (upd H2 D (.dK [])) b ∧ b < s3.heap.objs.size := fun b hb =>
    ⟨⟨by rw [upd_ne (by rw [← hD]; exact Nat.ne_of_lt (lt2 b hb))]; exact (f2 b hb).1, (f2 b hb).2⟩, by rw [h3, Heap.size_push]; exact Nat.lt_succ_of_lt (lt2 b hb)⟩
  have I4 := block_start I3 ok hN f3
  have pga := hga s3 (upd H2 D (.dK [])) s3.heap.objs.size (cellsFrom (s3.heap.objs.size + 1) scope.names (cloFrom X.env.cells scope.names [])) fp
  have pib := hib s3 (upd H2 D (.dK [])) s3.heap.objs.size (cellsFrom (s3.heap.objs.size + 1) scope.names (cloFrom X.env.cells scope.names [])) fp
  have pgb := hgb s3 (upd H2 D (.dK [])) s3.heap.objs.size (cellsFrom (s3.heap.objs.size + 1) scope.names (cloFrom X.env.cells scope.names [])) fp
  have pk := hk s3 (upd H2 D (.dK [])) s3.heap.objs.size (cellsFrom (s3.heap.objs.size + 1) scope.names (cloFrom X.env.cells scope.names [])) fp
  have pz := hz s3 (upd H2 D (.dK [])) s3.heap.objs.size (cellsFrom (s3.heap.objs.size + 1) scope.names (cloFrom X.env.cells scope.names [])) fp
  have st3 : tn 0 s3.heap := T.keep _ _ _ st2 fun b _ o e => by rw [h3]; exact Heap.get?_push_of_some _ e
  show codeAny _ _ (.compStart (two kx vx ta ia tb ib scope pos) 0 (.ref it) (.ref D) (compEnvC scope (cellsFrom (s3.heap.objs.size + 1) scope.names (cloFrom X.env.cells scope.names [])) s3.heap.objs.size X.env)) (compPost (model X.prog X.w) X.A X.xe use Qf (.ref D) s3.heap.objs.size) { s3 with heap := pushCells (s3.heap.push { cls := .type "dict", data := .dict #[] }) scope.names }
  have nfp : ∀ b ∈ fp, (upd H2 D (.dK [])) b = none := fun b hb => (f3 b hb).1.1
  generalize hce : compEnvC scope (cellsFrom (s3.heap.objs.size + 1) scope.names (cloFrom X.env.cells scope.names [])) s3.heap.objs.size X.env = ce at I4 pga pib pgb pk pz ⊢
  have cL : ce.locals = s3.heap.objs.size := hce ▸ rfl
  generalize hH3 : upd H2 D (.dK []) = H3 at I3 I4 pga pib pgb pk pz w0 nfp f3
  generalize hs4 : ({ s3 with heap := pushCells (s3.heap.push { cls := .type "dict", data := .dict #[] }) scope.names } : Shared) = s4 at I4 ⊢
  have st4 : tn 0 s4.heap := T.keep _ _ _ st3 fun b _ o e => hs4 ▸ pushCells_keeps _ _ _ _ (Heap.get?_push_of_some _ e)
  generalize hY : X.blk s3 H3 scope ce fp = Y at I4 pga pib pgb pk pz
  have yp : Y.prog = X.prog := hY ▸ rfl
  have yw : Y.w = X.w := hY ▸ rfl
  have yK : Y.K = X.K := hY ▸ rfl
  subst hY
  generalize hvs : own.map (·.2) = vs at hv h I4 turn
  have stat : ∀ {σ' : L2.St} {H' : Hp} {s' : Shared}, Inv (X.blk s3 H3 scope ce fp) [] σ' H' s' → (∀ b ∈ fp, H' b = none) → ∀ b ∈ fp, FpOk (X.blk s3 H3 scope ce fp) [] H' b := fun {σ' H' s'} I' hn b hb =>
    ⟨hn b hb, (I'.ok.exf b hb).1, I'.ok.exfs b hb, .inl hb, (I'.ok.exf b hb).2, fun p hp => by cases hp⟩
  have loop : codeAny (model X.prog X.w) X.A (.compLoop (two kx vx ta ia tb ib scope pos) 0 (.ref it) (.ref D) ce) (compPost (model X.prog X.w) X.A X.xe use Qf (.ref D) s3.heap.objs.size) s4 := by
    refine loopA (fb ce) (fun n s' => ∃ i H', Inv (X.blk s3 H3 scope ce fp) [] (wipe σ vs) H' s' ∧ tn i s'.heap ∧ (∀ b ∈ fp, H' b = none) ∧ W i n H') ?_ m0 ⟨0, H3, I4, st4, nfp, w0⟩
    rintro n s5 ⟨i, H5, I5, st5, n5, w5⟩
    rcases turn i n H5 w5 with ⟨stop, qq⟩ | ⟨go, Nx, hNx, step⟩
    · refine thnF (T.done (X.blk s3 H3 scope ce fp) rfl rfl rfl hc i [] s5 _ H5 (fun _ _ => False) I5 (stat I5 n5) st5 stop) fun r s6 ⟨hr, I6⟩ => ?_
      subst hr
      have I7 : Inv X pins σ H5 s6 := I3.call' (ch := fp) I6.os I6.base I6.hok I6.bare fun b hb => let z := (f3 b hb).1.2; ⟨z.2.2.1, z.1, z.2.2.2.1, z.2.2.2.2⟩
      have nC : H5 s3.heap.objs.size = none := cL ▸ I6.free
      obtain ⟨m, hn, _⟩ := I6.loc
      have hn : s6.heap.Ns ce.locals m := hn
      exact fin D s3.heap.objs.size s6 m H5 I7 qq (cL ▸ hn) (I3.fpOk (Nat.le_refl _) nC)
    · refine thnF (T.item (X.blk s3 H3 scope ce fp) rfl rfl rfl hc i [] s5 _ H5 (fun _ _ => False) I5 (stat I5 n5) st5 go) fun r s6 ⟨u, hr, h6⟩ => ?_
      subst hr
      refine thnF h6 fun _ s7 ⟨x, H7, I7, r7, y7, st7, n7⟩ => ?_
      refine thnF (pga.run _ s7 _ H7 x u _ (I7.pinned (stat I7 n7) (T.obj _ _ st7)) r7 (step x H7 y7)) fun _ s8 ⟨σ8, H8, I8, hw8, q8⟩ => ?_
      have k8 : ∀ (j : Nat) v, (wipe σ vs)[j]? = some (some v) → (wipe σ8 vs1)[j]? = some (some v) := fun j v e => by
        rw [← hw8] at e
        obtain ⟨e1, e2⟩ := wipe_some e
        rw [wipe_out fun z => e2 (hv j z)]
        exact e1
      have l8 : (wipe σ vs).length = (wipe σ8 vs1).length := by rw [wipe_length σ8, ← hw8, wipe_length]
      -- the outer turn ends
      have close : ∀ {s' : Shared} {H' : Hp}, Inv (X.blk s3 H3 scope ce fp) ([] ++ pinsAt fp s7.heap) (wipe σ8 vs1) H' s' → Nx H' →
          ∃ m, m < n ∧ ∃ i H', Inv (X.blk s3 H3 scope ce fp) [] (wipe σ vs) H' s' ∧ tn i s'.heap ∧ (∀ b ∈ fp, H' b = none) ∧ W i m H' := fun {s' H'} I' nx => by
        obtain ⟨m', hm, w'⟩ := hNx H' nx
        have pin' : ∀ b ∈ fp, ∀ o, s7.heap.get? b = some o → s'.heap.get? b = some o ∧ H' b = none := fun b hb o e =>
          let z := I'.pin (b, o) (List.mem_append_right _ (List.mem_append_right _ (mem_pinsAt hb e))); ⟨z.1, z.2.1⟩
        exact ⟨m', hm, i + 1, H', (I'.unpinned (pins := [])).weak l8 k8, T.keep _ _ _ st7 fun b hb o e => (pin' b hb o e).1, fun b hb => let ⟨o, e, _⟩ := T.obj _ _ st7 b hb; (pin' b hb o e).2, w'⟩
      refine thnF (pib.run _ s8 σ8 H8 _ I8 q8) fun xv s10 hx => thnF hx fun itv s11 h11 => ?_
      obtain ⟨it1, fp1, tn1, Jb, H11, e1, I11, T1, st11, f11, W1, ⟨m1, w1⟩, turn1⟩ := h11
      subst e1
      have stat1 : ∀ {H' : Hp}, (∀ b ∈ fp1, H' b = none) → ∀ b ∈ fp1, FpOk (X.blk s3 H3 scope ce fp) ([] ++ pinsAt fp s7.heap) H' b := fun hn b hb => ⟨hn b hb, (f11 b hb).2⟩
      have inner : codeAny (model X.prog X.w) X.A (.compLoop (two kx vx ta ia tb ib scope pos) 1 (.ref it1) (.ref D) ce)
          (fun r s' => match r with
            | .ok _ => ∃ m, m < n ∧ ∃ i H', Inv (X.blk s3 H3 scope ce fp) [] (wipe σ vs) H' s' ∧ tn i s'.heap ∧ (∀ b ∈ fp, H' b = none) ∧ W i m H'
            | .error _ => False) s11 := by
        refine loopB (fun k s' => ∃ j H', Inv (X.blk s3 H3 scope ce fp) ([] ++ pinsAt fp s7.heap) (wipe σ8 vs1) H' s' ∧ tn1 j s'.heap ∧ (∀ b ∈ fp1, H' b = none) ∧ W1 j k H') ?_ m1 ⟨0, H11, I11.weak (wipe_length _ _) (fun j v e => (wipe_some e).1), st11, fun b hb => (f11 b hb).1, w1⟩
        rintro k s12 ⟨j, H12, I12, st12, n12, w12⟩
        rcases turn1 j k H12 w12 with ⟨stop1, nx1⟩ | ⟨go1, Nx1, hNx1, step1⟩
        · refine thnF (T1.done (X.blk s3 H3 scope ce fp) rfl rfl rfl hc j _ s12 (wipe σ8 vs1) H12 (fun _ _ => False) I12 (stat1 n12) st12 stop1) fun r s13 ⟨hr, I13⟩ => ?_
          subst hr
          exact close I13 nx1
        · refine thnF (T1.item (X.blk s3 H3 scope ce fp) rfl rfl rfl hc j _ s12 (wipe σ8 vs1) H12 (fun _ _ => False) I12 (stat1 n12) st12 go1) fun r s13 ⟨u1, hr, h13⟩ => ?_
          subst hr
          refine thnF h13 fun _ s14 ⟨x1, H14, I14, r14, y14, st14, n14⟩ => ?_
          refine thnF (pgb.run _ s14 (wipe σ8 vs1) H14 x1 u1 _ (I14.pinned (stat1 n14) (T1.obj _ _ st14)) r14 (step1 x1 H14 y14)) fun _ s15 ⟨σ15, H15, I15, hw15, q15⟩ => ?_
          refine thnF (pk.run _ s15 σ15 H15 _ I15 q15) fun kv s16 ⟨yk, H16, I16, r16, q16⟩ => ?_
          refine thnF (pz.run _ s16 σ15 H16 _ I16 q16) fun zv s17 ⟨yz, H17, I17, r17, kvs, ke, ek, hD17, hz17, nx⟩ => ?_
          subst ek
          refine d_dictSet (X := X.blk s3 H3 scope ce fp) I17 hD17 hz17 r16 r17 fun s18 I18 => ?_
          obtain ⟨m', hm, w'⟩ := hNx1 _ nx
          have pin' : ∀ b ∈ fp1, ∀ o, s14.heap.get? b = some o → s18.heap.get? b = some o ∧ (upd H17 D (.dK (putK kvs ke yz))) b = none := fun b hb o e =>
            let z := I18.pin (b, o) (List.mem_append_right _ (List.mem_append_right _ (mem_pinsAt hb e))); ⟨z.1, z.2.1⟩
          exact ⟨m', hm, j + 1, _, I18.unpinned.weak (by rw [← hw15, wipe_length]) (fun j v e => by rw [← hw15] at e; exact (wipe_some e).1), T1.keep _ _ _ st14 fun b hb o e => (pin' b hb o e).1, fun b hb => let ⟨o, e, _⟩ := T1.obj _ _ st14 b hb; (pin' b hb o e).2, w'⟩
      exact startB inner (T1.self X.A 0 _ _ _ st11 inner)
  exact codeAny_compStart_dict loop (T.self X.A 0 _ _ _ st4 loop)
theorem pe_dc2 {kx vx ta ia tb ib : Expr} {scope : Scope} {own : List (Str × Nat)} {vs1 : List Nat} {pos : Pos} {wa wb : TI} {ga gb : TG} {tk tv : TE} (hc : X.calm = true) (hN : X.N.Nodup) (hi : PI X ta ia wa) (ok : BlkOk X.N X.env.scope scope own) (hv : ∀ i ∈ vs1, i ∈ own.map (·.2))
    (hga : InBlk X scope fun Y => PG Y ta ga) (hib : InBlk X scope fun Y => PI Y tb ib wb) (hgb : InBlk X scope fun Y => PG Y tb gb) (hk : InBlk X scope fun Y => PE Y kx tk) (hz : InBlk X scope fun Y => PE Y vx tv)
    (fa : ∀ x, foldedSetIterable ia X.env x = pure x := by intro _; rfl) (fb : ∀ env x, foldedSetIterable ib env x = pure x := by intro _ _; rfl) :
    PE X (.DictComp kx vx [⟨ta, ia, [], 0⟩, ⟨tb, ib, [], 0⟩] scope pos) (tDc2 wa ga wb gb tk tv (own.map (·.2)) vs1) := by
  refine ⟨fun pins s σ H Q I h => ?_⟩
  rw [arm_eval_DictComp]
  refine core hc hN I hi ok hv hga hib hgb hk hz fa fb h fun D C s' m H' I' q hn f => ⟨m, hn, fun h'' sb => ?_⟩
  exact ⟨.ref D, H', I'.turned (t' := s'.toks) (fun b o hb e => (sb.2 b hb).trans e) f.1 f.2.1 f.2.2.2.1 f.2.2.2.2.1 f.2.2.2.2.2, rfl, q⟩
/-! ### a walk of a tuple, of a list, of a range: T x H Nx is one turn -/
theorem walk_t {K : PySem.W.Frag} {a : Addr} {xs : List V} {T : V → Hp → (Hp → Prop) → Prop} {H0 : Hp} {Qd : Hp → Prop} (Pv : Nat → Hp → Prop) (h0 : Pv 0 H0) (hl : ∀ i H, i ≤ xs.length → Pv i H → SqT K H a xs)
    (hs : ∀ i x H, xs[i]? = some x → Pv i H → T x H (Pv (i + 1))) (hd : ∀ H, Pv xs.length H → Qd H) :
    ∃ W : Nat → Nat → Hp → Prop, (∃ m, W 0 m H0) ∧ ∀ i m H, W i m H →
      ((Itt K a).stop i H ∧ Qd H) ∨ ((Itt K a).go i H ∧ ∃ Nx : Hp → Prop, (∀ H', Nx H' → ∃ m', m' < m ∧ W (i + 1) m' H') ∧ ∀ x H', (Itt K a).yld i H x H' → T x H' Nx) := by
  refine ⟨fun i m H => m = xs.length - i ∧ i ≤ xs.length ∧ Pv i H, ⟨xs.length, (Nat.sub_zero _).symm, Nat.zero_le _, h0⟩, ?_⟩
  rintro i m H ⟨rfl, hi, p⟩
  have q := hl i H hi p
  rcases Nat.lt_or_ge i xs.length with c | c
  · refine .inr ⟨⟨xs, xs[i], q, List.getElem?_eq_getElem c⟩, Pv (i + 1), fun H' p' => ⟨xs.length - (i + 1), by omega, rfl, c, p'⟩, ?_⟩
    rintro x H' ⟨e, y⟩
    subst e
    exact hs i x _ (y xs q) p
  · have e : i = xs.length := by omega
    subst e
    exact .inl ⟨⟨xs, q, Nat.le_refl _⟩, hd H p⟩
theorem walk_l {K : PySem.W.Frag} {a : Addr} {xs : List V} {T : V → Hp → (Hp → Prop) → Prop} {H0 : Hp} {Qd : Hp → Prop} (Pv : Nat → Hp → Prop) (h0 : Pv 0 H0) (hl : ∀ i H, i ≤ xs.length → Pv i H → SqL K H a xs)
    (hs : ∀ i x H, xs[i]? = some x → Pv i H → T x H (Pv (i + 1))) (hd : ∀ H, Pv xs.length H → Qd H) :
    ∃ W : Nat → Nat → Hp → Prop, (∃ m, W 0 m H0) ∧ ∀ i m H, W i m H →
      ((Itl K a).stop i H ∧ Qd H) ∨ ((Itl K a).go i H ∧ ∃ Nx : Hp → Prop, (∀ H', Nx H' → ∃ m', m' < m ∧ W (i + 1) m' H') ∧ ∀ x H', (Itl K a).yld i H x H' → T x H' Nx) := by
  refine ⟨fun i m H => m = xs.length - i ∧ i ≤ xs.length ∧ Pv i H, ⟨xs.length, (Nat.sub_zero _).symm, Nat.zero_le _, h0⟩, ?_⟩
  rintro i m H ⟨rfl, hi, p⟩
  have q := hl i H hi p
  rcases Nat.lt_or_ge i xs.length with c | c
  · refine .inr ⟨⟨xs, xs[i], q, List.getElem?_eq_getElem c⟩, Pv (i + 1), fun H' p' => ⟨xs.length - (i + 1), by omega, rfl, c, p'⟩, ?_⟩
    rintro x H' ⟨e, y⟩
    subst e
    exact hs i x _ (y xs q) p
  · have e : i = xs.length := by omega
    subst e
    exact .inl ⟨⟨xs, q, Nat.le_refl _⟩, hd H p⟩
end
end DC2

set_option Elab.async false
set_option linter.all false
set_option maxRecDepth 100000
set_option maxHeartbeats 4000000
/-! tuple * 1: the tuple itself. -/
namespace Ew
open PySem PySem.Spec PyProof.Rows L2
theorem tuple_mulW1 (l : Addr) (items : Array Value) (n : Nat) (dd : Option Addr) (sl : Array (Option Value)) (u : Tok) :
    Meets (Builtin.«tuple.__mul__» ⟨[.ref l, .int 1 u], []⟩) (fun _ R s => s.heap.get? l = some { cls := .type "tuple", dict := dd, data := .seq items n, slots := sl } ∧ R (.ok (.ret (Value.ref l))) s) :=
  .of_wp fun prog w A R s h => by
    obtain ⟨hp, g, d, tk, os⟩ := s
    obtain ⟨hl, h⟩ := h
    have f1 := AutoSeq1.idx_int
    have c1 : (items.isEmpty || (1 : Int) == 1) = true := by simp
    wp_walk using wpAny_loadPart' hl
    repeat (first
      | (refine wpAny_ite_false (decide_eq_false (by decide)) ?_; wp_walk using wpAny_loadPart' hl)
      | (refine wpAny_ite_true (decide_eq_true (by simp)) ?_; wp_walk using wpAny_loadPart' hl))
    exact ⟨_, rfl, h⟩
def rRepT1 (K : PySem.W.Frag) : R2 := fun x y H Q => ∃ l xs, x = .ref l ∧ y = .int 1 ∧ SqT K H l xs ∧ Q (.ref l) H
theorem op_repT1 {X : Cx} : OpR X (binaryOp .Mult) (rRepT1 X.K) := by
  intro pins s σ H x y v u Q I rx ry h
  obtain ⟨l, xs, rfl, rfl, hT, q⟩ := h
  cases rx
  obtain ⟨t, rfl⟩ := ry
  obtain ⟨its, r, ⟨⟨cls, dd, data, sl⟩, ho, hc, n, hd⟩, hs⟩ := I.tuple hT
  simp only at hc hd
  subst hc hd
  refine wpAny_binaryOp_repeat_ref (T := "tuple") (U := "int") (by decide) ⟨_, ho, rfl⟩ (fun s' => typeIs_int s' 1 t) noFill_tuple_mul F.fills_int_mul F.slot_int_rmul repeat_tuple F.slot_int_index.lookup
    (call_meets F.slot_int_rmul (typeIs_int s 1 t) F.entry_int_rmul (F.args_int_rmul_2 _ _) (int_rmul_tuple 1 t l its.toArray n dd sl)
      ⟨ho, rfl, ⟨_, ho, rfl⟩, call_meets F.slot_tuple_mul ⟨_, ho, rfl⟩ F.entry_tuple_mul (F.args_tuple_mul_2 _ _) (tuple_mulW1 l its.toArray n dd sl t) ⟨ho, ?_⟩⟩)
  exact ⟨.ref l, H, I, rfl, q⟩
end Ew

set_option Elab.async false
set_option linter.all false
set_option maxRecDepth 100000
set_option maxHeartbeats 4000000
/-! sorted(t) of a tuple of ints. -/
namespace STx
open PySem PySem.W L2 PySem.Spec PyProof.Rows
open Sem (wp)
section
variable {prog : Program} {w : World} {A : Around} {E : Value → Shared → Prop} {s : Shared}
/-- what a tuple holds is collected -/
theorem gathered {t : Addr} {us : List Value} {Q : List Value → Shared → Prop} (ht : s.heap.IsTuple t us.toArray) (hz : us.length ≤ sizeLine)
    (q : Q us { s with heap := (s.heap.push (seqObj "list" #[] 0)).update s.heap.objs.size (Obj.mapSeq (· ++ us.toArray)) }) : wpAny (model prog w) A (collect (.ref t)) Q E s := by
  obtain ⟨ob, h1, h2, m, h3⟩ := id ht
  unfold collect
  refine wpAny_bind (wpAny_runValue (codeAny_builtin entry_proto_collect' ?_)); show wpAny _ _ (do again (.builtin "list.__iadd__" ⟨[← newList [], .ref t], []⟩)) _ _ s
  refine wpAny_bind (wpAny_newList (wpAny_pure ⟨Code.quiet_builtin _ (by decide +kernel), codeAny_builtin entry_list_iadd' ?_⟩)); show wpAny _ _ (Builtin.List.listExtendWith (.ref s.heap.objs.size) (.ref t) (.ref s.heap.objs.size)) _ _ { s with heap := s.heap.push (seqObj "list" #[] 0) }
  unfold Builtin.List.listExtendWith
  have h1' : (s.heap.push (seqObj "list" #[] 0)).get? t = some ob := Heap.get?_push_of_some _ h1
  refine wpAny_bind (wpAny_typeOf (T := "tuple") ⟨ob, h1', h2⟩ ?_); have e : (Value.type "tuple" == Value.type "tuple") = true := by rfl
  rw [if_pos (by rw [e]; simp)]; refine wpAny_bind (listItems_at h1' h3 ?_); refine wpAny_bind (listItems_at (xs := #[]) (n := 0) (Heap.get?_push_size _ rfl) rfl ?_); rw [if_neg (by simp)]
  refine wpAny_bind (listUpdate_at (xs := #[]) (n := 0) (Heap.get?_push_size _ rfl) rfl ?_ (Nat.zero_le _) (by show (#[] ++ us.toArray).size ≤ sizeLine + 1; simp only [Array.size_append, List.size_toArray, List.length_nil]; omega)); refine wpAny_pure ?_
  show wpAny (model prog w) A (do let o ← load s.heap.objs.size; match o.data with | .seq xs _ => pure xs.toList | _ => unsupported "internal:collect") Q E { s with heap := (s.heap.push (seqObj "list" #[] 0)).update s.heap.objs.size (Obj.mapSeq (· ++ us.toArray)) }
  refine wpAny_bind (wpAny_load (get?_update_seq (Heap.get?_push_size _ rfl) _) ?_); show wpAny _ _ (pure ((#[] : Array Value) ++ us.toArray).toList) Q E _
  rw [show ((#[] : Array Value) ++ us.toArray).toList = us by simp]; exact wpAny_pure q
theorem sorted_tup {t : Addr} {us : List Value} {lt : Value → Value → Bool} {Q : Value → Shared → Prop} (O : SrtO.Swo lt) (ht : s.heap.IsTuple t us.toArray) (hz : us.length ≤ sizeLine)
    (hS : 2 ≤ us.length → ∀ (g : Heap) (a : Addr), g.get? a = some (seqObj "list" us.toArray 0) → (∀ b o, s.heap.get? b = some o → b ≠ a ∧ g.get? b = some o) → SrtO.SortableO prog w A.in1.in1 { s with heap := g } a us lt)
    (q : ∀ out : List Value, SrtO.Srtd lt out → SrtO.Stb lt out us → Q (.ref (s.heap.objs.size + 1)) { s with heap := sortedAll s.heap us out.toArray }) :
    wpAny (model prog w) A (call (.builtin "sorted") [.ref t]) Q E s := by
  refine Calls.call_function_entry kind_sorted plain_sorted entry_sorted (args_sorted1 _) ?_; unfold Builtin.«sorted»
  refine wpAny_bind (m := checkCount "sorted" 1 1 _) (wpAny_pure ?_); refine wpAny_bind (gathered ht hz ?_); refine wpAny_bind (wpAny_newList ?_ hz)
  have e1 : ((s.heap.push (seqObj "list" #[] 0)).update s.heap.objs.size (Obj.mapSeq (· ++ us.toArray))).objs.size = s.heap.objs.size + 1 := by
    rw [Heap.size_update, size_push']
  have e2 : (((s.heap.push (seqObj "list" #[] 0)).update s.heap.objs.size (Obj.mapSeq (· ++ us.toArray))).push (seqObj "list" us.toArray 0)).get? (s.heap.objs.size + 1) = some (seqObj "list" us.toArray 0) := by
    rw [← e1]; exact Heap.get?_push_size _ rfl
  have e3 : ∀ b o, s.heap.get? b = some o → b ≠ s.heap.objs.size + 1 ∧ (((s.heap.push (seqObj "list" #[] 0)).update s.heap.objs.size (Obj.mapSeq (· ++ us.toArray))).push (seqObj "list" us.toArray 0)).get? b = some o := fun b o g => by
    have hb : b < s.heap.objs.size := Heap.lt_size g
    refine ⟨Nat.ne_of_lt (Nat.lt_succ_of_lt hb), Heap.get?_push_of_some _ ?_⟩
    rw [Heap.get?_update_ne _ _ _ _ (Nat.ne_of_lt hb)]; exact Heap.get?_push_of_some _ g
  show wpAny _ _ _ _ _ { s with heap := ((s.heap.push (seqObj "list" #[] 0)).update s.heap.objs.size (Obj.mapSeq (· ++ us.toArray))).push (seqObj "list" us.toArray 0) }
  rw [e1]; refine wpAny_bind (wpAny_holding (wpAny_call_entry slot_list_sort ⟨_, e2, rfl⟩ entry_list_sort (SrtO.list_sort_ord O e2 hz (fun h2 => hS h2 _ _ e2 e3) fun out hs hb => ⟨_, rfl, ?_⟩) (args_list_sort _)))
  exact wpAny_pure ⟨_, rfl, q out hs hb⟩
end
section
variable {X : Cx}
/-- sorted(xs), xs a list or a tuple of ints -/
def rSortA (K : PySem.W.Frag) : List V → Hp → VK → Prop := fun vs H Q => ∃ (a : Addr) (ns : List Int), vs = [V.ref a] ∧ (SqL K H a (ns.map V.int) ∨ SqT K H a (ns.map V.int)) ∧
  ∀ (ms : List Int) (p : Addr), ms.Perm ns → ms.Pairwise (· ≤ ·) → H p = none → Q (.ref p) (upd H p (.lst (ms.map V.int)))
theorem cr_sortedA : CallR X (.builtin "sorted") (rSortA X.K) := by
  intro pins s σ H vs us Q I r h
  obtain ⟨a, ns, rfl, hs | hs, q⟩ := h
  · exact cr_sortedI pins s σ H _ us Q I r ⟨a, ns, rfl, hs, q⟩
  · obtain ⟨its, rv, ht, hz⟩ := I.tuple hs
    rw [Vals.ref1 r]
    have rin := rv.ints
    refine sorted_tup SrtO.swo_int (show s.heap.IsTuple a its.toArray from ht) (by rw [← rv.length]; exact hz) (fun h2 g a' _ _ => SrtO.ints_sortable rin h2) fun out h1 h2 => ?_
    obtain ⟨k1, k2, k3⟩ := SrtO.ints_out rin h1 h2
    obtain ⟨ep, at_⟩ := PyProof.Rows.sortedAll_at s.heap its out.toArray
    have len : ((out.map SrtO.iv).map V.int).length ≤ sizeLine := by
      rw [List.length_map, k2.length_eq]; rw [List.length_map] at hz; exact hz
    exact ⟨.ref _, upd H (s.heap.objs.size + 1) (.lst ((out.map SrtO.iv).map V.int)), I.laid (t' := s.toks) (fun _ _ => PyProof.Rows.sortedAll_old) (Nat.le_succ _) ⟨len, out, ep, vals_of_ints k1, at_⟩, rfl, q _ _ k2 k3 (I.hok.fresh (Nat.le_succ _))⟩
end
end STx

set_option Elab.async false
set_option linter.all false
set_option maxRecDepth 100000
set_option maxHeartbeats 4000000
/-! Lists of whole numbers: sorted, the least k, the sums. -/
namespace KM
open PySem L2 Ew
abbrev nV (ns : List Nat) : List V := ns.map fun (n : Nat) => V.int (n : Int)
def sortN (ns : List Nat) : List Nat := (PySem.W.sortI (ns.map fun (n : Nat) => (n : Int))).map Int.toNat
theorem sortN_of {ns : List Nat} {ns' : List Int} (hp : ns'.Perm (ns.map fun (n : Nat) => (n : Int))) (hs : ns'.Pairwise (· ≤ ·)) : ns' = (sortN ns).map fun (n : Nat) => (n : Int) := by
  have e := PySem.W.eq_sortI hp hs
  unfold sortN
  rw [← e, List.map_map]
  refine (List.map_id _).symm.trans (List.map_congr_left fun x hx => ?_)
  obtain ⟨n, _, rfl⟩ := List.mem_map.mp (hp.mem_iff.mp hx)
  show (n : Int) = ((n : Int).toNat : Int)
  rw [Int.toNat_natCast]
theorem int_map (ns : List Nat) : (ns.map fun (n : Nat) => (n : Int)).map V.int = nV ns := by
  rw [List.map_map]; rfl
theorem id_nat (ns : List Nat) : (ns.map fun (n : Nat) => (n : Int)).map Int.toNat = ns := by
  rw [List.map_map]
  exact (List.map_congr_left fun n _ => Int.toNat_natCast n).trans (List.map_id _)
theorem sortN_perm (ns : List Nat) : (sortN ns).Perm ns := by
  have h := (PySem.W.sortI_perm (ns.map fun (n : Nat) => (n : Int))).map Int.toNat
  rw [id_nat] at h
  exact h
theorem sortN_rises (ns : List Nat) : (sortN ns).Pairwise (· ≤ ·) :=
  (PySem.W.sortI_rises (ns.map fun (n : Nat) => (n : Int))).map Int.toNat fun a b hab => by omega
/-- what rises and holds the same is the sorted list -/
theorem sortN_eq {ns ms : List Nat} (hp : ms.Perm ns) (hs : ms.Pairwise (· ≤ ·)) : ms = sortN ns := by
  have e := sortN_of (ns := ns) (ns' := ms.map fun (n : Nat) => (n : Int)) (hp.map _) (hs.map (S := fun (a b : Int) => a ≤ b) _ fun a b hab => by omega)
  have e3 := congrArg (List.map Int.toNat) e
  rwa [id_nat, id_nat] at e3
theorem sortN_congr {ns ms : List Nat} (hp : ms.Perm ns) : sortN ms = sortN ns := sortN_eq ((sortN_perm ms).trans hp) (sortN_rises ms)
theorem sortN_self {ns : List Nat} (hs : ns.Pairwise (· ≤ ·)) : sortN ns = ns := (sortN_eq (.refl _) hs).symm
theorem sortN_len (ns : List Nat) : (sortN ns).length = ns.length := (sortN_perm ns).length_eq
def topN (k : Nat) (ns : List Nat) : List Nat := (sortN ns).take k
theorem topN_congr {k : Nat} {ns ms : List Nat} (hp : ms.Perm ns) : topN k ms = topN k ns := by unfold topN; rw [sortN_congr hp]
theorem topN_rises (k : Nat) (ns : List Nat) : (topN k ns).Pairwise (· ≤ ·) := (sortN_rises ns).sublist (List.take_sublist _ _)
theorem topN_len (k : Nat) (ns : List Nat) : (topN k ns).length ≤ k := List.length_take_le _ _
theorem topN_self {k : Nat} {ns : List Nat} (hs : ns.Pairwise (· ≤ ·)) (hl : ns.length ≤ k) : topN k ns = ns := by
  unfold topN; rw [sortN_self hs, List.take_of_length_le hl]
/-- what many lesser ones stand ahead of does not matter -/
theorem topN_drop {k : Nat} {Y Z : List Nat} (h : ∀ z ∈ Z, k ≤ Y.countP fun y => decide (y ≤ z)) : topN k (Y ++ Z) = topN k Y := by
  rcases Nat.lt_or_ge Y.length k with hk | hk
  · have hz : Z = [] := by
      rcases Z with _ | ⟨z, Z⟩
      · rfl
      · have h1 := h z (List.mem_cons_self ..)
        have h2 := List.countP_le_length (p := fun y => decide (y ≤ z)) (l := Y)
        omega
    rw [hz, List.append_nil]
  · have hS := sortN_rises Y
    have hP := sortN_perm Y
    have hl : (sortN Y).length = Y.length := hP.length_eq
    have split_ : (sortN Y).take k ++ (sortN Y).drop k = sortN Y := List.take_append_drop k _
    have low : ∀ z ∈ Z, ∀ p ∈ (sortN Y).take k, p ≤ z := fun z hz p hp => by
      refine Nat.not_lt.mp fun hlt => ?_
      have hc := h z hz
      rw [← hP.countP_eq, ← split_, List.countP_append] at hc
      obtain ⟨i, hi⟩ := List.mem_iff_getElem?.mp hp
      have hik : i < ((sortN Y).take k).length := (List.getElem?_eq_some_iff.mp hi).1
      have hi' : (sortN Y)[i]? = some p := by
        rw [List.getElem?_take] at hi
        split at hi
        · exact hi
        · cases hi
      have hin : i < (sortN Y).length := (List.getElem?_eq_some_iff.mp hi').1
      have hk2 : i < k := by
        have := List.length_take_le k (sortN Y)
        omega
      have c1 : (sortN Y).countP (fun y => decide (y ≤ z)) ≤ i := by
        rw [← List.take_append_drop i (sortN Y), List.countP_append]
        have a1 := List.countP_le_length (p := fun y => decide (y ≤ z)) (l := (sortN Y).take i)
        have a2 : ((sortN Y).drop i).countP (fun y => decide (y ≤ z)) = 0 := by
          refine List.countP_eq_zero.mpr fun y hy => ?_
          have hd : (sortN Y).drop i = p :: (sortN Y).drop (i + 1) := by
            rw [List.drop_eq_getElem_cons hin]
            congr 1
            rw [List.getElem?_eq_getElem hin] at hi'
            exact Option.some.inj hi'
          have hpw := hS.sublist (List.drop_sublist i (sortN Y))
          rw [hd] at hy hpw
          rcases List.mem_cons.mp hy with rfl | hy
          · simp; omega
          · have := (List.pairwise_cons.mp hpw).1 y hy
            simp; omega
        have a3 := List.length_take_le i (sortN Y)
        omega
      have c2 := hP.countP_eq (p := fun y => decide (y ≤ z))
      rw [← List.countP_append, split_] at hc
      omega
    have e : sortN (Y ++ Z) = (sortN Y).take k ++ sortN ((sortN Y).drop k ++ Z) := by
      refine (sortN_eq ?_ ?_).symm
      · have p1 := (sortN_perm ((sortN Y).drop k ++ Z)).append_left ((sortN Y).take k)
        rw [← List.append_assoc, split_] at p1
        exact p1.trans (hP.append_right Z)
      · refine List.pairwise_append.mpr ⟨hS.sublist (List.take_sublist _ _), sortN_rises _, fun a ha b hb => ?_⟩
        rcases List.mem_append.mp ((sortN_perm _).mem_iff.mp hb) with h1 | h1
        · rw [← split_] at hS
          exact (List.pairwise_append.mp hS).2.2 a ha b h1
        · exact low b h1 a ha
    unfold topN
    rw [e, List.take_append_of_le_length (by rw [List.length_take, hl]; omega), List.take_take, Nat.min_self]
/-- the least k and the rest -/
theorem topN_split (k : Nat) (ns : List Nat) : ∃ R, ns.Perm (topN k ns ++ R) ∧ ∀ r ∈ R, (topN k ns).length = k ∧ ∀ p ∈ topN k ns, p ≤ r := by
  refine ⟨(sortN ns).drop k, ?_, fun r hr => ⟨?_, fun p hp => ?_⟩⟩
  · unfold topN
    rw [List.take_append_drop]
    exact (sortN_perm ns).symm
  · have := List.length_pos_of_mem hr
    rw [List.length_drop] at this
    unfold topN
    rw [List.length_take]
    omega
  · have h := sortN_rises ns
    rw [← List.take_append_drop k (sortN ns)] at h
    exact (List.pairwise_append.mp h).2.2 p hp r hr
theorem topN_app (k : Nat) (a b : List Nat) : topN k (topN k a ++ b) = topN k (a ++ b) := by
  obtain ⟨R, hp, hr⟩ := topN_split k a
  have p2 : (a ++ b).Perm ((topN k a ++ b) ++ R) := by
    refine (hp.append_right b).trans ?_
    rw [List.append_assoc, List.append_assoc]
    exact List.Perm.append_left _ List.perm_append_comm
  rw [topN_congr p2]
  refine (topN_drop fun z hz => ?_).symm
  obtain ⟨h1, h2⟩ := hr z hz
  rw [List.countP_append, List.countP_eq_length.mpr (fun p hp => by simpa using h2 p hp), h1]
  omega
theorem topN_app_r (k : Nat) (a b : List Nat) : topN k (a ++ topN k b) = topN k (a ++ b) := by
  rw [topN_congr (List.perm_append_comm (l₁ := a)), topN_app, topN_congr List.perm_append_comm]
def sumsN (a b : List Nat) : List Nat := a.flatMap fun x => b.map fun y => x + y
theorem sums_nil (b : List Nat) : sumsN [] b = [] := rfl
theorem sums_cons (x : Nat) (a b : List Nat) : sumsN (x :: a) b = (b.map fun y => x + y) ++ sumsN a b := rfl
theorem sums_app (a a' b : List Nat) : sumsN (a ++ a') b = sumsN a b ++ sumsN a' b := List.flatMap_append
theorem sums_perm {a a' : List Nat} (b : List Nat) (h : a.Perm a') : (sumsN a b).Perm (sumsN a' b) := h.flatMap_right _
theorem sums_nil_r : ∀ a : List Nat, sumsN a [] = []
  | [] => rfl
  | x :: a => by rw [sums_cons, sums_nil_r a]; rfl
theorem sums_cons_r (y : Nat) (b : List Nat) : ∀ a : List Nat, (sumsN a (y :: b)).Perm ((a.map fun x => x + y) ++ sumsN a b)
  | [] => .refl _
  | x :: a => by
    rw [sums_cons, sums_cons, List.map_cons, List.map_cons, List.cons_append, List.cons_append]
    refine List.Perm.cons _ ((List.Perm.append_left _ (sums_cons_r y b a)).trans ?_)
    rw [← List.append_assoc, ← List.append_assoc]
    exact List.Perm.append_right _ List.perm_append_comm
theorem sums_comm : ∀ a b : List Nat, (sumsN a b).Perm (sumsN b a)
  | [], b => by rw [sums_nil_r]; exact .refl _
  | x :: a, b => by
    have h := sums_cons_r x a b
    rw [show (b.map fun y => y + x) = b.map fun y => x + y from List.map_congr_left fun y _ => Nat.add_comm y x] at h
    exact (List.Perm.append_left _ (sums_comm a b)).trans h.symm
theorem sums_app_r (a b c : List Nat) : (sumsN a (b ++ c)).Perm (sumsN a b ++ sumsN a c) :=
  (sums_comm _ _).trans ((by rw [sums_app]; exact (sums_comm b a).append (sums_comm c a) : (sumsN (b ++ c) a).Perm _))
theorem sums_map (x : Nat) (c : List Nat) : ∀ b : List Nat, sumsN (b.map fun y => x + y) c = (sumsN b c).map fun z => x + z
  | [] => rfl
  | y :: b => by
    rw [List.map_cons, sums_cons, sums_cons, List.map_append, sums_map x c b, List.map_map]
    congr 1
    exact List.map_congr_left fun z _ => Nat.add_assoc x y z
theorem sums_assoc (b c : List Nat) : ∀ a : List Nat, sumsN (sumsN a b) c = sumsN a (sumsN b c)
  | [] => rfl
  | x :: a => by rw [sums_cons, sums_app, sums_map, sums_cons, sums_assoc b c a]
theorem sums_count {q : Nat → Bool} {y : Nat} {b : List Nat} (hy : y ∈ b) : ∀ {P : List Nat}, (∀ p ∈ P, q (p + y) = true) → P.length ≤ (sumsN P b).countP q
  | [], _ => Nat.zero_le _
  | p :: P, h => by
    have ih := sums_count hy (P := P) fun p' hp' => h p' (List.mem_cons_of_mem _ hp')
    rw [sums_cons, List.countP_append, List.length_cons]
    have : 0 < (b.map fun y => p + y).countP q := List.countP_pos_iff.mpr ⟨p + y, List.mem_map.mpr ⟨y, hy, rfl⟩, h p (List.mem_cons_self ..)⟩
    omega
theorem topN_sums (k : Nat) (a b : List Nat) : topN k (sumsN (topN k a) b) = topN k (sumsN a b) := by
  obtain ⟨R, hp, hr⟩ := topN_split k a
  have p2 : (sumsN a b).Perm (sumsN (topN k a) b ++ sumsN R b) := by
    rw [← sums_app]
    exact sums_perm b hp
  rw [topN_congr p2]
  refine (topN_drop fun z hz => ?_).symm
  obtain ⟨r, hrR, hz2⟩ := List.mem_flatMap.mp hz
  obtain ⟨y, hy, rfl⟩ := List.mem_map.mp hz2
  obtain ⟨h1, h2⟩ := hr r hrR
  have := sums_count (q := fun s => decide (s ≤ r + y)) hy (P := topN k a) fun p hp => by
    have := h2 p hp
    simp
    omega
  omega
theorem topN_sums_r (k : Nat) (a b : List Nat) : topN k (sumsN a (topN k b)) = topN k (sumsN a b) := by
  rw [topN_congr (sums_comm a _), topN_sums, topN_congr (sums_comm b a)]
/-! ### the semiring -/
def plN (k : Nat) (a b : List Nat) : List Nat := topN k (a ++ b)
def tmN (k : Nat) (a b : List Nat) : List Nat := topN k (sumsN a b)
theorem tm_pl (k : Nat) (a b c : List Nat) : tmN k a (plN k b c) = plN k (tmN k a b) (tmN k a c) := by
  unfold tmN plN
  rw [topN_sums_r, topN_app, topN_app_r]
  exact topN_congr (sums_app_r a b c)
theorem tm_tm (k : Nat) (a b c : List Nat) : tmN k a (tmN k b c) = tmN k (tmN k a b) c := by
  unfold tmN
  rw [topN_sums_r, topN_sums, sums_assoc]
theorem pl_pl (k : Nat) (a b c : List Nat) : plN k a (plN k b c) = plN k (plN k a b) c := by
  unfold plN
  rw [topN_app_r, topN_app, List.append_assoc]
structure ElN (k : Nat) (a : List Nat) : Prop where
  up : a.Pairwise (· ≤ ·)
  len : a.length ≤ k
theorem el_top (k : Nat) (ns : List Nat) : ElN k (topN k ns) := ⟨topN_rises _ _, topN_len _ _⟩
theorem tm_one {k : Nat} {a : List Nat} (h : ElN k a) : tmN k a [0] = a := by
  unfold tmN
  have e : sumsN [0] a = a := by
    rw [sums_cons, sums_nil, List.append_nil]
    exact (List.map_congr_left fun y _ => Nat.zero_add y).trans (List.map_id _)
  have p := sums_comm a [0]
  rw [e] at p
  rw [topN_congr p]
  exact topN_self h.up h.len
theorem tm_zero (k : Nat) (a : List Nat) : tmN k a [] = [] := by
  unfold tmN
  rw [sums_nil_r]
  exact topN_self .nil (Nat.zero_le _)
theorem pl_zero {k : Nat} {a : List Nat} (h : ElN k a) : plN k a [] = a := by
  unfold plN
  rw [List.append_nil]
  exact topN_self h.up h.len
/-! ### the star -/
def stepN (k : Nat) (a t : List Nat) : List Nat := plN k [0] (tmN k a t)
def iterN (k : Nat) (a : List Nat) : Nat → List Nat
  | 0 => [0]
  | i + 1 => stepN k a (iterN k a i)
def starN (k : Nat) (a : List Nat) : List Nat := if 0 ∈ a then List.replicate k 0 else iterN k a k
theorem step_eq (k : Nat) (a t : List Nat) : stepN k a t = topN k (0 :: sumsN a t) := topN_app_r k [0] _
theorem sort_zero (ns : List Nat) : sortN (0 :: ns) = 0 :: sortN ns :=
  (sortN_eq (List.Perm.cons 0 (sortN_perm ns)) (List.pairwise_cons.mpr ⟨fun _ _ => Nat.zero_le _, sortN_rises ns⟩)).symm
theorem step_take {k m : Nat} {a u v : List Nat} (hu : u.Pairwise (· ≤ ·)) (hv : v.Pairwise (· ≤ ·)) (h : u.take m = v.take m) : (stepN k a u).take (m + 1) = (stepN k a v).take (m + 1) := by
  have key : ∀ w : List Nat, w.Pairwise (· ≤ ·) → (stepN k a w).take (m + 1) = (0 :: topN m (sumsN a (w.take m))).take k := fun w hw => by
    rw [step_eq]
    show ((sortN (0 :: sumsN a w)).take k).take (m + 1) = _
    rw [sort_zero, List.take_take, Nat.min_comm, ← List.take_take, List.take_succ_cons]
    have : (sortN (sumsN a w)).take m = topN m (sumsN a (w.take m)) := by
      show topN m (sumsN a w) = _
      rw [← topN_sums_r m a w, show topN m w = w.take m by unfold topN; rw [sortN_self hw]]
    rw [this]
  rw [key u hu, key v hv, h]
theorem iter_el {k : Nat} (hk : 1 ≤ k) (a : List Nat) : ∀ i, ElN k (iterN k a i)
  | 0 => ⟨List.pairwise_singleton _ _, hk⟩
  | _ + 1 => el_top _ _
theorem iter_take {k : Nat} (hk : 1 ≤ k) (a : List Nat) : ∀ i, (iterN k a i).take (i + 1) = (iterN k a (i + 1)).take (i + 1)
  | 0 => by
    show _ = (stepN k a [0]).take 1
    rw [step_eq]
    show _ = ((sortN (0 :: sumsN a [0])).take k).take 1
    rw [sort_zero, List.take_take, show min 1 k = 1 by omega]
    rfl
  | i + 1 => step_take (iter_el hk a i).up (iter_el hk a (i + 1)).up (iter_take hk a i)
theorem iter_fix {k : Nat} (hk : 1 ≤ k) (a : List Nat) : stepN k a (iterN k a k) = iterN k a k := by
  have h := iter_take hk a k
  rw [List.take_of_length_le (by have := (iter_el hk a k).len; omega), List.take_of_length_le (by have := (iter_el hk a (k + 1)).len; omega)] at h
  exact h.symm
theorem zeros_fix {k : Nat} {a : List Nat} (h0 : 0 ∈ a) : stepN k a (List.replicate k 0) = List.replicate k 0 := by
  rw [step_eq]
  obtain ⟨s, t, rfl⟩ := List.append_of_mem h0
  have p : (0 :: sumsN (s ++ 0 :: t) (List.replicate k 0)).Perm (List.replicate k 0 ++ (0 :: sumsN (s ++ t) (List.replicate k 0))) := by
    have p1 : (s ++ 0 :: t).Perm (0 :: (s ++ t)) := List.perm_middle
    have p2 := sums_perm (List.replicate k 0) p1
    rw [sums_cons, show ((List.replicate k 0).map fun y => 0 + y) = List.replicate k 0 by rw [List.map_replicate]] at p2
    exact (List.Perm.cons 0 p2).trans List.perm_middle.symm
  rw [topN_congr p, topN_drop fun z _ => by rw [List.countP_eq_length.mpr fun y hy => by rw [List.eq_of_mem_replicate hy]; simp]; rw [List.length_replicate]; exact Nat.le_refl _]
  exact topN_self (List.pairwise_replicate.mpr (.inr (Nat.le_refl _))) (by rw [List.length_replicate]; exact Nat.le_refl _)
theorem star_fix {k : Nat} (hk : 1 ≤ k) (a : List Nat) : plN k [0] (tmN k a (starN k a)) = starN k a := by
  unfold starN
  split
  · rename_i h; exact zeros_fix h
  · exact iter_fix hk a
theorem star_el {k : Nat} (hk : 1 ≤ k) (a : List Nat) : ElN k (starN k a) := by
  unfold starN
  split
  · exact ⟨List.pairwise_replicate.mpr (.inr (Nat.le_refl _)), by rw [List.length_replicate]; exact Nat.le_refl _⟩
  · exact iter_el hk a k
end KM

set_option Elab.async false
set_option linter.all false
set_option maxRecDepth 100000
set_option maxHeartbeats 4000000
/-! tuple * n from 1 on; == and != of lists, tuples of whole numbers; walks that do anything. -/
namespace KM
open PySem PySem.W L2 Ew
section
variable {X : Cx}
def rRepA (K : PySem.W.Frag) : R2 := fun x y H Q => ∃ l k xs, x = .ref l ∧ y = .int k ∧ SqT K H l xs ∧ xs ≠ [] ∧ 1 ≤ k ∧ k ≤ 1000 ∧ xs.length ≤ 1000 ∧ (k = 1 → Q (.ref l) H) ∧ (2 ≤ k → ∀ p, H p = none → Q (.ref p) (upd H p (.tup (List.replicate k.toNat xs).flatten)))
theorem op_repA : OpR X (binaryOp .Mult) (rRepA X.K) := by
  intro pins s σ H x y v u Q I rx ry h
  obtain ⟨l, k, xs, rfl, rfl, hT, hne, h1, h2, hz, q1, q2⟩ := h
  by_cases c : k = 1
  · subst c
    exact op_repT1 pins s σ H _ _ v u Q I rx ry ⟨l, xs, rfl, rfl, hT, q1 rfl⟩
  · exact op_repT pins s σ H _ _ v u Q I rx ry ⟨l, k, xs, rfl, rfl, hT, hne, by omega, h2, hz, q2 (by omega)⟩
abbrev dN (ns : List Nat) : List PyData := ns.map fun (n : Nat) => .int (n : Int)
theorem dp_nums {K : PySem.W.Frag} {H : Hp} : ∀ ns : List Nat, DpAll K H (nV ns) (dN ns)
  | [] => .nil
  | n :: ns => .cons (.int _) (dp_nums ns)
theorem eqv_nums : ∀ ns ms : List Nat, PyData.eqvAll (dN ns) (dN ms) = decide (ns = ms)
  | [], [] => rfl
  | [], _ :: _ => rfl
  | _ :: _, [] => rfl
  | n :: ns, m :: ms => by
    show (((n : Int) == (m : Int)) && PyData.eqvAll (dN ns) (dN ms)) = _
    rw [eqv_nums ns ms]
    by_cases a : n = m
    · subst a
      by_cases b : ns = ms
      · subst b; simp
      · simp [b]
    · have : ((n : Int) == (m : Int)) = false := beq_eq_false_iff_ne.mpr (by omega)
      rw [this]
      simp [a]
theorem lay_nums : ∀ ns : List Nat, PyData.canLayAll0 (dN ns) = true
  | [] => rfl
  | n :: ns => by
    show (true && PyData.canLayAll0 (dN ns)) = true
    rw [lay_nums ns]; rfl
theorem dep_nums : ∀ ns : List Nat, PyData.depthAll (dN ns) = 0
  | [] => rfl
  | n :: ns => by
    show max 0 (PyData.depthAll (dN ns)) = 0
    rw [dep_nums ns]; rfl
theorem shT (ns : List Nat) : SeqAt.shaped (.tuple (dN ns)) = true := by
  unfold SeqAt.shaped
  rw [show PyData.canLay0 (.tuple (dN ns)) = PyData.canLayAll0 (dN ns) from rfl, lay_nums, show PyData.depth (.tuple (dN ns)) = PyData.depthAll (dN ns) + 1 from rfl, dep_nums]
  rfl
theorem shL (ns : List Nat) : SeqAt.shaped (.list (dN ns)) = true := by
  unfold SeqAt.shaped
  rw [show PyData.canLay0 (.list (dN ns)) = PyData.canLayAll0 (dN ns) from rfl, lay_nums, show PyData.depth (.list (dN ns)) = PyData.depthAll (dN ns) + 1 from rfl, dep_nums]
  rfl
/-- two tuples, or two lists, of whole numbers -/
def rNums (K : PySem.W.Frag) (neg : Bool) : R2 := fun x y H Q => ∃ a b ns ms, x = .ref a ∧ y = .ref b ∧ ((SqT K H a (nV ns) ∧ SqT K H b (nV ms)) ∨ (SqL K H a (nV ns) ∧ SqL K H b (nV ms))) ∧ Q (.bl (if neg then !decide (ns = ms) else decide (ns = ms))) H
theorem op_eqNums (hu : X.A.units + 64 < cLine) : OpR X (compareOp .Eq) (rNums X.K false) := by
  intro pins s σ H x y v u Q I rx ry h
  obtain ⟨a, b, ns, ms, rfl, rfl, ⟨h1, h2⟩ | ⟨h1, h2⟩, q⟩ := h
  · refine op_eqD hu pins s σ H _ _ v u Q I rx ry ⟨.tuple (dN ns), .tuple (dN ms), .tup h1 (dp_nums _), .tup h2 (dp_nums _), shT _, shT _, ?_⟩
    rw [show PyData.eqv (.tuple (dN ns)) (.tuple (dN ms)) = PyData.eqvAll (dN ns) (dN ms) from rfl, eqv_nums]
    exact q
  · refine op_eqD hu pins s σ H _ _ v u Q I rx ry ⟨.list (dN ns), .list (dN ms), .lst h1 (dp_nums _), .lst h2 (dp_nums _), shL _, shL _, ?_⟩
    rw [show PyData.eqv (.list (dN ns)) (.list (dN ms)) = PyData.eqvAll (dN ns) (dN ms) from rfl, eqv_nums]
    exact q
theorem op_neNums (hu : X.A.units + 64 < cLine) : OpR X (compareOp .NotEq) (rNums X.K true) := by
  intro pins s σ H x y v u Q I rx ry h
  obtain ⟨a, b, ns, ms, rfl, rfl, ⟨h1, h2⟩ | ⟨h1, h2⟩, q⟩ := h
  · refine op_neD hu pins s σ H _ _ v u Q I rx ry ⟨.tuple (dN ns), .tuple (dN ms), .tup h1 (dp_nums _), .tup h2 (dp_nums _), shT _, shT _, ?_⟩
    rw [show PyData.eqv (.tuple (dN ns)) (.tuple (dN ms)) = PyData.eqvAll (dN ns) (dN ms) from rfl, eqv_nums]
    exact q
  · refine op_neD hu pins s σ H _ _ v u Q I rx ry ⟨.list (dN ns), .list (dN ms), .lst h1 (dp_nums _), .lst h2 (dp_nums _), shL _, shL _, ?_⟩
    rw [show PyData.eqv (.list (dN ns)) (.list (dN ms)) = PyData.eqvAll (dN ns) (dN ms) from rfl, eqv_nums]
    exact q
end
/-- a walk through a tuple, whatever a turn does -/
theorem wk_tup {K : PySem.W.Frag} {a : Addr} {xs : List V} {Qd : Hp → Prop} {H0 : Hp} {B : V → Hp → (Hp → Prop) → Prop} (Pv : Nat → Hp → Prop) (h0 : Pv 0 H0) (hl : ∀ i H, i ≤ xs.length → Pv i H → SqT K H a xs) (hs : ∀ i x H, xs[i]? = some x → Pv i H → B x H (Pv (i + 1))) (hd : ∀ H, Pv xs.length H → Qd H) :
    ∃ W : Nat → Nat → Hp → Prop, (∃ m, W 0 m H0) ∧ ∀ i m H, W i m H → ((Itt K a).stop i H ∧ Qd H) ∨ ((Itt K a).go i H ∧ ∃ Nx : Hp → Prop, (∀ H', Nx H' → ∃ m', m' < m ∧ W (i + 1) m' H') ∧ ∀ x H', (Itt K a).yld i H x H' → B x H' Nx) := by
  refine ⟨fun i m H => m = xs.length - i ∧ i ≤ xs.length ∧ Pv i H, ⟨xs.length, by simp, Nat.zero_le _, h0⟩, ?_⟩
  rintro i m H ⟨rfl, hi, p⟩
  have q := hl i H hi p
  by_cases c : i < xs.length
  · refine .inr ⟨⟨xs, xs[i], q, by simp [c]⟩, Pv (i + 1), fun H' p' => ⟨xs.length - (i + 1), by omega, rfl, c, p'⟩, fun x H' y => ?_⟩
    obtain ⟨rfl, y⟩ := y
    exact hs i x _ (y xs q) p
  · obtain rfl : i = xs.length := by omega
    exact .inl ⟨⟨xs, q, Nat.le_refl _⟩, hd H p⟩
theorem nV_flat : ∀ ps : List Nat, (nV ps).all flatV = true
  | [] => rfl
  | p :: ps => nV_flat ps
theorem inV_nV (m : Nat) : ∀ ps : List Nat, inV (.int (m : Int)) (nV ps) = decide (m ∈ ps)
  | [] => rfl
  | p :: ps => by
    have ih := inV_nV m ps
    have e : inV (.int (m : Int)) (nV (p :: ps)) = (eqV (.int (p : Int)) (.int (m : Int)) || inV (.int (m : Int)) (nV ps)) := rfl
    rw [e, ih]
    by_cases c : p = m
    · subst c; simp [eqV]
    · have c' : ¬ m = p := fun z => c z.symm
      have e2 : eqV (.int (p : Int)) (.int (m : Int)) = false := by simp [eqV]; omega
      rw [e2]
      simp [c']
theorem nV_app (a b : List Nat) : nV a ++ nV b = nV (a ++ b) := List.map_append.symm
theorem nV_len (a : List Nat) : (nV a).length = a.length := List.length_map _
theorem nV_at {a : List Nat} {i : Nat} {x : V} (h : (nV a)[i]? = some x) : ∃ n : Nat, a[i]? = some n ∧ x = .int (n : Int) := by
  rw [List.getElem?_map] at h
  obtain ⟨n, h1, h2⟩ := Option.map_eq_some_iff.mp h
  exact ⟨n, h1, h2.symm⟩
theorem cut_to (ns : List Nat) (k : Nat) : cutV (nV ns) none (some (k : Int)) = nV (ns.take k) := by
  unfold cutV
  rw [HT.sIx_none, HT.sIx_nat, List.drop_zero, Nat.sub_zero, nV_len, ← List.map_take]
  rcases Nat.le_total k ns.length with h | h
  · rw [Nat.min_eq_left h]
  · rw [Nat.min_eq_right h, List.take_length, List.take_of_length_le h]
end KM

set_option Elab.async false
set_option linter.all false
set_option maxRecDepth 100000
set_option maxHeartbeats 4000000
namespace K04
open PySem L2 Ew Tb GxR ND PM NI PK
def topS (i : Nat) : Stmt := PySem.Challenge.pw_everyworth_k04_polynomials.main.body.getD i (.Pass ⟨0, 0, 0, 0⟩)
abbrev s_is_integer : Stmt := (topS 5)
theorem sc_is_integer : FnScope ["thing"] ["thing"] (defScope s_is_integer) := ⟨rfl, rfl, rfl, by decide +kernel, rfl, by decide +kernel, by decide +kernel⟩
abbrev s_is_natural : Stmt := (topS 6)
theorem sc_is_natural : FnScope ["thing"] ["thing"] (defScope s_is_natural) := ⟨rfl, rfl, rfl, by decide +kernel, rfl, by decide +kernel, by decide +kernel⟩
abbrev s_is_pair : Stmt := (topS 7)
theorem sc_is_pair : FnScope ["thing"] ["thing"] (defScope s_is_pair) := ⟨rfl, rfl, rfl, by decide +kernel, rfl, by decide +kernel, by decide +kernel⟩
abbrev s_ascends : Stmt := (topS 8)
theorem sc_ascends : FnScope ["things", "k"] ["things"] (defScope s_ascends) := ⟨rfl, rfl, rfl, by decide +kernel, rfl, by decide +kernel, by decide +kernel⟩
abbrev s_Polynomials_zero : Stmt := (inClass (topS 11) 0)
theorem sc_Polynomials_zero : FnScope ["self"] ["self"] (defScope s_Polynomials_zero) := ⟨rfl, rfl, rfl, by decide +kernel, rfl, by decide +kernel, by decide +kernel⟩
abbrev s_Polynomials_one : Stmt := (inClass (topS 11) 1)
theorem sc_Polynomials_one : FnScope ["self"] ["self"] (defScope s_Polynomials_one) := ⟨rfl, rfl, rfl, by decide +kernel, rfl, by decide +kernel, by decide +kernel⟩
abbrev s_Polynomials_plus : Stmt := (inClass (topS 11) 2)
theorem sc_Polynomials_plus : FnScope ["self", "a", "b", "found", "monomial", "coefficient"] ["self", "a", "b"] (defScope s_Polynomials_plus) := ⟨rfl, rfl, rfl, by decide +kernel, rfl, by decide +kernel, by decide +kernel⟩
abbrev s_Polynomials_times : Stmt := (inClass (topS 11) 3)
theorem sc_Polynomials_times : FnScope ["self", "a", "b", "found", "first", "many", "second", "more"] ["self", "a", "b"] (defScope s_Polynomials_times) := ⟨rfl, rfl, rfl, by decide +kernel, rfl, by decide +kernel, by decide +kernel⟩
abbrev s_Polynomials_star : Stmt := (inClass (topS 11) 4)
theorem sc_Polynomials_star : FnScope ["self", "a"] ["self", "a"] (defScope s_Polynomials_star) := ⟨rfl, rfl, rfl, by decide +kernel, rfl, by decide +kernel, by decide +kernel⟩
abbrev s_Polynomials_is_element : Stmt := (inClass (topS 11) 5)
theorem sc_Polynomials_is_element : FnScope ["self", "a", "part", "monomial", "coefficient"] ["self", "a"] (defScope s_Polynomials_is_element) := ⟨rfl, rfl, rfl, by decide +kernel, rfl, by decide +kernel, by decide +kernel⟩
abbrev s_is_part : Stmt := (topS 12)
theorem sc_is_part : FnScope ["thing"] ["thing"] (defScope s_is_part) := ⟨rfl, rfl, rfl, by decide +kernel, rfl, by decide +kernel, by decide +kernel⟩
abbrev s_is_monomial : Stmt := (topS 13)
theorem sc_is_monomial : FnScope ["thing", "part", "fact", "exponent"] ["thing"] (defScope s_is_monomial) := ⟨rfl, rfl, rfl, by decide +kernel, rfl, by decide +kernel, by decide +kernel⟩
abbrev s_is_power : Stmt := (topS 14)
theorem sc_is_power : FnScope ["thing"] ["thing"] (defScope s_is_power) := ⟨rfl, rfl, rfl, by decide +kernel, rfl, by decide +kernel, by decide +kernel⟩
abbrev s_is_positive : Stmt := (topS 15)
theorem sc_is_positive : FnScope ["thing"] ["thing"] (defScope s_is_positive) := ⟨rfl, rfl, rfl, by decide +kernel, rfl, by decide +kernel, by decide +kernel⟩
abbrev s_put : Stmt := (topS 16)
theorem sc_put : FnScope ["found", "monomial", "coefficient"] ["found", "monomial", "coefficient"] (defScope s_put) := ⟨rfl, rfl, rfl, by decide +kernel, rfl, by decide +kernel, by decide +kernel⟩
abbrev s_polynomial_of : Stmt := (topS 17)
theorem sc_polynomial_of : FnScope ["found"] ["found"] (defScope s_polynomial_of) := ⟨rfl, rfl, rfl, by decide +kernel, rfl, by decide +kernel, by decide +kernel⟩
abbrev s_product_of : Stmt := (topS 18)
theorem sc_product_of : FnScope ["first", "second", "exponents", "fact", "exponent"] ["first", "second"] (defScope s_product_of) := ⟨rfl, rfl, rfl, by decide +kernel, rfl, by decide +kernel, by decide +kernel⟩
abbrev s_variable : Stmt := (topS 19)
theorem sc_variable : FnScope ["fact"] ["fact"] (defScope s_variable) := ⟨rfl, rfl, rfl, by decide +kernel, rfl, by decide +kernel, by decide +kernel⟩
abbrev s_degree : Stmt := (topS 20)
theorem sc_degree : FnScope ["polynomial", "monomial", "coefficient"] ["polynomial"] (defScope s_degree) := ⟨rfl, rfl, rfl, by decide +kernel, rfl, by decide +kernel, by decide +kernel⟩
abbrev s_degree_of : Stmt := (topS 21)
theorem sc_degree_of : FnScope ["monomial", "fact", "exponent"] ["monomial"] (defScope s_degree_of) := ⟨rfl, rfl, rfl, by decide +kernel, rfl, by decide +kernel, by decide +kernel⟩
abbrev s_value_at : Stmt := (topS 22)
theorem sc_value_at : FnScope ["polynomial", "numbers", "total", "monomial", "coefficient", "part", "fact", "exponent"] ["polynomial", "numbers"] (defScope s_value_at) := ⟨rfl, rfl, rfl, by decide +kernel, rfl, by decide +kernel, by decide +kernel⟩
abbrev s_power : Stmt := (topS 23)
theorem sc_power : FnScope ["base", "exponent", "result"] ["base", "exponent"] (defScope s_power) := ⟨rfl, rfl, rfl, by decide +kernel, rfl, by decide +kernel, by decide +kernel⟩
abbrev s_law_pot : Stmt := (topS 25)
theorem sc_law_pot : FnScope ["script", "seed", "cell"] ["script"] (defScope s_law_pot) := ⟨rfl, rfl, rfl, by decide +kernel, rfl, by decide +kernel, by decide +kernel⟩
abbrev s_law_next : Stmt := (topS 26)
theorem sc_law_next : FnScope ["pot", "limit", "cell", "found", "mixed"] ["pot", "limit"] (defScope s_law_next) := ⟨rfl, rfl, rfl, by decide +kernel, rfl, by decide +kernel, by decide +kernel⟩
abbrev s_law_is_int : Stmt := (topS 27)
theorem sc_law_is_int : FnScope ["value"] ["value"] (defScope s_law_is_int) := ⟨rfl, rfl, rfl, by decide +kernel, rfl, by decide +kernel, by decide +kernel⟩
abbrev s_law_same : Stmt := (topS 28)
theorem sc_law_same : FnScope ["found", "value", "k"] ["found", "value"] (defScope s_law_same) := ⟨rfl, rfl, rfl, by decide +kernel, rfl, by decide +kernel, by decide +kernel⟩
abbrev s_law_star : Stmt := (topS 29)
theorem sc_law_star : FnScope ["ring", "a", "e"] ["ring", "a"] (defScope s_law_star) := ⟨rfl, rfl, rfl, by decide +kernel, rfl, by decide +kernel, by decide +kernel⟩
abbrev s_law_packed : Stmt := (topS 30)
theorem sc_law_packed : FnScope ["table", "monomial"] ["table"] (defScope s_law_packed) := ⟨rfl, rfl, rfl, by decide +kernel, rfl, by decide +kernel, by decide +kernel⟩
abbrev s_law_drawn : Stmt := (topS 31)
theorem sc_law_drawn : FnScope ["pot", "table", "k", "monomial", "fact"] ["pot"] (defScope s_law_drawn) := ⟨rfl, rfl, rfl, by decide +kernel, rfl, by decide +kernel, by decide +kernel⟩
abbrev s_law_product : Stmt := (topS 32)
theorem sc_law_product : FnScope ["one", "other", "table", "pair", "behind", "exponents", "part", "monomial", "fact"] ["one", "other"] (defScope s_law_product) := ⟨rfl, rfl, rfl, by decide +kernel, rfl, by decide +kernel, by decide +kernel⟩
abbrev s_law_sum : Stmt := (topS 33)
theorem sc_law_sum : FnScope ["one", "other", "table", "pair"] ["one", "other"] (defScope s_law_sum) := ⟨rfl, rfl, rfl, by decide +kernel, rfl, by decide +kernel, by decide +kernel⟩
abbrev s_law : Stmt := (topS 34)
theorem sc_law : FnScope ["script", "pot", "ring", "a", "b", "c", "numbers", "fact", "one", "other", "bad", "pair", "part", "x"] ["script"] (defScope s_law) := ⟨rfl, rfl, rfl, by decide +kernel, rfl, by decide +kernel, by decide +kernel⟩
local macro_rules | `(tactic| walk_at "len") => `(tactic| first | (intro h; obtain ⟨_, e, _⟩ := h; rw [e]; rfl) | (intro h; obtain ⟨_, _, e, _⟩ := h; rw [e]; rfl) | (intro h; obtain ⟨_, _, _, e, _⟩ := h; rw [e]; rfl) | (intro h; obtain ⟨_, _, _, _, e, _⟩ := h; rw [e]; rfl) | (intro h; obtain ⟨_, _, _, _, _, e, _⟩ := h; rw [e]; rfl) | (intro h; obtain ⟨_, _, _, _, _, _, e, _⟩ := h; rw [e]; rfl) | (intro h; obtain ⟨_, _, _, _, _, _, _, e, _⟩ := h; rw [e]; rfl) | (intro h; exact h.elim))
structure Ad where
  WorthError : Addr
  NoStar : Addr
  TooLarge : Addr
  Polynomials : Addr
structure Txt (K : PySem.W.Frag) (mg : Str → Option Value) (ad : Ad) : Prop where
  z_isinstance : mg "isinstance" = none
  z_int : mg "int" = none
  z_bool : mg "bool" = none
  z_str : mg "str" = none
  z_list : mg "list" = none
  z_tuple : mg "tuple" = none
  z_abs : mg "abs" = none
  z_len : mg "len" = none
  z_range : mg "range" = none
  z_all : mg "all" = none
  z_max : mg "max" = none
  z_sorted : mg "sorted" = none
  z_sum : mg "sum" = none
  g_MOST_MONOMIALS : ∃ t, mg "MOST_MONOMIALS" = some (.int 400 t)
  g_WorthError : mg "WorthError" = some (.ref ad.WorthError)
  g_NoStar : mg "NoStar" = some (.ref ad.NoStar)
  g_TooLarge : mg "TooLarge" = some (.ref ad.TooLarge)
  x_TooLarge : PySem.W.excIn K ad.TooLarge [.type "ValueError", .type "Exception", .type "BaseException", .type "object"] "ValueError.__new__" = true
  k_TooLarge : PySem.W.keepIn K (.ref ad.TooLarge) = true
  b_TooLarge : PySem.W.subIn K (.ref ad.TooLarge) (.type "BaseException") = some true
  t_TooLarge : PySem.W.typeIn K (.ref ad.TooLarge) = some (.type "type")
  x_NoStar : PySem.W.excIn K ad.NoStar [.type "ValueError", .type "Exception", .type "BaseException", .type "object"] "ValueError.__new__" = true
  k_NoStar : PySem.W.keepIn K (.ref ad.NoStar) = true
  b_NoStar : PySem.W.subIn K (.ref ad.NoStar) (.type "BaseException") = some true
  t_NoStar : PySem.W.typeIn K (.ref ad.NoStar) = some (.type "type")
  ec_NoStar : ExcC K ad.NoStar
  em_NoStar : PySem.W.exmOne K (.ref ad.NoStar) (.ref ad.WorthError) = some true
  ki_NoStar : PySem.W.kitOne K (.ref ad.NoStar) (.ref ad.NoStar) = some true
  c_Polynomials : Cls K ad.Polynomials
end K04

set_option Elab.async false
set_option linter.all false
set_option maxRecDepth 100000
set_option maxHeartbeats 4000000
namespace K04
open PySem L2 Ew Tb GxR ND PM NI PK
local macro_rules | `(tactic| walk_at "len") => `(tactic| first | (intro h; obtain ⟨_, e, _⟩ := h; rw [e]; rfl) | (intro h; obtain ⟨_, _, e, _⟩ := h; rw [e]; rfl) | (intro h; obtain ⟨_, _, _, e, _⟩ := h; rw [e]; rfl) | (intro h; obtain ⟨_, _, _, _, e, _⟩ := h; rw [e]; rfl) | (intro h; obtain ⟨_, _, _, _, _, e, _⟩ := h; rw [e]; rfl) | (intro h; obtain ⟨_, _, _, _, _, _, e, _⟩ := h; rw [e]; rfl) | (intro h; obtain ⟨_, _, _, _, _, _, _, e, _⟩ := h; rw [e]; rfl) | (intro h; exact h.elim))
section
variable {P : Program} {w : World} {K : PySem.W.Frag} {mg : Str → Option Value} {base : Heap} {ad : Ad}
theorem SqT.off {K : PySem.W.Frag} {H H' : Hp} {b : Addr} {xs : List V} (h : SqT K H b xs) (f : ∀ o, H b = some o → H' b = some o) : SqT K H' b xs := by
  rcases h with (h | ⟨o, h⟩) | h
  · exact .inl (.inl (f _ h))
  · exact .inl (.inr ⟨o, f _ h⟩)
  · exact .inr h
def spProd : Sp := fun vs H Q _ => ∃ (x y : V) (a b : Mono), vs = [x, y] ∧ Ky H (kM a) x ∧ Ky H (kM b) y ∧ MCan a ∧ MCan b ∧ a.length ≤ 1000 ∧ b.length ≤ 1000 ∧ ∀ H' t, Same H H' → H t = none → Ky H' (kM (mmul a b)) (.ref t) → Q (.ref t) H'
theorem ok_product_of  {f : Addr} {fd : FuncData} (F : Fun K "_product_of" "_product_of" s_product_of f fd) (T : Txt K mg ad) : FnOk P w K mg base (L2.CX P w) 1 f fd ["first", "second"] (spProd) := by
  refine F.okX sc_product_of (fun vs H Q E => ?_) (fun cdv A outer s H vs Q E hr h => ?_)
  · walk_at "len"
  ·
    obtain ⟨x, y, a, b, rfl, hx, hy, ca, cb, la, lb, k⟩ := h
    refine ⟨_, (pss_cons (DCx.ps_setDc (i := 2) (own := [("fact", 3), ("exponent", 4)]) (tt := tYes) rfl sc_product_of.nd rfl rfl (DCx.swd_true rfl rfl rfl (by decide +kernel)) (pi_tup (pv 0)) (blkOk_by (by kernel_rfl)) (fun _ _ _ _ _ => (PK.kpg_tup (K := K) rfl (pgs_cons (pg_name (i := 3) sc_product_of.nd rfl (by first | exact Or.inl rfl | exact Or.inr rfl)) (pgs_cons (pg_name (i := 4) sc_product_of.nd rfl (by first | exact Or.inl rfl | exact Or.inr rfl)) pgs_nil)))) (fun _ _ _ _ _ => pts_nil) (fun _ _ _ _ _ => (pv 3)) (fun _ _ _ _ _ => (pv 4)))
      (pss_cons (ps_for (passes_of rfl) rfl (pi_tup (pv 1)) (pg_tup rfl (pgs_cons (pg_name (i := 3) sc_product_of.nd rfl (by first | exact Or.inl rfl | exact Or.inr rfl)) (pgs_cons (pg_name (i := 4) sc_product_of.nd rfl (by first | exact Or.inl rfl | exact Or.inr rfl)) pgs_nil))) (pss_one (ps_dput (hu_of hr) (pv 2) (pv 3) (pe_op op_add (pe_dget2 (hu_of hr) (pv 2) (pv 3) pe_int ⟨rfl, rfl, rfl, rfl⟩) (pv 4)) rfl)))
      (pss_one (ps_ret (pe_callTy call_tuple_of (by rfl) T.z_tuple (by decide +kernel) (pa_cons (pe_callB (cr_sortItems rfl hr.units) (by rfl) T.z_sorted (by decide +kernel) (pa_cons (L2.pe_items (pv 2)) pa_nil)) pa_nil)))))), ?_⟩
    obtain ⟨pa, xs, rfl, ea, ka⟩ := ky_tup hx
    obtain ⟨pb, ys, rfl, eb, kb⟩ := ky_tup hy
    have la' : xs.length = a.length := by rw [← kys_len ka, List.length_map]
    have lb' : ys.length = b.length := by rw [← kys_len kb, List.length_map]
    refine go_sq ⟨_, rfl, pa, rfl, ⟨_, SqT.of ea⟩, fun D hD => ?_⟩
    have pw : ∀ {m : Mono} {zs : List V} {i : Nat} {z : V}, Kys H (m.map kQ) zs → zs[i]? = some z → ∃ f e q, m[i]? = some (f, e) ∧ z = .ref q ∧ H q = some (.tup [.int (f : Int), .int (e : Int)]) := fun {m zs i z} r hz => by
      have hl := kys_len r
      rw [List.length_map] at hl
      have hi : i < m.length := by rw [hl]; exact (List.getElem?_eq_some_iff.mp hz).1
      have hk := kys_at r i (k := kQ m[i]) (by rw [List.getElem?_map, List.getElem?_eq_getElem hi]; rfl) hz
      obtain ⟨q, u, v, rfl, e, k1, k2⟩ := ky_pair hk
      rw [ky_num k1, ky_num k2] at e
      exact ⟨m[i].1, m[i].2, q, List.getElem?_eq_getElem hi, rfl, e⟩
    refine DC2.walk_t (K := K) (xs := xs) (fun i H' => Same H H' ∧ ED H' D (a.take i)) ⟨same_new (Same.refl _) hD, ⟨[], upd_same, List.nodup_nil, Nat.le_refl _, fun _ h => (nomatch h), fun f => rfl⟩⟩ (fun i H' _ ⟨s', _⟩ => SqT.of (s' _ _ ea)) (fun i z H1 hz ⟨s1, ed1⟩ => ?_) (fun H1 ⟨s1, ed1⟩ => go_name rfl ?_)
    · obtain ⟨f, e, q, hm, rfl, hq⟩ := pw ka hz
      obtain ⟨kvs, e1, n1, n2, n3, n4⟩ := ed1.ex_
      have hz0 : ex (a.take i) f = 0 := ex_zero fun x hx => by
        obtain ⟨j, hj⟩ := List.mem_iff_getElem?.mp hx
        rw [List.getElem?_take] at hj
        split at hj
        · rename_i c
          have := List.pairwise_iff_getElem.mp ca.asc j i (List.getElem?_eq_some_iff.mp hj).1 (List.getElem?_eq_some_iff.mp hm).1 c
          rw [(List.getElem?_eq_some_iff.mp hj).2, (List.getElem?_eq_some_iff.mp hm).2] at this
          have h2 : x.1 < f := this
          omega
        · cases hj
      refine ⟨q, _, rfl, SqT.of (s1 _ _ hq), rfl, _, _, rfl, go_name rfl ⟨_, _, rfl, go_name rfl ⟨rfl, ?_⟩⟩⟩
      refine ⟨rfl, yes_then (iteT ⟨_, rfl, _, rfl, kvs, .inl (f : Int), rfl, e1, ?_, same_but hD s1 (fun c u nc z => by rw [upd_ne nc]; exact z), ?_⟩)⟩
      · rw [List.length_take] at n2
        exact Nat.lt_of_le_of_lt (by omega : _ ≤ 1000) (by decide)
      · rw [List.take_add_one, hm]
        have pe := ca.pos (f, e) (List.mem_of_getElem? hm)
        refine ed_put pe n1 n2 n3 n4 ?_
        rw [hz0, Nat.zero_add]
        exact upd_same
    · rw [la', List.take_length] at ed1
      refine go_nx (go_sq ?_)
      refine ⟨_, rfl, pb, rfl, ⟨_, SqT.of (s1 _ _ eb)⟩, ?_⟩
      refine for_tup (K := K) (xs := ys) (fun j σ H' => ∃ v3 v4, σ = [some (.ref pa), some (.ref pb), some (.ref D), v3, v4] ∧ Same H H' ∧ ED H' D (a ++ b.take j)) ⟨none, none, rfl, s1, by rw [List.take_zero, List.append_nil]; exact ed1⟩ (fun j σ H' _ ⟨_, _, _, s', _⟩ => SqT.of (s' _ _ eb)) ?_ ?_
      · rintro j z σ H2 hz ⟨v3, v4, rfl, s2, ed2⟩
        obtain ⟨f, e, q, hm, rfl, hq⟩ := pw kb hz
        obtain ⟨kvs, e2, n1, n2, n3, n4⟩ := ed2.ex_
        refine ⟨q, _, rfl, SqT.of (s2 _ _ hq), rfl, _, _, rfl, go_name rfl ⟨_, _, rfl, go_name rfl ⟨rfl, ?_⟩⟩⟩
        have hget : (valV kvs (.inl (f : Int))).getD (.int 0) = .int ((ex (a ++ b.take j) f : Nat) : Int) := by
          rw [n4 f]
          split
          · rename_i c; rw [c]; rfl
          · rfl
        refine ⟨_, rfl, D, rfl, .inl ⟨kvs, .inl e2⟩, _, rfl, _, DGet.k (k := .inl (f : Int)) e2, _, rfl, _, _, hget, rfl, _, rfl, _, rfl, D, _, rfl, DPut.k (k := .inl (f : Int)) e2 ?_, ?_⟩
        · rw [List.length_append, List.length_take] at n2
          exact Nat.lt_of_le_of_lt (by omega : _ ≤ 2000) (by decide)
        · refine go_nx ⟨_, _, rfl, same_but hD s2 (fun c u nc z => by rw [upd_ne nc]; exact z), ?_⟩
          rw [List.take_add_one, hm, show (some (f, e)).toList = [(f, e)] from rfl, ← List.append_assoc]
          have pe := cb.pos (f, e) (List.mem_of_getElem? hm)
          refine ed_put pe n1 n2 n3 n4 ?_
          rw [upd_same]
          rfl
      · rintro σ H2 ⟨v3, v4, rfl, s2, ed2⟩
        rw [lb', List.take_length] at ed2
        refine go_nx (go_ret ?_)
        obtain ⟨kvs, e2, _⟩ := ed2.ex_
        refine ⟨_, rfl, D, _, rfl, .inr ⟨kvs, .inl e2, rfl⟩, fun v hv => ?_⟩
        have s3 := same_new (o := L2.DX.itemsO v D) (Same.refl H2) hv
        refine go_nil ?_
        refine ed_sorted (L := a ++ b) upd_same (ed2.fr fun o h => s3 _ _ h) fun H3 l ts m s4 hl el ks mc ml_ hlen => ?_
        refine ⟨l, _, rfl, .inl ⟨SqL.of el, fun t ht => ?_⟩⟩
        have s5 := same_new (o := .tup (ts.map V.ref)) (Same.refl H3) ht
        have em : m = mmul a b := mono_ext mc (mmul_can ca cb) fun f => by rw [ml_, ex_app, ex_mmul]
        subst em
        refine k _ t (fun c o z => s5 _ _ (s4 _ _ (s3 _ _ (s2 _ _ z)))) ?_ (.tup upd_same (ks.keeps fun c ys z => s5 _ _ z))
        cases z : H t with
        | none => rfl
        | some u => rw [s4 _ _ (s3 _ _ (s2 _ _ z))] at ht; cases ht
end
end K04

set_option Elab.async false
set_option linter.all false
set_option maxRecDepth 100000
set_option maxHeartbeats 4000000
namespace K04
open PySem L2 Ew Tb GxR ND PM NI PK
local macro_rules | `(tactic| walk_at "len") => `(tactic| first | (intro h; obtain ⟨_, e, _⟩ := h; rw [e]; rfl) | (intro h; obtain ⟨_, _, e, _⟩ := h; rw [e]; rfl) | (intro h; obtain ⟨_, _, _, e, _⟩ := h; rw [e]; rfl) | (intro h; obtain ⟨_, _, _, _, e, _⟩ := h; rw [e]; rfl) | (intro h; obtain ⟨_, _, _, _, _, e, _⟩ := h; rw [e]; rfl) | (intro h; obtain ⟨_, _, _, _, _, _, e, _⟩ := h; rw [e]; rfl) | (intro h; obtain ⟨_, _, _, _, _, _, _, e, _⟩ := h; rw [e]; rfl) | (intro h; exact h.elim))
section
variable {P : Program} {w : World} {K : PySem.W.Frag} {mg : Str → Option Value} {base : Heap} {ad : Ad}
def spPut1 (P : Program) (w : World) : Sp := fun vs H Q _ => ∃ (d : Addr) (v : V) (m : Mono) (c : Nat) (L : Terms), vs = [.ref d, v, .int (c : Int)] ∧ PD P w H d L ∧ Ky H (kM m) v ∧ MCan m ∧ 1 ≤ c ∧ L.length < 400 ∧ ∀ H', (∀ b o, b ≠ d → H b = some o → H' b = some o) → (∀ b, b ≠ d → H' b = H b) → PD P w H' d (L ++ [(m, c)]) → Q .non H'
theorem ky_ref {H : Hp} {m : Mono} {v : V} (h : Ky H (kM m) v) : ∃ a, v = .ref a := let ⟨a, _, e, _⟩ := ky_tup h; ⟨a, e⟩
theorem ok_put  {f : Addr} {fd : FuncData} (F : Fun K "_put" "_put" s_put f fd) (T : Txt K mg ad) : FnOk P w K mg base (L2.CX P w) 1 f fd ["found", "monomial", "coefficient"] (spPut1 P w) := by
  refine F.okX sc_put (fun vs H Q E => ?_) (fun cdv A outer s H vs Q E hr h => ?_)
  · walk_at "len"
  ·
    obtain ⟨d, v, m, c, L, rfl, pd, hv, cm, hc, hl, k⟩ := h
    refine ⟨_, (pss_cons (ND.ps_nput (ND.hu9 hr) (pv 0) (pv 1) (pe_op op_add (ND.pe_nget2 (ND.hu9 hr) (pv 0) (pv 1) pe_int ⟨rfl, rfl, rfl, rfl⟩) (pv 2)) rfl)
      (pss_one (ps_if (pt_cmpR op_gt (pe_callB call_lenN (by rfl) T.z_len (by decide +kernel) (pa_cons (pv 0) pa_nil)) (pe_gint (by rfl) T.g_MOST_MONOMIALS) (nomark _)) (pss_one (ps_raise rfl (takes_of rfl rfl rfl rfl) (pmk_own PySem.F.excBase_ValueError T.x_TooLarge T.g_TooLarge T.k_TooLarge (raises_own T.b_TooLarge T.t_TooLarge) (by rfl)))) pss_nil))), ?_⟩
    obtain ⟨b, rfl⟩ := ky_ref hv
    obtain ⟨kvs, at_, n1, n2, n3, n4⟩ := pd.ex_
    have dk : (kM m).depth ≤ 8 := by have := dep_kM m; omega
    have hget : (valV kvs (kM m)).getD (.int 0) = .int ((coef L m : Nat) : Int) := by
      rw [n4 m]
      split
      · rename_i c; rw [c]; rfl
      · rfl
    refine go_sq ⟨_, rfl, d, kvs, rfl, at_.rd, _, rfl, _, ⟨kvs, kM m, b, at_.rd, rfl, hv, dk, rfl⟩, _, rfl, _, _, hget, rfl, _, rfl, _, rfl, d, rfl, kvs, kM m, b, at_, rfl, hv, dk, Nat.lt_of_le_of_lt (by omega : _ ≤ 400) (by decide), fun φ hφ => ?_⟩
    have pd2 := pd_put hc cm pd.mc n1 n2 n3 n4 hφ
    obtain ⟨kvs2, at2, _, n22, _⟩ := pd2.ex_
    refine go_nx ?_
    refine ⟨_, rfl, d, kvs2, rfl, at2.rd, _, _, rfl, rfl, _, rfl, ?_⟩
    rw [List.length_append, List.length_singleton] at n22
    rw [decide_eq_false (show ¬ (400 : Int) < ((kvs2.length : Nat) : Int) by omega)]
    refine iteF (k _ (fun b o nb e => by rw [upd_ne nb]; exact e) (fun b nb => upd_ne nb) pd2)
def spPolyOf (P : Program) (w : World) : Sp := fun vs H Q _ => ∃ (d : Addr) (L : Terms), vs = [.ref d] ∧ PD P w H d L ∧ L.length ≤ 400 ∧ ∀ H' t p, Same H H' → H t = none → Ky H' (kP p) (.ref t) → PC p → (∀ m, coef p m = coef L m) → p.length ≤ L.length → Q (.ref t) H'
theorem pd_dv {P : Program} {w : World} {H : Hp} {d : Addr} {L : Terms} (x : PD P w H d L) : ∃ ps, DictV P w H d ps := let ⟨_, ⟨es, e, _⟩, _⟩ := x.ex_; ⟨_, .inl ⟨es, .inl e, rfl⟩⟩
theorem ok_polynomial_of  {f : Addr} {fd : FuncData} (F : Fun K "_polynomial_of" "_polynomial_of" s_polynomial_of f fd) (T : Txt K mg ad) : FnOk P w K mg base (L2.CX P w) 1 f fd ["found"] (spPolyOf P w) := by
  refine F.okX sc_polynomial_of (fun vs H Q E => ?_) (fun cdv A outer s H vs Q E hr h => ?_)
  · walk_at "len"
  ·
    obtain ⟨d, L, rfl, pd, hl, k⟩ := h
    refine ⟨_, (pss_one (ps_ret (pe_callTy call_tuple_of (by rfl) T.z_tuple (by decide +kernel) (pa_cons (pe_callB (cr_sortItems rfl hr.units) (by rfl) T.z_sorted (by decide +kernel) (pa_cons (L2.pe_items (pv 0)) pa_nil)) pa_nil)))), ?_⟩
    obtain ⟨ps, dv⟩ := pd_dv pd
    refine ⟨_, rfl, d, ps, rfl, dv, fun v hv => ?_⟩
    have s3 := same_new (o := L2.DX.itemsO v d) (Same.refl H) hv
    refine go_nil ?_
    refine pd_sorted upd_same (pd.keeps (fun u h => s3 _ _ h) fun b ys h => s3 _ _ h) fun H3 l ts p s4 hl' el ks pc hco hlen => ?_
    refine ⟨l, _, rfl, .inl ⟨SqL.of el, fun t ht => ?_⟩⟩
    have s5 := same_new (o := .tup (ts.map V.ref)) (Same.refl H3) ht
    refine k _ t p (fun c o z => s5 _ _ (s4 _ _ (s3 _ _ z))) ?_ (.tup upd_same (ks.keeps fun c ys z => s5 _ _ z)) pc hco hlen
    cases z : H t with
    | none => rfl
    | some u => rw [s4 _ _ (s3 _ _ z)] at ht; cases ht
end
end K04

set_option Elab.async false
set_option linter.all false
set_option maxRecDepth 100000
set_option maxHeartbeats 4000000
namespace K04
open PySem L2 Ew Tb GxR ND PM NI PK
local macro_rules | `(tactic| walk_at "len") => `(tactic| first | (intro h; obtain ⟨_, e, _⟩ := h; rw [e]; rfl) | (intro h; obtain ⟨_, _, e, _⟩ := h; rw [e]; rfl) | (intro h; obtain ⟨_, _, _, e, _⟩ := h; rw [e]; rfl) | (intro h; obtain ⟨_, _, _, _, e, _⟩ := h; rw [e]; rfl) | (intro h; obtain ⟨_, _, _, _, _, e, _⟩ := h; rw [e]; rfl) | (intro h; obtain ⟨_, _, _, _, _, _, e, _⟩ := h; rw [e]; rfl) | (intro h; obtain ⟨_, _, _, _, _, _, _, e, _⟩ := h; rw [e]; rfl) | (intro h; exact h.elim))
section
variable {P : Program} {w : World} {K : PySem.W.Frag} {mg : Str → Option Value} {base : Heap} {ad : Ad}
def spBinP (C : Addr) (f : Terms → Terms → Terms) : Sp := fun vs H Q _ => ∃ (s dx : Addr) (fs : List (Str × V)) (x y : V) (a b : Terms), vs = [.ref s, x, y] ∧ H s = some (.ins C dx fs) ∧ Ky H (kP a) x ∧ Ky H (kP b) y ∧ PC a ∧ PC b ∧ tot a < 2 ^ 60 ∧ a.length ≤ 400 ∧ b.length ≤ 400 ∧ (f a b).length ≤ 400 ∧ (∀ t ∈ a, t.1.length ≤ 1000) ∧ (∀ t ∈ b, t.1.length ≤ 1000) ∧
  ∀ H' t p, Same H H' → H t = none → Ky H' (kP p) (.ref t) → PC p → (∀ m, coef p m = coef (f a b) m) → p.length ≤ (f a b).length → Q (.ref t) H'
/-- a term of a tuple of terms -/
theorem kt_at {H : Hp} {p : Terms} {zs : List V} {i : Nat} {z : V} (r : Kys H (p.map kT) zs) (hz : zs[i]? = some z) : ∃ m c q u, p[i]? = some (m, c) ∧ z = .ref q ∧ H q = some (.tup [u, .int (c : Int)]) ∧ Ky H (kM m) u := by
  have hl := kys_len r
  rw [List.length_map] at hl
  have hi : i < p.length := by rw [hl]; exact (List.getElem?_eq_some_iff.mp hz).1
  have hk := kys_at r i (k := kT p[i]) (by rw [List.getElem?_map, List.getElem?_eq_getElem hi]; rfl) hz
  obtain ⟨q, u, v, rfl, e, k1, k2⟩ := ky_pair hk
  rw [ky_num k2] at e
  exact ⟨p[i].1, p[i].2, q, u, List.getElem?_eq_getElem hi, rfl, e, k1⟩
theorem pair_any {H H' : Hp} {d : Addr} (hd : H d = none) {H1 : Hp} (s : Same H H1) (h : ∀ b o, b ≠ d → H1 b = some o → H' b = some o) : Same H H' := fun b o e => h b o (ne_of_none e hd) (s b o e)
theorem ok_Polynomials_plus (c_put : CalX P w K mg base 1 "_put" (spPut1 P w)) (c_polynomial_of : CalX P w K mg base 1 "_polynomial_of" (spPolyOf P w)) {f : Addr} {fd : FuncData} (F : Fun K "plus" "Polynomials.plus" s_Polynomials_plus f fd) (T : Txt K mg ad) : FnOk P w K mg base (L2.CX P w) 3 f fd ["self", "a", "b"] (spBinP ad.Polynomials (fun a b => a ++ b)) := by
  refine F.okX sc_Polynomials_plus (fun vs H Q E => ?_) (fun cdv A outer s H vs Q E hr h => ?_)
  · walk_at "len"
  ·
    obtain ⟨s0, dx, fs, x, y, a, b, rfl, hs, hx, hy, ca, cb, ta, la, lb, lf, _, _, k⟩ := h
    rw [List.length_append] at lf
    refine ⟨_, (pss_cons (ps_set (i := 3) sc_Polynomials_plus.nd rfl (by first | exact Or.inl rfl | exact Or.inr rfl) ND.pe_nnew)
      (pss_cons (ps_for (passes_of rfl) rfl (pi_tup (pe_op op_catA (pv 1) (pv 2))) (pg_tup rfl (pgs_cons (pg_name (i := 4) sc_Polynomials_plus.nd rfl (by first | exact Or.inl rfl | exact Or.inr rfl)) (pgs_cons (pg_name (i := 5) sc_Polynomials_plus.nd rfl (by first | exact Or.inl rfl | exact Or.inr rfl)) pgs_nil))) (pss_one (ps_expr (pc_call c_put hr (by first | decide | omega) (takes_of rfl rfl rfl rfl) (by rfl) (pa_cons (pv 3) (pa_cons (pv 4) (pa_cons (pv 5) pa_nil)))))))
      (pss_one (ps_ret (pc_call c_polynomial_of hr (by first | decide | omega) (takes_of rfl rfl rfl rfl) (by rfl) (pa_cons (pv 3) pa_nil)))))), ?_⟩
    obtain ⟨pa, xs, rfl, ea, ka⟩ := ky_tup hx
    obtain ⟨pb, ys, rfl, eb, kb⟩ := ky_tup hy
    have la' : xs.length = a.length := by rw [← kys_len ka, List.length_map]
    have lb' : ys.length = b.length := by rw [← kys_len kb, List.length_map]
    refine go_seq fun d φ hd at_ => go_name rfl ?_
    have s1 : Same H (upd H d (.ext φ)) := same_new (Same.refl _) hd
    have pd1 := PD.nil at_
    generalize upd H d (.ext φ) = H1 at s1 pd1
    refine go_sq ?_
    refine ⟨_, rfl, _, rfl, ?_⟩
    refine catT (s1 _ _ ea) (s1 _ _ eb) (by omega) fun q H2 s2 e2 => ⟨q, rfl, ⟨_, SqT.of e2⟩, ?_⟩
    have kk : Kys H2 ((a ++ b).map kT) (xs ++ ys) := by
      rw [List.map_append]
      exact kys_app (ka.keeps fun c z h => s2 _ _ (s1 _ _ h)) (kb.keeps fun c z h => s2 _ _ (s1 _ _ h))
    have s12 : Same H H2 := fun c o z => s2 _ _ (s1 _ _ z)
    have nqd : ∀ {c zs}, H2 c = some (.tup zs) → c ≠ d := fun {c zs} e z => by
      subst z
      obtain ⟨kvs, at1, _⟩ := pd1.ex_
      obtain ⟨φ', e'⟩ := at1.ext
      rw [s2 _ _ e'] at e
      cases e
    refine for_tup (K := K) (xs := xs ++ ys) (fun i σ H' => ∃ v4 v5, σ = [some (.ref s0), some (.ref pa), some (.ref pb), some (.ref d), v4, v5] ∧ (∀ b o, b ≠ d → H2 b = some o → H' b = some o) ∧ (∀ c, c ≠ d → H' c = H2 c) ∧ PD P w H' d ((a ++ b).take i))
      ⟨none, none, rfl, fun _ _ _ e => e, fun _ _ => rfl, pd1.keeps (fun u h => s2 _ _ h) fun b ys h => s2 _ _ h⟩ (fun i σ H' _ ⟨_, _, _, f', _, pd'⟩ => SqT.of (f' _ _ (nqd e2) e2)) ?_ ?_
    · rintro i z σ H3 hz ⟨v4, v5, rfl, f3, g3, pd3⟩
      obtain ⟨m, c, q2, u, ht, rfl, e3, ku⟩ := kt_at kk hz
      have tm := List.mem_of_getElem? ht
      have cm : MCan m ∧ 1 ≤ c := (List.mem_append.mp tm).elim (fun h => ⟨ca.mc _ h, ca.pos _ h⟩) fun h => ⟨cb.mc _ h, cb.pos _ h⟩
      have hi : i < a.length + b.length := by have := (List.getElem?_eq_some_iff.mp ht).1; rw [List.length_append] at this; exact this
      refine ⟨q2, _, rfl, SqT.of (f3 _ _ (nqd e3) e3), rfl, _, _, rfl, go_name rfl ⟨_, _, rfl, go_name rfl ⟨rfl, ?_⟩⟩⟩
      refine ⟨_, rfl, _, rfl, _, rfl, d, u, m, c, (a ++ b).take i, rfl, pd3, ku.keeps (fun b ys h => f3 _ _ (nqd h) h), cm.1, cm.2, by rw [List.length_take, List.length_append]; omega, fun H4 f4 g4 pd4 => go_nx ⟨_, _, rfl, fun b o nb h => f4 _ _ nb (f3 _ _ nb h), fun c nc => (g4 c nc).trans (g3 c nc), ?_⟩⟩
      rw [List.take_add_one, ht]
      exact pd4
    · rintro σ H3 ⟨v4, v5, rfl, f3, g3, pd3⟩
      have el : (xs ++ ys).length = (a ++ b).length := by rw [List.length_append, List.length_append, la', lb']
      rw [el, List.take_length] at pd3
      refine go_nx (go_ret ?_)
      have s3 : Same H H3 := pair_any hd s12 f3
      refine ⟨_, rfl, d, a ++ b, rfl, pd3, by rw [List.length_append]; exact lf, fun H4 t p s4 t0 kp pc hco hlen => k H4 t p (fun c o z => s4 _ _ (s3 _ _ z)) ?_ kp pc hco hlen⟩
      cases z : H t with
      | none => rfl
      | some u => rw [s3 _ _ z] at t0; cases t0
theorem ok_Polynomials_times (c_put : CalX P w K mg base 1 "_put" (spPut1 P w)) (c_product_of : CalX P w K mg base 1 "_product_of" spProd) (c_polynomial_of : CalX P w K mg base 1 "_polynomial_of" (spPolyOf P w)) {f : Addr} {fd : FuncData} (F : Fun K "times" "Polynomials.times" s_Polynomials_times f fd) (T : Txt K mg ad) : FnOk P w K mg base (L2.CX P w) 3 f fd ["self", "a", "b"] (spBinP ad.Polynomials tmul) := by
  refine F.okX sc_Polynomials_times (fun vs H Q E => ?_) (fun cdv A outer s H vs Q E hr h => ?_)
  · walk_at "len"
  ·
    obtain ⟨s0, dx, fs, x, y, a, b, rfl, hs, hx, hy, ca, cb, ta, la, lb, lf, ma, mb, k⟩ := h
    have lf' : a.length * b.length ≤ 400 := by rw [← tmul_len]; exact lf
    refine ⟨_, (pss_cons (ps_set (i := 3) sc_Polynomials_times.nd rfl (by first | exact Or.inl rfl | exact Or.inr rfl) ND.pe_nnew)
      (pss_cons (ps_for (passes_of rfl) rfl (pi_tup (pv 1)) (pg_tup rfl (pgs_cons (pg_name (i := 4) sc_Polynomials_times.nd rfl (by first | exact Or.inl rfl | exact Or.inr rfl)) (pgs_cons (pg_name (i := 5) sc_Polynomials_times.nd rfl (by first | exact Or.inl rfl | exact Or.inr rfl)) pgs_nil))) (pss_one (ps_for (passes_of rfl) rfl (pi_tup (pv 2)) (pg_tup rfl (pgs_cons (pg_name (i := 6) sc_Polynomials_times.nd rfl (by first | exact Or.inl rfl | exact Or.inr rfl)) (pgs_cons (pg_name (i := 7) sc_Polynomials_times.nd rfl (by first | exact Or.inl rfl | exact Or.inr rfl)) pgs_nil))) (pss_one (ps_expr (pc_call c_put hr (by first | decide | omega) (takes_of rfl rfl rfl rfl) (by rfl) (pa_cons (pv 3) (pa_cons (pc_call c_product_of hr (by first | decide | omega) (takes_of rfl rfl rfl rfl) (by rfl) (pa_cons (pv 4) (pa_cons (pv 6) pa_nil))) (pa_cons (pe_op op_mul (pv 5) (pv 7)) pa_nil)))))))))
      (pss_one (ps_ret (pc_call c_polynomial_of hr (by first | decide | omega) (takes_of rfl rfl rfl rfl) (by rfl) (pa_cons (pv 3) pa_nil)))))), ?_⟩
    obtain ⟨pa, xs, rfl, ea, ka⟩ := ky_tup hx
    obtain ⟨pb, ys, rfl, eb, kb⟩ := ky_tup hy
    have la' : xs.length = a.length := by rw [← kys_len ka, List.length_map]
    have lb' : ys.length = b.length := by rw [← kys_len kb, List.length_map]
    refine go_seq fun d φ hd at_ => go_name rfl ?_
    have s1 : Same H (upd H d (.ext φ)) := same_new (Same.refl _) hd
    have pd1 := PD.nil at_
    have nd : ∀ {c u}, H c = some u → c ≠ d := fun e => ne_of_none e hd
    have h0 : ∀ b, b ≠ d → (upd H d (.ext φ)) b = H b := fun b nb => upd_ne nb
    generalize upd H d (.ext φ) = H1 at s1 pd1 h0
    refine go_sq ⟨_, rfl, pa, rfl, ⟨_, SqT.of (s1 _ _ ea)⟩, ?_⟩
    refine for_tup (K := K) (xs := xs) (fun i σ H' => ∃ v4 v5 v6 v7, σ = [some (.ref s0), some (.ref pa), some (.ref pb), some (.ref d), v4, v5, v6, v7] ∧ Same H H' ∧ PD P w H' d (tmul (a.take i) b)) ⟨none, none, none, none, rfl, s1, pd1⟩ (fun i σ H' _ ⟨_, _, _, _, _, s', _⟩ => SqT.of (s' _ _ ea)) ?_ ?_
    · rintro i z σ H2 hz ⟨v4, v5, v6, v7, rfl, s2, pd2⟩
      obtain ⟨m, c, q, u, ht, rfl, e2, ku⟩ := kt_at ka hz
      have tmA := List.mem_of_getElem? ht
      have hi := (List.getElem?_eq_some_iff.mp ht).1
      have hc60 : c < 2 ^ 60 := Nat.lt_of_le_of_lt (tot_mem tmA) ta
      refine ⟨q, _, rfl, SqT.of (s2 _ _ e2), rfl, _, _, rfl, go_name rfl ⟨_, _, rfl, go_name rfl ⟨rfl, ?_⟩⟩⟩
      refine ⟨_, rfl, pb, rfl, ⟨_, SqT.of (s2 _ _ eb)⟩, ?_⟩
      refine for_tup (K := K) (xs := ys) (fun j σ H' => ∃ v6 v7, σ = [some (.ref s0), some (.ref pa), some (.ref pb), some (.ref d), some u, some (.int (c : Int)), v6, v7] ∧ Same H H' ∧ PD P w H' d (tmul (a.take i) b ++ (b.take j).map fun y => (mmul m y.1, c * y.2))) ⟨v6, v7, rfl, s2, by rw [List.take_zero, List.map_nil, List.append_nil]; exact pd2⟩ (fun j σ H' _ ⟨_, _, _, s', _⟩ => SqT.of (s' _ _ eb)) ?_ ?_
      · rintro j z σ H3 hz ⟨v6, v7, rfl, s3, pd3⟩
        obtain ⟨n, c', q', u', ht', rfl, e3, ku'⟩ := kt_at kb hz
        have tmB := List.mem_of_getElem? ht'
        have hj := (List.getElem?_eq_some_iff.mp ht').1
        refine ⟨q', _, rfl, SqT.of (s3 _ _ e3), rfl, _, _, rfl, go_name rfl ⟨_, _, rfl, go_name rfl ⟨rfl, ?_⟩⟩⟩
        refine ⟨_, rfl, _, rfl, _, rfl, u, u', m, n, rfl, ku.keeps (fun b ys h => s3 _ _ h), ku'.keeps (fun b ys h => s3 _ _ h), ca.mc _ tmA, cb.mc _ tmB, ma _ tmA, mb _ tmB, fun H4 t s4 t0 kt => ?_⟩
        refine ⟨_, rfl, _, rfl, _, _, rfl, rfl, .inl ⟨by omega, by omega⟩, ?_⟩
        have pd4 := pd3.keeps (fun u h => s4 _ _ h) (fun b ys h => s4 _ _ h)
        have len : (tmul (a.take i) b ++ (b.take j).map fun y => (mmul m y.1, c * y.2)).length < 400 := by
          rw [List.length_append, tmul_len, List.length_map, List.length_take, List.length_take, Nat.min_eq_left (Nat.le_of_lt hi), Nat.min_eq_left (Nat.le_of_lt hj)]
          have h1 : (i + 1) * b.length ≤ a.length * b.length := Nat.mul_le_mul_right _ hi
          rw [Nat.succ_mul] at h1
          omega
        refine ⟨d, .ref t, mmul m n, c * c', _, by rw [Int.natCast_mul], pd4, kt, mmul_can (ca.mc _ tmA) (cb.mc _ tmB), Nat.mul_le_mul (ca.pos _ tmA) (cb.pos _ tmB), len, fun H5 f5 g5 pd5 => go_nx ⟨_, _, rfl, fun b o h => f5 _ _ (nd h) (s4 _ _ (s3 _ _ h)), ?_⟩⟩
        rw [List.take_add_one, ht', show (some (n, c')).toList = [(n, c')] from rfl, List.map_append, ← List.append_assoc]
        exact pd5
      · rintro σ H3 ⟨v6, v7, rfl, s3, pd3⟩
        rw [lb', List.take_length] at pd3
        refine go_nx ⟨_, _, _, _, rfl, s3, ?_⟩
        rw [List.take_add_one, ht, show (some (m, c)).toList = [(m, c)] from rfl]
        unfold tmul at pd3 ⊢
        rw [List.flatMap_append, List.flatMap_cons, List.flatMap_nil, List.append_nil]
        exact pd3
    · rintro σ H2 ⟨v4, v5, v6, v7, rfl, s2, pd2⟩
      rw [la', List.take_length] at pd2
      refine go_nx (go_ret ?_)
      refine ⟨_, rfl, d, tmul a b, rfl, pd2, lf, fun H4 t p s4 t0 kp pc hco hlen => k H4 t p (fun c o z => s4 _ _ (s2 _ _ z)) ?_ kp pc hco hlen⟩
      cases z : H t with
      | none => rfl
      | some u => rw [s2 _ _ z] at t0; cases t0
end
end K04

set_option Elab.async false
set_option linter.all false
set_option maxRecDepth 100000
set_option maxHeartbeats 4000000
namespace K04
open PySem L2 Ew Tb GxR ND PM NI PK
local macro_rules | `(tactic| walk_at "len") => `(tactic| first | (intro h; obtain ⟨_, e, _⟩ := h; rw [e]; rfl) | (intro h; obtain ⟨_, _, e, _⟩ := h; rw [e]; rfl) | (intro h; obtain ⟨_, _, _, e, _⟩ := h; rw [e]; rfl) | (intro h; obtain ⟨_, _, _, _, e, _⟩ := h; rw [e]; rfl) | (intro h; obtain ⟨_, _, _, _, _, e, _⟩ := h; rw [e]; rfl) | (intro h; obtain ⟨_, _, _, _, _, _, e, _⟩ := h; rw [e]; rfl) | (intro h; obtain ⟨_, _, _, _, _, _, _, e, _⟩ := h; rw [e]; rfl) | (intro h; exact h.elim))
section
variable {P : Program} {w : World} {K : PySem.W.Frag} {mg : Str → Option Value} {base : Heap} {ad : Ad}
/-! ### what a thing is, told of its key -/
def intK : NestedKey → Bool
  | .num _ => true
  | _ => false
def tupK : NestedKey → Bool
  | .tup _ => true
  | _ => false
def natK : NestedKey → Bool
  | .num i => decide (0 ≤ i)
  | _ => false
def posK : NestedKey → Bool
  | .num i => decide (1 ≤ i)
  | _ => false
def pairK : NestedKey → Bool
  | .tup ks => decide (ks.length = 2)
  | _ => false
def fstK : NestedKey → NestedKey
  | .tup (k :: _) => k
  | _ => .none
def sndK : NestedKey → NestedKey
  | .tup (_ :: k :: _) => k
  | _ => .none
def powK (k : NestedKey) : Bool := pairK k && (natK (fstK k) && posK (sndK k))
theorem ky_ty {K : PySem.W.Frag} {H : Hp} {k : NestedKey} {v : V} (h : Ky H k v) : ∃ t, TyX K H v t ∧ PySem.W.kitOne K t (.type "int") = some (intK k) ∧ PySem.W.kitOne K t (.type "bool") = some false ∧ PySem.W.kitOne K t (.type "tuple") = some (tupK k) := by
  cases h with
  | non => exact ⟨_, .base .non, show _ = some false from kit_ty (by decide +kernel), show _ = some false from kit_ty (by decide +kernel), show _ = some false from kit_ty (by decide +kernel)⟩
  | int i => exact ⟨_, .base (.int i), show _ = some true from kit_ty (by decide +kernel), show _ = some false from kit_ty (by decide +kernel), show _ = some false from kit_ty (by decide +kernel)⟩
  | str x => exact ⟨_, .base (.str x), show _ = some false from kit_ty (by decide +kernel), show _ = some false from kit_ty (by decide +kernel), show _ = some false from kit_ty (by decide +kernel)⟩
  | tup e r => exact ⟨_, .base (.tup e), show _ = some false from kit_ty (by decide +kernel), show _ = some false from kit_ty (by decide +kernel), show _ = some true from kit_ty (by decide +kernel)⟩
theorem int_of {H : Hp} {k : NestedKey} {v : V} (h : Ky H k v) (c : intK k = true) : ∃ i, k = .num i ∧ v = .int i := by
  cases h with
  | int i => exact ⟨i, rfl, rfl⟩
  | _ => cases c
theorem pair_of {H : Hp} {k : NestedKey} {v : V} (h : Ky H k v) (c : pairK k = true) : ∃ a x y, v = .ref a ∧ H a = some (.tup [x, y]) ∧ Ky H (fstK k) x ∧ Ky H (sndK k) y ∧ k = .tup [fstK k, sndK k] := by
  cases h with
  | tup e r =>
    have c' := of_decide_eq_true c
    cases r with
    | nil => cases c'
    | cons r1 r =>
      cases r with
      | nil => cases c'
      | cons r2 r =>
        cases r with
        | nil => exact ⟨_, _, _, rfl, e, r1, r2, rfl⟩
        | cons _ _ => simp at c'
  | _ => cases c
def spK0 (f : NestedKey → Bool) : Sp := fun vs H Q _ => ∃ v k, vs = [v] ∧ Ky H k v ∧ Q (.bl (f k)) H
theorem ok_is_integer  {f : Addr} {fd : FuncData} (F : Fun K "is_integer" "is_integer" s_is_integer f fd) (T : Txt K mg ad) : FnOk P w K mg base (L2.CX P w) 1 f fd ["thing"] (spK0 intK) := by
  refine F.okX sc_is_integer (fun vs H Q E => ?_) (fun cdv A outer s H vs Q E hr h => ?_)
  · walk_at "len"
  ·
    obtain ⟨x, k0, rfl, hx, k⟩ := h
    refine ⟨_, (pss_one (ps_ret (pe_and (pe_callB call_isi (by rfl) T.z_isinstance (by decide +kernel) (pa_cons (pv 0) (pa_cons (pe_bltn (v := .ty "int") (by rfl) T.z_int (by decide +kernel) rfl) pa_nil))) (pe_one (pe_not (pe_callB call_isi (by rfl) T.z_isinstance (by decide +kernel) (pa_cons (pv 0) (pa_cons (pe_bltn (v := .ty "bool") (by rfl) T.z_bool (by decide +kernel) rfl) pa_nil)))))))), ?_⟩
    obtain ⟨t, ty, e1, e2, e3⟩ := ky_ty (K := K) hx
    refine ⟨_, rfl, _, _, _, _, intK k0, rfl, .ty _, ty, e1, _, rfl, ?_⟩
    refine ite2 (fun c => ?_) (fun c => ?_)
    · refine ⟨_, rfl, _, _, _, _, false, rfl, .ty _, ty, e2, false, rfl, ?_⟩
      rw [c] at k
      exact k
    · rw [show intK k0 = false by simpa using c] at k
      exact k
theorem ok_is_natural (c_is_integer : CalX P w K mg base 1 "is_integer" (spK0 intK)) {f : Addr} {fd : FuncData} (F : Fun K "is_natural" "is_natural" s_is_natural f fd) (T : Txt K mg ad) : FnOk P w K mg base (L2.CX P w) 2 f fd ["thing"] (spK0 natK) := by
  refine F.okX sc_is_natural (fun vs H Q E => ?_) (fun cdv A outer s H vs Q E hr h => ?_)
  · walk_at "len"
  ·
    obtain ⟨x, k0, rfl, hx, k⟩ := h
    refine ⟨_, (pss_one (ps_ret (pe_and (pc_call c_is_integer hr (by first | decide | omega) (takes_of rfl rfl rfl rfl) (by rfl) (pa_cons (pv 0) pa_nil)) (pe_one (pe_cmpR op_ge (pv 0) pe_int (nomark _)))))), ?_⟩
    refine ⟨_, rfl, _, k0, rfl, hx, _, rfl, ?_⟩
    refine ite2 (fun c => ?_) (fun c => ?_)
    · obtain ⟨i, rfl, rfl⟩ := int_of hx c
      exact ⟨_, rfl, _, _, rfl, rfl, k⟩
    · cases hx with
      | int i => exact absurd rfl c
      | _ => exact k
theorem ok_is_pair  {f : Addr} {fd : FuncData} (F : Fun K "is_pair" "is_pair" s_is_pair f fd) (T : Txt K mg ad) : FnOk P w K mg base (L2.CX P w) 1 f fd ["thing"] (spK0 pairK) := by
  refine F.okX sc_is_pair (fun vs H Q E => ?_) (fun cdv A outer s H vs Q E hr h => ?_)
  · walk_at "len"
  ·
    obtain ⟨x, k0, rfl, hx, k⟩ := h
    refine ⟨_, (pss_one (ps_ret (pe_and (pe_callB call_isi (by rfl) T.z_isinstance (by decide +kernel) (pa_cons (pv 0) (pa_cons (pe_bltn (v := .ty "tuple") (by rfl) T.z_tuple (by decide +kernel) rfl) pa_nil))) (pe_one (pe_cmpR op_eq (pe_callB call_len (by rfl) T.z_len (by decide +kernel) (pa_cons (pv 0) pa_nil)) pe_int (nomark _)))))), ?_⟩
    obtain ⟨t, ty, e1, e2, e3⟩ := ky_ty (K := K) hx
    refine ⟨_, rfl, _, _, _, _, tupK k0, rfl, .ty _, ty, e3, _, rfl, ?_⟩
    refine ite2 (fun c => ?_) (fun c => ?_)
    · cases k0 with
      | tup ks =>
        obtain ⟨a, xs, rfl, e, r⟩ := ky_tup hx
        refine ⟨_, rfl, .ref a, _, rfl, .inr ⟨_, SqT.of e, rfl⟩, rfl, ?_⟩
        rw [← kys_len r]
        have ed : decide (V.int (ks.length : Int) = V.int 2) = decide (ks.length = 2) := by
          by_cases c : ks.length = 2
          · rw [c]; rfl
          · rw [decide_eq_false c]
            exact decide_eq_false fun z => c (by injection z with z; omega)
        rw [ed]
        exact k
      | _ => cases c
    · cases hx with
      | tup e r => exact absurd rfl c
      | _ => exact k
theorem ok_is_positive (c_is_natural : CalX P w K mg base 2 "is_natural" (spK0 natK)) {f : Addr} {fd : FuncData} (F : Fun K "_is_positive" "_is_positive" s_is_positive f fd) (T : Txt K mg ad) : FnOk P w K mg base (L2.CX P w) 3 f fd ["thing"] (spK0 posK) := by
  refine F.okX sc_is_positive (fun vs H Q E => ?_) (fun cdv A outer s H vs Q E hr h => ?_)
  · walk_at "len"
  ·
    obtain ⟨x, k0, rfl, hx, k⟩ := h
    refine ⟨_, (pss_one (ps_ret (pe_and (pc_call c_is_natural hr (by first | decide | omega) (takes_of rfl rfl rfl rfl) (by rfl) (pa_cons (pv 0) pa_nil)) (pe_one (pe_cmpR op_ge (pv 0) pe_int (nomark _)))))), ?_⟩
    refine ⟨_, rfl, _, k0, rfl, hx, _, rfl, ?_⟩
    refine ite2 (fun c => ?_) (fun c => ?_)
    · cases hx with
      | int i => exact ⟨_, rfl, _, _, rfl, rfl, k⟩
      | _ => cases c
    · cases hx with
      | int i =>
        have c' : ¬ (0 ≤ i) := fun z => c (decide_eq_true z)
        rw [show posK (.num i) = false from decide_eq_false (by omega)] at k
        exact k
      | _ => exact k
theorem ok_is_power (c_is_pair : CalX P w K mg base 1 "is_pair" (spK0 pairK)) (c_is_natural : CalX P w K mg base 2 "is_natural" (spK0 natK)) (c_is_positive : CalX P w K mg base 3 "_is_positive" (spK0 posK)) {f : Addr} {fd : FuncData} (F : Fun K "_is_power" "_is_power" s_is_power f fd) (T : Txt K mg ad) : FnOk P w K mg base (L2.CX P w) 4 f fd ["thing"] (spK0 powK) := by
  refine F.okX sc_is_power (fun vs H Q E => ?_) (fun cdv A outer s H vs Q E hr h => ?_)
  · walk_at "len"
  ·
    obtain ⟨x, k0, rfl, hx, k⟩ := h
    refine ⟨_, (pss_one (ps_ret (pe_and (pc_call c_is_pair hr (by first | decide | omega) (takes_of rfl rfl rfl rfl) (by rfl) (pa_cons (pv 0) pa_nil)) (pe_and (pc_call c_is_natural hr (by first | decide | omega) (takes_of rfl rfl rfl rfl) (by rfl) (pa_cons (pe_ix ix_tup (pv 0) pe_int (fun _ _ => rfl)) pa_nil)) (pe_one (pc_call c_is_positive hr (by first | decide | omega) (takes_of rfl rfl rfl rfl) (by rfl) (pa_cons (pe_ix ix_tup (pv 0) pe_int (fun _ _ => rfl)) pa_nil))))))), ?_⟩
    refine ⟨_, rfl, _, k0, rfl, hx, _, rfl, ?_⟩
    unfold powK at k
    refine ite2 (fun c => ?_) (fun c => ?_)
    · obtain ⟨a, x1, x2, rfl, e, k1, k2, _⟩ := pair_of hx c
      rw [c, Bool.true_and] at k
      refine ⟨_, rfl, a, _, _, x1, rfl, rfl, SqT.of e, at_of (j := 0) rfl rfl, _, _, rfl, k1, _, rfl, ?_⟩
      refine ite2 (fun c2 => ?_) (fun c2 => ?_)
      · rw [c2, Bool.true_and] at k
        exact ⟨_, rfl, a, _, _, x2, rfl, rfl, SqT.of e, at_of (j := 1) rfl rfl, _, _, rfl, k2, k⟩
      · rw [show natK (fstK k0) = false by simpa using c2] at k
        exact k
    · rw [show pairK k0 = false by simpa using c] at k
      exact k
/-! ### rising lists -/
/-- rises from each place to the next -/
def ascB (xs : List Int) : Bool := decide (∀ k : Nat, k < xs.length - 1 → xs.getD k 0 < xs.getD (k + 1) 0)
def ascD (ds : List PyData) : Bool := decide (∀ k : Nat, k < ds.length - 1 → PySem.W.dataLt (ds.getD k .none) (ds.getD (k + 1) .none) = true)
def spAscI (K : PySem.W.Frag) (PP : Addr) : Sp := fun vs H Q _ => ∃ (a : Addr) (xs : List Int), vs = [.ref a] ∧ H a = some (.lst (xs.map V.int)) ∧ xs.length ≤ 1000 ∧ TabG H PP ∧ ∀ H', FrT H H' → Q (.bl (ascB xs)) H'
theorem ok_ascends  {f cc PP : Addr} {fd : FuncData} (F : FunC K "ascends" "ascends" s_ascends f fd cc) (TB : GxR.TabB base mg cc PP) (T : Txt K mg ad) : FnOk P w K mg base (L2.CX P w) 2 f fd ["things"] (spAscI K PP) := by
  refine F.okX sc_ascends (fun vs H Q E => ?_) (fun A outer s H vs Q E hr h => ?_)
  · walk_at "len"
  ·
    obtain ⟨a, xs, rfl, hS, hl, tg, k⟩ := h
    refine ⟨_, (pss_one (ps_ret (EwG.pe_all (own := [("k", 1)]) hr (by rfl) T.z_all TB rfl sc_ascends.nd (blkOk_by (by kernel_rfl)) (by decide +kernel) rfl rfl (pi_range1 (by rfl) T.z_range (pa_cons (pe_op op_sub (pe_callB call_len (by rfl) T.z_len (by decide +kernel) (pa_cons (pv 0) pa_nil)) pe_int) pa_nil)) (fun _ _ _ _ _ _ _ => (pg_name (i := 1) sc_ascends.nd rfl (by first | exact Or.inl rfl | exact Or.inr rfl))) (fun _ _ _ _ _ _ _ hr => (pe_cmpR op_lt (pe_ix (kix_list (K := K)) (pv 0) (pv 1) (fun _ _ => rfl)) (pe_ix (kix_list (K := K)) (pv 0) (pe_op op_add (pv 1) pe_int) (fun _ _ => rfl)) (nomark _)))))), ?_⟩
    refine ⟨_, rfl, .ref a, _, rfl, .inl ⟨_, SqL.of hS, rfl⟩, _, _, rfl, rfl, _, rfl, ?_⟩
    rw [List.length_map]
    refine ⟨by omega, by omega, tg, fun H2 htb => ?_⟩
    have f2 := FrT.tab tg htb
    have hS2 : H2 a = some (.lst (xs.map V.int)) := f2.lst hS
    rw [show ((xs.length : Int) - 1).toNat = xs.length - 1 by omega]
    have at2 : ∀ i : Nat, i < xs.length → (xs.map V.int)[i]? = some (.int (xs.getD i 0)) := fun i hi => by
      rw [List.getElem?_map, List.getD_eq_getElem?_getD, List.getElem?_eq_getElem hi]
      rfl
    refine gwb_rng (fun k => decide (xs.getD k 0 < xs.getD (k + 1) 0)) (fun _ => rfl) (fun i Kt hi kt => ?_) (fun hall => ?_) (fun i hi hb => ?_)
    · exact ⟨_, rfl, _, rfl, a, _, _, .int (xs.getD i 0), rfl, rfl, SqL.of hS2, at_of (j := i) rfl (at2 i (by omega)), _, rfl, _, rfl, _, _, rfl, rfl, a, _, _, .int (xs.getD (i + 1) 0), rfl, rfl, SqL.of hS2, at_of (j := i + 1) rfl (at2 (i + 1) (by omega)), _, _, rfl, rfl, kt⟩
    · have := k H2 f2
      rw [show ascB xs = true from decide_eq_true fun i hi => of_decide_eq_true (hall i hi)] at this
      exact this
    · have := k H2 f2
      rw [show ascB xs = false from decide_eq_false fun z => (of_decide_eq_false hb) (z i hi)] at this
      exact this
end
end K04

set_option Elab.async false
set_option linter.all false
set_option maxRecDepth 100000
set_option maxHeartbeats 4000000
namespace K04
open PySem L2 Ew Tb GxR ND PM NI PK
local macro_rules | `(tactic| walk_at "len") => `(tactic| first | (intro h; obtain ⟨_, e, _⟩ := h; rw [e]; rfl) | (intro h; obtain ⟨_, _, e, _⟩ := h; rw [e]; rfl) | (intro h; obtain ⟨_, _, _, e, _⟩ := h; rw [e]; rfl) | (intro h; obtain ⟨_, _, _, _, e, _⟩ := h; rw [e]; rfl) | (intro h; obtain ⟨_, _, _, _, _, e, _⟩ := h; rw [e]; rfl) | (intro h; obtain ⟨_, _, _, _, _, _, e, _⟩ := h; rw [e]; rfl) | (intro h; obtain ⟨_, _, _, _, _, _, _, e, _⟩ := h; rw [e]; rfl) | (intro h; exact h.elim))
section
variable {P : Program} {w : World} {K : PySem.W.Frag} {mg : Str → Option Value} {base : Heap} {ad : Ad}
theorem sqTf {K : PySem.W.Frag} {H H' : Hp} {b : Addr} {xs : List V} (f : FrT H H') (h : SqT K H b xs) : SqT K H' b xs := by
  rcases h with (h | ⟨o, h⟩) | h
  · exact .inl (.inl (f.tup h))
  · exact .inl (.inr ⟨o, f.keep _ _ h (fun ps z => by cases z)⟩)
  · exact .inr h
/-- all, any over a tuple whose turns may let tables grow -/
theorem gwf_tup {K : PySem.W.Frag} {L : Addr} {xs : List V} {k : Nat} {te : TE} {vs : List Nat} {σ : L2.St} {e : Bool} {Q : VK} {H2 : Hp} (b : Nat → Bool) (hL : SqT K H2 L xs) (hw : ∀ x, wipe ((wipe σ vs).set k (some x)) vs = wipe σ vs)
    (hs : ∀ (i : Nat) (x : V) (H : Hp) (Kt : VK), xs[i]? = some x → FrT H2 H → (∀ H', FrT H H' → Kt (.bl (b i)) H') → te ((wipe σ vs).set k (some x)) H Kt) (hd : (∀ i, i < xs.length → b i = e) → ∀ H, FrT H2 H → Q (.bl e) H) (hx : ∀ i, i < xs.length → b i = (!e) → ∀ H, FrT H2 H → Q (.bl (!e)) H) :
    ∃ W : Nat → Nat → Hp → Prop, (∃ m, W 0 m H2) ∧ EwG.GW (Itt K L) (gName k) te vs σ e Q W := by
  refine ⟨fun i m H => m = xs.length - i ∧ i ≤ xs.length ∧ FrT H2 H ∧ ∀ j, j < i → b j = e, ⟨xs.length, by simp, Nat.zero_le _, FrT.refl _, fun j h => absurd h (Nat.not_lt_zero _)⟩, ?_⟩
  rintro i m H ⟨rfl, hi, f, ha⟩
  have hL' := sqTf f hL
  by_cases hlt : i < xs.length
  · refine .inr ⟨⟨xs, xs[i], hL', by simp [hlt]⟩, fun x H' y => ?_⟩
    obtain ⟨e1, y⟩ := y
    subst e1
    refine ⟨hw _, ?_⟩
    refine hs i x _ _ (y xs hL') f fun H3 f3 => ⟨b i, rfl, fun z => ⟨xs.length - (i + 1), by omega, rfl, hlt, f.trans f3, fun j hj => ?_⟩, fun z => ?_⟩
    · by_cases h : j < i
      · exact ha j h
      · rw [show j = i by omega]; exact z
    · have z' := ne_not z
      rw [z']
      exact hx i hlt z' H3 (f.trans f3)
  · have e1 : i = xs.length := by omega
    subst e1
    exact .inl ⟨⟨xs, hL', Nat.le_refl _⟩, hd ha H f⟩
def numK' : NestedKey → Int
  | .num i => i
  | _ => 0
def lenK : NestedKey → Nat
  | .tup ks => ks.length
  | _ => 0
def monK : NestedKey → Bool
  | .tup ks => ks.all powK && ascB (ks.map fun k => numK' (fstK k))
  | _ => false
def partK (k : NestedKey) : Bool := pairK k && (monK (fstK k) && posK (sndK k))
def elK : NestedKey → Bool
  | .tup ks => ks.all partK && ascD (ks.map fun k => kD (fstK k))
  | _ => false
/-- (what is so of each item, what is so of all) -/
theorem all_dec {f : NestedKey → Bool} {ks : List NestedKey} : ks.all f = true ↔ ∀ i, i < ks.length → f (ks.getD i .none) = true := by
  rw [List.all_eq_true]
  constructor
  · intro h i hi
    rw [List.getD_eq_getElem?_getD, List.getElem?_eq_getElem hi]
    exact h _ (List.getElem_mem hi)
  · intro h k hk
    obtain ⟨i, hi⟩ := List.mem_iff_getElem?.mp hk
    have := h i (List.getElem?_eq_some_iff.mp hi).1
    rw [List.getD_eq_getElem?_getD, hi] at this
    exact this
theorem kys_get {H : Hp} {ks : List NestedKey} {xs : List V} {i : Nat} {x : V} (r : Kys H ks xs) (h : xs[i]? = some x) : ks[i]? = some (ks.getD i .none) ∧ Ky H (ks.getD i .none) x := by
  have hi : i < ks.length := by rw [kys_len r]; exact (List.getElem?_eq_some_iff.mp h).1
  have e : ks[i]? = some (ks.getD i .none) := by rw [List.getD_eq_getElem?_getD, List.getElem?_eq_getElem hi]; rfl
  exact ⟨e, kys_at r i e h⟩
def spMon (PA PB : Addr) : Sp := fun vs H Q _ => ∃ v k, vs = [v] ∧ Ky H k v ∧ lenK k ≤ 1000 ∧ TabG H PA ∧ TabG H PB ∧ ∀ H', FrT H H' → Q (.bl (monK k)) H'
theorem ok_is_monomial {PB : Addr} (c_is_power : CalX P w K mg base 4 "_is_power" (spK0 powK)) (c_ascends : CalX P w K mg base 2 "ascends" (spAscI K PB)) {f cc PP : Addr} {fd : FuncData} (F : FunC K "_is_monomial" "_is_monomial" s_is_monomial f fd cc) (TB : GxR.TabB base mg cc PP) (T : Txt K mg ad) : FnOk P w K mg base (L2.CX P w) 6 f fd ["thing"] (spMon PP PB) := by
  refine F.okX sc_is_monomial (fun vs H Q E => ?_) (fun A outer s H vs Q E hr h => ?_)
  · walk_at "len"
  ·
    obtain ⟨x, k0, rfl, hx, hl, ta, tb, k⟩ := h
    refine ⟨_, (pss_cons (ps_if (PW.pt (pw_or (pt_not (pt_val (pe_callB call_isi (by rfl) T.z_isinstance (by decide +kernel) (pa_cons (pv 0) (pa_cons (pe_bltn (v := .ty "tuple") (by rfl) T.z_tuple (by decide +kernel) rfl) pa_nil))))) (pw_or1 (pt_not (pt_val (EwG.pe_all (own := [("part", 1)]) hr (by rfl) T.z_all TB rfl sc_is_monomial.nd (blkOk_by (by kernel_rfl)) (by decide +kernel) rfl rfl (pi_tup (pv 0)) (fun _ _ _ _ _ _ _ => (pg_name (i := 1) sc_is_monomial.nd rfl (by first | exact Or.inl rfl | exact Or.inr rfl))) (fun _ _ _ _ _ _ _ hr => (pc_call c_is_power hr (by first | decide | omega) takes0 (by rfl) (pa_cons (pv 1) pa_nil))))))))) (pss_one (ps_ret pe_bl)) pss_nil)
      (pss_one (ps_ret (pc_call c_ascends hr (by first | decide | omega) (takes_of rfl rfl rfl rfl) (by rfl) (pa_cons (pe_lc (own := [("fact", 2), ("exponent", 3)]) (tt := tYes) rfl sc_is_monomial.nd (pi_tup (pv 0)) (blkOk_by (by kernel_rfl)) (fun _ _ _ _ _ => (PK.kpg_tup (K := K) rfl (pgs_cons (pg_name (i := 2) sc_is_monomial.nd rfl (by first | exact Or.inl rfl | exact Or.inr rfl)) (pgs_cons (pg_name (i := 3) sc_is_monomial.nd rfl (by first | exact Or.inl rfl | exact Or.inr rfl)) pgs_nil)))) (fun _ _ _ _ _ => pts_nil) (fun _ _ _ _ _ => (pv 2))) pa_nil))))), ?_⟩
    cases k0 with
    | tup ks =>
      obtain ⟨t, xs, rfl, ht, r⟩ := ky_tup hx
      refine go_sq ⟨_, rfl, _, _, _, _, true, rfl, .ty _, .base (.tup ht), kit_ty (by decide +kernel), true, rfl, ?_⟩
      refine iteF ?_
      refine ⟨_, rfl, t, rfl, ⟨_, SqT.of ht⟩, ta, fun H2 htb => ?_⟩
      have f2 := FrT.tab ta htb
      have lx := kys_len r
      refine gwb_tup (fun j => powK (ks.getD j .none)) (SqT.of (f2.tup ht)) (fun _ => rfl) (fun i x Kt hx kt => ?_) (fun hall => ?_) (fun i hi hb => ?_)
      · obtain ⟨_, kx⟩ := kys_get r hx
        exact ⟨_, rfl, x, _, rfl, Ky.frt f2 kx, kt⟩
      · have al : ks.all powK = true := all_dec.mpr (by rw [lx]; exact hall)
        refine ⟨_, rfl, iteF (go_next ?_)⟩
        refine ⟨_, rfl, t, rfl, ⟨_, SqT.of (f2.tup ht)⟩, fun D hD => ?_⟩
        refine DC2.walk_t (K := K) (xs := xs) (fun i H' => Same H2 H' ∧ H' D = some (.lst (((ks.take i).map fun k => numK' (fstK k)).map V.int))) ⟨same_new (Same.refl _) hD, upd_same⟩ (fun i H' _ ⟨s', _⟩ => SqT.of (s' _ _ (f2.tup ht))) (fun i z H3 hz ⟨s3, e3⟩ => ?_) (fun H3 ⟨s3, e3⟩ => ?_)
        · obtain ⟨eg, kz⟩ := kys_get r hz
          have pz : powK (ks.getD i .none) = true := List.all_eq_true.mp al _ (List.mem_of_getElem? eg)
          generalize ks.getD i .none = kz0 at eg kz pz
          unfold powK at pz
          rw [Bool.and_eq_true, Bool.and_eq_true] at pz
          obtain ⟨a, x1, x2, rfl, e, k1, k2, _⟩ := pair_of kz pz.1
          have n1 : ∃ i, fstK kz0 = .num i ∧ x1 = .int i := int_of k1 (by have := pz.2.1; revert this; cases fstK kz0 <;> intro this <;> first | rfl | cases this)
          obtain ⟨j, ej, rfl⟩ := n1
          refine ⟨a, _, rfl, SqT.of (s3 _ _ (f2.tup e)), rfl, _, _, rfl, go_name rfl ⟨_, _, rfl, go_name rfl ⟨rfl, ?_⟩⟩⟩
          refine ⟨rfl, yes_then (iteT ⟨_, rfl, _, e3, ?_, same_but hD s3 but_app, ?_⟩)⟩
          · rw [List.length_map, List.length_map, List.length_take]
            have : ks.length ≤ 1000 := hl
            exact Nat.lt_of_le_of_lt (by omega : _ ≤ 1000) (by decide)
          · rw [upd_same, List.take_add_one, eg, show (some kz0).toList = [kz0] from rfl, List.map_append, List.map_append]
            show _ = some (HO.lst (_ ++ [V.int (numK' (fstK kz0))]))
            rw [ej]
            rfl
        · rw [← lx, List.take_length] at e3
          refine ⟨D, _, rfl, e3, by rw [List.length_map]; exact hl, (f2.trans (FrT.of s3)).tabs _ tb, fun H4 f4 => ?_⟩
          have := k H4 (f2.trans ((FrT.of s3).trans f4))
          rw [show monK (.tup ks) = (ks.all powK && ascB (ks.map fun k => numK' (fstK k))) from rfl, al, Bool.true_and] at this
          exact this
      · refine ⟨_, rfl, iteT ?_⟩
        have al : ks.all powK = false := by
          rw [← Bool.not_eq_true, all_dec]
          intro z
          rw [z i (by rw [lx]; exact hi)] at hb
          cases hb
        have := k H2 f2
        rw [show monK (.tup ks) = (ks.all powK && ascB (ks.map fun k => numK' (fstK k))) from rfl, al, Bool.false_and] at this
        exact this
    | _ =>
      obtain ⟨t, ty, e1, e2, e3⟩ := ky_ty (K := K) hx
      refine go_sq ⟨_, rfl, _, _, _, _, false, rfl, .ty _, ty, e3, false, rfl, ?_⟩
      exact iteT (iteT (k H (FrT.refl _)))
end
end K04

set_option Elab.async false
set_option linter.all false
set_option maxRecDepth 100000
set_option maxHeartbeats 4000000
namespace K04
open PySem L2 Ew Tb GxR ND PM NI PK
local macro_rules | `(tactic| walk_at "len") => `(tactic| first | (intro h; obtain ⟨_, e, _⟩ := h; rw [e]; rfl) | (intro h; obtain ⟨_, _, e, _⟩ := h; rw [e]; rfl) | (intro h; obtain ⟨_, _, _, e, _⟩ := h; rw [e]; rfl) | (intro h; obtain ⟨_, _, _, _, e, _⟩ := h; rw [e]; rfl) | (intro h; obtain ⟨_, _, _, _, _, e, _⟩ := h; rw [e]; rfl) | (intro h; obtain ⟨_, _, _, _, _, _, e, _⟩ := h; rw [e]; rfl) | (intro h; obtain ⟨_, _, _, _, _, _, _, e, _⟩ := h; rw [e]; rfl) | (intro h; exact h.elim))
section
variable {P : Program} {w : World} {K : PySem.W.Frag} {mg : Str → Option Value} {base : Heap} {ad : Ad}
theorem pow_of {k : NestedKey} (h : powK k = true) : ∃ q : Nat × Nat, k = kQ q := by
  unfold powK at h
  rw [Bool.and_eq_true, Bool.and_eq_true] at h
  obtain ⟨h1, h2, h3⟩ := h
  cases k with
  | tup ks =>
    match ks, h1, h2, h3 with
    | [.num i, .num j], _, h2, h3 =>
      have h2 : 0 ≤ i := of_decide_eq_true h2
      have h3 : 1 ≤ j := of_decide_eq_true h3
      exact ⟨(i.toNat, j.toNat), by unfold kQ; rw [Int.toNat_of_nonneg h2, Int.toNat_of_nonneg (by omega)]⟩
    | [.none, _], _, h2, _ => cases h2
    | [.text _, _], _, h2, _ => cases h2
    | [.tup _, _], _, h2, _ => cases h2
    | [.num _, .none], _, _, h3 => cases h3
    | [.num _, .text _], _, _, h3 => cases h3
    | [.num _, .tup _], _, _, h3 => cases h3
    | [], h1, _, _ => cases h1
    | [_], h1, _, _ => cases h1
    | _ :: _ :: _ :: _, h1, _, _ => simp [pairK] at h1
  | _ => cases h1
theorem keys_of {α : Type} {f : α → NestedKey} {t : NestedKey → Bool} (h : ∀ k, t k = true → ∃ x, k = f x) : ∀ ks : List NestedKey, ks.all t = true → ∃ l : List α, ks = l.map f
  | [], _ => ⟨[], rfl⟩
  | k :: ks, hk => by
    rw [List.all_cons, Bool.and_eq_true] at hk
    obtain ⟨x, rfl⟩ := h k hk.1
    obtain ⟨l, rfl⟩ := keys_of h ks hk.2
    exact ⟨x :: l, rfl⟩
theorem mon_of {k : NestedKey} (h : monK k = true) : ∃ m : Mono, k = kM m := by
  cases k with
  | tup ks =>
    have h : (ks.all powK && ascB (ks.map fun k => numK' (fstK k))) = true := h
    rw [Bool.and_eq_true] at h
    obtain ⟨m, rfl⟩ := keys_of (f := kQ) (fun k => pow_of) ks h.1
    exact ⟨m, rfl⟩
  | _ => cases h
theorem mon_can {m : Mono} (h : MCan m) : monK (kM m) = true := by
  show ((m.map kQ).all powK && ascB ((m.map kQ).map fun k => numK' (fstK k))) = true
  rw [Bool.and_eq_true]
  refine ⟨List.all_eq_true.mpr fun k hk => ?_, decide_eq_true fun i hi => ?_⟩
  · obtain ⟨q, hq, rfl⟩ := List.mem_map.mp hk
    have := h.pos q hq
    show (decide (0 ≤ (q.1 : Int)) && decide (1 ≤ (q.2 : Int))) = true
    rw [decide_eq_true (by omega), decide_eq_true (by omega)]
    rfl
  · rw [List.map_map, List.length_map] at hi
    have h1 : i < m.length := by omega
    have h2 : i + 1 < m.length := by omega
    rw [List.map_map, List.getD_eq_getElem?_getD, List.getD_eq_getElem?_getD, List.getElem?_map, List.getElem?_map, List.getElem?_eq_getElem h1, List.getElem?_eq_getElem h2]
    have : m[i].1 < m[i + 1].1 := List.pairwise_iff_getElem.mp h.asc i (i + 1) h1 h2 (Nat.lt_succ_self i)
    show (m[i].1 : Int) < (m[i + 1].1 : Int)
    omega
theorem el_can {p : Terms} (h : PC p) : elK (kP p) = true := by
  show ((p.map kT).all partK && ascD ((p.map kT).map fun k => kD (fstK k))) = true
  rw [Bool.and_eq_true]
  refine ⟨List.all_eq_true.mpr fun k hk => ?_, decide_eq_true fun i hi => ?_⟩
  · obtain ⟨t, ht, rfl⟩ := List.mem_map.mp hk
    have := h.pos t ht
    show (monK (kM t.1) && decide (1 ≤ (t.2 : Int))) = true
    rw [mon_can (h.mc t ht), decide_eq_true (by omega)]
    rfl
  · rw [List.map_map, List.length_map] at hi
    have h1 : i < p.length := by omega
    have h2 : i + 1 < p.length := by omega
    rw [List.map_map, List.getD_eq_getElem?_getD, List.getD_eq_getElem?_getD, List.getElem?_map, List.getElem?_map, List.getElem?_eq_getElem h1, List.getElem?_eq_getElem h2]
    exact List.pairwise_iff_getElem.mp h.srt i (i + 1) h1 h2 (Nat.lt_succ_self i)
def spAscD (PP : Addr) : Sp := fun vs H Q _ => ∃ (a : Addr) (xs : List V) (ms : List Mono), vs = [.ref a] ∧ H a = some (.lst xs) ∧ Kys H (ms.map kM) xs ∧ ms.length ≤ 1000 ∧ TabG H PP ∧ ∀ H', FrT H H' → Q (.bl (ascD (ms.map dM))) H'
theorem kop_ltD {X : Cx} {K : PySem.W.Frag} (hu : X.A.units + 64 < cLine) (hK : X.K = K := by rfl) : OpR X (compareOp .Lt) (rLtD K) := hK ▸ op_ltD hu
namespace T
theorem ok_ascends  {f cc PP : Addr} {fd : FuncData} (F : FunC K "ascends" "ascends" s_ascends f fd cc) (TB : GxR.TabB base mg cc PP) (T : Txt K mg ad) : FnOk P w K mg base (L2.CX P w) 2 f fd ["things"] (spAscD PP) := by
  refine F.okX sc_ascends (fun vs H Q E => ?_) (fun A outer s H vs Q E hr h => ?_)
  · walk_at "len"
  ·
    obtain ⟨a, xs, ms, rfl, hS, hs, hl, tg, k⟩ := h
    refine ⟨_, (pss_one (ps_ret (EwG.pe_all (own := [("k", 1)]) hr (by rfl) T.z_all TB rfl sc_ascends.nd (blkOk_by (by kernel_rfl)) (by decide +kernel) rfl rfl (pi_range1 (by rfl) T.z_range (pa_cons (pe_op op_sub (pe_callB call_len (by rfl) T.z_len (by decide +kernel) (pa_cons (pv 0) pa_nil)) pe_int) pa_nil)) (fun _ _ _ _ _ _ _ => (pg_name (i := 1) sc_ascends.nd rfl (by first | exact Or.inl rfl | exact Or.inr rfl))) (fun _ _ _ _ _ _ _ hr => (pe_cmpR (kop_ltD (K := K) hr.units) (pe_ix (kix_list (K := K)) (pv 0) (pv 1) (fun _ _ => rfl)) (pe_ix (kix_list (K := K)) (pv 0) (pe_op op_add (pv 1) pe_int) (fun _ _ => rfl)) (nomark _)))))), ?_⟩
    have lx := kys_len hs
    rw [List.length_map] at lx
    refine ⟨_, rfl, .ref a, _, rfl, .inl ⟨_, SqL.of hS, rfl⟩, _, _, rfl, rfl, _, rfl, ?_⟩
    rw [← lx]
    refine ⟨by omega, by omega, tg, fun H2 htb => ?_⟩
    have f2 := FrT.tab tg htb
    have hS2 := f2.lst hS
    have hs2 : Kys H2 (ms.map kM) xs := hs.keeps fun b ys e => f2.tup e
    rw [show ((ms.length : Int) - 1).toNat = ms.length - 1 by omega]
    have at2 : ∀ i : Nat, i < ms.length → ∃ x, xs[i]? = some x ∧ Dp K H2 x (dM (ms.getD i [])) := fun i hi => by
      have hx : i < xs.length := by rw [← lx]; exact hi
      refine ⟨xs[i], List.getElem?_eq_getElem hx, ?_⟩
      have := kys_at hs2 i (k := kM ms[i]) (by rw [List.getElem?_map, List.getElem?_eq_getElem hi]; rfl) (List.getElem?_eq_getElem hx)
      rw [List.getD_eq_getElem?_getD, List.getElem?_eq_getElem hi]
      exact Ky.dp this
    have dep : ∀ m : Mono, (dM m).depth ≤ 60 := fun m => by
      have h1 : (dM m).depth = (kM m).depth := kD_dep _
      have := dep_kM m
      omega
    have nn : ∀ m : Mono, dM m ≠ .none := fun m z => by rw [dM_eq] at z; cases z
    have gd : ∀ i, i < ms.length → (ms.map dM).getD i .none = dM (ms.getD i []) := fun i hi => by
      rw [List.getD_eq_getElem?_getD, List.getD_eq_getElem?_getD, List.getElem?_map, List.getElem?_eq_getElem hi]
      rfl
    refine gwb_rng (fun k => PySem.W.dataLt (dM (ms.getD k [])) (dM (ms.getD (k + 1) []))) (fun _ => rfl) (fun i Kt hi kt => ?_) (fun hall => ?_) (fun i hi hb => ?_)
    · obtain ⟨t, e1, q1⟩ := at2 i (by omega)
      obtain ⟨u, e2, q2⟩ := at2 (i + 1) (by omega)
      exact ⟨_, rfl, _, rfl, a, _, _, t, rfl, rfl, SqL.of hS2, at_of (j := i) rfl e1, _, rfl, _, rfl, _, _, rfl, rfl, a, _, _, u, rfl, rfl, SqL.of hS2, at_of (j := i + 1) rfl e2, _, _, q1, q2, alike_dM _ _, nn _, dep _, kt⟩
    · have := k H2 f2
      rw [show ascD (ms.map dM) = true from decide_eq_true fun i hi => by
        rw [List.length_map] at hi
        rw [gd i (by omega), gd (i + 1) (by omega)]
        exact hall i hi] at this
      exact this
    · have := k H2 f2
      rw [show ascD (ms.map dM) = false from decide_eq_false fun z => by
        have z := z i (by rw [List.length_map]; exact hi)
        rw [gd i (by omega), gd (i + 1) (by omega)] at z
        rw [z] at hb
        cases hb] at this
      exact this
end T
def spPart (PA PB : Addr) : Sp := fun vs H Q _ => ∃ v k, vs = [v] ∧ Ky H k v ∧ lenK (fstK k) ≤ 1000 ∧ TabG H PA ∧ TabG H PB ∧ ∀ H', FrT H H' → Q (.bl (partK k)) H'
theorem ok_is_part {PA PB : Addr} (c_is_pair : CalX P w K mg base 1 "is_pair" (spK0 pairK)) (c_is_monomial : CalX P w K mg base 6 "_is_monomial" (spMon PA PB)) (c_is_positive : CalX P w K mg base 3 "_is_positive" (spK0 posK)) {f : Addr} {fd : FuncData} (F : Fun K "_is_part" "_is_part" s_is_part f fd) (T : Txt K mg ad) : FnOk P w K mg base (L2.CX P w) 7 f fd ["thing"] (spPart PA PB) := by
  refine F.okX sc_is_part (fun vs H Q E => ?_) (fun cdv A outer s H vs Q E hr h => ?_)
  · walk_at "len"
  ·
    obtain ⟨x, k0, rfl, hx, hl, ta, tb, k⟩ := h
    refine ⟨_, (pss_one (ps_ret (pe_and (pc_call c_is_pair hr (by first | decide | omega) (takes_of rfl rfl rfl rfl) (by rfl) (pa_cons (pv 0) pa_nil)) (pe_and (pc_call c_is_monomial hr (by first | decide | omega) (takes_of rfl rfl rfl rfl) (by rfl) (pa_cons (pe_ix ix_tup (pv 0) pe_int (fun _ _ => rfl)) pa_nil)) (pe_one (pc_call c_is_positive hr (by first | decide | omega) (takes_of rfl rfl rfl rfl) (by rfl) (pa_cons (pe_ix ix_tup (pv 0) pe_int (fun _ _ => rfl)) pa_nil))))))), ?_⟩
    refine ⟨_, rfl, _, k0, rfl, hx, _, rfl, ?_⟩
    unfold partK at k
    refine ite2 (fun c => ?_) (fun c => ?_)
    · obtain ⟨a, x1, x2, rfl, e, k1, k2, _⟩ := pair_of hx c
      rw [c, Bool.true_and] at k
      refine ⟨_, rfl, a, _, _, x1, rfl, rfl, SqT.of e, at_of (j := 0) rfl rfl, _, _, rfl, k1, hl, ta, tb, fun H2 f2 => ⟨_, rfl, ?_⟩⟩
      refine ite2 (fun c2 => ?_) (fun c2 => ?_)
      · rw [c2, Bool.true_and] at k
        exact ⟨_, rfl, a, _, _, x2, rfl, rfl, SqT.of (f2.tup e), at_of (j := 1) rfl rfl, _, _, rfl, Ky.frt f2 k2, k H2 f2⟩
      · rw [show monK (fstK k0) = false by simpa using c2] at k
        exact k H2 f2
    · rw [show pairK k0 = false by simpa using c] at k
      exact k H (FrT.refl _)
/-- what is handed to is_element, and what it tells -/
inductive Arg (H : Hp) : V → Bool → Prop
  | lst {a : Addr} {xs : List V} (e : H a = some (.lst xs)) : Arg H (.ref a) false
  | key {k : NestedKey} {v : V} (e : Ky H k v) (l : lenK k ≤ 1000) (m : ∀ ks, k = .tup ks → ∀ k' ∈ ks, lenK (fstK k') ≤ 1000) : Arg H v (elK k)
def spIsEl (PA PB PC C : Addr) : Sp := fun vs H Q _ => ∃ (p dx : Addr) (fs : List (Str × V)) (x : V) (b : Bool), vs = [.ref p, x] ∧ H p = some (.ins C dx fs) ∧ Arg H x b ∧ TabG H PA ∧ TabG H PB ∧ TabG H PC ∧ ∀ H', FrT H H' → Q (.bl b) H'
theorem part_of {k : NestedKey} (h : partK k = true) : ∃ m : Mono, fstK k = kM m := by
  unfold partK at h
  rw [Bool.and_eq_true, Bool.and_eq_true] at h
  exact mon_of h.2.1
theorem ok_Polynomials_is_element {PA PB : Addr} (c_is_part : CalX P w K mg base 7 "_is_part" (spPart PA PB)) (c_ascends : CalX P w K mg base 2 "ascends" (spAscD PB)) {f cc PP : Addr} {fd : FuncData} (F : FunC K "is_element" "Polynomials.is_element" s_Polynomials_is_element f fd cc) (TB : GxR.TabB base mg cc PP) (T : Txt K mg ad) : FnOk P w K mg base (L2.CX P w) 9 f fd ["self", "a"] (spIsEl PP PA PB ad.Polynomials) := by
  refine F.okX sc_Polynomials_is_element (fun vs H Q E => ?_) (fun A outer s H vs Q E hr h => ?_)
  · walk_at "len"
  ·
    obtain ⟨p, dx, fs, x, b, rfl, hp, hx, ta, tb, tc, k⟩ := h
    refine ⟨_, (pss_cons (ps_if (PW.pt (pw_or (pt_not (pt_val (pe_callB call_isi (by rfl) T.z_isinstance (by decide +kernel) (pa_cons (pv 1) (pa_cons (pe_bltn (v := .ty "tuple") (by rfl) T.z_tuple (by decide +kernel) rfl) pa_nil))))) (pw_or1 (pt_not (pt_val (EwG.pe_all (own := [("part", 2)]) hr (by rfl) T.z_all TB rfl sc_Polynomials_is_element.nd (blkOk_by (by kernel_rfl)) (by decide +kernel) rfl rfl (pi_tup (pv 1)) (fun _ _ _ _ _ _ _ => (pg_name (i := 2) sc_Polynomials_is_element.nd rfl (by first | exact Or.inl rfl | exact Or.inr rfl))) (fun _ _ _ _ _ _ _ hr => (pc_call c_is_part hr (by first | decide | omega) takes0 (by rfl) (pa_cons (pv 2) pa_nil))))))))) (pss_one (ps_ret pe_bl)) pss_nil)
      (pss_one (ps_ret (pc_call c_ascends hr (by first | decide | omega) (takes_of rfl rfl rfl rfl) (by rfl) (pa_cons (pe_lc (own := [("monomial", 3), ("coefficient", 4)]) (tt := tYes) rfl sc_Polynomials_is_element.nd (pi_tup (pv 1)) (blkOk_by (by kernel_rfl)) (fun _ _ _ _ _ => (PK.kpg_tup (K := K) rfl (pgs_cons (pg_name (i := 3) sc_Polynomials_is_element.nd rfl (by first | exact Or.inl rfl | exact Or.inr rfl)) (pgs_cons (pg_name (i := 4) sc_Polynomials_is_element.nd rfl (by first | exact Or.inl rfl | exact Or.inr rfl)) pgs_nil)))) (fun _ _ _ _ _ => pts_nil) (fun _ _ _ _ _ => (pv 3))) pa_nil))))), ?_⟩
    cases hx with
    | lst e =>
      refine go_sq ⟨_, rfl, _, _, _, _, false, rfl, .ty _, .base (.lst e), kit_ty (by decide +kernel), false, rfl, ?_⟩
      exact iteT (iteT (k H (FrT.refl _)))
    | @key k0 _ hx hl hm =>
      cases k0 with
      | tup ks =>
        obtain ⟨t, xs, rfl, ht, r⟩ := ky_tup hx
        have lx := kys_len r
        refine go_sq ⟨_, rfl, _, _, _, _, true, rfl, .ty _, .base (.tup ht), kit_ty (by decide +kernel), true, rfl, ?_⟩
        refine iteF ?_
        refine ⟨_, rfl, t, rfl, ⟨_, SqT.of ht⟩, ta, fun H2 htb => ?_⟩
        have f2 := FrT.tab ta htb
        refine gwf_tup (fun j => partK (ks.getD j .none)) (SqT.of (f2.tup ht)) (fun _ => rfl) (fun i y H3 Kt hy f3 kt => ?_) (fun hall H3 f3 => ?_) (fun i hi hb H3 f3 => ?_)
        · obtain ⟨eg, kx⟩ := kys_get r hy
          have f03 := f2.trans f3
          exact ⟨_, rfl, y, _, rfl, Ky.frt f03 kx, hm _ rfl _ (List.mem_of_getElem? eg), f03.tabs _ tb, f03.tabs _ tc, kt⟩
        · have al : ks.all partK = true := all_dec.mpr (by rw [lx]; exact hall)
          obtain ⟨ms, ems⟩ : ∃ ms : List Mono, ks.map fstK = ms.map kM := keys_of (f := kM) (t := fun k => monK k) (fun k => mon_of) (ks.map fstK) (by
            rw [List.all_map]
            refine List.all_eq_true.mpr fun k' hk' => ?_
            have := List.all_eq_true.mp al k' hk'
            unfold partK at this
            rw [Bool.and_eq_true, Bool.and_eq_true] at this
            exact this.2.1)
          have f03 := f2.trans f3
          refine ⟨_, rfl, iteF (go_next ?_)⟩
          refine ⟨_, rfl, t, rfl, ⟨_, SqT.of (f03.tup ht)⟩, fun D hD => ?_⟩
          have r3 : Kys H3 ks xs := r.keeps fun b ys e => f03.tup e
          refine DC2.walk_t (K := K) (xs := xs) (fun i H' => Same H3 H' ∧ ∃ ys, H' D = some (.lst ys) ∧ Kys H' ((ks.take i).map fstK) ys) ⟨same_new (Same.refl _) hD, [], upd_same, .nil⟩ (fun i H' _ ⟨s', _⟩ => SqT.of (s' _ _ (f03.tup ht))) (fun i z H4 hz ⟨s4, ys, e4, k4⟩ => ?_) (fun H4 ⟨s4, ys, e4, k4⟩ => ?_)
          · obtain ⟨eg, kz⟩ := kys_get r3 hz
            have pz : partK (ks.getD i .none) = true := List.all_eq_true.mp al _ (List.mem_of_getElem? eg)
            generalize ks.getD i .none = kz0 at eg kz pz
            unfold partK at pz
            rw [Bool.and_eq_true, Bool.and_eq_true] at pz
            obtain ⟨a, x1, x2, rfl, e, k1, k2, _⟩ := pair_of kz pz.1
            refine ⟨a, _, rfl, SqT.of (s4 _ _ e), rfl, _, _, rfl, go_name rfl ⟨_, _, rfl, go_name rfl ⟨rfl, ?_⟩⟩⟩
            have kl := kys_len k4
            refine ⟨rfl, yes_then (iteT ⟨_, rfl, _, e4, ?_, same_but hD s4 but_app, ys ++ [x1], upd_same, ?_⟩)⟩
            · rw [← kl, List.length_map, List.length_take]
              have : ks.length ≤ 1000 := hl
              exact Nat.lt_of_le_of_lt (by omega : _ ≤ 1000) (by decide)
            · rw [List.take_add_one, eg, show (some kz0).toList = [kz0] from rfl, List.map_append]
              refine kys_app (k4.keeps fun b zs h => ?_) (.cons (k1.keeps fun b zs h => ?_) .nil)
              · rw [upd_ne (ne_of h e4 (fun z => nomatch z))]; exact h
              · rw [upd_ne (ne_of (s4 _ _ h) e4 (fun z => nomatch z))]; exact s4 _ _ h
          · rw [← lx, List.take_length, ems] at k4
            have ml : ms.length = ks.length := by rw [← List.length_map (f := kM), ← ems, List.length_map]
            refine ⟨D, _, ms, rfl, e4, k4, by rw [ml]; exact hl, (f03.trans (FrT.of s4)).tabs _ tc, fun H5 f5 => ?_⟩
            have := k H5 (f03.trans ((FrT.of s4).trans f5))
            rw [show elK (.tup ks) = (ks.all partK && ascD (ks.map fun k => kD (fstK k))) from rfl, al, Bool.true_and, show (ks.map fun k => kD (fstK k)) = ms.map dM by
              rw [show (ks.map fun k => kD (fstK k)) = (ks.map fstK).map kD by rw [List.map_map]; rfl, ems, List.map_map]; rfl] at this
            exact this
        · refine ⟨_, rfl, iteT ?_⟩
          have al : ks.all partK = false := by
            rw [← Bool.not_eq_true, all_dec]
            intro z
            rw [z i (by rw [lx]; exact hi)] at hb
            cases hb
          have := k H3 (f2.trans f3)
          rw [show elK (.tup ks) = (ks.all partK && ascD (ks.map fun k => kD (fstK k))) from rfl, al, Bool.false_and] at this
          exact this
      | _ =>
        obtain ⟨t, ty, e1, e2, e3⟩ := ky_ty (K := K) hx
        refine go_sq ⟨_, rfl, _, _, _, _, false, rfl, .ty _, ty, e3, false, rfl, ?_⟩
        exact iteT (iteT (k H (FrT.refl _)))
end
end K04

set_option Elab.async false
set_option linter.all false
set_option maxRecDepth 100000
set_option maxHeartbeats 4000000
/-! max(a list of ints, default=..) -/
namespace L2
open PySem PySem.W PyProof.Rows
theorem maxOf_ints : ∀ (xs : List Int) (x : Int), maxOf x xs ∈ x :: xs ∧ ∀ y ∈ x :: xs, y ≤ maxOf x xs
  | [], x => ⟨List.mem_cons_self .., fun y hy => by rw [List.mem_singleton.mp hy]; exact Int.le_refl _⟩
  | z :: xs, x => by
    have e : maxOf x (z :: xs) = maxOf (if DatumOrd.lt x z = true then z else x) xs := rfl
    have hlt : DatumOrd.lt x z = decide (x < z) := rfl
    rw [hlt] at e
    by_cases c : x < z
    · rw [decide_eq_true c, if_pos rfl] at e
      obtain ⟨h1, h2⟩ := maxOf_ints xs z
      rw [e]
      refine ⟨List.mem_cons_of_mem _ h1, fun y hy => ?_⟩
      rcases List.mem_cons.mp hy with rfl | hy
      · exact Int.le_trans (Int.le_of_lt c) (h2 z (List.mem_cons_self ..))
      · exact h2 y hy
    · rw [decide_eq_false c, if_neg Bool.false_ne_true] at e
      obtain ⟨h1, h2⟩ := maxOf_ints xs x
      rw [e]
      refine ⟨?_, fun y hy => ?_⟩
      · rcases List.mem_cons.mp h1 with h | h
        · rw [h]; exact List.mem_cons_self ..
        · exact List.mem_cons_of_mem _ (List.mem_cons_of_mem _ h)
      · rcases List.mem_cons.mp hy with rfl | hy
        · exact h2 _ (List.mem_cons_self ..)
        · rcases List.mem_cons.mp hy with rfl | hy
          · exact Int.le_trans (Int.not_lt.mp c) (h2 x (List.mem_cons_self ..))
          · exact h2 y (List.mem_cons_of_mem _ hy)
def rMaxDef (K : PySem.W.Frag) : List V → List V → Hp → VK → Prop := fun vs zs H Q => ∃ (a : Addr) (ns : List Int) (d : V), vs = [.ref a] ∧ zs = [d] ∧ SqL K H a (ns.map V.int) ∧ (ns = [] → Q d H) ∧ ∀ m, m ∈ ns → (∀ y ∈ ns, y ≤ m) → Q (.int m) H
section
variable {X : Cx}
theorem cr_maxDef (hc : X.calm = true) (hu : X.A.units + 64 < cLine) : CallRK X (.builtin "max") [Str.ofString "default"] (rMaxDef X.K) := by
  intro pins s σ H xs zs us ws Q I rx rz h
  obtain ⟨a, ns, d, rfl, rfl, hs, h0, h1⟩ := h
  obtain ⟨its, rv, hl, _⟩ := I.list hs
  rw [Vals.ref1 rx]
  cases rz with
  | cons r0 rt =>
    rename_i u us'
    cases rt with
    | nil =>
      refine max_list_datum_default (I.ok.hd hc) hl.isList (xs := ns) (HoldAll.of_ints rv.ints) (by have : Datum.depth Int = 0 := rfl; omega) (fun e h' tk hk => ?_) (fun y ys i v h' tk e hi hv hk => ?_)
      · exact ⟨d, H, I.kept hk, r0, h0 e⟩
      · obtain ⟨t, rfl⟩ := int_of_holds hv
        obtain ⟨m1, m2⟩ := maxOf_ints ys y
        rw [← e] at m1 m2
        exact ⟨.int _, H, I.kept hk, ⟨_, rfl⟩, h1 _ m1 m2⟩
end
end L2

set_option Elab.async false
set_option linter.all false
set_option maxRecDepth 100000
set_option maxHeartbeats 4000000
namespace K04
open PySem L2 Ew Tb GxR ND PM NI PK
local macro_rules | `(tactic| walk_at "len") => `(tactic| first | (intro h; obtain ⟨_, e, _⟩ := h; rw [e]; rfl) | (intro h; obtain ⟨_, _, e, _⟩ := h; rw [e]; rfl) | (intro h; obtain ⟨_, _, _, e, _⟩ := h; rw [e]; rfl) | (intro h; obtain ⟨_, _, _, _, e, _⟩ := h; rw [e]; rfl) | (intro h; obtain ⟨_, _, _, _, _, e, _⟩ := h; rw [e]; rfl) | (intro h; obtain ⟨_, _, _, _, _, _, e, _⟩ := h; rw [e]; rfl) | (intro h; obtain ⟨_, _, _, _, _, _, _, e, _⟩ := h; rw [e]; rfl) | (intro h; exact h.elim))
section
variable {P : Program} {w : World} {K : PySem.W.Frag} {mg : Str → Option Value} {base : Heap} {ad : Ad}
def spNulP (C : Addr) (p : Terms) : Sp := fun vs H Q _ => ∃ s dx fs, vs = [.ref s] ∧ H s = some (.ins C dx fs) ∧ ∀ H' t, Same H H' → H t = none → Ky H' (kP p) (.ref t) → Q (.ref t) H'
theorem ok_Polynomials_zero  {f : Addr} {fd : FuncData} (F : Fun K "zero" "Polynomials.zero" s_Polynomials_zero f fd) (T : Txt K mg ad) : FnOk P w K mg base (L2.CX P w) 1 f fd ["self"] (spNulP ad.Polynomials []) := by
  refine F.okX sc_Polynomials_zero (fun vs H Q E => ?_) (fun cdv A outer s H vs Q E hr h => ?_)
  · walk_at "len"
  ·
    obtain ⟨p, dx, fs, rfl, hp, k⟩ := h
    refine ⟨_, (pss_one (ps_ret (pe_tup pa_nil))), ?_⟩
    exact ⟨(show 0 ≤ sizeLine by decide), fun t ht => k _ t (same_new (Same.refl _) ht) ht (.tup upd_same .nil)⟩
theorem none_of {H H' : Hp} {t : Addr} (s : Same H H') (h : H' t = none) : H t = none := by
  cases z : H t with
  | none => rfl
  | some u => rw [s _ _ z] at h; cases h
theorem upd_none {H : Hp} {a t : Addr} {o : HO} (h : upd H a o t = none) : H t = none ∧ t ≠ a := by
  by_cases c : t = a
  · subst c; rw [upd_same] at h; cases h
  · exact ⟨by rw [upd_ne c] at h; exact h, c⟩
theorem ok_Polynomials_one  {f : Addr} {fd : FuncData} (F : Fun K "one" "Polynomials.one" s_Polynomials_one f fd) (T : Txt K mg ad) : FnOk P w K mg base (L2.CX P w) 1 f fd ["self"] (spNulP ad.Polynomials [([], 1)]) := by
  refine F.okX sc_Polynomials_one (fun vs H Q E => ?_) (fun cdv A outer s H vs Q E hr h => ?_)
  · walk_at "len"
  ·
    obtain ⟨p, dx, fs, rfl, hp, k⟩ := h
    refine ⟨_, (pss_one (ps_ret (pe_tup (pa_cons (pe_tup (pa_cons (pe_tup pa_nil) (pa_cons pe_int pa_nil))) pa_nil)))), ?_⟩
    refine ⟨(show 0 ≤ sizeLine by decide), fun u hu => ⟨(show 2 ≤ sizeLine by decide), fun q hq => ⟨(show 1 ≤ sizeLine by decide), fun t ht => ?_⟩⟩⟩
    have s1 : Same H (upd H u (.tup [])) := same_new (Same.refl _) hu
    have s2 := same_new (o := .tup [.ref u, .int 1]) (Same.refl _) hq
    have s3 := same_new (o := .tup [.ref q]) (Same.refl _) ht
    refine k _ t (fun c o z => s3 _ _ (s2 _ _ (s1 _ _ z))) (none_of s1 (none_of s2 ht)) (.tup upd_same (.cons (.tup (s3 _ _ upd_same) (.cons (.tup (s3 _ _ (s2 _ _ upd_same)) .nil) (.cons (.int _) .nil))) .nil))
def spStarP (C NS : Addr) : Sp := fun vs H Q E => ∃ s dx x a, vs = [.ref s, x] ∧ H s = some (.ins C dx []) ∧ Ky H (kP a) x ∧ (a = [] → ∀ H' t, Same H H' → H t = none → Ky H' (kP [([], 1)]) (.ref t) → Q (.ref t) H') ∧ (a ≠ [] → ∀ H', Same H H' → E (.ref NS) none H')
theorem ok_Polynomials_star (m_one : MetX P w K mg base 1 ad.Polynomials "one" (spNulP ad.Polynomials [([], 1)])) {f : Addr} {fd : FuncData} (F : Fun K "star" "Polynomials.star" s_Polynomials_star f fd) (T : Txt K mg ad) : FnOk P w K mg base (L2.CX P w) 2 f fd ["self", "a"] (spStarP ad.Polynomials ad.NoStar) := by
  refine F.okX sc_Polynomials_star (fun vs H Q E => ?_) (fun cdv A outer s H vs Q E hr h => ?_)
  · walk_at "len"
  ·
    obtain ⟨p, dx, x, a, rfl, hp, hx, k1, k2⟩ := h
    refine ⟨_, (pss_cons (ps_if (pt_cmpR (op_neNK hr.units) (pv 1) (pe_tup pa_nil) (nomark _)) (pss_one (ps_raise rfl (takes_of rfl rfl rfl rfl) (pmk_own PySem.F.excBase_ValueError T.x_NoStar T.g_NoStar T.k_NoStar (raises_own T.b_NoStar T.t_NoStar) (by rfl)))) pss_nil)
      (pss_one (ps_ret (pd_meth0 hr (takes_of rfl rfl rfl rfl) (pv 0))))), ?_⟩
    refine ⟨_, rfl, (show 0 ≤ sizeLine by decide), fun u hu => ?_⟩
    have s1 : Same H (upd H u (.tup [])) := same_new (Same.refl _) hu
    have ku : Ky (upd H u (.tup [])) (kP []) (.ref u) := .tup upd_same .nil
    have d1 := dep_kP a
    have d2 := dep_kP []
    refine ⟨_, _, Ky.sm s1 hx, ku, num_kP _, num_kP _, by omega, by omega, ?_⟩
    refine ⟨_, rfl, ite2 (fun c => ?_) (fun c => ?_)⟩
    · have : a ≠ [] := fun z => by rw [z] at c; exact absurd c (by decide)
      exact k2 this _ s1
    · have e : a = [] := Classical.byContradiction fun z => c (by
        show (!decide (kP a = kP [])) = true
        rw [decide_eq_false fun y => z (kP_inj y)]
        rfl)
      exact go_next ⟨_, rfl, p, _, dx, _, 1, _, rfl, s1 _ _ hp, rfl, by decide, m_one, p, dx, _, rfl, s1 _ _ hp, fun H2 t s2 ht kt => k1 e _ t (fun c o z => s2 _ _ (s1 _ _ z)) (none_of s1 ht) kt⟩
def spVar : Sp := fun vs H Q _ => ∃ f : Nat, vs = [.int (f : Int)] ∧ ∀ H' t, Same H H' → H t = none → Ky H' (kP [([(f, 1)], 1)]) (.ref t) → Q (.ref t) H'
theorem ok_variable  {f : Addr} {fd : FuncData} (F : Fun K "variable" "variable" s_variable f fd) (T : Txt K mg ad) : FnOk P w K mg base (L2.CX P w) 1 f fd ["fact"] (spVar) := by
  refine F.okX sc_variable (fun vs H Q E => ?_) (fun cdv A outer s H vs Q E hr h => ?_)
  · walk_at "len"
  ·
    obtain ⟨f, rfl, k⟩ := h
    refine ⟨_, (pss_one (ps_ret (pe_tup (pa_cons (pe_tup (pa_cons (pe_tup (pa_cons (pe_tup (pa_cons (pv 0) (pa_cons pe_int pa_nil))) pa_nil)) (pa_cons pe_int pa_nil))) pa_nil)))), ?_⟩
    refine ⟨_, rfl, (show 2 ≤ sizeLine by decide), fun t1 h1 => ⟨(show 1 ≤ sizeLine by decide), fun t2 h2 => ⟨(show 2 ≤ sizeLine by decide), fun t3 h3 => ⟨(show 1 ≤ sizeLine by decide), fun t4 h4 => ?_⟩⟩⟩⟩
    have s1 := same_new (o := .tup [.int (f : Int), .int 1]) (Same.refl H) h1
    have s2 := same_new (o := .tup [.ref t1]) (Same.refl _) h2
    have s3 := same_new (o := .tup [.ref t2, .int 1]) (Same.refl _) h3
    have s4 := same_new (o := .tup [.ref t3]) (Same.refl _) h4
    refine k _ t4 (fun c o z => s4 _ _ (s3 _ _ (s2 _ _ (s1 _ _ z)))) (none_of s1 (none_of s2 (none_of s3 h4))) (.tup upd_same (.cons (.tup (s4 _ _ upd_same) (.cons (.tup (s4 _ _ (s3 _ _ upd_same)) (.cons (.tup (s4 _ _ (s3 _ _ (s2 _ _ upd_same))) (.cons (.int _) (.cons (.int _) .nil))) .nil)) (.cons (.int _) .nil))) .nil))
def spDegOf (K : PySem.W.Frag) : Sp := fun vs H Q _ => ∃ (x : V) (m : Mono), vs = [x] ∧ Ky H (kM m) x ∧ m.length ≤ 1000 ∧ ∀ H', Same H H' → Q (.int ((m.map fun q => (q.2 : Int)).sum)) H'
theorem q_at {H : Hp} {m : Mono} {zs : List V} {i : Nat} {z : V} (r : Kys H (m.map kQ) zs) (hz : zs[i]? = some z) : ∃ f e q, m[i]? = some (f, e) ∧ z = .ref q ∧ H q = some (.tup [.int ((f : Nat) : Int), .int ((e : Nat) : Int)]) := by
  have hl := kys_len r
  rw [List.length_map] at hl
  have hi : i < m.length := by rw [hl]; exact (List.getElem?_eq_some_iff.mp hz).1
  have hk := kys_at r i (k := kQ m[i]) (by rw [List.getElem?_map, List.getElem?_eq_getElem hi]; rfl) hz
  obtain ⟨q, u, v, rfl, e, k1, k2⟩ := ky_pair hk
  rw [ky_num k1, ky_num k2] at e
  exact ⟨m[i].1, m[i].2, q, List.getElem?_eq_getElem hi, rfl, e⟩
theorem kcr_sum {X : Cx} {K : PySem.W.Frag} (hc : X.calm = true) (hK : X.K = K := by rfl) : CallR X (.builtin "sum") (rSum K) := hK ▸ cr_sum hc
theorem ok_degree_of  {f : Addr} {fd : FuncData} (F : Fun K "_degree_of" "_degree_of" s_degree_of f fd) (T : Txt K mg ad) : FnOk P w K mg base (L2.CX P w) 1 f fd ["monomial"] (spDegOf K) := by
  refine F.okX sc_degree_of (fun vs H Q E => ?_) (fun cdv A outer s H vs Q E hr h => ?_)
  · walk_at "len"
  ·
    obtain ⟨x, m, rfl, hx, hl, k⟩ := h
    refine ⟨_, (pss_one (ps_ret (pe_callB (kcr_sum (K := K) rfl) (by rfl) T.z_sum (by decide +kernel) (pa_cons (pe_lc (own := [("fact", 1), ("exponent", 2)]) (tt := tYes) rfl sc_degree_of.nd (pi_tup (pv 0)) (blkOk_by (by kernel_rfl)) (fun _ _ _ _ _ => (PK.kpg_tup (K := K) rfl (pgs_cons (pg_name (i := 1) sc_degree_of.nd rfl (by first | exact Or.inl rfl | exact Or.inr rfl)) (pgs_cons (pg_name (i := 2) sc_degree_of.nd rfl (by first | exact Or.inl rfl | exact Or.inr rfl)) pgs_nil)))) (fun _ _ _ _ _ => pts_nil) (fun _ _ _ _ _ => (pv 2))) pa_nil)))), ?_⟩
    obtain ⟨t, xs, rfl, ht, r⟩ := ky_tup hx
    have lx := kys_len r
    rw [List.length_map] at lx
    refine ⟨_, rfl, t, rfl, ⟨_, SqT.of ht⟩, fun D hD => ?_⟩
    refine DC2.walk_t (K := K) (xs := xs) (fun i H' => Same H H' ∧ H' D = some (.lst (((m.take i).map fun q => (q.2 : Int)).map V.int))) ⟨same_new (Same.refl _) hD, upd_same⟩ (fun i H' _ ⟨s', _⟩ => SqT.of (s' _ _ ht)) (fun i z H3 hz ⟨s3, e3⟩ => ?_) (fun H3 ⟨s3, e3⟩ => ?_)
    · obtain ⟨f, e, q, hm, rfl, eq⟩ := q_at r hz
      refine ⟨q, _, rfl, SqT.of (s3 _ _ eq), rfl, _, _, rfl, go_name rfl ⟨_, _, rfl, go_name rfl ⟨rfl, ?_⟩⟩⟩
      refine ⟨rfl, yes_then (iteT ⟨_, rfl, _, e3, ?_, same_but hD s3 but_app, ?_⟩)⟩
      · rw [List.length_map, List.length_map, List.length_take]
        exact Nat.lt_of_le_of_lt (by omega : _ ≤ 1000) (by decide)
      · rw [upd_same, List.take_add_one, hm, show (some (f, e)).toList = [(f, e)] from rfl, List.map_append, List.map_append]
        rfl
    · rw [← lx, List.take_length] at e3
      exact ⟨D, _, rfl, SqL.of e3, k H3 s3⟩
def spDeg (K : PySem.W.Frag) : Sp := fun vs H Q _ => ∃ (x : V) (p : Terms), vs = [x] ∧ Ky H (kP p) x ∧ p.length ≤ 1000 ∧ (∀ t ∈ p, t.1.length ≤ 1000) ∧ ∀ H' d, Same H H' → (p = [] → d = 0) → (p ≠ [] → d ∈ p.map (fun t => (t.1.map fun q => (q.2 : Int)).sum) ∧ ∀ y ∈ p.map (fun t => (t.1.map fun q => (q.2 : Int)).sum), y ≤ d) → Q (.int d) H'
theorem ok_degree (c_degree_of : CalX P w K mg base 1 "_degree_of" (spDegOf K)) {f : Addr} {fd : FuncData} (F : Fun K "degree" "degree" s_degree f fd) (T : Txt K mg ad) : FnOk P w K mg base (L2.CX P w) 2 f fd ["polynomial"] (spDeg K) := by
  refine F.okX sc_degree (fun vs H Q E => ?_) (fun cdv A outer s H vs Q E hr h => ?_)
  · walk_at "len"
  ·
    obtain ⟨x, p, rfl, hx, hl, hm, k⟩ := h
    refine ⟨_, (pss_one (ps_ret (pe_callBK (cr_maxDef rfl hr.units) (by rfl) T.z_max (by decide +kernel) (pa_cons (pe_lc (own := [("monomial", 1), ("coefficient", 2)]) (tt := tYes) rfl sc_degree.nd (pi_tup (pv 0)) (blkOk_by (by kernel_rfl)) (fun _ _ _ _ _ => (PK.kpg_tup (K := K) rfl (pgs_cons (pg_name (i := 1) sc_degree.nd rfl (by first | exact Or.inl rfl | exact Or.inr rfl)) (pgs_cons (pg_name (i := 2) sc_degree.nd rfl (by first | exact Or.inl rfl | exact Or.inr rfl)) pgs_nil)))) (fun _ _ _ _ _ => pts_nil) (fun _ _ _ _ _ => (pc_call c_degree_of hr (by first | decide | omega) takes0 (by rfl) (pa_cons (pv 1) pa_nil)))) pa_nil) (pk_cons pe_int pk_nil)))), ?_⟩
    obtain ⟨t, xs, rfl, ht, r⟩ := ky_tup hx
    have lx := kys_len r
    rw [List.length_map] at lx
    refine ⟨_, rfl, t, rfl, ⟨_, SqT.of ht⟩, fun D hD => ?_⟩
    refine DC2.walk_t (K := K) (xs := xs) (fun i H' => Same H H' ∧ H' D = some (.lst (((p.take i).map fun t => (t.1.map fun q => (q.2 : Int)).sum).map V.int))) ⟨same_new (Same.refl _) hD, upd_same⟩ (fun i H' _ ⟨s', _⟩ => SqT.of (s' _ _ ht)) (fun i z H3 hz ⟨s3, e3⟩ => ?_) (fun H3 ⟨s3, e3⟩ => ?_)
    · obtain ⟨m, c, q, u, hp, rfl, eq, ku⟩ := kt_at r hz
      refine ⟨q, _, rfl, SqT.of (s3 _ _ eq), rfl, _, _, rfl, go_name rfl ⟨_, _, rfl, go_name rfl ⟨rfl, ?_⟩⟩⟩
      refine ⟨rfl, yes_then (iteT ⟨_, rfl, u, m, rfl, Ky.sm s3 ku, hm _ (List.mem_of_getElem? hp), fun H4 s4 => ⟨_, s4 _ _ e3, ?_, same_but hD (fun b o z => s4 _ _ (s3 _ _ z)) but_app, ?_⟩⟩)⟩
      · rw [List.length_map, List.length_map, List.length_take]
        exact Nat.lt_of_le_of_lt (by omega : _ ≤ 1000) (by decide)
      · rw [upd_same, List.take_add_one, hp, show (some (m, c)).toList = [(m, c)] from rfl, List.map_append, List.map_append]
        rfl
    · rw [← lx, List.take_length] at e3
      refine ⟨D, _, _, rfl, rfl, SqL.of e3, fun e => k H3 0 s3 (fun _ => rfl) fun z => absurd (List.map_eq_nil_iff.mp e) z, fun d h1 h2 => k H3 d s3 (fun z => by subst z; cases h1) fun _ => ⟨h1, h2⟩⟩
theorem pow_le4 {b : Int} (h : b.natAbs ≤ 4) : ∀ n : Nat, (b ^ n).natAbs ≤ 4 ^ n
  | 0 => by rw [Int.pow_zero]; exact Nat.le_refl 1
  | n + 1 => by
    rw [Int.pow_succ, Int.natAbs_mul, Nat.pow_succ]
    exact Nat.mul_le_mul (pow_le4 h n) h
def spPow : Sp := fun vs H Q _ => ∃ (b : Int) (e : Nat), vs = [.int b, .int (e : Int)] ∧ b.natAbs ≤ 4 ∧ e ≤ 8 ∧ Q (.int (b ^ e)) H
def e0M : L2.St → Nat
  | [_, some (.int e), _] => e.toNat
  | _ => 0
theorem ok_power  {f : Addr} {fd : FuncData} (F : Fun K "power" "power" s_power f fd) (T : Txt K mg ad) : FnOk P w K mg base (L2.CX P w) 1 f fd ["base", "exponent"] (spPow) := by
  refine F.okX sc_power (fun vs H Q E => ?_) (fun cdv A outer s H vs Q E hr h => ?_)
  · walk_at "len"
  ·
    obtain ⟨b, e, rfl, hb, he, k⟩ := h
    refine ⟨_, (pss_cons (ps_set (i := 2) sc_power.nd rfl (by first | exact Or.inl rfl | exact Or.inr rfl) pe_int)
      (pss_cons (ps_while (passes_of rfl) (pt_cmpR op_gt (pv 1) pe_int (nomark _)) (pss_cons (ps_if (pt_truth (pe_op op_odd (pv 1) pe_int) (by intro _; rfl)) (pss_one (ps_set (i := 2) sc_power.nd rfl (by first | exact Or.inl rfl | exact Or.inr rfl) (pe_op op_mul (pv 2) (pv 0)))) pss_nil)
      (pss_cons (ps_set (i := 0) sc_power.nd rfl (by first | exact Or.inl rfl | exact Or.inr rfl) (pe_op op_mul (pv 0) (pv 0)))
      (pss_one (ps_set (i := 1) sc_power.nd rfl (by first | exact Or.inl rfl | exact Or.inr rfl) (pe_op op_halfN (pv 1) pe_int))))))
      (pss_one (ps_ret (pv 2))))), ?_⟩
    refine go_seq (go_name rfl ?_)
    refine go_sq ?_
    refine while_by (fun σ H' => ∃ (i e' : Nat) (r : Int), σ = [some (.int (b ^ (2 ^ i))), some (.int (e' : Int)), some (.int r)] ∧ H' = H ∧ e' * 2 ^ i ≤ 8 ∧ r * (b ^ (2 ^ i)) ^ e' = b ^ e) (fun σ _ => e0M σ)
      ⟨0, e, 1, by rw [Nat.pow_zero, Int.pow_one]; rfl, rfl, by omega, by rw [Nat.pow_zero, Int.pow_one, Int.one_mul]⟩ ?_ (fun σ H Q Q' hq ⟨v, e, i, j, e1, e2, kk, ek, q⟩ => ⟨v, e, i, j, e1, e2, kk, ek, hq _ _ q⟩)
    rintro σ H1 ⟨i, e', r, rfl, rfl, hle, hinv⟩
    refine ⟨_, rfl, _, _, rfl, rfl, _, rfl, ?_⟩
    by_cases c : 0 < e'
    · rw [decide_eq_true (show (0 : Int) < (e' : Int) by omega)]
      refine iteT ?_
      have h2i : 2 ^ i ≤ 8 := by
        have : 1 * 2 ^ i ≤ e' * 2 ^ i := Nat.mul_le_mul_right _ c
        omega
      have bb : (b ^ (2 ^ i)).natAbs ≤ 65536 := Nat.le_trans (pow_le4 hb _) (Nat.le_trans (Nat.pow_le_pow_right (by decide) h2i) (by decide))
      have cm : ∀ x : Int, CMul x (b ^ (2 ^ i)) := fun x => .inr ⟨by omega, by omega⟩
      have sq : b ^ (2 ^ i) * b ^ (2 ^ i) = b ^ (2 ^ (i + 1)) := by
        rw [← Int.pow_add, Nat.pow_succ, Nat.mul_two]
      have fin : ∀ r' : Int, r' * (b ^ (2 ^ (i + 1))) ^ (e' / 2) = b ^ e → (∃ (i2 e2 : Nat) (r2 : Int), [some (V.int (b ^ (2 ^ i) * b ^ (2 ^ i))), some (V.int ((e' / 2 : Nat) : Int)), some (V.int r')] = [some (.int (b ^ (2 ^ i2))), some (.int (e2 : Int)), some (.int r2)] ∧ H1 = H1 ∧ e2 * 2 ^ i2 ≤ 8 ∧ r2 * (b ^ (2 ^ i2)) ^ e2 = b ^ e) ∧ e0M [some (V.int (b ^ (2 ^ i) * b ^ (2 ^ i))), some (V.int ((e' / 2 : Nat) : Int)), some (V.int r')] < e0M [some (V.int (b ^ (2 ^ i))), some (V.int (e' : Int)), some (V.int r)] := fun r' h => by
        refine ⟨⟨i + 1, e' / 2, r', by rw [sq], rfl, ?_, h⟩, ?_⟩
        · have h1 : e' / 2 * 2 ≤ e' := Nat.div_mul_le_self e' 2
          have h2 := Nat.mul_le_mul_right (2 ^ i) h1
          rw [Nat.pow_succ, Nat.mul_comm (2 ^ i) 2, ← Nat.mul_assoc]
          omega
        · show ((e' / 2 : Nat) : Int).toNat < (e' : Int).toNat
          rw [Int.toNat_natCast, Int.toNat_natCast]
          omega
      have half : ∀ x : Int, (x * x) ^ (e' / 2) = x ^ (2 * (e' / 2)) := fun x => by
        rw [Int.pow_mul, Int.pow_succ, Int.pow_one]
      refine go_sq ⟨_, rfl, e', rfl, rfl, ?_⟩
      rcases Nat.mod_two_eq_zero_or_one e' with z | z
      · rw [z]
        refine ⟨false, rfl, iteF (go_next ?_)⟩
        refine go_sq ⟨_, rfl, _, rfl, _, _, rfl, rfl, cm _, go_name rfl ?_⟩
        refine ⟨_, rfl, e', rfl, rfl, go_name rfl (fin r ?_)⟩
        rw [← hinv, ← sq, half, show 2 * (e' / 2) = e' by omega]
      · rw [z]
        refine ⟨true, rfl, iteT ?_⟩
        refine ⟨_, rfl, _, rfl, _, _, rfl, rfl, cm _, go_name rfl ?_⟩
        refine go_nx (go_sq ?_)
        refine ⟨_, rfl, _, rfl, _, _, rfl, rfl, cm _, go_name rfl ?_⟩
        refine ⟨_, rfl, e', rfl, rfl, go_name rfl (fin _ ?_)⟩
        rw [← hinv, ← sq, half, Int.mul_assoc]
        congr 1
        rw [← Int.pow_succ', show 2 * (e' / 2) + 1 = e' by omega]
    · rw [decide_eq_false (show ¬ (0 : Int) < (e' : Int) by omega)]
      refine iteF ⟨_, rfl, ?_⟩
      have : e' = 0 := by omega
      subst this
      rw [Int.pow_zero, Int.mul_one] at hinv
      rw [hinv]
      exact k
end
end K04

set_option Elab.async false
set_option linter.all false
set_option maxRecDepth 100000
set_option maxHeartbeats 4000000
namespace K04
open PySem L2 Ew Tb GxR ND PM NI PK
local macro_rules | `(tactic| walk_at "len") => `(tactic| first | (intro h; obtain ⟨_, e, _⟩ := h; rw [e]; rfl) | (intro h; obtain ⟨_, _, e, _⟩ := h; rw [e]; rfl) | (intro h; obtain ⟨_, _, _, e, _⟩ := h; rw [e]; rfl) | (intro h; obtain ⟨_, _, _, _, e, _⟩ := h; rw [e]; rfl) | (intro h; obtain ⟨_, _, _, _, _, e, _⟩ := h; rw [e]; rfl) | (intro h; obtain ⟨_, _, _, _, _, _, e, _⟩ := h; rw [e]; rfl) | (intro h; obtain ⟨_, _, _, _, _, _, _, e, _⟩ := h; rw [e]; rfl) | (intro h; exact h.elim))
section
variable {P : Program} {w : World} {K : PySem.W.Frag} {mg : Str → Option Value} {base : Heap} {ad : Ad}
theorem ev_app (φ : Nat → Int) : ∀ a b : Mono, ev φ (a ++ b) = ev φ a * ev φ b
  | [], b => (Int.one_mul _).symm
  | (f, e) :: a, b => by
    show φ f ^ e * ev φ (a ++ b) = φ f ^ e * ev φ a * ev φ b
    rw [ev_app φ a b, Int.mul_assoc]
def spVal : Sp := fun vs H Q _ => ∃ (x : V) (d : Addr) (kvs : List (L2.Key × V)) (p : Terms) (φ : Nat → Int), vs = [x, .ref d] ∧ Ky H (kP p) x ∧ H d = some (.dK kvs) ∧ (∀ f : Nat, (valV kvs (.inl (f : Int))).getD (.int 0) = .int (φ f)) ∧ (∀ f, (φ f).natAbs ≤ 4) ∧ (∀ t ∈ p, ∀ q ∈ t.1, q.2 ≤ 8) ∧ Q (.int (sumL (ev φ) p)) H
theorem ok_value_at (c_power : CalX P w K mg base 1 "power" spPow) {f : Addr} {fd : FuncData} (F : Fun K "value_at" "value_at" s_value_at f fd) (T : Txt K mg ad) : FnOk P w K mg base (L2.CX P w) 2 f fd ["polynomial", "numbers"] (spVal) := by
  refine F.okX sc_value_at (fun vs H Q E => ?_) (fun cdv A outer s H vs Q E hr h => ?_)
  · walk_at "len"
  ·
    obtain ⟨x, d, kvs, p, φ, rfl, hx, hd, hφ, hb, he, k⟩ := h
    refine ⟨_, (pss_cons (ps_set (i := 2) sc_value_at.nd rfl (by first | exact Or.inl rfl | exact Or.inr rfl) pe_int)
      (pss_cons (ps_for (passes_of rfl) rfl (pi_tup (pv 0)) (pg_tup rfl (pgs_cons (pg_name (i := 3) sc_value_at.nd rfl (by first | exact Or.inl rfl | exact Or.inr rfl)) (pgs_cons (pg_name (i := 4) sc_value_at.nd rfl (by first | exact Or.inl rfl | exact Or.inr rfl)) pgs_nil))) (pss_cons (ps_set (i := 5) sc_value_at.nd rfl (by first | exact Or.inl rfl | exact Or.inr rfl) (pv 4))
      (pss_cons (ps_for (passes_of rfl) rfl (pi_tup (pv 3)) (pg_tup rfl (pgs_cons (pg_name (i := 6) sc_value_at.nd rfl (by first | exact Or.inl rfl | exact Or.inr rfl)) (pgs_cons (pg_name (i := 7) sc_value_at.nd rfl (by first | exact Or.inl rfl | exact Or.inr rfl)) pgs_nil))) (pss_one (ps_set (i := 5) sc_value_at.nd rfl (by first | exact Or.inl rfl | exact Or.inr rfl) (pe_op op_mul (pv 5) (pc_call c_power hr (by first | decide | omega) (takes_of rfl rfl rfl rfl) (by rfl) (pa_cons (pe_dget2 (hu_of hr) (pv 1) (pv 6) pe_int ⟨rfl, rfl, rfl, rfl⟩) (pa_cons (pv 7) pa_nil)))))))
      (pss_one (ps_set (i := 2) sc_value_at.nd rfl (by first | exact Or.inl rfl | exact Or.inr rfl) (pe_op op_add (pv 2) (pv 5)))))))
      (pss_one (ps_ret (pv 2))))), ?_⟩
    obtain ⟨pa, xs, rfl, ea, ka⟩ := ky_tup hx
    have la : xs.length = p.length := by rw [← kys_len ka, List.length_map]
    refine go_seq (go_name rfl ?_)
    refine go_sq ⟨_, rfl, pa, rfl, ⟨_, SqT.of ea⟩, ?_⟩
    refine for_tup (K := K) (xs := xs) (fun i σ H' => ∃ v3 v4 v5 v6 v7, σ = [some (.ref pa), some (.ref d), some (.int (sumL (ev φ) (p.take i))), v3, v4, v5, v6, v7] ∧ H' = H) ⟨none, none, none, none, none, rfl, rfl⟩ (fun i σ H' _ ⟨_, _, _, _, _, _, s'⟩ => s' ▸ SqT.of ea) ?_ ?_
    · rintro i z σ H2 hz ⟨v3, v4, v5, v6, v7, rfl, rfl⟩
      obtain ⟨m, c, q, u, ht, rfl, e2, ku⟩ := kt_at ka hz
      have tm := List.mem_of_getElem? ht
      refine ⟨q, _, rfl, SqT.of e2, rfl, _, _, rfl, go_name rfl ⟨_, _, rfl, go_name rfl ⟨rfl, ?_⟩⟩⟩
      refine go_sq ?_
      refine ⟨_, rfl, go_name rfl ?_⟩
      obtain ⟨pm, ys, rfl, em, km⟩ := ky_tup ku
      have lm : ys.length = m.length := by rw [← kys_len km, List.length_map]
      refine go_nx (go_sq ?_)
      refine ⟨_, rfl, pm, rfl, ⟨_, SqT.of em⟩, ?_⟩
      refine for_tup (K := K) (xs := ys) (fun j σ H' => ∃ v6 v7, σ = [some (.ref pa), some (.ref d), some (.int (sumL (ev φ) (p.take i))), some (.ref pm), some (.int (c : Int)), some (.int ((c : Int) * ev φ (m.take j))), v6, v7] ∧ H' = H2) ⟨v6, v7, by rw [List.take_zero, show ev φ [] = 1 from rfl, Int.mul_one]; rfl, rfl⟩ (fun j σ H' _ ⟨_, _, _, s'⟩ => s' ▸ SqT.of em) ?_ ?_
      · rintro j z σ H3 hz ⟨v6, v7, rfl, rfl⟩
        obtain ⟨f, e, q', hm, rfl, eq⟩ := q_at km hz
        have he8 : e ≤ 8 := he _ tm _ (List.mem_of_getElem? hm)
        refine ⟨q', _, rfl, SqT.of eq, rfl, _, _, rfl, go_name rfl ⟨_, _, rfl, go_name rfl ⟨rfl, ?_⟩⟩⟩
        have bb : (φ f ^ e).natAbs ≤ 65536 := Nat.le_trans (pow_le4 (hb f) e) (Nat.le_trans (Nat.pow_le_pow_right (by decide) he8) (by decide))
        refine ⟨_, rfl, _, rfl, d, rfl, .inl ⟨kvs, .inl hd⟩, _, rfl, _, DGet.k (k := .inl (f : Int)) hd, _, rfl, φ f, e, by rw [hφ f], hb f, he8, _, _, rfl, rfl, .inr ⟨by omega, by omega⟩, go_name rfl ?_⟩
        refine ⟨some (.int (f : Int)), some (.int (e : Int)), ?_, rfl⟩
        rw [List.take_add_one, hm, show (some (f, e)).toList = [(f, e)] from rfl, ev_app, show ev φ [(f, e)] = φ f ^ e * 1 from rfl, Int.mul_one, ← Int.mul_assoc]
        rfl
      · rintro σ H3 ⟨v6, v7, rfl, rfl⟩
        rw [lm, List.take_length]
        refine go_nx ⟨_, rfl, _, rfl, _, _, rfl, rfl, go_name rfl ⟨some (.ref pm), some (.int (c : Int)), some (.int ((c : Int) * ev φ m)), v6, v7, ?_, rfl⟩⟩
        rw [List.take_add_one, ht, show (some (m, c)).toList = [(m, c)] from rfl, sumL_app, show sumL (ev φ) [(m, c)] = (c : Int) * ev φ m + 0 from rfl, Int.add_zero]
        rfl
    · rintro σ H2 ⟨v3, v4, v5, v6, v7, rfl, rfl⟩
      rw [la, List.take_length]
      exact go_nx (go_ret ⟨_, rfl, k⟩)
theorem ok_law_is_int  {f : Addr} {fd : FuncData} (F : Fun K "_law_is_int" "_law_is_int" s_law_is_int f fd) (T : Txt K mg ad) : FnOk P w K mg base (L2.CX P w) 1 f fd ["value"] (spK0 intK) := by
  refine F.okX sc_law_is_int (fun vs H Q E => ?_) (fun cdv A outer s H vs Q E hr h => ?_)
  · walk_at "len"
  ·
    obtain ⟨x, k0, rfl, hx, k⟩ := h
    refine ⟨_, (pss_one (ps_ret (pe_and (pe_callB call_isi (by rfl) T.z_isinstance (by decide +kernel) (pa_cons (pv 0) (pa_cons (pe_bltn (v := .ty "int") (by rfl) T.z_int (by decide +kernel) rfl) pa_nil))) (pe_one (pe_not (pe_callB call_isi (by rfl) T.z_isinstance (by decide +kernel) (pa_cons (pv 0) (pa_cons (pe_bltn (v := .ty "bool") (by rfl) T.z_bool (by decide +kernel) rfl) pa_nil)))))))), ?_⟩
    obtain ⟨t, ty, e1, e2, e3⟩ := ky_ty (K := K) hx
    refine ⟨_, rfl, _, _, _, _, intK k0, rfl, .ty _, ty, e1, _, rfl, ?_⟩
    refine ite2 (fun c => ?_) (fun c => ?_)
    · refine ⟨_, rfl, _, _, _, _, false, rfl, .ty _, ty, e2, false, rfl, ?_⟩
      rw [c] at k
      exact k
    · rw [show intK k0 = false by simpa using c] at k
      exact k
end
end K04

set_option Elab.async false
set_option linter.all false
set_option maxRecDepth 100000
set_option maxHeartbeats 4000000
/-! sorted(d), d a dict of terms: its monomials. -/
namespace PK
open PySem L2 Ew Tb ND _root_.PM
theorem pd_keys {P : Program} {w : World} {K : PySem.W.Frag} {H : Hp} {d : Addr} {L : Terms} {Q : VK} (x : PD P w H d L) (q : ∀ H' l (xs : List V) (ms : List Mono), (∀ b o, H b = some o → H' b = some o) → H l = none → H' l = some (.lst xs) → Kys H' (ms.map kM) xs → ms.Pairwise mlt → (∀ m, m ∈ ms ↔ coef L m ≠ 0) → (∀ m ∈ ms, MCan m) → ms.length ≤ L.length → Q (.ref l) H') :
    rSortKeys P w K [.ref d] H Q := by
  obtain ⟨kvs, ⟨es, he, hk, ekv⟩, nd, len, ks, vs⟩ := x.ex_
  have val : ∀ e ∈ es, ∃ (m : Mono), e.1 = kM m ∧ MCan m ∧ coef L m ≠ 0 ∧ Ky H (kM m) (.ref e.2.1) := fun e hm => by
    have hkv : (e.1, e.2.2) ∈ kvs := by rw [ekv]; exact List.mem_map.mpr ⟨e, hm, rfl⟩
    obtain ⟨m, mc, ek⟩ := ks _ hkv
    have ek : e.1 = kM m := ek
    have h1 : valV kvs e.1 = some e.2.2 := val_at nd hkv
    rw [ek, vs m] at h1
    have hky := (hk e hm).1
    rw [ek] at hky
    split at h1
    · cases h1
    · rename_i c
      exact ⟨m, ek, mc, c, hky⟩
  have memk : ∀ m, coef L m ≠ 0 → ∃ e ∈ es, e.1 = kM m := fun m hm => by
    have hv := vs m
    rw [if_neg hm] at hv
    have := val_mem hv
    rw [ekv] at this
    obtain ⟨e, h1, h2⟩ := List.mem_map.mp this
    exact ⟨e, h1, congrArg Prod.fst h2⟩
  have ndE : (es.map (·.1)).Nodup := by
    rw [ekv] at nd
    unfold ND.kvOf at nd
    rw [List.map_map] at nd
    exact nd
  have lenE : es.length ≤ L.length := by
    rw [ekv] at len
    unfold ND.kvOf at len
    rw [List.length_map] at len
    exact len
  generalize hg : (fun e : NestedKey × Addr × V => ((V.ref e.2.1, kD e.1) : V × PyData)) = g
  have gE : ∀ e, g e = (V.ref e.2.1, kD e.1) := fun e => by rw [← hg]
  refine ⟨d, es.map fun e => (V.ref e.2.1, e.2.2), es.map g, rfl, .inl ⟨es, .inl he, rfl⟩, ?_, fun z hz => ?_, ⟨fun x hx y hy => ?_, .inl fun x hx => ?_⟩, fun ys l pt st hl => ?_⟩
  · rw [List.map_map, List.map_map]
    exact List.map_congr_left fun e _ => by show (g e).1 = _; rw [gE]; rfl
  · obtain ⟨e, hm, rfl⟩ := List.mem_map.mp hz
    obtain ⟨m, e1, _, _, hky⟩ := val e hm
    rw [gE, e1]
    refine ⟨Ky.dp hky, ?_⟩
    show (kD (kM m)).depth ≤ 60
    rw [kD_dep]
    have := dep_kM m
    omega
  · rw [List.map_map] at hx hy
    obtain ⟨e, hm, rfl⟩ := List.mem_map.mp hx
    obtain ⟨e', hm', rfl⟩ := List.mem_map.mp hy
    obtain ⟨m, e1, _⟩ := val e hm
    obtain ⟨m', e2, _⟩ := val e' hm'
    show PySem.W.alike (g e).2 (g e').2 = true
    rw [gE, gE, e1, e2]
    exact alike_dM m m'
  · rw [List.map_map] at hx
    obtain ⟨e, hm, rfl⟩ := List.mem_map.mp hx
    obtain ⟨m, e1, _⟩ := val e hm
    show ∃ t, (g e).2 = .tuple t
    rw [gE, e1]
    exact ⟨_, dM_eq m⟩
  · have pick : ∀ z : V × PyData, ∃ m : Mono, z ∈ ys → z.2 = dM m ∧ MCan m ∧ coef L m ≠ 0 ∧ Ky H (kM m) z.1 := fun z => by
      by_cases hz : z ∈ ys
      · obtain ⟨e, hm, rfl⟩ := List.mem_map.mp (pt.mem_iff.mp hz)
        obtain ⟨m, e1, h1, h2, h3⟩ := val e hm
        refine ⟨m, fun _ => ⟨?_, h1, h2, ?_⟩⟩
        · rw [gE, e1]; rfl
        · rw [gE]; exact h3
      · exact ⟨[], fun h => absurd h hz⟩
    obtain ⟨tm, htm⟩ := Classical.axiomOfChoice pick
    have zl : ys.length = es.length := by have := pt.length_eq; rw [List.length_map] at this; exact this
    have dinj : ∀ m n : Mono, dM m = dM n → m = n := fun m n e => kM_inj (eqv_kD _ _ (by show PyData.eqv (dM m) (dM n) = true; rw [e]; exact eqv_self _))
    have ndk : (ys.map fun z => tm z).Nodup := by
      have h2 := pt.map fun z : V × PyData => z.2
      rw [List.map_map] at h2
      have h1 : (es.map fun e => kD e.1).Nodup := by
        refine List.Pairwise.map (R := fun a b => a.1 ≠ b.1) _ (fun a b h e => ?_) (List.pairwise_map.mp ndE)
        have e : kD a.1 = kD b.1 := e
        exact h (eqv_kD a.1 b.1 (by rw [e]; exact eqv_self _))
      have e3 : (es.map ((fun z : V × PyData => z.2) ∘ g)) = es.map fun e => kD e.1 := List.map_congr_left fun e _ => by
        show (g e).2 = _
        rw [gE]
      rw [e3] at h2
      have h3 := h2.nodup_iff.mpr h1
      refine List.pairwise_map.mpr (List.Pairwise.imp_of_mem (fun {a b} ha hb h e => ?_) (List.pairwise_map.mp h3))
      refine h ?_
      rw [(htm a ha).1, (htm b hb).1, e]
    have s1 := snew (o := .lst (ys.map (·.1))) (fun b o z => z : Same H H) hl
    refine q _ l _ (ys.map fun z => tm z) s1 hl upd_same ?_ ?_ (fun m => ?_) (fun m hm => ?_) ?_
    · rw [List.map_map]
      refine kys_of (by rw [List.length_map, List.length_map]) fun i k x hk hx => ?_
      rw [List.getElem?_map] at hk hx
      obtain ⟨z, hz, rfl⟩ := Option.map_eq_some_iff.mp hx
      rw [hz] at hk
      cases hk
      exact ((htm z (List.mem_of_getElem? hz)).2.2.2).keeps fun b zs e => s1 _ _ e
    · refine List.pairwise_map.mpr (List.Pairwise.imp_of_mem (fun {a b} ha hb h => ?_) ((List.Pairwise.and st (List.pairwise_map.mp ndk))))
      have h1 := h.1
      rw [(htm a ha).1, (htm b hb).1] at h1
      exact mlt_of h1 h.2
    · rw [List.mem_map]
      constructor
      · rintro ⟨z, hz, rfl⟩
        exact (htm z hz).2.2.1
      · intro hm
        obtain ⟨e, h1, h2⟩ := memk m hm
        have hz : g e ∈ ys := pt.mem_iff.mpr (List.mem_map.mpr ⟨e, h1, rfl⟩)
        refine ⟨g e, hz, dinj _ _ ?_⟩
        rw [← (htm _ hz).1, gE, h2]
        rfl
    · obtain ⟨z, hz, rfl⟩ := List.mem_map.mp hm
      exact (htm z hz).2.1
    · rw [List.length_map, zl]; exact lenE
end PK

set_option Elab.async false
set_option linter.all false
set_option maxRecDepth 100000
set_option maxHeartbeats 4000000
namespace K04
open PySem L2 Ew Tb GxR ND PM NI PK
local macro_rules | `(tactic| walk_at "len") => `(tactic| first | (intro h; obtain ⟨_, e, _⟩ := h; rw [e]; rfl) | (intro h; obtain ⟨_, _, e, _⟩ := h; rw [e]; rfl) | (intro h; obtain ⟨_, _, _, e, _⟩ := h; rw [e]; rfl) | (intro h; obtain ⟨_, _, _, _, e, _⟩ := h; rw [e]; rfl) | (intro h; obtain ⟨_, _, _, _, _, e, _⟩ := h; rw [e]; rfl) | (intro h; obtain ⟨_, _, _, _, _, _, e, _⟩ := h; rw [e]; rfl) | (intro h; obtain ⟨_, _, _, _, _, _, _, e, _⟩ := h; rw [e]; rfl) | (intro h; exact h.elim))
section
variable {P : Program} {w : World} {K : PySem.W.Frag} {mg : Str → Option Value} {base : Heap} {ad : Ad}
end
/-- two values are the same thing, n levels deep at most -/
inductive Dd (H : Hp) : Nat → V → V → Prop
  | non {n : Nat} : Dd H (n + 1) .non .non
  | bl {n : Nat} (b : Bool) : Dd H (n + 1) (.bl b) (.bl b)
  | int {n : Nat} (i : Int) : Dd H (n + 1) (.int i) (.int i)
  | str {n : Nat} (x : Str) : Dd H (n + 1) (.str x) (.str x)
  | lst {n : Nat} {a b : Addr} {xs ys : List V} : H a = some (.lst xs) → H b = some (.lst ys) → xs.length = ys.length → ys.length ≤ 100000 → (∀ (i : Nat) x y, xs[i]? = some x → ys[i]? = some y → Dd H n x y) → Dd H (n + 1) (.ref a) (.ref b)
  | tup {n : Nat} {a b : Addr} {xs ys : List V} : H a = some (.tup xs) → H b = some (.tup ys) → xs.length = ys.length → ys.length ≤ 100000 → (∀ (i : Nat) x y, xs[i]? = some x → ys[i]? = some y → Dd H n x y) → Dd H (n + 1) (.ref a) (.ref b)
theorem Dd.same {H H' : Hp} (s : Same H H') : ∀ {n : Nat} {x y : V}, Dd H n x y → Dd H' n x y := by
  intro n x y h
  induction h with
  | non => exact .non
  | bl b => exact .bl b
  | int i => exact .int i
  | str z => exact .str z
  | lst e1 e2 l l2 _ ih => exact .lst (s _ _ e1) (s _ _ e2) l l2 ih
  | tup e1 e2 l l2 _ ih => exact .tup (s _ _ e1) (s _ _ e2) l l2 ih
def spSame (n : Nat) : Sp := fun vs H Q _ => ∃ x y, vs = [x, y] ∧ Dd H n x y ∧ ∀ H', Same H H' → Q (.bl true) H'
/-! ### the law's own draws -/
/-- all but what stands at a is as it was -/
def Fr1 (a : Addr) (H H' : Hp) : Prop := ∀ b o, b ≠ a → H b = some o → H' b = some o
theorem Fr1.refl (a : Addr) (H : Hp) : Fr1 a H H := fun _ _ _ h => h
theorem Fr1.trans {a : Addr} {H H1 H2 : Hp} (x : Fr1 a H H1) (y : Fr1 a H1 H2) : Fr1 a H H2 := fun b o n h => y b o n (x b o n h)
theorem Fr1.upd {a : Addr} {H H1 : Hp} {o : HO} (x : Fr1 a H H1) : Fr1 a H (upd H1 a o) := fun b u n h => by rw [upd_ne n]; exact x b u n h
theorem Fr1.of {a : Addr} {H H1 : Hp} (x : Same H H1) : Fr1 a H H1 := fun b o _ h => x b o h
theorem Fr1.new {a p : Addr} {H H1 : Hp} {o : HO} (x : Fr1 a H H1) (h : H p = none) : Fr1 a H (L2.upd H1 p o) := fun b u n e => by rw [upd_ne (ne_of_none e h)]; exact x b u n e
theorem same_new {p : Addr} {H H1 : Hp} {o : HO} (x : Same H H1) (h : H p = none) : Same H (L2.upd H1 p o) := fun b u e => by rw [upd_ne (ne_of_none e h)]; exact x b u e
/-- the pot: what is drawn from -/
def PotAt (H : Hp) (a : Addr) : Prop := ∃ (b : Addr) (ns : List Int) (i c sd : Int), H a = some (.lst [.ref b, .int i, .int c, .int sd]) ∧ H b = some (.lst (ns.map V.int)) ∧ b ≠ a ∧ 0 ≤ i ∧ 0 ≤ c ∧ 0 ≤ sd
theorem PotAt.same {H H' : Hp} {a : Addr} (p : PotAt H a) (s : Same H H') : PotAt H' a := by
  obtain ⟨b, ns, i, c, sd, h1, h2, h3, h4⟩ := p
  exact ⟨b, ns, i, c, sd, s _ _ h1, s _ _ h2, h3, h4⟩
/-- the same, its list at b -/
def PotB (H : Hp) (a b : Addr) : Prop := ∃ (ns : List Int) (i c sd : Int), H a = some (.lst [.ref b, .int i, .int c, .int sd]) ∧ H b = some (.lst (ns.map V.int)) ∧ b ≠ a ∧ 0 ≤ i ∧ 0 ≤ c ∧ 0 ≤ sd
theorem PotB.at_ {H : Hp} {a b : Addr} (p : PotB H a b) : PotAt H a := let ⟨ns, i, c, sd, h⟩ := p; ⟨b, ns, i, c, sd, h⟩
theorem PotAt.b_ {H : Hp} {a : Addr} (p : PotAt H a) : ∃ b, PotB H a b := let ⟨b, ns, i, c, sd, h⟩ := p; ⟨b, ns, i, c, sd, h⟩
theorem PotB.same {H H' : Hp} {a b : Addr} (p : PotB H a b) (s : Same H H') : PotB H' a b := by
  obtain ⟨ns, i, c, sd, h1, h2, h3⟩ := p
  exact ⟨ns, i, c, sd, s _ _ h1, s _ _ h2, h3⟩
theorem PotB.but {H H' : Hp} {a b : Addr} (p : PotB H a b) (h1 : H' a = H a) (h2 : H' b = H b) : PotB H' a b := by
  obtain ⟨ns, i, c, sd, e1, e2, h3⟩ := p
  exact ⟨ns, i, c, sd, h1.trans e1, h2.trans e2, h3⟩
theorem PotAt.some {H : Hp} {a : Addr} (p : PotAt H a) : ∃ o, H a = some o := by
  obtain ⟨b, ns, i, c, sd, h1, _⟩ := p
  exact ⟨_, h1⟩
def spPot (K : PySem.W.Frag) : Sp := fun vs H Q _ => ∃ (a : Addr) (ns : List Int), vs = [.ref a] ∧ SqL K H a (ns.map V.int) ∧ ns.length ≤ 63 ∧ ∀ H' p, Same H H' → H p = none → PotAt H' p → Q (.ref p) H'
def spNext : Sp := fun vs H Q _ => ∃ a lim, vs = [.ref a, .int lim] ∧ PotAt H a ∧ 0 < lim ∧ lim.natAbs < 2 ^ 250 ∧ ∀ H' r, Fr1 a H H' → PotAt H' a → 0 ≤ r → r < lim → (∀ b, PotB H a b → PotB H' a b) → Q (.int r) H'
section
variable {P : Program} {w : World} {K : PySem.W.Frag} {mg : Str → Option Value} {base : Heap} {ad : Ad}
theorem ok_law_pot  {f : Addr} {fd : FuncData} (F : Fun K "_law_pot" "_law_pot" s_law_pot f fd) (T : Txt K mg ad) : FnOk P w K mg base (L2.CX P w) 1 f fd ["script"] (spPot K) := by
  refine F.okX sc_law_pot (fun vs H Q E => ?_) (fun cdv A outer s H vs Q E hr h => ?_)
  · walk_at "len"
  ·
    obtain ⟨a, ns, rfl, hS, hl, k⟩ := h
    refine ⟨_, (pss_cons (ps_set (i := 1) sc_law_pot.nd rfl (by first | exact Or.inl rfl | exact Or.inr rfl) pe_int)
      (pss_cons (ps_for (passes_of rfl) rfl (pi_list (pv 0)) (pg_name (i := 2) sc_law_pot.nd rfl (by first | exact Or.inl rfl | exact Or.inr rfl)) (pss_one (ps_set (i := 1) sc_law_pot.nd rfl (by first | exact Or.inl rfl | exact Or.inr rfl) (pe_op op_mod (pe_callTy call_int1 (by rfl) T.z_int (by decide +kernel) (pa_cons (pe_op op_add (pe_op op_mul (pv 1) pe_int) (pv 2)) pa_nil)) pe_int))))
      (pss_one (ps_ret (pe_lst (pa_cons (pe_callTy call_list_of (by rfl) T.z_list (by decide +kernel) (pa_cons (pv 0) pa_nil)) (pa_cons pe_int (pa_cons pe_int (pa_cons (pv 1) pa_nil))))))))), ?_⟩
    refine ⟨_, rfl, a, rfl, ⟨_, hS⟩, for_list (K := K) (a := a) (xs := ns.map V.int) (fun i σ H2 => ∃ (sd : Int) (v : Option V), σ = [some (.ref a), some (.int sd), v] ∧ 0 ≤ sd ∧ H2 = H)
      ⟨1, none, rfl, by decide, rfl⟩ (fun i σ H2 _ ⟨_, _, _, _, e⟩ => by rw [e]; exact hS) ?_ ?_⟩
    · rintro i y σ H2 hi ⟨sd, v, rfl, hsd, rfl⟩
      obtain ⟨z, rfl⟩ : ∃ z, y = V.int z := by
        rw [List.getElem?_map] at hi
        cases e : ns[i]? with
        | none =>
          rw [e] at hi
          cases hi
        | some z =>
          rw [e] at hi
          exact ⟨z, (Option.some.inj hi).symm⟩
      refine ⟨_, rfl, _, _, rfl, rfl, .inr ⟨by decide, by decide⟩, _, rfl, _, _, rfl, rfl, .inl ⟨_, rfl, _, _, rfl, rfl, (by show (0 : Int) < 2147483647; decide), ?_⟩⟩
      exact ⟨_, _, rfl, Int.emod_nonneg _ (by decide), rfl⟩
    · rintro σ H2 ⟨sd, v, rfl, hsd, rfl⟩
      refine ⟨_, rfl, a, _, rfl, .inl hS, fun l hl1 => ⟨_, rfl, (by show 4 ≤ sizeLine; decide), fun p hp => ?_⟩⟩
      have npl : p ≠ l := by
        intro z
        subst z
        rw [upd_same] at hp
        cases hp
      have hp0 : H2 p = none := by rw [upd_ne npl] at hp; exact hp
      exact k _ p (same_new (same_new (Same.refl _) hl1) hp0) hp0 ⟨l, ns, 0, 0, sd, upd_same, by rw [upd_ne (Ne.symm npl), upd_same], Ne.symm npl, by decide, by decide, hsd⟩
theorem ok_law_next  {f : Addr} {fd : FuncData} (F : Fun K "_law_next" "_law_next" s_law_next f fd) (T : Txt K mg ad) : FnOk P w K mg base (L2.CX P w) 1 f fd ["pot", "limit"] (spNext) := by
  refine F.okX sc_law_next (fun vs H Q E => ?_) (fun cdv A outer s H vs Q E hr h => ?_)
  · walk_at "len"
  ·
    obtain ⟨a, lim, rfl, ⟨b, ns, i, c, sd, h1, h2, h3, h4, h5, h6⟩, hl0, hl1, k⟩ := h
    have k2 : ∀ H' r, Fr1 a H H' → PotB H' a b → 0 ≤ r → r < lim → Q (.int r) H' := fun H' r fr hpb r0 r1 => k H' r fr hpb.at_ r0 r1 fun b' hb' => by
      obtain ⟨ns', i', c', sd', e1, _⟩ := hb'
      rw [h1] at e1
      injection e1 with e1
      injection e1 with e1
      injection e1 with e1 _
      injection e1 with e1
      subst e1
      exact hpb
    have hr1 : ∀ x : Int, 0 ≤ x % lim ∧ x % lim < lim := fun x => ⟨Int.emod_nonneg _ (by omega), Int.emod_lt_of_pos _ hl0⟩
    refine ⟨_, (C8.pss_cut (ps_if (PW.pt (pw_and (pt_cmpR op_eq (pe_ix ix_list (pv 0) pe_int (fun _ _ => rfl)) pe_int (nomark _)) (pw_and1 (pt_cmpR op_lt (pe_ix ix_list (pv 0) pe_int (fun _ _ => rfl)) (pe_callB call_len (by rfl) T.z_len (by decide +kernel) (pa_cons (pe_ix ix_list (pv 0) pe_int (fun _ _ => rfl)) pa_nil)) (nomark _))))) (pss_cons (ps_set (i := 2) sc_law_next.nd rfl (by first | exact Or.inl rfl | exact Or.inr rfl) (pe_callB call_abs (by rfl) T.z_abs (by decide +kernel) (pa_cons (pe_callTy call_int1 (by rfl) T.z_int (by decide +kernel) (pa_cons (pe_ix ix_list (pe_ix ix_list (pv 0) pe_int (fun _ _ => rfl)) (pe_ix ix_list (pv 0) pe_int (fun _ _ => rfl)) (fun _ _ => rfl)) pa_nil)) pa_nil)))
      (pss_cons (ps_asg (pe_op op_add (pe_ix ix_list (pv 0) pe_int (fun _ _ => rfl)) pe_int) (pg_sub (pv 0) pe_int set_list))
      (pss_cons (ps_if (pt_cmpR op_lt (pv 2) (pe_op op_pow pe_int pe_int) (nomark _)) (pss_one (ps_ret (pe_op op_mod (pe_callTy call_int1 (by rfl) T.z_int (by decide +kernel) (pa_cons (pv 2) pa_nil)) (pv 1)))) pss_nil)
      (pss_one (ps_asg (pv 2) (pg_sub (pv 0) pe_int set_list)))))) pss_nil)
      (C8.pss_cut (ps_if (pt_cmpR op_gt (pe_ix ix_list (pv 0) pe_int (fun _ _ => rfl)) pe_int (nomark _)) (pss_cons (ps_set (i := 3) sc_law_next.nd rfl (by first | exact Or.inl rfl | exact Or.inr rfl) (pe_op op_mod (pe_callTy call_int1 (by rfl) T.z_int (by decide +kernel) (pa_cons (pe_ix ix_list (pv 0) pe_int (fun _ _ => rfl)) pa_nil)) (pv 1)))
      (pss_cons (ps_asg (pe_op op_fdivW (pe_ix ix_list (pv 0) pe_int (fun _ _ => rfl)) (pv 1)) (pg_sub (pv 0) pe_int set_list))
      (pss_one (ps_ret (pv 3))))) pss_nil)
      (pss_cons (ps_asg (pe_op op_mod (pe_callTy call_int1 (by rfl) T.z_int (by decide +kernel) (pa_cons (pe_op op_add (pe_op op_mul (pe_ix ix_list (pv 0) pe_int (fun _ _ => rfl)) pe_int) pe_int) pa_nil)) pe_int) (pg_sub (pv 0) pe_int set_list))
      (pss_cons (ps_set (i := 4) sc_law_next.nd rfl (by first | exact Or.inl rfl | exact Or.inr rfl) (pe_op op_mod (pe_callTy call_int1 (by rfl) T.z_int (by decide +kernel) (pa_cons (pe_op op_add (pe_op op_mul (pe_ix ix_list (pv 0) pe_int (fun _ _ => rfl)) pe_int) (pe_op op_fdiv (pe_ix ix_list (pv 0) pe_int (fun _ _ => rfl)) pe_int)) pa_nil)) pe_int))
      (pss_one (ps_ret (pe_op op_mod (pe_callTy call_int1 (by rfl) T.z_int (by decide +kernel) (pa_cons (pv 4) pa_nil)) (pv 1)))))))), ?_⟩
    refine ⟨fun σ H' => ∃ (i' c' : Int) (v : Option V), σ = [some (.ref a), some (.int lim), v, none, none] ∧ H' a = some (.lst [.ref b, .int i', .int c', .int sd]) ∧ Fr1 a H H' ∧ 0 ≤ i' ∧ 0 ≤ c', ?_, ?_⟩
    · -- if pot[2] == 0 and pot[1] < len(pot[0])
      refine ⟨_, rfl, a, _, _, _, rfl, rfl, SqL.of h1, (by rfl), rfl, _, rfl, ?_⟩
      by_cases c0 : ¬ c = 0
      · have e : decide (V.int c = V.int 0) = false := by simp [c0]
        rw [e]
        refine iteF (iteF ?_)
        exact ⟨i, c, none, rfl, h1, Fr1.refl _ _, h4, h5⟩
      · have c0' : c = 0 := by omega
        subst c0'
        refine iteT ?_
        refine ⟨_, rfl, a, _, _, _, rfl, rfl, SqL.of h1, (by rfl), _, rfl, a, _, _, _, rfl, rfl, SqL.of h1, (by rfl), .ref b, ns.length, rfl, Or.inl ⟨_, SqL.of h2, by rw [List.length_map]⟩, _, _, rfl, rfl, _, rfl, ?_⟩
        by_cases c1 : ¬ i < (ns.length : Int)
        · rw [decide_eq_false c1]
          exact iteF ⟨i, 0, none, rfl, h1, Fr1.refl _ _, h4, h5⟩
        · have c1 : i < (ns.length : Int) := by omega
          rw [decide_eq_true c1]
          refine iteT ?_
          -- cell
          obtain ⟨z, hz⟩ : ∃ z, ns[i.toNat]? = some z := ⟨ns[i.toNat]'(by omega), List.getElem?_eq_getElem _⟩
          have hz' : (ns.map V.int)[i.toNat]? = some (.int z) := by rw [List.getElem?_map, hz]; rfl
          refine ⟨_, rfl, a, _, _, _, rfl, rfl, SqL.of h1, (by rfl), _, rfl, a, _, _, _, rfl, rfl, SqL.of h1, (by rfl), b, _, _, _, rfl, rfl, SqL.of h2, at_of (by omega) hz', .inl ⟨_, rfl, _, rfl, ?_⟩⟩
          have hcell : 0 ≤ (if z < 0 then -z else z) := by split <;> omega
          generalize (if z < 0 then -z else z) = cell at hcell ⊢
          -- pot[1] = pot[1] + 1
          refine ⟨_, rfl, a, _, _, _, rfl, rfl, SqL.of h1, (by rfl), _, _, rfl, rfl, _, rfl, a, _, _, 1, rfl, rfl, h1, (by rfl), ?_⟩
          -- if cell < 10 ** 18
          refine ⟨_, rfl, _, _, rfl, rfl, ⟨by decide, by decide, by decide⟩, _, _, rfl, rfl, _, rfl, ?_⟩
          refine ite2 (fun _ => ?_) (fun _ => ?_)
          · refine ⟨_, rfl, .inl ⟨_, rfl, _, rfl, _, _, rfl, rfl, hl0, ?_⟩⟩
            exact k2 _ _ (Fr1.refl _ _).upd ⟨ns, i + 1, 0, sd, upd_same, by rw [upd_ne h3]; exact h2, h3, by omega, by decide, h6⟩ (hr1 _).1 (hr1 _).2
          · refine ⟨_, rfl, _, rfl, a, _, _, 2, rfl, rfl, upd_same, (by rfl), ?_⟩
            exact ⟨i + 1, cell, _, rfl, upd_same, (Fr1.refl _ _).upd.upd, by omega, hcell⟩
    · rintro σ H1 ⟨i', c', v, rfl, g1, fr, hi', hc'⟩
      have g2 : H1 b = some (.lst (ns.map V.int)) := fr b _ h3 h2
      refine ⟨fun σ H' => ∃ (v v' : Option V), σ = [some (.ref a), some (.int lim), v, v', none] ∧ H' = H1, ?_, ?_⟩
      · -- if pot[2] > 0
        refine ⟨_, rfl, a, _, _, _, rfl, rfl, SqL.of g1, (by rfl), _, _, rfl, rfl, _, rfl, ?_⟩
        refine ite2 (fun _ => ?_) (fun _ => ?_)
        · refine ⟨_, rfl, a, _, _, _, rfl, rfl, SqL.of g1, (by rfl), .inl ⟨_, rfl, _, rfl, _, _, rfl, rfl, hl0, ?_⟩⟩
          refine ⟨_, rfl, a, _, _, _, rfl, rfl, SqL.of g1, (by rfl), _, rfl, _, _, rfl, rfl, wide_div hl0 hl1 (by decide) (by decide), _, rfl, a, _, _, 2, rfl, rfl, g1, (by rfl), _, rfl, ?_⟩
          exact k2 _ _ fr.upd ⟨ns, i', c' / lim, sd, upd_same, by rw [upd_ne h3]; exact g2, h3, hi', Int.ediv_nonneg hc' (by omega), h6⟩ (hr1 _).1 (hr1 _).2
        · exact ⟨v, none, rfl, rfl⟩
      · rintro σ H2 ⟨v, v', rfl, rfl⟩
        refine ⟨_, rfl, a, _, _, _, rfl, rfl, SqL.of g1, (by rfl), _, _, rfl, rfl, .inr ⟨by decide, by decide⟩, _, _, rfl, rfl, .inl ⟨_, rfl, _, _, rfl, rfl, (by show (0 : Int) < 2147483647; decide), _, rfl, a, _, _, 3, rfl, rfl, g1, (by rfl), ?_⟩⟩
        refine ⟨_, rfl, a, _, _, _, rfl, rfl, SqL.of upd_same, (by rfl), _, _, rfl, rfl, .inr ⟨by decide, by decide⟩, _, rfl, a, _, _, _, rfl, rfl, SqL.of upd_same, (by rfl), _, _, rfl, rfl, ⟨by decide, by decide⟩, _, _, rfl, rfl, .inl ⟨_, rfl, _, _, rfl, rfl, (by show (0 : Int) < 2147483629; decide), ?_⟩⟩
        refine ⟨_, rfl, .inl ⟨_, rfl, _, rfl, _, _, rfl, rfl, hl0, ?_⟩⟩
        exact k2 _ _ fr.upd ⟨ns, i', c', _, upd_same, by rw [upd_ne h3]; exact g2, h3, hi', hc', Int.emod_nonneg _ (by decide)⟩ (hr1 _).1 (hr1 _).2
end
section
variable {P : Program} {w : World} {K : PySem.W.Frag} {mg : Str → Option Value} {base : Heap} {ad : Ad}
section
variable {n lv : Nat}
theorem ok_law_same (c_law_is_int : CalX P w K mg base 1 "_law_is_int" (spK0 intK)) (c_law_same : CalX P w K mg base lv "_law_same" (spSame n)) (h1 : 1 ≤ lv) {f : Addr} {fd : FuncData} (F : Fun K "_law_same" "_law_same" s_law_same f fd) (T : Txt K mg ad) : FnOk P w K mg base (L2.CX P w) (lv + 1) f fd ["found", "value"] (spSame (n + 1)) := by
  refine F.okX sc_law_same (fun vs H Q E => ?_) (fun cdv A outer s H vs Q E hr h => ?_)
  · walk_at "len"
  ·
    obtain ⟨x, y, rfl, hd, k⟩ := h
    refine ⟨_, (pss_cons (ps_if (pt_cmpR op_isN (pv 1) pe_non (nomark _)) (pss_one (ps_ret (pe_cmpR op_isN (pv 0) pe_non (nomark _)))) pss_nil)
      (pss_cons (ps_if (pt_val (pe_callB call_isi (by rfl) T.z_isinstance (by decide +kernel) (pa_cons (pv 1) (pa_cons (pe_bltn (v := .ty "bool") (by rfl) T.z_bool (by decide +kernel) rfl) pa_nil)))) (pss_one (ps_ret (pe_and (pe_callB call_isi (by rfl) T.z_isinstance (by decide +kernel) (pa_cons (pv 0) (pa_cons (pe_bltn (v := .ty "bool") (by rfl) T.z_bool (by decide +kernel) rfl) pa_nil))) (pe_one (pe_cmpR op_eq (pv 0) (pv 1) (nomark _)))))) pss_nil)
      (pss_cons (ps_if (pt_val (pe_callB call_isi (by rfl) T.z_isinstance (by decide +kernel) (pa_cons (pv 1) (pa_cons (pe_bltn (v := .ty "int") (by rfl) T.z_int (by decide +kernel) rfl) pa_nil)))) (pss_one (ps_ret (pe_and (pc_call c_law_is_int hr (by first | decide | omega) (takes_of rfl rfl rfl rfl) (by rfl) (pa_cons (pv 0) pa_nil)) (pe_one (pe_cmpR op_eq (pv 0) (pv 1) (nomark _)))))) pss_nil)
      (pss_cons (ps_if (pt_val (pe_callB call_isi (by rfl) T.z_isinstance (by decide +kernel) (pa_cons (pv 1) (pa_cons (pe_bltn (v := .ty "str") (by rfl) T.z_str (by decide +kernel) rfl) pa_nil)))) (pss_one (ps_ret (pe_and (pe_callB call_isi (by rfl) T.z_isinstance (by decide +kernel) (pa_cons (pv 0) (pa_cons (pe_bltn (v := .ty "str") (by rfl) T.z_str (by decide +kernel) rfl) pa_nil))) (pe_one (pe_cmpR op_eq (pv 0) (pv 1) (nomark _)))))) pss_nil)
      (pss_cons (ps_if (PW.pt (pw_or (pt_cmpR op_ne (pe_callB call_isi (by rfl) T.z_isinstance (by decide +kernel) (pa_cons (pv 1) (pa_cons (pe_bltn (v := .ty "list") (by rfl) T.z_list (by decide +kernel) rfl) pa_nil))) (pe_callB call_isi (by rfl) T.z_isinstance (by decide +kernel) (pa_cons (pv 0) (pa_cons (pe_bltn (v := .ty "list") (by rfl) T.z_list (by decide +kernel) rfl) pa_nil))) (nomark _)) (pw_or1 (pt_cmpR op_ne (pe_callB call_isi (by rfl) T.z_isinstance (by decide +kernel) (pa_cons (pv 1) (pa_cons (pe_bltn (v := .ty "tuple") (by rfl) T.z_tuple (by decide +kernel) rfl) pa_nil))) (pe_callB call_isi (by rfl) T.z_isinstance (by decide +kernel) (pa_cons (pv 0) (pa_cons (pe_bltn (v := .ty "tuple") (by rfl) T.z_tuple (by decide +kernel) rfl) pa_nil))) (nomark _))))) (pss_one (ps_ret pe_bl)) pss_nil)
      (pss_one (ps_ret (pe_and (pe_cmpR op_eq (pe_callB call_len (by rfl) T.z_len (by decide +kernel) (pa_cons (pv 0) pa_nil)) (pe_callB call_len (by rfl) T.z_len (by decide +kernel) (pa_cons (pv 1) pa_nil)) (nomark _)) (pe_one (pe_callB (cr_all rfl) (by rfl) T.z_all (by decide +kernel) (pa_cons (pe_lc (own := [("k", 2)]) (tt := tYes) rfl sc_law_same.nd (pi_range1 (by rfl) T.z_range (pa_cons (pe_callB call_len (by rfl) T.z_len (by decide +kernel) (pa_cons (pv 1) pa_nil)) pa_nil)) (blkOk_by (by kernel_rfl)) (fun _ _ _ _ _ => (pg_name (i := 2) sc_law_same.nd rfl (by first | exact Or.inl rfl | exact Or.inr rfl))) (fun _ _ _ _ _ => pts_nil) (fun _ _ _ _ _ => (pc_call c_law_same hr (by first | decide | omega) takes0 (by rfl) (pa_cons (pe_ix (kix_seq (K := K)) (pv 0) (pv 2) (fun _ _ => rfl)) (pa_cons (pe_ix (kix_seq (K := K)) (pv 1) (pv 2) (fun _ _ => rfl)) pa_nil))))) pa_nil))))))))))), ?_⟩
    cases hd with
    | non =>
      refine ⟨_, rfl, rfl, _, rfl, iteT ?_⟩
      exact ⟨_, rfl, rfl, k H (Same.refl _)⟩
    | bl b =>
      refine ⟨_, rfl, rfl, _, rfl, iteF (go_next ?_)⟩
      refine ⟨_, rfl, _, _, _, _, true, rfl, .ty _, .base (.bl b), kit_ty (by decide +kernel), true, rfl, iteT ?_⟩
      refine ⟨_, rfl, _, _, _, _, true, rfl, .ty _, .base (.bl b), kit_ty (by decide +kernel), true, rfl, iteT ?_⟩
      refine ⟨_, rfl, _, rfl, rfl, ?_⟩
      rw [decide_eq_true rfl]
      exact k H (Same.refl _)
    | int i =>
      refine ⟨_, rfl, rfl, _, rfl, iteF (go_next ?_)⟩
      refine ⟨_, rfl, _, _, _, _, false, rfl, .ty _, .base (.int i), kit_ty (by decide +kernel), false, rfl, iteF (go_next ?_)⟩
      refine ⟨_, rfl, _, _, _, _, true, rfl, .ty _, .base (.int i), kit_ty (by decide +kernel), true, rfl, iteT ?_⟩
      refine ⟨_, rfl, .int i, .num i, rfl, .int i, ?_⟩
      refine ⟨_, rfl, iteT ?_⟩
      refine ⟨_, rfl, _, rfl, rfl, ?_⟩
      rw [decide_eq_true rfl]
      exact k H (Same.refl _)
    | str z =>
      refine ⟨_, rfl, rfl, _, rfl, iteF (go_next ?_)⟩
      refine ⟨_, rfl, _, _, _, _, false, rfl, .ty _, .base (.str z), kit_ty (by decide +kernel), false, rfl, iteF (go_next ?_)⟩
      refine ⟨_, rfl, _, _, _, _, false, rfl, .ty _, .base (.str z), kit_ty (by decide +kernel), false, rfl, iteF (go_next ?_)⟩
      refine ⟨_, rfl, _, _, _, _, true, rfl, .ty _, .base (.str z), kit_ty (by decide +kernel), true, rfl, iteT ?_⟩
      refine ⟨_, rfl, _, _, _, _, true, rfl, .ty _, .base (.str z), kit_ty (by decide +kernel), true, rfl, iteT ?_⟩
      refine ⟨_, rfl, _, rfl, rfl, ?_⟩
      rw [decide_eq_true rfl]
      exact k H (Same.refl _)
    | lst e1 e2 l l2 r =>
      refine ⟨_, rfl, rfl, _, rfl, iteF (go_next ?_)⟩
      refine ⟨_, rfl, _, _, _, _, false, rfl, .ty _, .base (.lst e2), kit_ty (by decide +kernel), false, rfl, iteF (go_next ?_)⟩
      refine ⟨_, rfl, _, _, _, _, false, rfl, .ty _, .base (.lst e2), kit_ty (by decide +kernel), false, rfl, iteF (go_next ?_)⟩
      refine ⟨_, rfl, _, _, _, _, false, rfl, .ty _, .base (.lst e2), kit_ty (by decide +kernel), false, rfl, iteF (go_next ?_)⟩
      refine ⟨_, rfl, _, _, _, _, true, rfl, .ty _, .base (.lst e2), kit_ty (by decide +kernel), _, rfl, _, _, _, _, true, rfl, .ty _, .base (.lst e1), kit_ty (by decide +kernel), rfl, ?_⟩
      refine ⟨_, rfl, iteF ?_⟩
      refine ⟨_, rfl, _, _, _, _, false, rfl, .ty _, .base (.lst e2), kit_ty (by decide +kernel), _, rfl, _, _, _, _, false, rfl, .ty _, .base (.lst e1), kit_ty (by decide +kernel), rfl, ?_⟩
      refine ⟨_, rfl, iteF (go_next ?_)⟩
      rename_i a b xs ys
      refine ⟨_, rfl, .ref a, _, rfl, .inl ⟨_, SqL.of e1, rfl⟩, _, rfl, .ref b, _, rfl, .inl ⟨_, SqL.of e2, rfl⟩, rfl, ?_⟩
      rw [l, decide_eq_true rfl]
      refine ⟨_, rfl, iteT ?_⟩
      refine ⟨_, rfl, .ref b, _, rfl, .inl ⟨_, SqL.of e2, rfl⟩, _, rfl, by omega, by omega, fun D hD => ?_⟩
      rw [Int.toNat_natCast]
      refine lc_vals (lo := 0) (fun _ => .bl true) hD l2 (fun _ => rfl) (fun i H2 Kt hi s2 h => ?_) (fun H2 s2 eD => ?_)
      · rw [Int.zero_add]
        have hx : xs[i]? = some xs[i] := List.getElem?_eq_getElem (by omega)
        have hy : ys[i]? = some ys[i] := List.getElem?_eq_getElem hi
        refine ⟨_, rfl, _, rfl, .inl ⟨a, xs, _, xs[i], rfl, rfl, SqL.of (s2 _ _ e1), at_of (j := i) rfl hx, _, rfl, _, rfl, .inl ⟨b, ys, _, ys[i], rfl, rfl, SqL.of (s2 _ _ e2), at_of (j := i) rfl hy, ?_⟩⟩⟩
        exact ⟨_, _, rfl, (r i _ _ hx hy).same s2, fun H4 s4 => h H4 s4⟩
      · refine ⟨D, (List.range ys.length).map fun _ => true, rfl, SqL.of (by rw [eD, List.map_map]; rfl), ?_⟩
        rw [List.all_map, show (List.range ys.length).all (id ∘ fun (_ : Nat) => true) = true from List.all_eq_true.mpr fun _ _ => rfl]
        exact k H2 s2
    | tup e1 e2 l l2 r =>
      refine ⟨_, rfl, rfl, _, rfl, iteF (go_next ?_)⟩
      refine ⟨_, rfl, _, _, _, _, false, rfl, .ty _, .base (.tup e2), kit_ty (by decide +kernel), false, rfl, iteF (go_next ?_)⟩
      refine ⟨_, rfl, _, _, _, _, false, rfl, .ty _, .base (.tup e2), kit_ty (by decide +kernel), false, rfl, iteF (go_next ?_)⟩
      refine ⟨_, rfl, _, _, _, _, false, rfl, .ty _, .base (.tup e2), kit_ty (by decide +kernel), false, rfl, iteF (go_next ?_)⟩
      refine ⟨_, rfl, _, _, _, _, false, rfl, .ty _, .base (.tup e2), kit_ty (by decide +kernel), _, rfl, _, _, _, _, false, rfl, .ty _, .base (.tup e1), kit_ty (by decide +kernel), rfl, ?_⟩
      refine ⟨_, rfl, iteF ?_⟩
      refine ⟨_, rfl, _, _, _, _, true, rfl, .ty _, .base (.tup e2), kit_ty (by decide +kernel), _, rfl, _, _, _, _, true, rfl, .ty _, .base (.tup e1), kit_ty (by decide +kernel), rfl, ?_⟩
      refine ⟨_, rfl, iteF (go_next ?_)⟩
      rename_i a b xs ys
      refine ⟨_, rfl, .ref a, _, rfl, .inr ⟨_, SqT.of e1, rfl⟩, _, rfl, .ref b, _, rfl, .inr ⟨_, SqT.of e2, rfl⟩, rfl, ?_⟩
      rw [l, decide_eq_true rfl]
      refine ⟨_, rfl, iteT ?_⟩
      refine ⟨_, rfl, .ref b, _, rfl, .inr ⟨_, SqT.of e2, rfl⟩, _, rfl, by omega, by omega, fun D hD => ?_⟩
      rw [Int.toNat_natCast]
      refine lc_vals (lo := 0) (fun _ => .bl true) hD l2 (fun _ => rfl) (fun i H2 Kt hi s2 h => ?_) (fun H2 s2 eD => ?_)
      · rw [Int.zero_add]
        have hx : xs[i]? = some xs[i] := List.getElem?_eq_getElem (by omega)
        have hy : ys[i]? = some ys[i] := List.getElem?_eq_getElem hi
        refine ⟨_, rfl, _, rfl, .inr (.inl ⟨a, xs, _, xs[i], rfl, rfl, SqT.of (s2 _ _ e1), at_of (j := i) rfl hx, _, rfl, _, rfl, .inr (.inl ⟨b, ys, _, ys[i], rfl, rfl, SqT.of (s2 _ _ e2), at_of (j := i) rfl hy, ?_⟩)⟩)⟩
        exact ⟨_, _, rfl, (r i _ _ hx hy).same s2, fun H4 s4 => h H4 s4⟩
      · refine ⟨D, (List.range ys.length).map fun _ => true, rfl, SqL.of (by rw [eD, List.map_map]; rfl), ?_⟩
        rw [List.all_map, show (List.range ys.length).all (id ∘ fun (_ : Nat) => true) = true from List.all_eq_true.mpr fun _ _ => rfl]
        exact k H2 s2
end
end
section
variable {P : Program} {w : World} {K : PySem.W.Frag} {mg : Str → Option Value} {base : Heap} {ad : Ad}
theorem same_cal {f : Addr} {fd : FuncData} (F : Fun K "_law_same" "_law_same" s_law_same f fd) (T : Txt K mg ad) (hm : mg "_law_same" = some (.ref f)) (b : Binds K fd ["found", "value"] []) (ci : CalX P w K mg base 1 "_law_is_int" (spK0 intK)) : ∀ n : Nat, CalX P w K mg base (n + 5) "_law_same" (spSame n)
  | 0 => cal_mk (k := 5) ⟨fun _ _ _ _ ⟨_, _, _, h, _⟩ => (nomatch h), fun _ _ _ _ _ _ _ _ _ _ _ _ _ ⟨_, _, _, h, _⟩ => (nomatch h)⟩ hm F.kp b
  | n + 1 => cal_mk (ok_law_same (n := n) (lv := n + 5) ci (same_cal F T hm b ci n) (by omega) F T) hm F.kp b
end
/-! ### polynomials are the same -/
theorem dd_q {H : Hp} {q : Nat × Nat} {x y : V} (hx : Ky H (kQ q) x) (hy : Ky H (kQ q) y) : Dd H 2 x y := by
  obtain ⟨a, x1, x2, rfl, e1, k1, k2⟩ := ky_pair hx
  obtain ⟨b, y1, y2, rfl, e2, l1, l2⟩ := ky_pair hy
  rw [ky_num k1, ky_num k2] at e1
  rw [ky_num l1, ky_num l2] at e2
  exact .tup e1 e2 rfl (show 2 ≤ 100000 by decide) fun i u v hu hv => by
    rcases i with _ | _ | i
    · cases hu; cases hv; exact .int _
    · cases hu; cases hv; exact .int _
    · simp at hu
theorem dd_m {H : Hp} {m : Mono} {x y : V} (hx : Ky H (kM m) x) (hy : Ky H (kM m) y) (hl : m.length ≤ 1000) : Dd H 3 x y := by
  obtain ⟨a, xs, rfl, e1, k1⟩ := ky_tup hx
  obtain ⟨b, ys, rfl, e2, k2⟩ := ky_tup hy
  have l1 := kys_len k1
  have l2 := kys_len k2
  rw [List.length_map] at l1 l2
  refine .tup e1 e2 (by omega) (by omega) fun i u v hu hv => ?_
  have hi : i < m.length := by rw [l1]; exact (List.getElem?_eq_some_iff.mp hu).1
  have hm : (m.map kQ)[i]? = some (kQ m[i]) := by rw [List.getElem?_map, List.getElem?_eq_getElem hi]; rfl
  exact dd_q (kys_at k1 i hm hu) (kys_at k2 i hm hv)
theorem dd_p {H : Hp} {p : Terms} {x y : V} (hx : Ky H (kP p) x) (hy : Ky H (kP p) y) (hl : p.length ≤ 1000) (hm : ∀ t ∈ p, t.1.length ≤ 1000) : Dd H 5 x y := by
  obtain ⟨a, xs, rfl, e1, k1⟩ := ky_tup hx
  obtain ⟨b, ys, rfl, e2, k2⟩ := ky_tup hy
  have l1 := kys_len k1
  have l2 := kys_len k2
  rw [List.length_map] at l1 l2
  refine .tup e1 e2 (by omega) (by omega) fun i u v hu hv => ?_
  have hi : i < p.length := by rw [l1]; exact (List.getElem?_eq_some_iff.mp hu).1
  have hk : (p.map kT)[i]? = some (kT p[i]) := by rw [List.getElem?_map, List.getElem?_eq_getElem hi]; rfl
  obtain ⟨c, u1, u2, rfl, e3, k3, k4⟩ := ky_pair (kys_at k1 i hk hu)
  obtain ⟨d, v1, v2, rfl, e4, k5, k6⟩ := ky_pair (kys_at k2 i hk hv)
  rw [ky_num k4] at e3
  rw [ky_num k6] at e4
  exact .tup e3 e4 rfl (show 2 ≤ 100000 by decide) fun j u v hu hv => by
    rcases j with _ | _ | j
    · cases hu; cases hv; exact dd_m k3 k5 (hm _ (List.getElem_mem hi))
    · cases hu; cases hv; exact .int _
    · simp at hu
section
variable {P : Program} {w : World} {K : PySem.W.Frag} {mg : Str → Option Value} {base : Heap} {ad : Ad}
def spLStar (C : Addr) : Sp := fun vs H Q _ => ∃ s dx x a, vs = [.ref s, x] ∧ H s = some (.ins C dx []) ∧ Ky H (kP a) x ∧ (a = [] → ∀ H' t, Same H H' → H t = none → Ky H' (kP [([], 1)]) (.ref t) → Q (.ref t) H') ∧ (a ≠ [] → ∀ H', Same H H' → Q (.bl true) H')
theorem ok_law_star (m_star : MetX P w K mg base 2 ad.Polynomials "star" (spStarP ad.Polynomials ad.NoStar)) {f : Addr} {fd : FuncData} (F : Fun K "_law_star" "_law_star" s_law_star f fd) (T : Txt K mg ad) : FnOk P w K mg base (L2.CX P w) 7 f fd ["ring", "a"] (spLStar ad.Polynomials) := by
  refine F.okX sc_law_star (fun vs H Q E => ?_) (fun cdv A outer s H vs Q E hr h => ?_)
  · walk_at "len"
  ·
    obtain ⟨p, dx, x, a, rfl, hp, hx, k1, k2⟩ := h
    refine ⟨_, (pss_one (ps_tryD (i := 2) rfl rfl sc_law_star.nd rfl rfl ⟨rfl, by decide, .inl T.g_WorthError⟩ (takes_of rfl rfl rfl rfl))), ?_⟩
    intro pn1 xe1 tk1 po1
    refine ⟨_, (pss_one (ps_ret (pd_meth hr tk1 (pv 0) (pa_cons (pv 1) pa_nil)))), ?_⟩
    refine ⟨_, rfl, p, _, dx, _, 2, _, rfl, hp, rfl, by decide, m_star, _, rfl, p, dx, x, a, rfl, hp, hx, k1, fun hs H2 s2 => ?_⟩
    refine ⟨true, T.em_NoStar, fun _ a ha => ?_, fun q => Bool.noConfusion q⟩
    intro oe pn hz hf
    refine ⟨_, (pss_one (ps_ret (pe_callB (call_isED hz hf) (by rfl) T.z_isinstance (by decide +kernel) (pa_cons (pv 2) (pa_cons (pe_gcls (by rfl) T.g_NoStar) pa_nil))))), ?_⟩
    exact ⟨_, rfl, _, rfl, rfl, T.ec_NoStar, _, _, true, rfl, fun u hu => hu, T.ki_NoStar, k2 hs H2 s2⟩
theorem kpe_nget {X : Cx} {P : Program} {w : World} {o i : Expr} {pos : Pos} {td ty : TE} (hu : X.A.units + 9 < cLine) (ho : PE X o td) (hi : PE X i ty) (hs : NoSl i) (hP : X.prog = P := by rfl) (hw : X.w = w := by rfl) : PE X (.Subscript o i pos) (ND.tNGet P w td ty) := hP ▸ hw ▸ ND.pe_nget hu ho hi hs
theorem ok_law_packed  {f : Addr} {fd : FuncData} (F : Fun K "_law_packed" "_law_packed" s_law_packed f fd) (T : Txt K mg ad) : FnOk P w K mg base (L2.CX P w) 1 f fd ["table"] (spPolyOf P w) := by
  refine F.okX sc_law_packed (fun vs H Q E => ?_) (fun cdv A outer s H vs Q E hr h => ?_)
  · walk_at "len"
  ·
    obtain ⟨d, L, rfl, pd, hl, k⟩ := h
    refine ⟨_, (pss_one (ps_ret (pe_callTy call_tuple_of (by rfl) T.z_tuple (by decide +kernel) (pa_cons (pe_lc (own := [("monomial", 1)]) (tt := tYes) rfl sc_law_packed.nd (pi_list (pe_callB (cr_sortKeys rfl hr.units) (by rfl) T.z_sorted (by decide +kernel) (pa_cons (pv 0) pa_nil))) (blkOk_by (by kernel_rfl)) (fun _ _ _ _ _ => (pg_name (i := 1) sc_law_packed.nd rfl (by first | exact Or.inl rfl | exact Or.inr rfl))) (fun _ _ _ _ _ => pts_nil) (fun _ _ _ _ _ => (pe_tup (pa_cons (pv 1) (pa_cons (kpe_nget (P := P) (w := w) (ND.hu9 hr) (pv 0) (pv 1) (fun _ _ => rfl)) pa_nil))))) pa_nil)))), ?_⟩
    refine ⟨_, rfl, ?_⟩
    refine go_nil ?_
    refine pd_keys pd fun H2 l xs ms s2 l0 el ks so me mc len => ?_
    refine ⟨l, rfl, ⟨_, SqL.of el⟩, fun D hD => ?_⟩
    have lx := kys_len ks
    rw [List.length_map] at lx
    refine DC2.walk_l (K := K) (xs := xs) (fun i H' => Same H2 H' ∧ ∃ zs, H' D = some (.lst zs) ∧ Kys H' ((ms.take i).map fun m => kT (m, coef L m)) zs) ⟨same_new (Same.refl _) hD, [], upd_same, .nil⟩ (fun i H' _ ⟨s', _⟩ => SqL.of (s' _ _ el)) (fun i z H3 hz ⟨s3, zs, e3, k3⟩ => ?_) (fun H3 ⟨s3, zs, e3, k3⟩ => ?_)
    · have hi : i < ms.length := by rw [lx]; exact (List.getElem?_eq_some_iff.mp hz).1
      have hm : ms[i]? = some ms[i] := List.getElem?_eq_getElem hi
      have kz := kys_at ks i (k := kM ms[i]) (by rw [List.getElem?_map, hm]; rfl) hz
      have mm := (me _).mp (List.getElem_mem hi)
      generalize ms[i] = m at hm kz mm
      obtain ⟨b, rfl⟩ := ky_ref kz
      have pd3 : PD P w H3 d L := pd.keeps (fun u h => s3 _ _ (s2 _ _ h)) fun b ys h => s3 _ _ (s2 _ _ h)
      obtain ⟨kvs, at_, n1, n2, n3, n4⟩ := pd3.ex_
      have dk : (kM m).depth ≤ 8 := by have := dep_kM m; omega
      have hv := n4 m
      rw [if_neg mm] at hv
      have kz3 := Ky.sm s3 kz
      refine ⟨rfl, yes_then (iteT ⟨_, rfl, _, rfl, _, rfl, d, _, rfl, ⟨kvs, kM m, b, at_.rd, rfl, kz3, dk, hv.symm⟩, (show 2 ≤ sizeLine by decide), fun t ht => ?_⟩)⟩
      have s4 := same_new (o := .tup [.ref b, .int (coef L m : Nat)]) (Same.refl H3) ht
      have kl := kys_len k3
      rw [List.length_map, List.length_take] at kl
      refine ⟨zs, s4 _ _ e3, ?_, same_but hD (fun b o z => s4 _ _ (s3 _ _ z)) but_app, zs ++ [.ref t], upd_same, ?_⟩
      · rw [← kl]
        exact Nat.lt_of_le_of_lt (by omega : _ ≤ 1000) (by decide)
      · rw [List.take_add_one, hm, show (some m).toList = [m] from rfl, List.map_append]
        have keep : ∀ c ys, H3 c = some (.tup ys) → (upd (upd H3 t (.tup [.ref b, .int (coef L m : Nat)])) D (.lst (zs ++ [.ref t]))) c = some (.tup ys) := fun c ys e => by
          rw [upd_ne (ne_of e e3 (fun z => nomatch z)), upd_ne (ne_of_none e ht)]; exact e
        refine kys_app (k3.keeps keep) (.cons (.tup (by rw [upd_ne (ne_of_none e3 ht).symm]; exact upd_same) (.cons (kz3.keeps keep) (.cons (.int _) .nil))) .nil)
    · rw [← lx, List.take_length] at k3
      refine ⟨D, _, rfl, .inl ⟨SqL.of e3, fun t ht => ?_⟩⟩
      have s5 := same_new (o := .tup zs) (Same.refl H3) ht
      have em : (ms.map fun m => kT (m, coef L m)) = (ms.map fun m => (m, coef L m)).map kT := by rw [List.map_map]; rfl
      rw [em] at k3
      have s03 : Same H H3 := fun c o z => s3 _ _ (s2 _ _ z)
      refine k _ t (ms.map fun m => (m, coef L m)) (fun c o z => s5 _ _ (s03 _ _ z)) (none_of s03 ht) (.tup upd_same (k3.keeps fun c ys z => s5 _ _ z)) ⟨List.pairwise_map.mpr so, fun x hx => ?_, fun x hx => ?_⟩ (fun n => ?_) (by rw [List.length_map]; exact len)
      · obtain ⟨m, hm, rfl⟩ := List.mem_map.mp hx
        exact mc m hm
      · obtain ⟨m, hm, rfl⟩ := List.mem_map.mp hx
        have := (me m).mp hm
        show 1 ≤ coef L m
        omega
      · by_cases c : coef L n = 0
        · rw [c]
          refine coef_none fun x hx e => ?_
          obtain ⟨m, hm, rfl⟩ := List.mem_map.mp hx
          have e : m = n := e
          subst e
          exact (me m).mp hm c
        · have hn := (me n).mpr c
          have nd : ((ms.map fun m => (m, coef L m)).map (·.1)).Nodup := by
            rw [List.map_map]
            refine List.pairwise_map.mpr (so.imp fun {a b} h e => ?_)
            have e : a = b := e
            subst e
            exact mlt_as a a h h
          exact coef_at nd (List.mem_map.mpr ⟨n, hn, rfl⟩)
end
end K04

set_option Elab.async false
set_option linter.all false
set_option maxRecDepth 100000
set_option maxHeartbeats 4000000
namespace K04
open PySem L2 Ew Tb GxR ND PM NI PK
local macro_rules | `(tactic| walk_at "len") => `(tactic| first | (intro h; obtain ⟨_, e, _⟩ := h; rw [e]; rfl) | (intro h; obtain ⟨_, _, e, _⟩ := h; rw [e]; rfl) | (intro h; obtain ⟨_, _, _, e, _⟩ := h; rw [e]; rfl) | (intro h; obtain ⟨_, _, _, _, e, _⟩ := h; rw [e]; rfl) | (intro h; obtain ⟨_, _, _, _, _, e, _⟩ := h; rw [e]; rfl) | (intro h; obtain ⟨_, _, _, _, _, _, e, _⟩ := h; rw [e]; rfl) | (intro h; obtain ⟨_, _, _, _, _, _, _, e, _⟩ := h; rw [e]; rfl) | (intro h; exact h.elim))
section
variable {P : Program} {w : World} {K : PySem.W.Frag} {mg : Str → Option Value} {base : Heap} {ad : Ad}
def spLBin (f : Terms → Terms → Terms) : Sp := fun vs H Q _ => ∃ (x y : V) (a b : Terms), vs = [x, y] ∧ Ky H (kP a) x ∧ Ky H (kP b) y ∧ PC a ∧ PC b ∧ tot a < 2 ^ 60 ∧ a.length ≤ 400 ∧ b.length ≤ 400 ∧ (f a b).length ≤ 400 ∧ (∀ t ∈ a, t.1.length ≤ 30) ∧ (∀ t ∈ b, t.1.length ≤ 30) ∧
  ∀ H' t p, Same H H' → H t = none → Ky H' (kP p) (.ref t) → PC p → (∀ m, coef p m = coef (f a b) m) → p.length ≤ (f a b).length → Q (.ref t) H'
theorem ok_law_sum (c_law_packed : CalX P w K mg base 1 "_law_packed" (spPolyOf P w)) {f : Addr} {fd : FuncData} (F : Fun K "_law_sum" "_law_sum" s_law_sum f fd) (T : Txt K mg ad) : FnOk P w K mg base (L2.CX P w) 2 f fd ["one", "other"] (spLBin (fun a b => a ++ b)) := by
  refine F.okX sc_law_sum (fun vs H Q E => ?_) (fun cdv A outer s H vs Q E hr h => ?_)
  · walk_at "len"
  ·
    obtain ⟨x, y, a, b, rfl, hx, hy, ca, cb, ta, la, lb, lf, _, _, k⟩ := h
    rw [List.length_append] at lf
    refine ⟨_, (pss_cons (ps_set (i := 2) sc_law_sum.nd rfl (by first | exact Or.inl rfl | exact Or.inr rfl) ND.pe_nnew)
      (pss_cons (ps_for (passes_of rfl) rfl (pi_list (pe_op op_cat (pe_callTy call_list_of (by rfl) T.z_list (by decide +kernel) (pa_cons (pv 0) pa_nil)) (pe_callTy call_list_of (by rfl) T.z_list (by decide +kernel) (pa_cons (pv 1) pa_nil)))) (pg_name (i := 3) sc_law_sum.nd rfl (by first | exact Or.inl rfl | exact Or.inr rfl)) (pss_one (ND.ps_nput (ND.hu9 hr) (pv 2) (pe_ix ix_tup (pv 3) pe_int (fun _ _ => rfl)) (pe_op op_add (ND.pe_nget2 (ND.hu9 hr) (pv 2) (pe_ix ix_tup (pv 3) pe_int (fun _ _ => rfl)) pe_int ⟨rfl, rfl, rfl, rfl⟩) (pe_ix ix_tup (pv 3) pe_int (fun _ _ => rfl))) rfl)))
      (pss_one (ps_ret (pc_call c_law_packed hr (by first | decide | omega) (takes_of rfl rfl rfl rfl) (by rfl) (pa_cons (pv 2) pa_nil)))))), ?_⟩
    obtain ⟨pa, xs, rfl, ea, ka⟩ := ky_tup hx
    obtain ⟨pb, ys, rfl, eb, kb⟩ := ky_tup hy
    have la' : xs.length = a.length := by rw [← kys_len ka, List.length_map]
    have lb' : ys.length = b.length := by rw [← kys_len kb, List.length_map]
    refine go_seq fun d φ hd at_ => go_name rfl ?_
    have s1 : Same H (upd H d (.ext φ)) := same_new (Same.refl _) hd
    have pd1 := PD.nil at_
    generalize upd H d (.ext φ) = H1 at s1 pd1
    refine go_sq ?_
    refine ⟨_, rfl, pa, _, rfl, .inr (SqT.of (s1 _ _ ea)), fun q1 h1 => ⟨_, rfl, pb, _, rfl, .inr (SqT.of (same_new (Same.refl _) h1 _ _ (s1 _ _ eb))), fun q2 h2 => ?_⟩⟩
    have s2 := same_new (o := .lst xs) (Same.refl H1) h1
    have s3 := same_new (o := .lst ys) (Same.refl _) h2
    refine ⟨q1, q2, _, _, rfl, rfl, s3 _ _ upd_same, upd_same, ?_, fun q3 h3 => ?_⟩
    · rw [la', lb']
      exact Nat.le_trans (by omega : _ ≤ 1000) (by decide)
    have s4 := same_new (o := .lst (xs ++ ys)) (Same.refl _) h3
    have e2 : (upd (upd (upd H1 q1 (.lst xs)) q2 (.lst ys)) q3 (.lst (xs ++ ys))) q3 = some (.lst (xs ++ ys)) := upd_same
    have s14 : Same H1 (upd (upd (upd H1 q1 (.lst xs)) q2 (.lst ys)) q3 (.lst (xs ++ ys))) := fun c o z => s4 _ _ (s3 _ _ (s2 _ _ z))
    generalize upd (upd (upd H1 q1 (.lst xs)) q2 (.lst ys)) q3 (.lst (xs ++ ys)) = H2 at s14 e2
    have s12 : Same H H2 := fun c o z => s14 _ _ (s1 _ _ z)
    have nd : ∀ {c u}, H c = some u → c ≠ d := fun e => ne_of_none e hd
    have kk : Kys H2 ((a ++ b).map kT) (xs ++ ys) := by
      rw [List.map_append]
      exact kys_app (ka.keeps fun c z h => s12 _ _ h) (kb.keeps fun c z h => s12 _ _ h)
    have nq : ∀ {c xs}, H2 c = some (.lst xs) → c ≠ d := fun {c xs} e z => by
      subst z
      obtain ⟨kvs, at1, _⟩ := pd1.ex_
      obtain ⟨φ', e'⟩ := at1.ext
      rw [s14 _ _ e'] at e
      cases e
    have nqt : ∀ {c xs}, H2 c = some (.tup xs) → c ≠ d := fun {c xs} e z => by
      subst z
      obtain ⟨kvs, at1, _⟩ := pd1.ex_
      obtain ⟨φ', e'⟩ := at1.ext
      rw [s14 _ _ e'] at e
      cases e
    refine ⟨q3, rfl, ⟨_, SqL.of e2⟩, ?_⟩
    refine for_list (K := K) (a := q3) (xs := xs ++ ys) (fun i σ H' => ∃ v3, σ = [some (.ref pa), some (.ref pb), some (.ref d), v3] ∧ (∀ b o, b ≠ d → H2 b = some o → H' b = some o) ∧ PD P w H' d ((a ++ b).take i))
      ⟨none, rfl, fun _ _ _ e => e, pd1.keeps (fun u h => s14 _ _ h) fun b ys h => s14 _ _ h⟩ (fun i σ H' _ ⟨_, _, f', _⟩ => SqL.of (f' _ _ (nq e2) e2)) ?_ ?_
    · rintro i z σ H3 hz ⟨v3, rfl, f3, pd3⟩
      obtain ⟨m, c, q4, u, ht, rfl, e3, ku⟩ := kt_at kk hz
      have tm := List.mem_of_getElem? ht
      have cm : MCan m ∧ 1 ≤ c := (List.mem_append.mp tm).elim (fun h => ⟨ca.mc _ h, ca.pos _ h⟩) fun h => ⟨cb.mc _ h, cb.pos _ h⟩
      have hi : i < a.length + b.length := by have := (List.getElem?_eq_some_iff.mp ht).1; rw [List.length_append] at this; exact this
      obtain ⟨b', rfl⟩ := ky_ref ku
      have e4 := f3 _ _ (nqt e3) e3
      have kz3 : Ky H3 (kM m) (.ref b') := ku.keeps fun b ys h => f3 _ _ (nqt h) h
      obtain ⟨kvs, at3, n1, n2, n3, n4⟩ := pd3.ex_
      have dk : (kM m).depth ≤ 8 := by have := dep_kM m; omega
      have hget : (valV kvs (kM m)).getD (.int 0) = .int ((coef ((a ++ b).take i) m : Nat) : Int) := by
        rw [n4 m]
        split
        · rename_i c; rw [c]; rfl
        · rfl
      refine go_name rfl ?_
      refine ⟨_, rfl, d, kvs, rfl, at3.rd, _, rfl, q4, _, _, .ref b', rfl, rfl, SqT.of e4, at_of (j := 0) rfl rfl, _, ⟨kvs, kM m, b', at3.rd, rfl, kz3, dk, rfl⟩, ?_⟩
      refine ⟨_, rfl, q4, _, _, .int (c : Int), rfl, rfl, SqT.of e4, at_of (j := 1) rfl rfl, _, _, hget, rfl, _, rfl, _, rfl, q4, _, _, .ref b', rfl, rfl, SqT.of e4, at_of (j := 0) rfl rfl, d, rfl, kvs, kM m, b', at3, rfl, kz3, dk, ?_, fun φ2 hφ2 => ?_⟩
      · rw [List.length_take, List.length_append] at n2
        exact Nat.lt_of_le_of_lt (by omega : _ ≤ 1000) (by decide)
      · refine go_nx ⟨_, rfl, fun b o nb h => by rw [upd_ne nb]; exact f3 _ _ nb h, ?_⟩
        rw [List.take_add_one, ht, show (some (m, c)).toList = [(m, c)] from rfl]
        exact pd_put cm.2 cm.1 pd3.mc n1 n2 n3 n4 hφ2
    · rintro σ H3 ⟨v3, rfl, f3, pd3⟩
      have el : (xs ++ ys).length = (a ++ b).length := by rw [List.length_append, List.length_append, la', lb']
      rw [el, List.take_length] at pd3
      have s3 : Same H H3 := pair_any hd s12 f3
      refine go_nx (go_ret ?_)
      refine ⟨_, rfl, d, a ++ b, rfl, pd3, by rw [List.length_append]; exact lf, fun H4 t p s4 t0 kp pc hco hlen => k H4 t p (fun c o z => s4 _ _ (s3 _ _ z)) (none_of s3 t0) kp pc hco hlen⟩
end
end K04

set_option Elab.async false
set_option linter.all false
set_option maxRecDepth 100000
set_option maxHeartbeats 4000000
namespace K04
open PySem L2 Ew Tb GxR ND PM NI PK
local macro_rules | `(tactic| walk_at "len") => `(tactic| first | (intro h; obtain ⟨_, e, _⟩ := h; rw [e]; rfl) | (intro h; obtain ⟨_, _, e, _⟩ := h; rw [e]; rfl) | (intro h; obtain ⟨_, _, _, e, _⟩ := h; rw [e]; rfl) | (intro h; obtain ⟨_, _, _, _, e, _⟩ := h; rw [e]; rfl) | (intro h; obtain ⟨_, _, _, _, _, e, _⟩ := h; rw [e]; rfl) | (intro h; obtain ⟨_, _, _, _, _, _, e, _⟩ := h; rw [e]; rfl) | (intro h; obtain ⟨_, _, _, _, _, _, _, e, _⟩ := h; rw [e]; rfl) | (intro h; exact h.elim))
section
variable {P : Program} {w : World} {K : PySem.W.Frag} {mg : Str → Option Value} {base : Heap} {ad : Ad}
theorem ed_ks {L : List (Nat × Nat)} {kvs : List (L2.Key × V)} (n1 : (kvs.map (·.1)).Nodup) (n3 : ∀ kv ∈ kvs, ∃ f : Nat, kv.1 = .inl (f : Int)) (n4 : ∀ f : Nat, valV kvs (.inl (f : Int)) = if ex L f = 0 then none else some (.int (ex L f : Nat))) :
    ∃ ks : List Int, kvs.map (·.1) = ks.map Sum.inl ∧ ks.length = kvs.length ∧ ∀ ys : List Int, ys.Perm ks → ys.Pairwise (· ≤ ·) → ∃ fs : List Nat, ys = fs.map (fun (n : Nat) => (n : Int)) ∧ MCan (fs.map fun f => (f, ex L f)) ∧ (∀ f, ex (fs.map fun f => (f, ex L f)) f = ex L f) ∧ ∀ f ∈ fs, ex L f ≠ 0 := by
  have e1 : kvs.map (·.1) = (kvs.map fun kv => ((PK.natK kv.1 : Nat) : Int)).map Sum.inl := by
    rw [List.map_map]
    refine List.map_congr_left fun kv hk => ?_
    obtain ⟨f, e⟩ := n3 kv hk
    show kv.1 = Sum.inl ((PK.natK kv.1 : Nat) : Int)
    rw [e]
    rfl
  refine ⟨kvs.map fun kv => ((PK.natK kv.1 : Nat) : Int), e1, by rw [List.length_map], fun ys hp hs => ?_⟩
  have ndk : (kvs.map fun kv => ((PK.natK kv.1 : Nat) : Int)).Nodup := by
    rw [e1] at n1
    exact (List.pairwise_map.mp n1).imp fun {a b} h e => h (congrArg Sum.inl e)
  have mem : ∀ f : Nat, (f : Int) ∈ ys ↔ ex L f ≠ 0 := fun f => by
    rw [hp.mem_iff]
    constructor
    · intro h z
      have h2 : (Sum.inl (f : Int) : L2.Key) ∈ kvs.map (·.1) := by rw [e1]; exact List.mem_map.mpr ⟨_, h, rfl⟩
      have h3 := n4 f
      rw [if_pos z] at h3
      exact val_not h3 h2
    · intro h
      have h3 := n4 f
      rw [if_neg h] at h3
      have h4 := val_mem h3
      exact List.mem_map.mpr ⟨_, h4, rfl⟩
  have nat : ∀ y ∈ ys, ∃ f : Nat, y = (f : Int) := fun y hy => by
    obtain ⟨kv, _, rfl⟩ := List.mem_map.mp (hp.mem_iff.mp hy)
    exact ⟨_, rfl⟩
  have eys : ys = (ys.map Int.toNat).map (fun (n : Nat) => (n : Int)) := by
    rw [List.map_map]
    refine ((List.map_congr_left fun y hy => ?_).trans (List.map_id _)).symm
    obtain ⟨f, rfl⟩ := nat y hy
    show ((f : Int).toNat : Int) = f
    rw [Int.toNat_natCast]
  have memf : ∀ f : Nat, f ∈ ys.map Int.toNat ↔ ex L f ≠ 0 := fun f => by
    rw [← mem f, List.mem_map]
    constructor
    · rintro ⟨y, hy, rfl⟩
      obtain ⟨g, rfl⟩ := nat y hy
      rw [Int.toNat_natCast]; exact hy
    · intro h; exact ⟨_, h, Int.toNat_natCast f⟩
  have asc : (ys.map Int.toNat).Pairwise (· < ·) := by
    refine List.pairwise_map.mpr (List.Pairwise.imp_of_mem (fun {a b} ha hb h => ?_) (List.Pairwise.and hs (hp.nodup_iff.mpr ndk)))
    obtain ⟨g, rfl⟩ := nat a ha
    obtain ⟨g', rfl⟩ := nat b hb
    have := h.1
    have h2 := h.2
    rw [Int.toNat_natCast, Int.toNat_natCast]
    omega
  have nd : (((ys.map Int.toNat).map fun f => (f, ex L f)).map (·.1)).Nodup := by
    rw [List.map_map]
    exact List.pairwise_map.mpr (asc.imp fun {a b} h e => by have e : a = b := e; omega)
  refine ⟨ys.map Int.toNat, eys, ⟨List.pairwise_map.mpr asc, fun x hx => ?_⟩, fun f => ?_, fun f hf => (memf f).mp hf⟩
  · obtain ⟨f, hf, rfl⟩ := List.mem_map.mp hx
    have := (memf f).mp hf
    show 1 ≤ ex L f
    omega
  · by_cases c : ex L f = 0
    · rw [c]
      refine ex_zero fun x hx e => ?_
      obtain ⟨g, hg, rfl⟩ := List.mem_map.mp hx
      have e : g = f := e
      subst e
      exact (memf g).mp hg c
    · exact ex_at nd (List.mem_map.mpr ⟨f, (memf f).mpr c, rfl⟩)
theorem ok_law_product (c_law_packed : CalX P w K mg base 1 "_law_packed" (spPolyOf P w)) {f : Addr} {fd : FuncData} (F : Fun K "_law_product" "_law_product" s_law_product f fd) (T : Txt K mg ad) : FnOk P w K mg base (L2.CX P w) 2 f fd ["one", "other"] (spLBin tmul) := by
  refine F.okX sc_law_product (fun vs H Q E => ?_) (fun cdv A outer s H vs Q E hr h => ?_)
  · walk_at "len"
  ·
    obtain ⟨x, y, a, b, rfl, hx, hy, ca, cb, ta, la, lb, lf, ma, mb, k⟩ := h
    have lf' : a.length * b.length ≤ 400 := by rw [← tmul_len]; exact lf
    refine ⟨_, (pss_cons (ps_set (i := 2) sc_law_product.nd rfl (by first | exact Or.inl rfl | exact Or.inr rfl) ND.pe_nnew)
      (pss_cons (ps_for (passes_of rfl) rfl (pi_tup (pv 0)) (pg_name (i := 3) sc_law_product.nd rfl (by first | exact Or.inl rfl | exact Or.inr rfl)) (pss_one (ps_for (passes_of rfl) rfl (pi_tup (pv 1)) (pg_name (i := 4) sc_law_product.nd rfl (by first | exact Or.inl rfl | exact Or.inr rfl)) (pss_cons (ps_set (i := 5) sc_law_product.nd rfl (by first | exact Or.inl rfl | exact Or.inr rfl) pe_dnewK)
      (pss_cons (ps_for (passes_of rfl) rfl (pi_list (pe_op op_cat (pe_callTy call_list_of (by rfl) T.z_list (by decide +kernel) (pa_cons (pe_ix ix_tup (pv 3) pe_int (fun _ _ => rfl)) pa_nil)) (pe_callTy call_list_of (by rfl) T.z_list (by decide +kernel) (pa_cons (pe_ix ix_tup (pv 4) pe_int (fun _ _ => rfl)) pa_nil)))) (pg_name (i := 6) sc_law_product.nd rfl (by first | exact Or.inl rfl | exact Or.inr rfl)) (pss_one (ps_dput (hu_of hr) (pv 5) (pe_ix ix_tup (pv 6) pe_int (fun _ _ => rfl)) (pe_op op_add (pe_dget2 (hu_of hr) (pv 5) (pe_ix ix_tup (pv 6) pe_int (fun _ _ => rfl)) pe_int ⟨rfl, rfl, rfl, rfl⟩) (pe_ix ix_tup (pv 6) pe_int (fun _ _ => rfl))) rfl)))
      (pss_cons (ps_set (i := 7) sc_law_product.nd rfl (by first | exact Or.inl rfl | exact Or.inr rfl) (pe_callTy call_tuple_of (by rfl) T.z_tuple (by decide +kernel) (pa_cons (pe_lc (own := [("fact", 8)]) (tt := tYes) rfl sc_law_product.nd (pi_list (pe_callB (call_sortedDI rfl) (by rfl) T.z_sorted (by decide +kernel) (pa_cons (pv 5) pa_nil))) (blkOk_by (by kernel_rfl)) (fun _ _ _ _ _ => (pg_name (i := 8) sc_law_product.nd rfl (by first | exact Or.inl rfl | exact Or.inr rfl))) (fun _ _ _ _ _ => pts_nil) (fun _ _ _ _ _ => (pe_tup (pa_cons (pv 8) (pa_cons (pe_dget (hu_of hr) (pv 5) (pv 8) (fun _ _ => rfl)) pa_nil))))) pa_nil)))
      (pss_one (ND.ps_nput (ND.hu9 hr) (pv 2) (pv 7) (pe_op op_add (ND.pe_nget2 (ND.hu9 hr) (pv 2) (pv 7) pe_int ⟨rfl, rfl, rfl, rfl⟩) (pe_op op_mul (pe_ix ix_tup (pv 3) pe_int (fun _ _ => rfl)) (pe_ix ix_tup (pv 4) pe_int (fun _ _ => rfl)))) rfl))))))))
      (pss_one (ps_ret (pc_call c_law_packed hr (by first | decide | omega) (takes_of rfl rfl rfl rfl) (by rfl) (pa_cons (pv 2) pa_nil)))))), ?_⟩
    obtain ⟨pa, xs, rfl, ea, ka⟩ := ky_tup hx
    obtain ⟨pb, ys, rfl, eb, kb⟩ := ky_tup hy
    have la' : xs.length = a.length := by rw [← kys_len ka, List.length_map]
    have lb' : ys.length = b.length := by rw [← kys_len kb, List.length_map]
    refine go_seq fun d φ hd at_ => go_name rfl ?_
    have s1 : Same H (upd H d (.ext φ)) := same_new (Same.refl _) hd
    have pd1 := PD.nil at_
    have nd : ∀ {c u}, H c = some u → c ≠ d := fun e => ne_of_none e hd
    generalize upd H d (.ext φ) = H1 at s1 pd1
    refine go_sq ?_
    refine ⟨_, rfl, pa, rfl, ⟨_, SqT.of (s1 _ _ ea)⟩, ?_⟩
    refine for_tup (K := K) (xs := xs) (fun i σ H' => ∃ v3 v4 v5 v6 v7, σ = [some (.ref pa), some (.ref pb), some (.ref d), v3, v4, v5, v6, v7, none] ∧ Same H H' ∧ PD P w H' d (tmul (a.take i) b)) ⟨none, none, none, none, none, rfl, s1, pd1⟩ (fun i σ H' _ ⟨_, _, _, _, _, _, s', _⟩ => SqT.of (s' _ _ ea)) ?_ ?_
    · rintro i z σ H2 hz ⟨v3, v4, v5, v6, v7, rfl, s2, pd2⟩
      obtain ⟨m, c, q, u, ht, rfl, e2, ku⟩ := kt_at ka hz
      have tmA := List.mem_of_getElem? ht
      have hi := (List.getElem?_eq_some_iff.mp ht).1
      have hc60 : c < 2 ^ 60 := Nat.lt_of_le_of_lt (tot_mem tmA) ta
      refine go_name rfl ?_
      refine ⟨_, rfl, pb, rfl, ⟨_, SqT.of (s2 _ _ eb)⟩, ?_⟩
      refine for_tup (K := K) (xs := ys) (fun j σ H' => ∃ v4 v5 v6 v7, σ = [some (.ref pa), some (.ref pb), some (.ref d), some (.ref q), v4, v5, v6, v7, none] ∧ Same H H' ∧ PD P w H' d (tmul (a.take i) b ++ (b.take j).map fun y => (mmul m y.1, c * y.2))) ⟨v4, v5, v6, v7, rfl, s2, by rw [List.take_zero, List.map_nil, List.append_nil]; exact pd2⟩ (fun j σ H' _ ⟨_, _, _, _, _, s', _⟩ => SqT.of (s' _ _ eb)) ?_ ?_
      · rintro j z σ H3 hz ⟨v4, v5, v6, v7, rfl, s3, pd3⟩
        obtain ⟨n, c', q', u', ht', rfl, e3, ku'⟩ := kt_at kb hz
        have tmB := List.mem_of_getElem? ht'
        have hj := (List.getElem?_eq_some_iff.mp ht').1
        have lm := ma _ tmA
        have ln := mb _ tmB
        obtain ⟨um, ms, rfl, em, km⟩ := ky_tup ku
        obtain ⟨un, ns, rfl, en, kn⟩ := ky_tup ku'
        have lm' : ms.length = m.length := by rw [← kys_len km, List.length_map]
        have ln' : ns.length = n.length := by rw [← kys_len kn, List.length_map]
        refine go_name rfl (go_sq fun E hE => go_name rfl (go_nx (go_sq ?_)))
        have s4 := same_new (o := .dK []) (Same.refl H3) hE
        have ed4 : ED (upd H3 E (.dK [])) E [] := ⟨[], upd_same, List.nodup_nil, Nat.le_refl _, fun _ h => (nomatch h), fun f => rfl⟩
        generalize upd H3 E (.dK []) = H4 at s4 ed4
        have s04 : Same H H4 := fun c o z => s4 _ _ (s3 _ _ z)
        refine ⟨_, rfl, q, _, _, .ref um, rfl, rfl, SqT.of (s04 _ _ e2), at_of (j := 0) rfl rfl, um, _, rfl, .inr (SqT.of (s04 _ _ em)), fun q1 h1 => ?_⟩
        have s5 := same_new (o := .lst ms) (Same.refl H4) h1
        refine ⟨_, rfl, q', _, _, .ref un, rfl, rfl, SqT.of (s5 _ _ (s04 _ _ e3)), at_of (j := 0) rfl rfl, un, _, rfl, .inr (SqT.of (s5 _ _ (s04 _ _ en))), fun q2 h2 => ?_⟩
        have s6 := same_new (o := .lst ns) (Same.refl _) h2
        refine ⟨q1, q2, _, _, rfl, rfl, s6 _ _ upd_same, upd_same, ?_, fun q3 h3 => ?_⟩
        · rw [lm', ln']
          have h1 : m.length ≤ 30 := lm
          have h2 : n.length ≤ 30 := ln
          exact Nat.le_trans (by omega : _ ≤ 1000) (by decide)
        have s7 := same_new (o := .lst (ms ++ ns)) (Same.refl _) h3
        have e5 : (upd (upd (upd H4 q1 (.lst ms)) q2 (.lst ns)) q3 (.lst (ms ++ ns))) q3 = some (.lst (ms ++ ns)) := upd_same
        have s45 : Same H4 (upd (upd (upd H4 q1 (.lst ms)) q2 (.lst ns)) q3 (.lst (ms ++ ns))) := fun c o z => s7 _ _ (s6 _ _ (s5 _ _ z))
        generalize upd (upd (upd H4 q1 (.lst ms)) q2 (.lst ns)) q3 (.lst (ms ++ ns)) = H5 at s45 e5
        have s35 : Same H3 H5 := fun c o z => s45 _ _ (s4 _ _ z)
        have s05 : Same H H5 := fun c o z => s35 _ _ (s3 _ _ z)
        have ed5 : ED H5 E [] := ed4.fr fun o h => s45 _ _ h
        have kk : Kys H5 ((m ++ n).map kQ) (ms ++ ns) := by
          rw [List.map_append]
          exact kys_app (km.keeps fun c z h => s05 _ _ h) (kn.keeps fun c z h => s05 _ _ h)
        have nE : ∀ {c xs}, H5 c = some (.lst xs) → c ≠ E := fun {c xs} e z => by
          subst z
          obtain ⟨kvs, e', _⟩ := ed5.ex_
          rw [e'] at e
          cases e
        have nEt : ∀ {c xs}, H5 c = some (.tup xs) → c ≠ E := fun {c xs} e z => by
          subst z
          obtain ⟨kvs, e', _⟩ := ed5.ex_
          rw [e'] at e
          cases e
        refine ⟨q3, rfl, ⟨_, SqL.of e5⟩, ?_⟩
        refine for_list (K := K) (a := q3) (xs := ms ++ ns) (fun k σ H' => ∃ v6, σ = [some (.ref pa), some (.ref pb), some (.ref d), some (.ref q), some (.ref q'), some (.ref E), v6, v7, none] ∧ (∀ b o, b ≠ E → H5 b = some o → H' b = some o) ∧ ED H' E ((m ++ n).take k))
          ⟨v6, rfl, fun _ _ _ e => e, ed5⟩ (fun k σ H' _ ⟨_, _, f', _⟩ => SqL.of (f' _ _ (nE e5) e5)) ?_ ?_
        · rintro k0 z σ H6 hz ⟨v6, rfl, f6, ed6⟩
          obtain ⟨f, e, q4, hm, rfl, e6⟩ := q_at kk hz
          have pe : 1 ≤ e := (List.mem_append.mp (List.mem_of_getElem? hm)).elim (fun h => (ca.mc _ tmA).pos _ h) fun h => (cb.mc _ tmB).pos _ h
          obtain ⟨kvs, e7, n1, n2, n3, n4⟩ := ed6.ex_
          have e8 := SqT.of (K := K) (f6 _ _ (nEt e6) e6)
          have hget : (valV kvs (.inl (f : Int))).getD (.int 0) = .int ((ex ((m ++ n).take k0) f : Nat) : Int) := by
            rw [n4 f]
            split
            · rename_i c; rw [c]; rfl
            · rfl
          refine go_name rfl ?_
          refine ⟨_, rfl, E, rfl, .inl ⟨kvs, .inl e7⟩, _, rfl, q4, _, _, .int (f : Int), rfl, rfl, e8, at_of (j := 0) rfl rfl, _, DGet.k (k := .inl (f : Int)) e7, ?_⟩
          refine ⟨_, rfl, q4, _, _, .int (e : Int), rfl, rfl, e8, at_of (j := 1) rfl rfl, _, _, hget, rfl, _, rfl, _, rfl, q4, _, _, .int (f : Int), rfl, rfl, e8, at_of (j := 0) rfl rfl, E, _, rfl, DPut.k (k := .inl (f : Int)) e7 ?_, ?_⟩
          · rw [List.length_take, List.length_append] at n2
            have h1 : m.length ≤ 30 := lm
            have h2 : n.length ≤ 30 := ln
            exact Nat.lt_of_le_of_lt (by omega : _ ≤ 2000) (by decide)
          · refine go_nx ⟨_, rfl, fun b o nb h => by rw [upd_ne nb]; exact f6 _ _ nb h, ?_⟩
            rw [List.take_add_one, hm, show (some (f, e)).toList = [(f, e)] from rfl]
            refine ed_put pe n1 n2 n3 n4 ?_
            rw [upd_same]
            rfl
        · rintro σ H6 ⟨v6, rfl, f6, ed6⟩
          have el : (ms ++ ns).length = (m ++ n).length := by rw [List.length_append, List.length_append, lm', ln']
          rw [el, List.take_length] at ed6
          have s36 : Same H3 H6 := fun b o h => f6 _ _ (ne_of_none h hE) (s35 _ _ h)
          have s06 : Same H H6 := fun c o z => s36 _ _ (s3 _ _ z)
          obtain ⟨kvs, e7, n1, n2, n3, n4⟩ := ed6.ex_
          obtain ⟨ks, ek1, ek2, ek3⟩ := ed_ks n1 n3 n4
          rw [List.length_append] at n2
          have h30 : m.length ≤ 30 := lm
          have h30' : n.length ≤ 30 := ln
          refine go_nx (go_sq ?_)
          refine ⟨_, rfl, E, kvs, ks, rfl, .inl e7, ek1, by omega, fun ys' l hp hs hl => ?_⟩
          obtain ⟨fs, rfl, mc, hex, h0⟩ := ek3 ys' hp hs
          have em' : (fs.map fun f => (f, ex (m ++ n) f)) = mmul m n := mono_ext mc (mmul_can (ca.mc _ tmA) (cb.mc _ tmB)) fun f => by rw [hex, ex_app, ex_mmul]
          have fl : fs.length ≤ 60 := by have := hp.length_eq; rw [List.length_map] at this; omega
          have s7 := same_new (o := .lst ((fs.map (fun (n : Nat) => (n : Int))).map V.int)) (Same.refl H6) hl
          have el7 : (upd H6 l (.lst ((fs.map (fun (n : Nat) => (n : Int))).map V.int))) l = _ := upd_same
          generalize upd H6 l (.lst ((fs.map (fun (n : Nat) => (n : Int))).map V.int)) = H7 at s7 el7
          have efs : ((fs.map (fun (n : Nat) => (n : Int))).map V.int) = fs.map fun (n : Nat) => V.int (n : Int) := by rw [List.map_map]; rfl
          rw [efs] at el7
          refine ⟨l, rfl, ⟨_, SqL.of el7⟩, fun D hD => ?_⟩
          refine DC2.walk_l (K := K) (xs := fs.map fun (n : Nat) => V.int (n : Int)) (fun t H' => Same H7 H' ∧ ∃ zs, H' D = some (.lst zs) ∧ Kys H' ((fs.take t).map fun f => kQ (f, ex (m ++ n) f)) zs) ⟨same_new (Same.refl _) hD, [], upd_same, .nil⟩ (fun i H' _ ⟨s', _⟩ => SqL.of (s' _ _ el7)) (fun t z H8 hz ⟨s8, zs, e8, k8⟩ => ?_) (fun H8 ⟨s8, zs, e8, k8⟩ => ?_)
          · rw [List.getElem?_map] at hz
            obtain ⟨f, hf, rfl⟩ := Option.map_eq_some_iff.mp hz
            have fm := h0 f (List.mem_of_getElem? hf)
            have hv := n4 f
            rw [if_neg fm] at hv
            have e9 := s8 _ _ (s7 _ _ e7)
            refine ⟨rfl, yes_then (iteT ⟨_, rfl, _, rfl, _, rfl, E, _, rfl, hv ▸ DGet.k (k := .inl (f : Int)) e9, (show 2 ≤ sizeLine by decide), fun t2 ht2 => ?_⟩)⟩
            have s9 := same_new (o := .tup [.int (f : Int), .int (ex (m ++ n) f : Nat)]) (Same.refl H8) ht2
            have kl := kys_len k8
            rw [List.length_map, List.length_take] at kl
            refine ⟨zs, s9 _ _ e8, ?_, same_but hD (fun b o z => s9 _ _ (s8 _ _ z)) but_app, zs ++ [.ref t2], upd_same, ?_⟩
            · rw [← kl]
              exact Nat.lt_of_le_of_lt (by omega : _ ≤ 1000) (by decide)
            · rw [List.take_add_one, hf, show (some f).toList = [f] from rfl, List.map_append]
              have keep : ∀ c ys, H8 c = some (.tup ys) → (upd (upd H8 t2 (.tup [.int (f : Int), .int (ex (m ++ n) f : Nat)])) D (.lst (zs ++ [.ref t2]))) c = some (.tup ys) := fun c ys e => by
                rw [upd_ne (ne_of e e8 (fun z => nomatch z)), upd_ne (ne_of_none e ht2)]; exact e
              refine kys_app (k8.keeps keep) (.cons (.tup (by rw [upd_ne (ne_of_none e8 ht2).symm]; exact upd_same) (.cons (.int _) (.cons (.int _) .nil))) .nil)
          · rw [List.length_map, List.take_length] at k8
            refine ⟨D, _, rfl, .inl ⟨SqL.of e8, fun t ht => go_name rfl (go_nx ?_)⟩⟩
            have s9 := same_new (o := .tup zs) (Same.refl H8) ht
            have ekm : (fs.map fun f => kQ (f, ex (m ++ n) f)) = (mmul m n).map kQ := by rw [← em', List.map_map]; rfl
            rw [ekm] at k8
            have kt : Ky (upd H8 t (.tup zs)) (kM (mmul m n)) (.ref t) := .tup upd_same (k8.keeps fun c ys z => s9 _ _ z)
            have s39 : Same H3 (upd H8 t (.tup zs)) := fun b o z => s9 _ _ (s8 _ _ (s7 _ _ (s36 _ _ z)))
            generalize upd H8 t (.tup zs) = H9 at kt s39
            have s09 : Same H H9 := fun c o z => s39 _ _ (s3 _ _ z)
            have pd9 := pd3.keeps (fun u h => s39 _ _ h) (fun b ys h => s39 _ _ h)
            have len : (tmul (a.take i) b ++ (b.take j).map fun y => (mmul m y.1, c * y.2)).length < 400 := by
              rw [List.length_append, tmul_len, List.length_map, List.length_take, List.length_take, Nat.min_eq_left (Nat.le_of_lt hi), Nat.min_eq_left (Nat.le_of_lt hj)]
              have h1 : (i + 1) * b.length ≤ a.length * b.length := Nat.mul_le_mul_right _ hi
              rw [Nat.succ_mul] at h1
              omega
            obtain ⟨kvs9, at9, p1, p2, p3, p4⟩ := pd9.ex_
            generalize hL : (tmul (a.take i) b ++ (b.take j).map fun y => (mmul m y.1, c * y.2)) = L at *
            have dk : (kM (mmul m n)).depth ≤ 8 := by have := dep_kM (mmul m n); omega
            have hget : (valV kvs9 (kM (mmul m n))).getD (.int 0) = .int ((coef L (mmul m n) : Nat) : Int) := by
              rw [p4]
              split
              · rename_i c; rw [c]; rfl
              · rfl
            refine ⟨_, rfl, d, kvs9, rfl, at9.rd, _, rfl, _, ⟨kvs9, kM (mmul m n), t, at9.rd, rfl, kt, dk, rfl⟩, ?_⟩
            refine ⟨_, rfl, q, _, _, .int (c : Int), rfl, rfl, SqT.of (s09 _ _ e2), at_of (j := 1) rfl rfl, _, rfl, q', _, _, .int (c' : Int), rfl, rfl, SqT.of (s09 _ _ e3), at_of (j := 1) rfl rfl, _, _, rfl, rfl, .inl ⟨by omega, by omega⟩, _, _, hget, rfl, _, rfl, _, rfl, d, rfl, kvs9, kM (mmul m n), t, at9, rfl, kt, dk, ?_, fun φ2 hφ2 => ?_⟩
            · exact Nat.lt_of_le_of_lt (by omega : _ ≤ 400) (by decide)
            · refine go_nx ⟨_, _, _, _, rfl, fun b o h => by rw [upd_ne (nd h)]; exact s09 _ _ h, ?_⟩
              rw [List.take_add_one, ht', show (some (n, c')).toList = [(n, c')] from rfl, List.map_append, ← List.append_assoc, hL]
              have hφ3 : ND.At P w (upd H9 d (.ext φ2)) d (putK kvs9 (kM (mmul m n)) (.int ((coef L (mmul m n) + c * c' : Nat) : Int))) := by
                rw [Int.natCast_add, Int.natCast_mul]; exact hφ2
              exact pd_put (Nat.mul_le_mul (ca.pos _ tmA) (cb.pos _ tmB)) (mmul_can (ca.mc _ tmA) (cb.mc _ tmB)) pd9.mc p1 p2 p3 p4 hφ3
      · rintro σ H3 ⟨v4, v5, v6, v7, rfl, s3, pd3⟩
        rw [lb', List.take_length] at pd3
        refine go_nx ⟨_, _, _, _, _, rfl, s3, ?_⟩
        rw [List.take_add_one, ht, show (some (m, c)).toList = [(m, c)] from rfl]
        unfold tmul at pd3 ⊢
        rw [List.flatMap_append, List.flatMap_cons, List.flatMap_nil, List.append_nil]
        exact pd3
    · rintro σ H2 ⟨v3, v4, v5, v6, v7, rfl, s2, pd2⟩
      rw [la', List.take_length] at pd2
      refine go_nx (go_ret ?_)
      exact ⟨_, rfl, d, tmul a b, rfl, pd2, lf, fun H4 t p s4 t0 kp pc hco hlen => k H4 t p (fun c o z => s4 _ _ (s2 _ _ z)) (none_of s2 t0) kp pc hco hlen⟩
end
end K04

set_option Elab.async false
set_option linter.all false
set_option maxRecDepth 100000
set_option maxHeartbeats 4000000
namespace K04
open PySem L2 Ew Tb GxR ND PM NI PK
local macro_rules | `(tactic| walk_at "len") => `(tactic| first | (intro h; obtain ⟨_, e, _⟩ := h; rw [e]; rfl) | (intro h; obtain ⟨_, _, e, _⟩ := h; rw [e]; rfl) | (intro h; obtain ⟨_, _, _, e, _⟩ := h; rw [e]; rfl) | (intro h; obtain ⟨_, _, _, _, e, _⟩ := h; rw [e]; rfl) | (intro h; obtain ⟨_, _, _, _, _, e, _⟩ := h; rw [e]; rfl) | (intro h; obtain ⟨_, _, _, _, _, _, e, _⟩ := h; rw [e]; rfl) | (intro h; obtain ⟨_, _, _, _, _, _, _, e, _⟩ := h; rw [e]; rfl) | (intro h; exact h.elim))
section
variable {P : Program} {w : World} {K : PySem.W.Frag} {mg : Str → Option Value} {base : Heap} {ad : Ad}
/-- a monomial's terms count no more -/
def zr (m : Mono) (L : Terms) : Terms := L.map fun x => if x.1 = m then (m, 0) else x
theorem coef_zr (m n : Mono) : ∀ L : Terms, coef (zr m L) n = if n = m then 0 else coef L n
  | [] => by show 0 = _; split <;> rfl
  | (a, c) :: L => by
    show coef ((if a = m then (m, 0) else (a, c)) :: zr m L) n = _
    have ih := coef_zr m n L
    by_cases h : a = m
    · subst h
      rw [if_pos rfl, coef, ih]
      by_cases h2 : n = a
      · subst h2; rw [if_pos rfl, if_pos rfl, if_pos rfl]
      · rw [if_neg h2, if_neg (fun z => h2 z.symm), if_neg h2, coef, if_neg (fun z => h2 z.symm)]
    · rw [if_neg h, coef, ih, coef]
      by_cases h2 : n = m
      · subst h2; rw [if_pos rfl, if_pos rfl, if_neg h]
      · rw [if_neg h2, if_neg h2]
theorem pd_set {H' : Hp} {d : Addr} {L : Terms} {kvs : List (NestedKey × V)} {m : Mono} {c : Nat} (hc : 1 ≤ c) (hm : MCan m) (hL : ∀ x ∈ L, MCan x.1) (n1 : (kvs.map (·.1)).Nodup) (n2 : kvs.length ≤ L.length) (n3 : ∀ kv ∈ kvs, ∃ m : Mono, MCan m ∧ kv.1 = kM m)
    (n4 : ∀ m : Mono, valV kvs (kM m) = if coef L m = 0 then none else some (.int (coef L m : Nat))) (hd : ND.At P w H' d (putK kvs (kM m) (.int (c : Int)))) : PD P w H' d (zr m L ++ [(m, c)]) := by
  refine ⟨⟨_, hd, nd_keys n1, ?_, fun kv hk => ?_, fun n => ?_⟩, fun x hx => ?_⟩
  · have := length_putK kvs (kM m) (.int (c : Int))
    unfold zr
    rw [List.length_append, List.length_singleton, List.length_map]; omega
  · rcases mem_keys (List.mem_map.mpr ⟨kv, hk, rfl⟩) with h | h
    · obtain ⟨kv', h1, h2⟩ := List.mem_map.mp h
      rw [← h2]
      exact n3 kv' h1
    · exact ⟨m, hm, h⟩
  · rw [valV_put, coef_app, coef_zr, coef, coef]
    by_cases e : n = m
    · subst e
      rw [if_pos rfl, if_pos rfl, if_pos rfl, if_neg (by omega)]
      congr 2
      show (c : Int) = ((0 + (c + 0) : Nat) : Int)
      omega
    · have e' : ¬ m = n := fun z => e z.symm
      rw [if_neg (fun z => e (kM_inj z)), n4 n, if_neg e', if_neg e]
      rfl
  · rcases List.mem_append.mp hx with h | h
    · obtain ⟨y, hy, rfl⟩ := List.mem_map.mp h
      split
      · exact hm
      · exact hL y hy
    · rw [List.mem_singleton.mp h]; exact hm
def spDrawn : Sp := fun vs H Q _ => ∃ (p b : Addr), vs = [.ref p] ∧ PotB H p b ∧ ∀ H' t a, Fr1 p H H' → PotB H' p b → H t = none → Ky H' (kP a) (.ref t) → PC a → a.length ≤ 5 → (∀ x ∈ a, x.2 ≤ 1000000) → (∀ x ∈ a, x.1.length ≤ 4 ∧ ∀ q ∈ x.1, q.2 ≤ 4) → Q (.ref t) H'
def FL : List Nat := [0, 2, 3, 11]
theorem ok_law_drawn (c_law_next : CalX P w K mg base 1 "_law_next" spNext) (c_law_packed : CalX P w K mg base 1 "_law_packed" (spPolyOf P w)) {f : Addr} {fd : FuncData} (F : Fun K "_law_drawn" "_law_drawn" s_law_drawn f fd) (T : Txt K mg ad) : FnOk P w K mg base (L2.CX P w) 2 f fd ["pot"] (spDrawn) := by
  refine F.okX sc_law_drawn (fun vs H Q E => ?_) (fun cdv A outer s H vs Q E hr h => ?_)
  · walk_at "len"
  ·
    obtain ⟨p, b, rfl, hp, k⟩ := h
    refine ⟨_, (pss_cons (ps_set (i := 1) sc_law_drawn.nd rfl (by first | exact Or.inl rfl | exact Or.inr rfl) ND.pe_nnew)
      (pss_cons (ps_for (passes_of rfl) rfl (pi_range1 (by rfl) T.z_range (pa_cons (pc_call c_law_next hr (by first | decide | omega) (takes_of rfl rfl rfl rfl) (by rfl) (pa_cons (pv 0) (pa_cons pe_int pa_nil))) pa_nil)) (pg_name (i := 2) sc_law_drawn.nd rfl (by first | exact Or.inl rfl | exact Or.inr rfl)) (pss_cons (ps_set (i := 3) sc_law_drawn.nd rfl (by first | exact Or.inl rfl | exact Or.inr rfl) (pe_callTy call_tuple_of (by rfl) T.z_tuple (by decide +kernel) (pa_cons (pe_lc (own := [("fact", 4)]) rfl sc_law_drawn.nd (pi_list (pe_lst (pa_cons pe_int (pa_cons pe_int (pa_cons pe_int (pa_cons pe_int pa_nil)))))) (blkOk_by (by kernel_rfl)) (fun _ _ _ _ _ => (pg_name (i := 4) sc_law_drawn.nd rfl (by first | exact Or.inl rfl | exact Or.inr rfl))) (fun _ _ _ _ _ => (pts_one (pt_cmpR op_eq (pc_call c_law_next hr (by first | decide | omega) takes0 (by rfl) (pa_cons (pv 0) (pa_cons pe_int pa_nil))) pe_int (nomark _)))) (fun _ _ _ _ _ => (pe_tup (pa_cons (pv 4) (pa_cons (pe_op op_add pe_int (pc_call c_law_next hr (by first | decide | omega) takes0 (by rfl) (pa_cons (pv 0) (pa_cons pe_int pa_nil)))) pa_nil))))) pa_nil)))
      (pss_one (ND.ps_nput (ND.hu9 hr) (pv 1) (pv 3) (pe_op op_add pe_int (pc_call c_law_next hr (by first | decide | omega) (takes_of rfl rfl rfl rfl) (by rfl) (pa_cons (pv 0) (pa_cons (pe_ix ix_list (pe_lst (pa_cons pe_int (pa_cons (pe_op op_pow pe_int pe_int) pa_nil))) (pc_call c_law_next hr (by first | decide | omega) (takes_of rfl rfl rfl rfl) (by rfl) (pa_cons (pv 0) (pa_cons pe_int pa_nil))) (fun _ _ => rfl)) pa_nil)))) rfl))))
      (pss_one (ps_ret (pc_call c_law_packed hr (by first | decide | omega) (takes_of rfl rfl rfl rfl) (by rfl) (pa_cons (pv 1) pa_nil)))))), ?_⟩
    have toN : ∀ {i : Int}, 0 ≤ i → ∃ n : Nat, i = (n : Int) := fun {i} h => ⟨i.toNat, by omega⟩
    have lp : ∀ {H'}, PotB H' p b → (∃ xs, H' p = some (.lst xs)) ∧ ∃ xs, H' b = some (.lst xs) := fun x => let ⟨_, _, _, _, e1, e2, _⟩ := x; ⟨⟨_, e1⟩, ⟨_, e2⟩⟩
    refine go_seq fun d φ hd at_ => go_name rfl ?_
    have s1 : Same H (upd H d (.ext φ)) := same_new (Same.refl _) hd
    have pd1 := PD.nil at_
    have hp1 := hp.same s1
    have nd : ∀ {c u}, H c = some u → c ≠ d := fun e => ne_of_none e hd
    obtain ⟨xp, ep⟩ := (lp hp).1
    have ndp : d ≠ p := (nd ep).symm
    generalize upd H d (.ext φ) = H1 at s1 pd1 hp1
    refine go_sq ?_
    refine ⟨_, rfl, p, 6, rfl, hp1.at_, by decide, by decide, fun H2 r2 fr2 _ r20 r21 hb2 => ?_⟩
    obtain ⟨j, rfl⟩ := toN r20
    have pdk : ∀ {G G' : Hp} {L : Terms}, PotB G p b → Fr1 p G G' → PD P w G d L → PD P w G' d L := fun pb fr pd => by
      obtain ⟨⟨xp, ep⟩, _⟩ := lp pb
      exact pd.keeps (fun u h => fr _ _ ndp h) fun c ys h => fr _ _ (ne_of h ep (fun z => nomatch z)) h
    have kyk : ∀ {G G' : Hp} {k : NestedKey} {v : V}, PotB G p b → Fr1 p G G' → Ky G k v → Ky G' k v := fun pb fr ky => by
      obtain ⟨⟨xp, ep⟩, _⟩ := lp pb
      exact ky.keeps fun c ys h => fr _ _ (ne_of h ep (fun z => nomatch z)) h
    refine ⟨_, rfl, by omega, by omega, ?_⟩
    rw [Int.toNat_natCast]
    refine for_range (lo := 0) (n := j) (fun i σ H' => ∃ (v2 v3 : Option V) (L : Terms), σ = [some (.ref p), some (.ref d), v2, v3, none] ∧ Fr1 p H H' ∧ PotB H' p b ∧ PD P w H' d L ∧ L.length ≤ i ∧ (∀ m, coef L m ≤ 1000000) ∧ ∀ x ∈ L, x.1.length ≤ 4 ∧ ∀ q ∈ x.1, q.2 ≤ 4)
      ⟨none, none, [], rfl, fun c o n e => fr2 _ _ n (s1 _ _ e), hb2 _ hp1, pdk hp1 fr2 pd1, Nat.le_refl _, fun _ => Nat.zero_le _, fun _ h => (nomatch h)⟩ ?_ ?_
    · rintro i σ H3 hi ⟨v2, v3, L, rfl, f3, hp3, pd3, ll, lc, lm⟩
      refine go_name rfl (go_sq ?_)
      refine ⟨(show 4 ≤ sizeLine by decide), fun A hA => ⟨A, rfl, ⟨_, SqL.of upd_same⟩, fun D hD => ?_⟩⟩
      have s4 := same_new (o := .lst [.int 0, .int 2, .int 3, .int 11]) (Same.refl H3) hA
      have eA : (upd H3 A (.lst [.int 0, .int 2, .int 3, .int 11])) A = some (.lst [.int 0, .int 2, .int 3, .int 11]) := upd_same
      have hp4 := hp3.same s4
      obtain ⟨⟨xp3, ep3⟩, _⟩ := lp hp3
      have nAp : A ≠ p := (ne_of_none ep3 hA).symm
      generalize upd H3 A (.lst [.int 0, .int 2, .int 3, .int 11]) = H4 at s4 hp4 eA hD
      obtain ⟨⟨xp4, ep4⟩, ⟨xb4, eb4⟩⟩ := lp hp4
      have nDp : D ≠ p := (ne_of_none ep4 hD).symm
      have nDb : D ≠ b := (ne_of_none eb4 hD).symm
      have hFL : ∀ i < 4, FL.getD i 12 < FL.getD (i + 1) 12 := by decide
      refine DC2.walk_l (K := K) (xs := [.int 0, .int 2, .int 3, .int 11]) (fun t H' => Fr1 p H4 H' ∧ PotB H' p b ∧ ∃ (zs : List V) (m : Mono), H' D = some (.lst zs) ∧ Kys H' (m.map kQ) zs ∧ MCan m ∧ m.length ≤ t ∧ ∀ q ∈ m, q.1 < FL.getD t 12 ∧ q.2 ≤ 4)
        ⟨fun c o n e => same_new (Same.refl _) hD _ _ e, hp4.same (same_new (Same.refl _) hD), [], [], upd_same, .nil, ⟨.nil, fun _ h => (nomatch h)⟩, Nat.le_refl _, fun _ h => (nomatch h)⟩ (fun t H' _ ⟨f', _⟩ => SqL.of (f' _ _ nAp eA)) (fun t z H5 hz ⟨f5, hp5, zs, m, e5, k5, mc, ml, mb⟩ => ?_) (fun H5 ⟨f5, hp5, zs, m, e5, k5, mc, ml, mb⟩ => ?_)
      · have ht : t < 4 := (List.getElem?_eq_some_iff.mp hz).1
        have hz' : z = .int ((FL.getD t 12 : Nat) : Int) := by
          rcases t with _ | _ | _ | _ | t
          · cases hz; rfl
          · cases hz; rfl
          · cases hz; rfl
          · cases hz; rfl
          · omega
        subst hz'
        refine ⟨rfl, _, rfl, p, 2, rfl, hp5.at_, by decide, by decide, fun H6 r6 fr6 _ r60 r61 hb6 => ⟨rfl, _, rfl, ?_⟩⟩
        have hp6 := hb6 _ hp5
        have e6 := fr6 _ _ nDp e5
        have k6 : Kys H6 (m.map kQ) zs := by
          obtain ⟨⟨xp, ep⟩, _⟩ := lp hp5
          exact k5.keeps fun c ys h => fr6 _ _ (ne_of h ep (fun z => nomatch z)) h
        have lz := kys_len k5
        rw [List.length_map] at lz
        refine ite2 (fun c => ?_) (fun c => ?_)
        · refine ⟨_, rfl, _, rfl, p, 4, rfl, hp6.at_, by decide, by decide, fun H7 r7 fr7 _ r70 r71 hb7 => ?_⟩
          obtain ⟨e, rfl⟩ := toN r70
          have hp7 := hb7 _ hp6
          have e7 := fr7 _ _ nDp e6
          have k7 : Kys H7 (m.map kQ) zs := by
            obtain ⟨⟨xp, ep⟩, _⟩ := lp hp6
            exact k6.keeps fun c ys h => fr7 _ _ (ne_of h ep (fun z => nomatch z)) h
          refine ⟨_, _, rfl, rfl, (show 2 ≤ sizeLine by decide), fun t2 ht2 => ?_⟩
          have s8 := same_new (o := .tup [.int (FL.getD t 12 : Nat), .int (1 + (e : Int))]) (Same.refl H7) ht2
          have hD4 : H4 D = none := hD
          have keep : ∀ c ys, H7 c = some (.tup ys) → (upd (upd H7 t2 (.tup [.int (FL.getD t 12 : Nat), .int (1 + (e : Int))])) D (.lst (zs ++ [.ref t2]))) c = some (.tup ys) := fun c ys h => by
            rw [upd_ne (ne_of h e7 (fun z => nomatch z)), upd_ne (ne_of_none h ht2)]; exact h
          have fb := hFL t ht
          refine ⟨zs, s8 _ _ e7, ?_, fun c o n h => ?_, (hp7.same s8).but (by rw [upd_ne (Ne.symm nDp)]) (by rw [upd_ne (Ne.symm nDb)]), zs ++ [.ref t2], m ++ [(FL.getD t 12, 1 + e)], upd_same, ?_, ⟨List.pairwise_append.mpr ⟨mc.asc, List.pairwise_singleton .., fun x hx y hy => ?_⟩, fun x hx => ?_⟩, ?_, fun q hq => ?_⟩
          · rw [← lz]
            exact Nat.lt_of_le_of_lt (by omega : _ ≤ 1000) (by decide)
          · rw [upd_ne (ne_of_none h hD)]
            exact s8 _ _ (fr7 _ _ n (fr6 _ _ n (f5 _ _ n h)))
          · rw [List.map_append]
            refine kys_app (k7.keeps keep) (.cons (.tup (by rw [upd_ne (ne_of_none e7 ht2).symm]; exact upd_same) (.cons (.int _) (.cons ?_ .nil))) .nil)
            show Ky _ (.num ((1 + e : Nat) : Int)) (.int (1 + (e : Int)))
            rw [Int.natCast_add]
            exact .int _
          · rw [List.mem_singleton.mp hy]
            exact (mb x hx).1
          · rcases List.mem_append.mp hx with h | h
            · exact mc.pos x h
            · rw [List.mem_singleton.mp h]
              show 1 ≤ 1 + e
              omega
          · rw [List.length_append, List.length_singleton]; omega
          · rcases List.mem_append.mp hq with h | h
            · exact ⟨Nat.lt_trans (mb q h).1 fb, (mb q h).2⟩
            · rw [List.mem_singleton.mp h]
              exact ⟨fb, show 1 + e ≤ 4 by omega⟩
        · exact ⟨f5.trans fr6, hp6, zs, m, e6, k6, mc, by omega, fun q hq => ⟨Nat.lt_trans (mb q hq).1 (hFL t ht), (mb q hq).2⟩⟩
      · refine ⟨D, _, rfl, .inl ⟨SqL.of e5, fun tm htm => go_name rfl (go_nx ?_)⟩⟩
        have s6 := same_new (o := .tup zs) (Same.refl H5) htm
        have km : Ky (upd H5 tm (.tup zs)) (kM m) (.ref tm) := .tup upd_same (k5.keeps fun c ys h => s6 _ _ h)
        have hp6 := hp5.same s6
        have f36 : Fr1 p H3 (upd H5 tm (.tup zs)) := fun c o n h => s6 _ _ (f5 _ _ n (s4 _ _ h))
        generalize upd H5 tm (.tup zs) = H6 at km hp6 f36
        have ml4 : m.length ≤ 4 := ml
        refine ⟨_, rfl, _, _, rfl, rfl, ⟨by decide, by decide, by decide⟩, (show 2 ≤ sizeLine by decide), fun A2 hA2 => ?_⟩
        have s7 := same_new (o := .lst [.int 2, .int 1000000]) (Same.refl H6) hA2
        have hp7 := hp6.same s7
        have e7 : (upd H6 A2 (.lst [.int 2, .int 1000000])) A2 = some (.lst [.int 2, .int 1000000]) := upd_same
        have nA2p : A2 ≠ p := by
          obtain ⟨⟨xp, ep⟩, _⟩ := lp hp6
          exact (ne_of_none ep hA2).symm
        refine ⟨_, rfl, p, 2, rfl, hp7.at_, by decide, by decide, fun H8 r8 fr8 _ r80 r81 hb8 => ?_⟩
        have km7 := Ky.sm s7 km
        have fr8 : Fr1 p (upd H6 A2 (.lst [.int 2, .int 1000000])) H8 := fr8
        have hb8 : ∀ b, PotB (upd H6 A2 (.lst [.int 2, .int 1000000])) p b → PotB H8 p b := hb8
        have f37 : Fr1 p H3 (upd H6 A2 (.lst [.int 2, .int 1000000])) := fun c o n h => s7 _ _ (f36 _ _ n h)
        generalize upd H6 A2 (.lst [.int 2, .int 1000000]) = H7 at hp7 e7 fr8 hb8 km7 f37
        have e8 := fr8 _ _ nA2p e7
        have hp8 := hb8 _ hp7
        have km8 := kyk hp7 fr8 km7
        have lim : ∃ l : Nat, 1 ≤ l ∧ l ≤ 1000000 ∧ ∃ n : Nat, r8 = (n : Int) ∧ ([.int 2, .int 1000000] : List V)[n]? = some (.int (l : Int)) := by
          obtain ⟨n, rfl⟩ := toN r80
          rcases n with _ | _ | n
          · exact ⟨2, by decide, by decide, 0, rfl, rfl⟩
          · exact ⟨1000000, by decide, by decide, 1, rfl, rfl⟩
          · omega
        obtain ⟨l, l1, l2, n8, rfl, el⟩ := lim
        have l250 : ((l : Nat) : Int).natAbs < 2 ^ 250 := Nat.lt_of_le_of_lt (by rw [Int.natAbs_natCast]; exact l2) (by decide)
        refine ⟨A2, _, _, _, rfl, rfl, SqL.of e8, at_of (j := n8) rfl el, p, (l : Int), rfl, hp8.at_, by omega, l250, fun H9 r9 fr9 _ r90 r91 hb9 => ?_⟩
        obtain ⟨v, rfl⟩ := toN r90
        have hp9 := hb9 _ hp8
        have km9 := kyk hp8 fr9 km8
        have f39 : Fr1 p H3 H9 := fun c o n h => fr9 _ _ n (fr8 _ _ n (f37 _ _ n h))
        have pd9 := pdk hp3 f39 pd3
        obtain ⟨kvs, at9, n1, n2, n3, n4⟩ := pd9.ex_
        have dk : (kM m).depth ≤ 8 := by have := dep_kM m; omega
        refine ⟨_, _, rfl, rfl, _, rfl, _, rfl, d, rfl, kvs, kM m, tm, at9, rfl, km9, dk, Nat.lt_of_le_of_lt (by omega : _ ≤ 1000) (by decide), fun φ2 hφ2 => ?_⟩
        have f0 : ∀ {c o}, c ≠ p → H c = some o → (upd H9 d (.ext φ2)) c = some o := fun {c o} n h => by
          rw [upd_ne (nd h)]
          exact f39 _ _ n (f3 _ _ n h)
        obtain ⟨_, ⟨xb9, eb9⟩⟩ := lp hp9
        obtain ⟨⟨_, e0p⟩, ⟨_, e0b⟩⟩ := lp hp
        have hφ3 : ND.At P w (upd H9 d (.ext φ2)) d (putK kvs (kM m) (.int ((1 + v : Nat) : Int))) := by
          rw [Int.natCast_add]; exact hφ2
        refine go_nx ⟨_, _, zr m L ++ [(m, 1 + v)], rfl, fun c o n h => f0 n h, hp9.but (by rw [upd_ne (nd e0p)]) (by rw [upd_ne (nd e0b)]), pd_set (by omega) mc pd9.mc n1 n2 n3 n4 hφ3, ?_, fun n => ?_, fun x hx => ?_⟩
        · unfold zr
          rw [List.length_append, List.length_map, List.length_singleton]; omega
        · rw [coef_app, coef_zr, coef, coef]
          have := lc n
          by_cases e : n = m
          · rw [if_pos e]; split <;> omega
          · rw [if_neg e, if_neg (fun z => e z.symm)]; omega
        · rcases List.mem_append.mp hx with h | h
          · obtain ⟨y, hy, rfl⟩ := List.mem_map.mp h
            split
            · exact ⟨ml4, fun q hq => (mb q hq).2⟩
            · exact lm y hy
          · rw [List.mem_singleton.mp h]
            exact ⟨ml4, fun q hq => (mb q hq).2⟩
    · rintro σ H3 ⟨v2, v3, L, rfl, f3, hp3, pd3, ll, lc, lm⟩
      have hd0 : ∀ {t}, H3 t = none → H t = none := fun {t} h => by
        cases z : H t with
        | none => rfl
        | some u =>
          have ntp : t ≠ p := fun e => by
            obtain ⟨⟨xp, ep⟩, _⟩ := lp hp3
            rw [e, ep] at h
            cases h
          rw [f3 _ _ ntp z] at h; cases h
      refine go_nx (go_ret ?_)
      refine ⟨_, rfl, d, L, rfl, pd3, by omega, fun H4 t a s4 t0 kp pc hco hlen => k H4 t a (fun c o n e => s4 _ _ (f3 _ _ n e)) (hp3.same s4) (hd0 t0) kp pc (by omega) (fun x hx => ?_) fun x hx => ?_⟩
      · have e : coef a x.1 = x.2 := coef_at (pc.nd mlt_as) hx
        rw [← e, hco]
        exact lc _
      · have e : coef a x.1 = x.2 := coef_at (pc.nd mlt_as) hx
        have h1 : 1 ≤ coef L x.1 := by rw [← hco, e]; exact pc.pos x hx
        obtain ⟨c, hc⟩ := coef_in h1
        exact lm (x.1, c) hc
end
end K04

set_option Elab.async false
set_option linter.all false
set_option maxRecDepth 100000
set_option maxHeartbeats 4000000
namespace K04
open PySem L2 Ew Tb GxR ND PM NI PK
local macro_rules | `(tactic| walk_at "len") => `(tactic| first | (intro h; obtain ⟨_, e, _⟩ := h; rw [e]; rfl) | (intro h; obtain ⟨_, _, e, _⟩ := h; rw [e]; rfl) | (intro h; obtain ⟨_, _, _, e, _⟩ := h; rw [e]; rfl) | (intro h; obtain ⟨_, _, _, _, e, _⟩ := h; rw [e]; rfl) | (intro h; obtain ⟨_, _, _, _, _, e, _⟩ := h; rw [e]; rfl) | (intro h; obtain ⟨_, _, _, _, _, _, e, _⟩ := h; rw [e]; rfl) | (intro h; obtain ⟨_, _, _, _, _, _, _, e, _⟩ := h; rw [e]; rfl) | (intro h; exact h.elim))
section
variable {P : Program} {w : World} {K : PySem.W.Frag} {mg : Str → Option Value} {base : Heap} {ad : Ad}
/-! ### the law -/
/-- t is, from any later heap, the polynomial whose coefficients L has, of at most n terms -/
def Tm (t : TE) (σ : L2.St) (H : Hp) (L : Terms) (n : Nat) : Prop := ∀ (H1 : Hp) (Q : VK), FrT H H1 → (∀ H' v p, FrT H1 H' → Ky H' (kP p) v → PC p → (∀ m, coef p m = coef L m) → p.length ≤ n → Q v H') → t σ H1 Q
def Ts (t : TT) (σ : L2.St) (H : Hp) (b : Bool) : Prop := ∀ (H1 : Hp) (Kt : Bool → Hp → Prop), FrT H H1 → (∀ H', FrT H1 H' → Kt b H') → t σ H1 Kt
theorem mono_in {p L : Terms} (pc : PC p) (co : ∀ m, coef p m = coef L m) : ∀ t ∈ p, ∃ c, (t.1, c) ∈ L := fun t ht => by
  have e : coef p t.1 = t.2 := coef_at (pc.nd mlt_as) ht
  exact coef_in (by rw [← co, e]; exact pc.pos t ht)
theorem pc_nil : PC ([] : Terms) := ⟨.nil, fun _ h => (nomatch h), fun _ h => (nomatch h)⟩
theorem pc_one : PC [([], 1)] := ⟨List.pairwise_singleton .., fun x h => by rw [List.mem_singleton.mp h]; exact ⟨.nil, fun _ h => nomatch h⟩, fun x h => by rw [List.mem_singleton.mp h]; exact Nat.le_refl 1⟩
theorem pc_eq {p q : Terms} (hp : PC p) (hq : PC q) (h : ∀ m, coef p m = coef q m) : p = q := can_ext mlt_as hp hq h
section
variable {σ : L2.St} {H : Hp} {L L' : Terms} {n n' : Nat} {ta tb : TE} {W : WX} {C y dy : Addr} {k' i j : Nat} {m : Str}
theorem tm_var {v : V} {p : Terms} (h : σ[i]? = some (some v)) (e : Ky H (kP p) v) (pc : PC p) : Tm (tVar i) σ H p p.length := fun H1 Q s q => ⟨_, h, q H1 v p (FrT.refl _) (Ky.frt s e) pc (fun _ => rfl) (Nat.le_refl _)⟩
theorem tm_nil : Tm (tTup tNil) σ H [] 0 := fun H1 Q s q => ⟨(show 0 ≤ sizeLine by decide), fun p hp => q _ _ [] (FrT.of (same_new (Same.refl _) hp)) (.tup upd_same .nil) pc_nil (fun _ => rfl) (Nat.le_refl _)⟩
theorem tm_bin {f : Terms → Terms → Terms} {N : Nat} (M : MetX P w K mg base k' C m (spBinP C f)) (hk : k' ≤ j) (hy : H y = some (.ins C dy [])) (hσ : σ[i]? = some (some (.ref y)))
    (hf : ∀ a a' b b' : Terms, (∀ m, coef a m = coef a' m) → (∀ m, coef b m = coef b' m) → ∀ m, coef (f a b) m = coef (f a' b') m)
    (ha : Tm ta σ H L n) (hb : Tm tb σ H L' n') (tl : tot L < 2 ^ 60) (ln : n ≤ 400) (ln' : n' ≤ 400) (mL : ∀ t ∈ L, t.1.length ≤ 1000) (mL' : ∀ t ∈ L', t.1.length ≤ 1000) (hN : ∀ a b : Terms, a.length ≤ n → b.length ≤ n' → (f a b).length ≤ N) (h4 : N ≤ 400) :
    Tm (tMethD P w K mg base j m W (tVar i) (tCons ta (tCons tb tNil))) σ H (f L L') N := fun H1 Q s q => by
  refine ⟨_, hσ, y, _, dy, [], k', _, rfl, s.ins hy, rfl, hk, M, ?_⟩
  refine ha H1 _ s fun H2 v1 p1 s2 e2 c1 co1 l1 => ?_
  have s02 := s.trans s2
  refine hb H2 _ s02 fun H3 v2 p2 s3 e3 c2 co2 l2 => ?_
  have s03 := s02.trans s3
  refine ⟨y, dy, [], v1, v2, p1, p2, rfl, s03.ins hy, Ky.frt s3 e2, e3, c1, c2, by rw [tot_of co1]; exact tl, by omega, by omega, Nat.le_trans (hN _ _ l1 l2) h4, fun t ht => ?_, fun t ht => ?_, fun H4 t p s4 t0 kp pc hco hl => ?_⟩
  · obtain ⟨c, hc⟩ := mono_in c1 co1 t ht
    exact mL (t.1, c) hc
  · obtain ⟨c, hc⟩ := mono_in c2 co2 t ht
    exact mL' (t.1, c) hc
  · exact q H4 (.ref t) p (s2.trans (s3.trans (FrT.of s4))) kp pc (fun m => (hco m).trans (hf _ _ _ _ co1 co2 m)) (Nat.le_trans hl (hN _ _ l1 l2))
theorem tm_nul {p : Terms} (M : MetX P w K mg base k' C m (spNulP C p)) (hk : k' ≤ j) (hy : H y = some (.ins C dy [])) (hσ : σ[i]? = some (some (.ref y))) (pc : PC p) :
    Tm (tMethD P w K mg base j m W (tVar i) tNil) σ H p p.length := fun H1 Q s q =>
  ⟨_, hσ, y, _, dy, [], k', _, rfl, s.ins hy, rfl, hk, M, y, dy, [], rfl, s.ins hy, fun H' t s' _ e => q _ _ p (FrT.of s') e pc (fun _ => rfl) (Nat.le_refl _)⟩
theorem tm_fun {f : Terms → Terms → Terms} {N : Nat}
    (hf : ∀ a a' b b' : Terms, (∀ m, coef a m = coef a' m) → (∀ m, coef b m = coef b' m) → ∀ m, coef (f a b) m = coef (f a' b') m)
    (ha : Tm ta σ H L n) (hb : Tm tb σ H L' n') (tl : tot L < 2 ^ 60) (ln : n ≤ 400) (ln' : n' ≤ 400) (mL : ∀ t ∈ L, t.1.length ≤ 30) (mL' : ∀ t ∈ L', t.1.length ≤ 30) (hN : ∀ a b : Terms, a.length ≤ n → b.length ≤ n' → (f a b).length ≤ N) (h4 : N ≤ 400) :
    Tm (tCallF (spLBin f) W (tCons ta (tCons tb tNil))) σ H (f L L') N := fun H1 Q s q => by
  refine ha H1 _ s fun H2 v1 p1 s2 e2 c1 co1 l1 => ?_
  have s02 := s.trans s2
  refine hb H2 _ s02 fun H3 v2 p2 s3 e3 c2 co2 l2 => ?_
  have s03 := s02.trans s3
  refine ⟨v1, v2, p1, p2, rfl, Ky.frt s3 e2, e3, c1, c2, by rw [tot_of co1]; exact tl, by omega, by omega, Nat.le_trans (hN _ _ l1 l2) h4, fun t ht => ?_, fun t ht => ?_, fun H4 t p s4 t0 kp pc hco hl => ?_⟩
  · obtain ⟨c, hc⟩ := mono_in c1 co1 t ht
    exact mL (t.1, c) hc
  · obtain ⟨c, hc⟩ := mono_in c2 co2 t ht
    exact mL' (t.1, c) hc
  · exact q H4 (.ref t) p (s2.trans (s3.trans (FrT.of s4))) kp pc (fun m => (hco m).trans (hf _ _ _ _ co1 co2 m)) (Nat.le_trans hl (hN _ _ l1 l2))
theorem pc_v (f : Nat) : PC [([(f, 1)], 1)] := ⟨List.pairwise_singleton .., fun x h => by rw [List.mem_singleton.mp h]; exact ⟨List.pairwise_singleton .., fun x h => by rw [List.mem_singleton.mp h]; exact Nat.le_refl 1⟩, fun x h => by rw [List.mem_singleton.mp h]; exact Nat.le_refl 1⟩
theorem tm_vr {z : Int} (f : Nat) (hz : z = (f : Int) := by rfl) : Tm (tCallF spVar W (tCons (tC (.int z)) tNil)) σ H [([(f, 1)], 1)] 1 := fun H1 Q s q => ⟨f, by rw [hz], fun H' t s' _ kt => q H' _ _ (FrT.of s') kt (pc_v f) (fun _ => rfl) (Nat.le_refl _)⟩
theorem tm_dv (f : Nat) : Tm (tTup (tCons (tTup (tCons (tTup (tCons (tTup (tCons (tC (.int (f : Int))) (tCons (tC (.int 1)) tNil))) tNil)) (tCons (tC (.int 1)) tNil))) tNil)) σ H [([(f, 1)], 1)] 1 := fun H1 Q s q => by
  refine ⟨(show 2 ≤ sizeLine by decide), fun t1 h1 => ⟨(show 1 ≤ sizeLine by decide), fun t2 h2 => ⟨(show 2 ≤ sizeLine by decide), fun t3 h3 => ⟨(show 1 ≤ sizeLine by decide), fun t4 h4 => ?_⟩⟩⟩⟩
  have s1 := same_new (o := .tup [.int (f : Int), .int 1]) (Same.refl H1) h1
  have s2 := same_new (o := .tup [.ref t1]) (Same.refl _) h2
  have s3 := same_new (o := .tup [.ref t2, .int 1]) (Same.refl _) h3
  have s4 := same_new (o := .tup [.ref t3]) (Same.refl _) h4
  exact q _ (.ref t4) [([(f, 1)], 1)] (FrT.of fun c o z => s4 _ _ (s3 _ _ (s2 _ _ (s1 _ _ z)))) (.tup upd_same (.cons (.tup (s4 _ _ upd_same) (.cons (.tup (s4 _ _ (s3 _ _ upd_same)) (.cons (.tup (s4 _ _ (s3 _ _ (s2 _ _ upd_same))) (.cons (.int _) (.cons (.int _) .nil))) .nil)) (.cons (.int _) .nil))) .nil)) (pc_v f) (fun _ => rfl) (Nat.le_refl _)
theorem tm_d1 : Tm (tTup (tCons (tTup (tCons (tTup tNil) (tCons (tC (.int 1)) tNil))) tNil)) σ H [([], 1)] 1 := fun H1 Q s q => by
  refine ⟨(show 0 ≤ sizeLine by decide), fun u hu => ⟨(show 2 ≤ sizeLine by decide), fun t hq => ⟨(show 1 ≤ sizeLine by decide), fun t2 ht => ?_⟩⟩⟩
  have s1 : Same H1 (upd H1 u (.tup [])) := same_new (Same.refl _) hu
  have s2 := same_new (o := .tup [.ref u, .int 1]) (Same.refl _) hq
  have s3 := same_new (o := .tup [.ref t]) (Same.refl _) ht
  exact q _ _ [([], 1)] (FrT.of fun c o z => s3 _ _ (s2 _ _ (s1 _ _ z))) (.tup upd_same (.cons (.tup (s3 _ _ upd_same) (.cons (.tup (s3 _ _ (s2 _ _ upd_same)) .nil) (.cons (.int _) .nil))) .nil)) pc_one (fun _ => rfl) (Nat.le_refl _)
theorem ts_ne (ha : Tm ta σ H L n) (hb : Tm tb σ H L' n') (e : ∀ m, coef L m = coef L' m) : Ts (tTest (tOp (rNK true) ta tb)) σ H false := fun H1 Kt s q => by
  refine ha H1 _ s fun H2 v1 p1 s2 e2 c1 co1 _ => ?_
  refine hb H2 _ (s.trans s2) fun H3 v2 p2 s3 e3 c2 co2 _ => ?_
  have ep : p1 = p2 := pc_eq c1 c2 fun m => by rw [co1, co2, e]
  subst ep
  have d := dep_kP p1
  refine ⟨kP p1, kP p1, Ky.frt s3 e2, e3, num_kP _, num_kP _, by omega, by omega, false, ?_, q H3 (s2.trans s3)⟩
  rw [if_pos rfl, decide_eq_true rfl]
  rfl
theorem ts_same (ha : Tm ta σ H L n) (hb : Tm tb σ H L' n') (e : ∀ m, coef L m = coef L' m) (ln : n ≤ 1000) (mL : ∀ t ∈ L, t.1.length ≤ 1000) : Ts (tNot (tB (tCallF (spSame 5) W (tCons ta (tCons tb tNil))))) σ H false := fun H1 Kt s q => by
  refine ha H1 _ s fun H2 v1 p1 s2 e2 c1 co1 l1 => ?_
  refine hb H2 _ (s.trans s2) fun H3 v2 p2 s3 e3 c2 co2 _ => ?_
  have ep : p1 = p2 := pc_eq c1 c2 fun m => by rw [co1, co2, e]
  subst ep
  refine ⟨_, _, rfl, dd_p (Ky.frt s3 e2) e3 (by omega) (fun t ht => ?_), fun H4 s4 => ⟨true, rfl, q H4 ((s2.trans s3).trans (FrT.of s4))⟩⟩
  obtain ⟨c, hc⟩ := mono_in c1 co1 t ht
  exact mL (t.1, c) hc
theorem ts_orK {t u : TT} (ht : Ts t σ H false) : ∀ (H1 : Hp) (Kt : Bool → Hp → Prop), FrT H H1 → (∀ H2, FrT H1 H2 → u σ H2 Kt) → tOr t u σ H1 Kt := fun H1 Kt s k => ht H1 _ s fun H2 s2 => iteF (k H2 s2)
theorem ts_or {t u : TT} (ht : Ts t σ H false) (hu : Ts u σ H false) : Ts (tOr t u) σ H false := fun H1 Kt s k => ht H1 _ s fun H2 s2 => iteF (hu H2 _ (s.trans s2) fun H3 s3 => k H3 (s2.trans s3))
theorem cf_add (a a' b b' : Terms) (h1 : ∀ m, coef a m = coef a' m) (h2 : ∀ m, coef b m = coef b' m) (m : Mono) : coef (a ++ b) m = coef (a' ++ b') m := by rw [coef_app, coef_app, h1, h2]
theorem cf_mul (a a' b b' : Terms) (h1 : ∀ m, coef a m = coef a' m) (h2 : ∀ m, coef b m = coef b' m) (m : Mono) : coef (tmul a b) m = coef (tmul a' b') m := tmul_congr h1 h2 m
end
/-! ### bounds -/
theorem mput_len (f e : Nat) : ∀ m : Mono, (mput m f e).length ≤ m.length + 1
  | [] => Nat.le_refl _
  | (g, d) :: r => by
    rw [mput]
    split
    · exact Nat.le_refl _
    · split
      · exact Nat.le_succ _
      · have := mput_len f e r
        rw [List.length_cons, List.length_cons]; omega
theorem mmul_len : ∀ b a : Mono, (mmul a b).length ≤ a.length + b.length
  | [], a => Nat.le_refl _
  | (f, e) :: b, a => by
    have h1 := mmul_len b (mput a f e)
    have h2 := mput_len f e a
    show (mmul (mput a f e) b).length ≤ _
    rw [List.length_cons]; omega
theorem ex_le {c : Nat} {f : Nat} : ∀ {m : Mono}, MCan m → (∀ q ∈ m, q.2 ≤ c) → ex m f ≤ c
  | [], _, _ => Nat.zero_le _
  | (g, d) :: r, mc, h => by
    show (if g = f then d else 0) + ex r f ≤ c
    by_cases e : g = f
    · subst e
      rw [if_pos rfl, mc.head_ex]
      exact h _ (List.mem_cons_self ..)
    · rw [if_neg e, Nat.zero_add]
      exact ex_le mc.tail fun q hq => h q (List.mem_cons_of_mem _ hq)
theorem ex_mem {m : Mono} (mc : MCan m) : ∀ q ∈ m, ex m q.1 = q.2 := fun q hq => ex_at (List.pairwise_map.mpr (mc.asc.imp fun {a b} h e => by omega)) hq
theorem mmul_le {x y : Mono} (hx : MCan x) (hy : MCan y) (bx : ∀ q ∈ x, q.2 ≤ 4) (by_ : ∀ q ∈ y, q.2 ≤ 4) : ∀ q ∈ mmul x y, q.2 ≤ 8 := fun q hq => by
  rw [← ex_mem (mmul_can hx hy) q hq, ex_mmul]
  have := ex_le (f := q.1) hx bx
  have := ex_le (f := q.1) hy by_
  omega
theorem ev_le {φ : Nat → Int} (h : ∀ f, (φ f).natAbs ≤ 4) : ∀ {m : Mono}, (∀ q ∈ m, q.2 ≤ 4) → (ev φ m).natAbs ≤ 256 ^ m.length
  | [], _ => by show (1 : Int).natAbs ≤ 256 ^ 0; decide
  | (f, e) :: m, hq => by
    show (φ f ^ e * ev φ m).natAbs ≤ 256 ^ (m.length + 1)
    rw [Int.natAbs_mul, Nat.pow_succ, Nat.mul_comm]
    have h1 := pow_le4 (h f) e
    have h2 : 4 ^ e ≤ 4 ^ 4 := Nat.pow_le_pow_right (by decide) (hq (f, e) (List.mem_cons_self ..))
    exact Nat.mul_le_mul (ev_le h fun q h => hq q (List.mem_cons_of_mem _ h)) (Nat.le_trans h1 h2)
theorem sum_le {φ : Mono → Int} {B : Nat} : ∀ {p : Terms}, (∀ t ∈ p, (φ t.1).natAbs ≤ B) → (sumL φ p).natAbs ≤ tot p * B
  | [], _ => Nat.zero_le _
  | (m, c) :: p, h => by
    have e1 : sumL φ ((m, c) :: p) = (c : Int) * φ m + sumL φ p := rfl
    have e2 : tot ((m, c) :: p) = c + tot p := rfl
    rw [e1, e2, Nat.add_mul]
    refine Nat.le_trans (Int.natAbs_add_le _ _) (Nat.add_le_add ?_ (sum_le fun t ht => h t (List.mem_cons_of_mem _ ht)))
    rw [Int.natAbs_mul, Int.natAbs_natCast]
    exact Nat.mul_le_mul_left _ (h _ (List.mem_cons_self ..))
theorem tot_le {c : Nat} : ∀ {p : Terms}, (∀ t ∈ p, t.2 ≤ c) → tot p ≤ p.length * c
  | [], _ => Nat.zero_le _
  | (m, d) :: p, h => by
    have e2 : tot ((m, d) :: p) = d + tot p := rfl
    rw [e2, List.length_cons, Nat.succ_mul]
    have := tot_le (p := p) fun t ht => h t (List.mem_cons_of_mem _ ht)
    have := h (m, d) (List.mem_cons_self ..)
    have : d ≤ c := this
    omega
end
end K04

set_option Elab.async false
set_option linter.all false
set_option maxRecDepth 100000
set_option maxHeartbeats 4000000
namespace K04
open PySem L2 Ew Tb GxR ND PM NI PK
local macro_rules | `(tactic| walk_at "len") => `(tactic| first | (intro h; obtain ⟨_, e, _⟩ := h; rw [e]; rfl) | (intro h; obtain ⟨_, _, e, _⟩ := h; rw [e]; rfl) | (intro h; obtain ⟨_, _, _, e, _⟩ := h; rw [e]; rfl) | (intro h; obtain ⟨_, _, _, _, e, _⟩ := h; rw [e]; rfl) | (intro h; obtain ⟨_, _, _, _, _, e, _⟩ := h; rw [e]; rfl) | (intro h; obtain ⟨_, _, _, _, _, _, e, _⟩ := h; rw [e]; rfl) | (intro h; obtain ⟨_, _, _, _, _, _, _, e, _⟩ := h; rw [e]; rfl) | (intro h; exact h.elim))
section
variable {P : Program} {w : World} {K : PySem.W.Frag} {mg : Str → Option Value} {base : Heap} {ad : Ad}
def spLaw (K : PySem.W.Frag) (PA PE PM : Addr) : Sp := fun vs H Q _ => ∃ (a : Addr) (ns : List Int), vs = [.ref a] ∧ SqL K H a (ns.map V.int) ∧ ns.length ≤ 63 ∧ TabG H PA ∧ TabG H PE ∧ TabG H PM ∧ ∀ H', Q (.bl true) H'
theorem frt_put {H H' : Hp} {D : Addr} {o : HO} (f : FrT H H') (hD : H D = none) : FrT H (upd H' D o) :=
  ⟨fun b u e n => by rw [upd_ne (ne_of_none e hD)]; exact f.keep b u e n, fun P' h => by
    obtain ⟨ps, e, ok⟩ := h
    obtain ⟨ps', e', ok'⟩ := f.tabs P' ⟨ps, e, ok⟩
    exact ⟨ps', by rw [upd_ne (ne_of_none e hD)]; exact e', ok'⟩⟩
/-- objects laid one after the other -/
inductive Ch : Hp → List (Addr × HO) → Hp → Prop
  | nil {H : Hp} : Ch H [] H
  | cons {H G : Hp} {x : Addr} {o : HO} {L : List (Addr × HO)} (h : H x = none) (r : Ch (upd H x o) L G) : Ch H ((x, o) :: L) G
theorem Ch.same {H G : Hp} {L : List (Addr × HO)} (c : Ch H L G) : Same H G := by
  induction c with
  | nil => exact Same.refl _
  | cons h r ih => exact fun b u e => ih _ _ (same_new (Same.refl _) h _ _ e)
theorem Ch.at {H G : Hp} {L : List (Addr × HO)} (c : Ch H L G) : ∀ (i : Nat) {x : Addr} {o : HO}, L[i]? = some (x, o) → G x = some o := by
  induction c with
  | nil => intro i x o h; simp at h
  | cons h r ih =>
    intro i x o e
    rcases i with _ | i
    · cases e
      exact r.same _ _ upd_same
    · exact ih i e
theorem rep_snoc (n : Nat) (b : Bool) : (List.replicate n b).map V.bl ++ [V.bl b] = (List.replicate (n + 1) b).map V.bl := by
  rw [List.replicate_succ', List.map_append]; rfl
/-- no monomial has more than c powers -/
def Ml (c : Nat) (L : Terms) : Prop := ∀ t ∈ L, t.1.length ≤ c
theorem Ml.app {c : Nat} {L L' : Terms} (h : Ml c L) (h' : Ml c L') : Ml c (L ++ L') := fun t ht => (List.mem_append.mp ht).elim (h t) (h' t)
theorem Ml.mul {c c' : Nat} {L L' : Terms} (h : Ml c L) (h' : Ml c' L') : Ml (c + c') (tmul L L') := fun t ht => by
  obtain ⟨x, hx, ht⟩ := List.mem_flatMap.mp ht
  obtain ⟨y, hy, rfl⟩ := List.mem_map.mp ht
  have := mmul_len y.1 x.1
  have := h x hx
  have := h' y hy
  show (mmul x.1 y.1).length ≤ c + c'
  omega
theorem Ml.le {c c' : Nat} {L : Terms} (h : Ml c L) (l : c ≤ c') : Ml c' L := fun t ht => Nat.le_trans (h t ht) l
def chk (k : NestedKey) : Bool := decide (lenK k ≤ 1000) && match k with
  | .tup ks => ks.all fun k' => decide (lenK (fstK k') ≤ 1000)
  | _ => true
theorem arg_bad {H : Hp} {k : NestedKey} {v : V} (e : Ky H k v) (h : elK k = false) (l : chk k = true) : Arg H v false := by
  unfold chk at l
  rw [Bool.and_eq_true] at l
  refine h ▸ Arg.key e (of_decide_eq_true l.1) fun ks z k' hk => ?_
  subst z
  exact of_decide_eq_true (List.all_eq_true.mp l.2 k' hk)
theorem arg_good {H : Hp} {v : V} {p : Terms} (e : Ky H (kP p) v) (pc : PC p) (l : p.length ≤ 1000) (m : ∀ t ∈ p, t.1.length ≤ 1000) : Arg H v true := by
  refine el_can pc ▸ Arg.key e (by show (p.map kT).length ≤ 1000; rw [List.length_map]; exact l) fun ks z k' hk => ?_
  have z : p.map kT = ks := by unfold kP at z; injection z
  rw [← z] at hk
  obtain ⟨t, ht, rfl⟩ := List.mem_map.mp hk
  show (t.1.map kQ).length ≤ 1000
  rw [List.length_map]
  exact m t ht
theorem Arg.fr {H H' : Hp} {v : V} {b : Bool} (f : FrT H H') (h : Arg H v b) : Arg H' v b := by
  cases h with
  | lst e => exact .lst (f.lst e)
  | key e l m => exact .key (Ky.frt f e) l m
theorem go_val {sp : Sp} {W : WX} {r : R2} {ta tb : TE} {ts : TA} {σ : L2.St} {H : Hp} {Kt : Bool → Hp → Prop} (h : ta σ H fun x H1 => ts σ H1 fun xs H2 => sp (x :: xs) H2 (fun v H3 => tb σ H3 fun y H4 => r v y H4 fun z H5 => ∃ k, z = .bl k ∧ Kt k H5) (WE W σ)) : tTest (tOp r (tCallF sp W (tCons ta ts)) tb) σ H Kt := h
/-- a polynomial that was drawn -/
structure Dr (H : Hp) (v : V) (c : Terms) : Prop where
  at_ : Ky H (kP c) v
  pc : PC c
  len : c.length ≤ 5
  cf : ∀ x ∈ c, x.2 ≤ 1000000
  mo : ∀ x ∈ c, x.1.length ≤ 4 ∧ ∀ q ∈ x.1, q.2 ≤ 4
theorem Dr.fr {H H' : Hp} {v : V} {c : Terms} (f : ∀ b ys, H b = some (.tup ys) → H' b = some (.tup ys)) (d : Dr H v c) : Dr H' v c := ⟨d.at_.keeps f, d.pc, d.len, d.cf, d.mo⟩
theorem ok_law {PA PE PM : Addr} (mkW : Mk0 K mg "Polynomials" ad.Polynomials) (m_zero : MetX P w K mg base 1 ad.Polynomials "zero" (spNulP ad.Polynomials [])) (m_one : MetX P w K mg base 1 ad.Polynomials "one" (spNulP ad.Polynomials [([], 1)])) (m_plus : MetX P w K mg base 3 ad.Polynomials "plus" (spBinP ad.Polynomials (fun a b => a ++ b))) (m_times : MetX P w K mg base 3 ad.Polynomials "times" (spBinP ad.Polynomials tmul)) (m_elem : MetX P w K mg base 9 ad.Polynomials "is_element" (spIsEl PE PM PA ad.Polynomials)) (c_law_pot : CalX P w K mg base 1 "_law_pot" (spPot K)) (c_law_next : CalX P w K mg base 1 "_law_next" spNext) (c_law_is_int : CalX P w K mg base 1 "_law_is_int" (spK0 intK)) (c_law_same : CalX P w K mg base 10 "_law_same" (spSame 5)) (c_law_star : CalX P w K mg base 7 "_law_star" (spLStar ad.Polynomials)) (c_law_drawn : CalX P w K mg base 2 "_law_drawn" spDrawn) (c_law_product : CalX P w K mg base 2 "_law_product" (spLBin tmul)) (c_law_sum : CalX P w K mg base 2 "_law_sum" (spLBin fun a b => a ++ b)) (c_variable : CalX P w K mg base 1 "variable" spVar) (c_degree : CalX P w K mg base 2 "degree" (spDeg K)) (c_value_at : CalX P w K mg base 2 "value_at" spVal) {f : Addr} {fd : FuncData} (F : Fun K "law" "law" s_law f fd) (T : Txt K mg ad) : FnOk P w K mg base (L2.CX P w) 21 f fd ["script"] (spLaw K PA PE PM) := by
  refine F.okX sc_law (fun vs H Q E => ?_) (fun cdv A outer s H vs Q E hr h => ?_)
  · walk_at "len"
  ·
    obtain ⟨sa, ns, rfl, hS, hlen, hTA, hTE, hTM, k⟩ := h
    have toN : ∀ {i : Int}, 0 ≤ i → ∃ n : Nat, i = (n : Int) := fun {i} h => ⟨i.toNat, by omega⟩
    refine ⟨_, (pss_cons (ps_set (i := 1) sc_law.nd rfl (by first | exact Or.inl rfl | exact Or.inr rfl) (pc_call c_law_pot hr (by first | decide | omega) (takes_of rfl rfl rfl rfl) (by rfl) (pa_cons (pv 0) pa_nil)))
      (pss_cons (ps_set (i := 2) sc_law.nd rfl (by first | exact Or.inl rfl | exact Or.inr rfl) (pd_new0 (by rfl)))
      (pss_cons (ps_set (i := 3) sc_law.nd rfl (by first | exact Or.inl rfl | exact Or.inr rfl) (pc_call c_law_drawn hr (by first | decide | omega) (takes_of rfl rfl rfl rfl) (by rfl) (pa_cons (pv 1) pa_nil)))
      (pss_cons (ps_set (i := 4) sc_law.nd rfl (by first | exact Or.inl rfl | exact Or.inr rfl) (pc_call c_law_drawn hr (by first | decide | omega) (takes_of rfl rfl rfl rfl) (by rfl) (pa_cons (pv 1) pa_nil)))
      (pss_cons (ps_set (i := 5) sc_law.nd rfl (by first | exact Or.inl rfl | exact Or.inr rfl) (pc_call c_law_drawn hr (by first | decide | omega) (takes_of rfl rfl rfl rfl) (by rfl) (pa_cons (pv 1) pa_nil)))
      (C8.pss_cut (ps_if (PW.pt (pw_or (pt_not (pt_val (pc_call c_law_same hr (by first | decide | omega) (takes_of rfl rfl rfl rfl) (by rfl) (pa_cons (pd_meth hr (takes_of rfl rfl rfl rfl) (pv 2) (pa_cons (pv 3) (pa_cons (pv 4) pa_nil))) (pa_cons (pc_call c_law_sum hr (by first | decide | omega) (takes_of rfl rfl rfl rfl) (by rfl) (pa_cons (pv 3) (pa_cons (pv 4) pa_nil))) pa_nil))))) (pw_or1 (pt_not (pt_val (pc_call c_law_same hr (by first | decide | omega) (takes_of rfl rfl rfl rfl) (by rfl) (pa_cons (pd_meth hr (takes_of rfl rfl rfl rfl) (pv 2) (pa_cons (pv 3) (pa_cons (pv 4) pa_nil))) (pa_cons (pc_call c_law_product hr (by first | decide | omega) (takes_of rfl rfl rfl rfl) (by rfl) (pa_cons (pv 3) (pa_cons (pv 4) pa_nil))) pa_nil)))))))) (pss_one (ps_ret pe_bl)) pss_nil)
      (C8.pss_cut (ps_if (pt_cmpR (op_neNK hr.units) (pd_meth hr (takes_of rfl rfl rfl rfl) (pv 2) (pa_cons (pv 3) (pa_cons (pd_meth hr (takes_of rfl rfl rfl rfl) (pv 2) (pa_cons (pv 4) (pa_cons (pv 5) pa_nil))) pa_nil))) (pd_meth hr (takes_of rfl rfl rfl rfl) (pv 2) (pa_cons (pd_meth hr (takes_of rfl rfl rfl rfl) (pv 2) (pa_cons (pv 3) (pa_cons (pv 4) pa_nil))) (pa_cons (pd_meth hr (takes_of rfl rfl rfl rfl) (pv 2) (pa_cons (pv 3) (pa_cons (pv 5) pa_nil))) pa_nil))) (nomark _)) (pss_one (ps_ret pe_bl)) pss_nil)
      (C8.pss_cut (ps_if (PW.pt (pw_or (pt_cmpR (op_neNK hr.units) (pd_meth hr (takes_of rfl rfl rfl rfl) (pv 2) (pa_cons (pv 3) (pa_cons (pd_meth0 hr (takes_of rfl rfl rfl rfl) (pv 2)) pa_nil))) (pv 3) (nomark _)) (pw_or (pt_cmpR (op_neNK hr.units) (pd_meth hr (takes_of rfl rfl rfl rfl) (pv 2) (pa_cons (pv 3) (pa_cons (pd_meth0 hr (takes_of rfl rfl rfl rfl) (pv 2)) pa_nil))) (pv 3) (nomark _)) (pw_or1 (pt_cmpR (op_neNK hr.units) (pd_meth hr (takes_of rfl rfl rfl rfl) (pv 2) (pa_cons (pv 3) (pa_cons (pd_meth0 hr (takes_of rfl rfl rfl rfl) (pv 2)) pa_nil))) (pd_meth0 hr (takes_of rfl rfl rfl rfl) (pv 2)) (nomark _)))))) (pss_one (ps_ret pe_bl)) pss_nil)
      (C8.pss_cut (ps_set (i := 6) sc_law.nd rfl (by first | exact Or.inl rfl | exact Or.inr rfl) pe_dnewK)
      (pss_cons (ps_for (passes_of rfl) rfl (pi_list (pe_lst (pa_cons pe_int (pa_cons pe_int (pa_cons pe_int pa_nil))))) (pg_name (i := 7) sc_law.nd rfl (by first | exact Or.inl rfl | exact Or.inr rfl)) (pss_one (ps_dput (hu_of hr) (pv 6) (pv 7) (pe_op op_sub (pc_call c_law_next hr (by first | decide | omega) (takes_of rfl rfl rfl rfl) (by rfl) (pa_cons (pv 1) (pa_cons pe_int pa_nil))) pe_int) rfl)))
      (C8.pss_cut (ps_set (i := 8) sc_law.nd rfl (by first | exact Or.inl rfl | exact Or.inr rfl) (pc_call c_value_at hr (by first | decide | omega) (takes_of rfl rfl rfl rfl) (by rfl) (pa_cons (pv 3) (pa_cons (pv 6) pa_nil))))
      (C8.pss_cut (ps_set (i := 9) sc_law.nd rfl (by first | exact Or.inl rfl | exact Or.inr rfl) (pc_call c_value_at hr (by first | decide | omega) (takes_of rfl rfl rfl rfl) (by rfl) (pa_cons (pv 4) (pa_cons (pv 6) pa_nil))))
      (C8.pss_cut (ps_if (PW.pt (pw_or (pt_not (pt_val (pc_call c_law_is_int hr (by first | decide | omega) (takes_of rfl rfl rfl rfl) (by rfl) (pa_cons (pv 8) pa_nil)))) (pw_or1 (pt_cmpR op_ne (pc_call c_value_at hr (by first | decide | omega) (takes_of rfl rfl rfl rfl) (by rfl) (pa_cons (pc_call c_law_sum hr (by first | decide | omega) (takes_of rfl rfl rfl rfl) (by rfl) (pa_cons (pv 3) (pa_cons (pv 4) pa_nil))) (pa_cons (pv 6) pa_nil))) (pe_op op_add (pv 8) (pv 9)) (nomark _))))) (pss_one (ps_ret pe_bl)) pss_nil)
      (C8.pss_cut (ps_if (PW.pt (pw_or (pt_cmpR op_ne (pc_call c_value_at hr (by first | decide | omega) (takes_of rfl rfl rfl rfl) (by rfl) (pa_cons (pc_call c_law_product hr (by first | decide | omega) (takes_of rfl rfl rfl rfl) (by rfl) (pa_cons (pv 3) (pa_cons (pv 4) pa_nil))) (pa_cons (pv 6) pa_nil))) (pe_op op_mul (pv 8) (pv 9)) (nomark _)) (pw_or1 (pt_cmpR op_ne (pc_call c_value_at hr (by first | decide | omega) (takes_of rfl rfl rfl rfl) (by rfl) (pa_cons (pc_call c_variable hr (by first | decide | omega) (takes_of rfl rfl rfl rfl) (by rfl) (pa_cons pe_int pa_nil)) (pa_cons (pv 6) pa_nil))) (pe_dget (hu_of hr) (pv 6) pe_int (fun _ _ => rfl)) (nomark _))))) (pss_one (ps_ret pe_bl)) pss_nil)
      (C8.pss_cut (ps_if (PW.pt (pw_or (pt_cmpR (op_neNK hr.units) (pc_call c_variable hr (by first | decide | omega) (takes_of rfl rfl rfl rfl) (by rfl) (pa_cons pe_int pa_nil)) (pe_tup (pa_cons (pe_tup (pa_cons (pe_tup (pa_cons (pe_tup (pa_cons pe_int (pa_cons pe_int pa_nil))) pa_nil)) (pa_cons pe_int pa_nil))) pa_nil)) (nomark _)) (pw_or (pt_cmpR (op_neNK hr.units) (pd_meth0 hr (takes_of rfl rfl rfl rfl) (pv 2)) (pe_tup pa_nil) (nomark _)) (pw_or1 (pt_cmpR (op_neNK hr.units) (pd_meth0 hr (takes_of rfl rfl rfl rfl) (pv 2)) (pe_tup (pa_cons (pe_tup (pa_cons (pe_tup pa_nil) (pa_cons pe_int pa_nil))) pa_nil)) (nomark _)))))) (pss_one (ps_ret pe_bl)) pss_nil)
      (C8.pss_cut (ps_if (pt_cmpR op_ne (pc_call c_degree hr (by first | decide | omega) (takes_of rfl rfl rfl rfl) (by rfl) (pa_cons (pv 3) pa_nil)) (pe_callB (cr_max rfl) (by rfl) T.z_max (by decide +kernel) (pa_cons (pe_op op_cat (pe_lc (own := [("pair", 11)]) (tt := tYes) rfl sc_law.nd (pi_tup (pv 3)) (blkOk_by (by kernel_rfl)) (fun _ _ _ _ _ => (pg_name (i := 11) sc_law.nd rfl (by first | exact Or.inl rfl | exact Or.inr rfl))) (fun _ _ _ _ _ => pts_nil) (fun _ _ _ _ _ => (pe_callB (kcr_sum (K := K) rfl) (by rfl) T.z_sum (by decide +kernel) (pa_cons (pe_lc (own := [("part", 12)]) (tt := tYes) rfl sc_law.nd (kpi_tup (K := K) (pe_ix (kix_tup (K := K)) (pv 11) pe_int (fun _ _ => rfl))) (blkOk_by (by kernel_rfl)) (fun _ _ _ _ _ => (pg_name (i := 12) sc_law.nd rfl (by first | exact Or.inl rfl | exact Or.inr rfl))) (fun _ _ _ _ _ => pts_nil) (fun _ _ _ _ _ => (pe_ix (kix_tup (K := K)) (pv 12) pe_int (fun _ _ => rfl)))) pa_nil)))) (pe_lst (pa_cons pe_int pa_nil))) pa_nil)) (nomark _)) (pss_one (ps_ret pe_bl)) pss_nil)
      (C8.pss_cut (ps_if (PW.pt (pw_or (pt_cmpR (op_neNK hr.units) (pc_call c_law_star hr (by first | decide | omega) (takes_of rfl rfl rfl rfl) (by rfl) (pa_cons (pv 2) (pa_cons (pe_tup pa_nil) pa_nil))) (pd_meth0 hr (takes_of rfl rfl rfl rfl) (pv 2)) (nomark _)) (pw_or1 (PW.pt (pw_and (pt_cmpR (op_neNK hr.units) (pv 3) (pe_tup pa_nil) (nomark _)) (pw_and1 (pt_cmpR op_notBl (pc_call c_law_star hr (by first | decide | omega) (takes_of rfl rfl rfl rfl) (by rfl) (pa_cons (pv 2) (pa_cons (pv 3) pa_nil))) pe_bl (nomark _)))))))) (pss_one (ps_ret pe_bl)) pss_nil)
      (C8.pss_cut (ps_set (i := 10) sc_law.nd rfl (by first | exact Or.inl rfl | exact Or.inr rfl) (pe_lst (pa_cons pe_int (pa_cons (pe_tup (pa_cons (pe_tup pa_nil) (pa_cons pe_int pa_nil))) (pa_cons (pe_tup (pa_cons (pe_tup (pa_cons (pe_tup pa_nil) (pa_cons pe_int pa_nil))) pa_nil)) (pa_cons (pe_tup (pa_cons (pe_tup (pa_cons (pe_tup (pa_cons (pe_tup (pa_cons pe_int (pa_cons pe_int pa_nil))) pa_nil)) (pa_cons pe_int pa_nil))) pa_nil)) (pa_cons (pe_tup (pa_cons (pe_tup (pa_cons (pe_tup (pa_cons (pe_tup (pa_cons pe_int (pa_cons pe_int pa_nil))) (pa_cons (pe_tup (pa_cons pe_int (pa_cons pe_int pa_nil))) pa_nil))) (pa_cons pe_int pa_nil))) pa_nil)) (pa_cons (pe_tup (pa_cons (pe_tup (pa_cons (pe_tup pa_nil) (pa_cons pe_int pa_nil))) (pa_cons (pe_tup (pa_cons (pe_tup pa_nil) (pa_cons pe_int pa_nil))) pa_nil))) (pa_cons (pe_tup (pa_cons (pe_tup (pa_cons (pe_tup (pa_cons (pe_tup (pa_cons (pe_un un_neg pe_int) (pa_cons pe_int pa_nil))) pa_nil)) (pa_cons pe_int pa_nil))) pa_nil)) (pa_cons (pe_lst (pa_cons (pe_tup (pa_cons (pe_tup pa_nil) (pa_cons pe_int pa_nil))) pa_nil)) pa_nil))))))))))
      (pss_one (ps_ret (pe_and (pe_callB (cr_all rfl) (by rfl) T.z_all (by decide +kernel) (pa_cons (pe_lc (own := [("x", 13)]) (tt := tYes) rfl sc_law.nd (pi_list (pe_lst (pa_cons (pv 3) (pa_cons (pv 4) (pa_cons (pv 5) pa_nil))))) (blkOk_by (by kernel_rfl)) (fun _ _ _ _ _ => (pg_name (i := 13) sc_law.nd rfl (by first | exact Or.inl rfl | exact Or.inr rfl))) (fun _ _ _ _ _ => pts_nil) (fun _ _ _ _ _ => (pe_cmpR op_isBl (kpd_meth (P := P) (w := w) (K := K) (mg := mg) (base := base) hr takes0 (pv 2) (pa_cons (pv 13) pa_nil)) pe_bl (nomark _)))) pa_nil)) (pe_one (pe_callB (cr_all rfl) (by rfl) T.z_all (by decide +kernel) (pa_cons (pe_lc (own := [("x", 13)]) (tt := tYes) rfl sc_law.nd (pi_list (pv 10)) (blkOk_by (by kernel_rfl)) (fun _ _ _ _ _ => (pg_name (i := 13) sc_law.nd rfl (by first | exact Or.inl rfl | exact Or.inr rfl))) (fun _ _ _ _ _ => pts_nil) (fun _ _ _ _ _ => (pe_cmpR op_isBl (kpd_meth (P := P) (w := w) (K := K) (mg := mg) (base := base) hr takes0 (pv 2) (pa_cons (pv 13) pa_nil)) pe_bl (nomark _)))) pa_nil)))))))))))))))))))))))), ?_⟩
    refine go_seq ⟨_, rfl, sa, ns, rfl, hS, hlen, fun H1 p s1 np P1 => go_name rfl ?_⟩
    obtain ⟨pb, P1⟩ := P1.b_
    -- ring
    refine go_seq ⟨ad.Polynomials, mkW, fun y dy hy hdy nyd => go_name rfl ?_⟩
    have s2 : Same H1 (upd (upd H1 dy (.own y)) y (.ins ad.Polynomials dy [])) := fun c o e => by
      rw [upd_ne (ne_of_none e hy), upd_ne (ne_of_none e hdy)]
      exact e
    have P2 := P1.same s2
    have hyr : (upd (upd H1 dy (.own y)) y (.ins ad.Polynomials dy [])) y = some (.ins ad.Polynomials dy []) := upd_same
    obtain ⟨xp, hxp⟩ : ∃ xs, H1 p = some (.lst xs) := let ⟨_, _, _, _, e, _⟩ := P1; ⟨_, e⟩
    have nyp : y ≠ p := (ne_of_none hxp hy).symm
    have hT : ∀ {Q}, TabG H Q → TabG (upd (upd H1 dy (.own y)) y (.ins ad.Polynomials dy [])) Q := fun ⟨ps, e, t⟩ => ⟨ps, s2 _ _ (s1 _ _ e), t⟩
    have hTA := hT hTA
    have hTE := hT hTE
    have hTM := hT hTM
    generalize upd (upd H1 dy (.own y)) y (.ins ad.Polynomials dy []) = H2 at P2 hyr hTA hTE hTM
    have nyp2 := nyp
    -- a, b, c
    have tupk : ∀ {G G' : Hp}, PotB G p pb → Fr1 p G G' → ∀ c xs, G c = some (.tup xs) → G' c = some (.tup xs) := fun pb fr c xs e => by
      obtain ⟨ns, i, c0, sd, e1, _⟩ := pb
      exact fr _ _ (ne_of e e1 (fun z => nomatch z)) e
    refine go_seq ⟨_, rfl, p, pb, rfl, P2, fun H3 va a f3 P3 va0 ka ca la cfa moa => go_name rfl ?_⟩
    refine go_seq ⟨_, rfl, p, pb, rfl, P3, fun H4 vb b f4 P4 vb0 kb cb lb cfb mob => go_name rfl ?_⟩
    refine go_seq ⟨_, rfl, p, pb, rfl, P4, fun H5 vc c f5 P5 vc0 kc cc lc cfc moc => go_name rfl ?_⟩
    have da : Dr H5 (.ref va) a := ⟨(ka.keeps (tupk P3 f4)).keeps (tupk P4 f5), ca, la, cfa, moa⟩
    have db : Dr H5 (.ref vb) b := ⟨kb.keeps (tupk P4 f5), cb, lb, cfb, mob⟩
    have dc : Dr H5 (.ref vc) c := ⟨kc, cc, lc, cfc, moc⟩
    have hy5 : H5 y = some (.ins ad.Polynomials dy []) := f5 _ _ nyp (f4 _ _ nyp (f3 _ _ nyp hyr))
    have tabs5 : ∀ {Q}, TabG H2 Q → TabG H5 Q := fun {Q} ⟨ps, e, t⟩ => by
      obtain ⟨ns, i, c0, sd, e1, _⟩ := P2
      have ne : Q ≠ p := ne_of e e1 (fun z => nomatch z)
      exact ⟨ps, f5 _ _ ne (f4 _ _ ne (f3 _ _ ne e)), t⟩
    have hTA := tabs5 hTA
    have hTE := tabs5 hTE
    have hTM := tabs5 hTM
    clear tabs5 f3 f4 f5 ka kb kc
    have ta : tot a ≤ 5000000 := Nat.le_trans (tot_le cfa) (by omega)
    have tb : tot b ≤ 5000000 := Nat.le_trans (tot_le cfb) (by omega)
    have tc : tot c ≤ 5000000 := Nat.le_trans (tot_le cfc) (by omega)
    have Ma : Ml 4 a := fun t ht => (moa t ht).1
    have Mb : Ml 4 b := fun t ht => (mob t ht).1
    have Mc : Ml 4 c := fun t ht => (moc t ht).1
    obtain ⟨S0, hσ⟩ : ∃ S : L2.St, S = [some (.ref sa), some (.ref p), some (.ref y), some (.ref va), some (.ref vb), some (.ref vc), none, none, none, none, none, none, none, none] := ⟨_, rfl⟩
    have g2 : S0[2]? = some (some (.ref y)) := by rw [hσ]; rfl
    have g3 : S0[3]? = some (some (.ref va)) := by rw [hσ]; rfl
    have g4 : S0[4]? = some (some (.ref vb)) := by rw [hσ]; rfl
    have g5 : S0[5]? = some (some (.ref vc)) := by rw [hσ]; rfl
    rw [show ((((((L2.start [Str.ofString "script", Str.ofString "pot", Str.ofString "ring", Str.ofString "a", Str.ofString "b", Str.ofString "c", Str.ofString "numbers", Str.ofString "fact", Str.ofString "one", Str.ofString "other", Str.ofString "bad", Str.ofString "pair", Str.ofString "part", Str.ofString "x"] [V.ref sa]).set 1 (some (V.ref p))).set 2 (some (V.ref y))).set 3 (some (V.ref va))).set 4 (some (V.ref vb))).set 5 (some (V.ref vc))) = S0 from hσ.symm]
    have A := tm_var g3 da.at_ da.pc
    have B := tm_var g4 db.at_ db.pc
    have C := tm_var g5 dc.at_ dc.pc
    have pl : ∀ {ta tb : TE} {L L' : Terms} {n n' : Nat} {W : WX}, Tm ta S0 H5 L n → Tm tb S0 H5 L' n' → tot L < 2 ^ 60 → n + n' ≤ 400 → Ml 30 L → Ml 30 L' → Tm (tMethD P w K mg base 20 "plus" W (tVar 2) (tCons ta (tCons tb tNil))) S0 H5 (L ++ L') (n + n') := fun {ta tb L L' n n' W} x y t l m m' =>
      tm_bin m_plus (by decide) hy5 g2 cf_add x y t (by omega) (by omega) (m.le (by decide)) (m'.le (by decide)) (fun a b h h' => by rw [List.length_append]; omega) l
    have mu : ∀ {ta tb : TE} {L L' : Terms} {n n' : Nat} {W : WX}, Tm ta S0 H5 L n → Tm tb S0 H5 L' n' → tot L < 2 ^ 60 → n ≤ 400 → n' ≤ 400 → n * n' ≤ 400 → Ml 30 L → Ml 30 L' → Tm (tMethD P w K mg base 20 "times" W (tVar 2) (tCons ta (tCons tb tNil))) S0 H5 (tmul L L') (n * n') := fun {ta tb L L' n n' W} x y t l1 l2 l m m' =>
      tm_bin m_times (by decide) hy5 g2 cf_mul x y t l1 l2 (m.le (by decide)) (m'.le (by decide)) (fun a b h h' => by rw [tmul_len]; exact Nat.mul_le_mul h h') l
    have la5 := da.len
    have lb5 := db.len
    have lc5 := dc.len
    have ab25 : a.length * b.length ≤ 25 := Nat.mul_le_mul la5 lb5
    have ac25 : a.length * c.length ≤ 25 := Nat.mul_le_mul la5 lc5
    have abc : a.length * (b.length + c.length) ≤ 50 := Nat.mul_le_mul la5 (show b.length + c.length ≤ 10 by omega)
    have Ma30 : Ml 30 a := Ma.le (by decide)
    have Mb30 : Ml 30 b := Mb.le (by decide)
    have Mc30 : Ml 30 c := Mc.le (by decide)
    have Mab : Ml 30 (tmul a b) := (Ma.mul Mb).le (by decide)
    have Mac : Ml 30 (tmul a c) := (Ma.mul Mc).le (by decide)
    have tab : tot (tmul a b) < 2 ^ 60 := by
      rw [tot_tmul]
      exact Nat.lt_of_le_of_lt (Nat.mul_le_mul ta tb) (by decide)
    have Z : ∀ {W : WX}, Tm (tMethD P w K mg base 20 "zero" W (tVar 2) tNil) S0 H5 [] 0 := tm_nul m_zero (by decide) hy5 g2 pc_nil
    have O : ∀ {W : WX}, Tm (tMethD P w K mg base 20 "one" W (tVar 2) tNil) S0 H5 [([], 1)] 1 := tm_nul m_one (by decide) hy5 g2 pc_one
    have M0 : Ml 30 ([] : Terms) := fun _ h => (nomatch h)
    have M1 : Ml 30 [([], 1)] := fun x h => by rw [List.mem_singleton.mp h]; exact Nat.zero_le _
    -- sums and products
    refine ⟨fun σ H' => σ = S0 ∧ FrT H5 H', ?_, ?_⟩
    · exact (ts_or (ts_same (pl A B (by omega) (by omega) Ma30 Mb30) (tm_fun cf_add A B (by omega) (by omega) (by omega) Ma30 Mb30 (N := a.length + b.length) (fun p q h h' => by rw [List.length_append]; omega) (by omega)) (fun _ => rfl) (by omega) ((Ma30.app Mb30).le (by decide)))
        (ts_same (mu A B (by omega) (by omega) (by omega) (by omega) Ma30 Mb30) (tm_fun cf_mul A B (by omega) (by omega) (by omega) Ma30 Mb30 (N := a.length * b.length) (fun p q h h' => by rw [tmul_len]; exact Nat.mul_le_mul h h') (by omega)) (fun _ => rfl) (by omega) (Mab.le (by decide)))) H5 _ (FrT.refl _) fun H6 f6 => iteF ⟨rfl, f6⟩
    rintro σ H6 ⟨rfl, f6⟩
    refine ⟨fun σ' H' => σ' = σ ∧ FrT H5 H', ?_, ?_⟩
    · exact (ts_ne (mu A (pl B C (by omega) (by omega) Mb30 Mc30) (by omega) (by omega) (by omega) (by omega) Ma30 (Mb30.app Mc30)) (pl (mu A B (by omega) (by omega) (by omega) (by omega) Ma30 Mb30) (mu A C (by omega) (by omega) (by omega) (by omega) Ma30 Mc30) tab (by omega) Mab Mac) fun m => by rw [tmul_add, coef_app]) H6 _ f6 fun H7 f7 => iteF ⟨rfl, f6.trans f7⟩
    rintro σ' H7 ⟨rfl, f7⟩
    refine ⟨fun σ H' => σ = σ' ∧ FrT H5 H', ?_, ?_⟩
    · exact (ts_or (ts_ne (pl A Z (by omega) (by omega) Ma30 M0) A fun m => by rw [List.append_nil]) (ts_or (ts_ne (mu A O (by omega) (by omega) (by omega) (by omega) Ma30 M1) A fun m => tmul_one a m) (ts_ne (mu A Z (by omega) (by omega) (by omega) (by omega) Ma30 M0) Z fun m => by rw [tmul_nil]))) H7 _ f7 fun H8 f8 => iteF ⟨rfl, f7.trans f8⟩
    rintro σ H8 ⟨rfl, f8⟩
    subst hσ
    clear A B C pl mu Z O g2 g3 g4 g5
    -- numbers
    refine ⟨fun σ H' => ∃ d, σ = [some (.ref sa), some (.ref p), some (.ref y), some (.ref va), some (.ref vb), some (.ref vc), some (.ref d), none, none, none, none, none, none, none] ∧ FrT H5 H' ∧ H' d = some (.dK []), fun d hd => go_name rfl ⟨d, rfl, f8.trans (FrT.of (same_new (Same.refl _) hd)), upd_same⟩, ?_⟩
    rintro σ H9 ⟨d, rfl, f9, e9⟩
    have P9 : PotB H9 p pb := let ⟨ns, i, c, sd, e1, e2, h⟩ := P5; ⟨ns, i, c, sd, f9.lst e1, f9.lst e2, h⟩
    have hy9 := f9.ins hy5
    have da9 := da.fr (fun b ys e => f9.tup e)
    have db9 := db.fr (fun b ys e => f9.tup e)
    have dc9 := dc.fr (fun b ys e => f9.tup e)
    have hTA := f9.tabs _ hTA
    have hTE := f9.tabs _ hTE
    have hTM := f9.tabs _ hTM
    clear f8 f7 f6 f9 P5 hy5 da db dc
    obtain ⟨xp9, ep9⟩ : ∃ xs, H9 p = some (.lst xs) := let ⟨_, _, _, _, e, _⟩ := P9; ⟨_, e⟩
    have ndp : d ≠ p := fun z => by rw [z, ep9] at e9; cases e9
    refine go_sq ⟨(show 3 ≤ sizeLine by decide), fun A hA => ⟨A, rfl, ⟨_, SqL.of upd_same⟩, ?_⟩⟩
    have s10 := same_new (o := .lst [.int 0, .int 2, .int 3]) (Same.refl H9) hA
    have eA : (upd H9 A (.lst [.int 0, .int 2, .int 3])) A = some (.lst [.int 0, .int 2, .int 3]) := upd_same
    have nAp : A ≠ p := (ne_of_none ep9 hA).symm
    have nAd : A ≠ d := (ne_of_none e9 hA).symm
    have P10 := P9.same s10
    have e10 := s10 _ _ e9
    generalize upd H9 A (.lst [.int 0, .int 2, .int 3]) = H10 at s10 eA P10 e10
    refine for_list (K := K) (a := A) (xs := [.int 0, .int 2, .int 3]) (fun i σ H' => ∃ (v7 : Option V) (kvs : List (L2.Key × V)) (φ : Nat → Int), σ = [some (.ref sa), some (.ref p), some (.ref y), some (.ref va), some (.ref vb), some (.ref vc), some (.ref d), v7, none, none, none, none, none, none] ∧ (∀ b o, b ≠ p → b ≠ d → H10 b = some o → H' b = some o) ∧ PotB H' p pb ∧ H' d = some (.dK kvs) ∧ kvs.length ≤ i ∧ (∀ f : Nat, (valV kvs (.inl (f : Int))).getD (.int 0) = .int (φ f)) ∧ (∀ f, (φ f).natAbs ≤ 4) ∧ (2 ≤ i → valV kvs (.inl ((2 : Nat) : Int)) = some (.int (φ 2))))
      ⟨none, [], fun _ => 0, rfl, fun _ _ _ _ e => e, P10, e10, Nat.le_refl _, fun _ => rfl, fun _ => Nat.zero_le _, fun z => absurd z (by decide)⟩ (fun i σ H' _ ⟨_, _, _, _, fr, _⟩ => SqL.of (fr _ _ nAp nAd eA)) ?_ ?_
    · rintro i z σ H11 hz ⟨v7, kvs, φ, rfl, fr, P11, e11, l11, hφ, bφ, h2⟩
      obtain ⟨g, rfl, hg⟩ : ∃ g : Nat, z = .int (g : Int) ∧ (i = 1 → g = 2) ∧ (2 ≤ i → g = 3) ∧ i < 3 := by
        rcases i with _ | _ | _ | i
        · cases hz; exact ⟨0, rfl, fun z => absurd z (by decide), fun z => absurd z (by decide), by decide⟩
        · cases hz; exact ⟨2, rfl, fun _ => rfl, fun z => absurd z (by decide), by decide⟩
        · cases hz; exact ⟨3, rfl, fun z => absurd z (by decide), fun _ => rfl, by decide⟩
        · simp at hz
      refine go_name rfl ?_
      refine ⟨_, rfl, p, 9, rfl, P11.at_, by decide, by decide, fun H12 r f12 _ r0 r1 hb12 => ?_⟩
      have P12 := hb12 _ P11
      have e12 := f12 _ _ ndp e11
      refine ⟨_, _, rfl, rfl, _, rfl, _, rfl, d, _, rfl, DPut.k (k := .inl (g : Int)) e12 ?_, ?_⟩
      · exact Nat.lt_of_le_of_lt (by omega : _ ≤ 1000) (by decide)
      · obtain ⟨xb, eb⟩ : ∃ xs, H12 pb = some (.lst xs) := let ⟨_, _, _, _, _, e, _⟩ := P12; ⟨_, e⟩
        have ndb : pb ≠ d := fun z => by rw [z, e12] at eb; cases eb
        refine go_nx ⟨_, _, fun f => if f = g then r - 4 else φ f, rfl, fun c o n1 n2 h => by rw [upd_ne n2]; exact f12 _ _ n1 (fr _ _ n1 n2 h), P12.but (by rw [upd_ne (Ne.symm ndp)]) (by rw [upd_ne ndb]), upd_same, ?_, fun f => ?_, fun f => ?_, fun hi => ?_⟩
        · have := length_putK kvs (.inl (g : Int)) (.int (r - 4))
          show (putK kvs (.inl (g : Int)) (.int (r - 4))).length ≤ i + 1
          omega
        · show (valV (putK kvs (.inl (g : Int)) (.int (r - 4))) (.inl (f : Int))).getD (.int 0) = .int (if f = g then r - 4 else φ f)
          rw [valV_put]
          by_cases c : f = g
          · subst c; rw [if_pos rfl, if_pos rfl]; rfl
          · rw [if_neg c, if_neg (fun z => c (by injection z with z; omega))]; exact hφ f
        · show (if f = g then r - 4 else φ f).natAbs ≤ 4
          split
          · omega
          · exact bφ f
        · show valV (putK kvs (.inl (g : Int)) (.int (r - 4))) (.inl ((2 : Nat) : Int)) = some (.int (if 2 = g then r - 4 else φ 2))
          rw [valV_put]
          by_cases c : 2 = g
          · subst c; rw [if_pos rfl, if_pos rfl]
          · rw [if_neg c, if_neg (fun z => c (by injection z with z; omega))]
            exact h2 (by rcases hg with ⟨h1, _⟩; by_cases e : i = 1
                         · exact absurd (h1 e).symm c
                         · omega)
    rintro σ Hs ⟨v7, kvs, φ, rfl, fr, Ps, es, ls, hφ, bφ, h2⟩
    have h2 := h2 (by decide)
    have frs : ∀ {b o}, b ≠ p → b ≠ d → H9 b = some o → Hs b = some o := fun n1 n2 h => fr _ _ n1 n2 (s10 _ _ h)
    have tupS : ∀ b ys, H9 b = some (.tup ys) → Hs b = some (.tup ys) := fun b ys e => frs (ne_of e ep9 (fun z => nomatch z)) (ne_of e e9 (fun z => nomatch z)) e
    have hyS := frs (ne_of hy9 ep9 (fun z => nomatch z)) (ne_of hy9 e9 (fun z => nomatch z)) hy9
    have da := da9.fr tupS
    have db := db9.fr tupS
    have dc := dc9.fr tupS
    have tabS : ∀ {Q}, TabG H9 Q → TabG Hs Q := fun {Q} ⟨ps, e, t⟩ => ⟨ps, frs (ne_of e ep9 (fun z => nomatch z)) (ne_of e e9 (fun z => nomatch z)) e, t⟩
    have hTA := tabS hTA
    have hTE := tabS hTE
    have hTM := tabS hTM
    clear tabS frs tupS fr da9 db9 dc9 hy9 s10 eA e10 P10 P9 e9
    refine go_nx ?_
    -- one, other
    have v8 : ∀ {q : Terms}, (∀ x ∈ q, x.1.length ≤ 4 ∧ ∀ z ∈ x.1, z.2 ≤ 4) → ∀ t ∈ q, ∀ z ∈ t.1, z.2 ≤ 8 := fun h t ht z hz => Nat.le_trans ((h t ht).2 z hz) (by decide)
    refine ⟨fun σ H' => σ = [some (.ref sa), some (.ref p), some (.ref y), some (.ref va), some (.ref vb), some (.ref vc), some (.ref d), v7, some (.int (sumL (ev φ) a)), none, none, none, none, none] ∧ H' = Hs, ⟨_, rfl, _, rfl, .ref va, d, kvs, a, φ, rfl, da.at_, es, hφ, bφ, v8 moa, go_name rfl ⟨rfl, rfl⟩⟩, ?_⟩
    rintro σ H1 ⟨rfl, rfl⟩
    refine ⟨fun σ H' => σ = [some (.ref sa), some (.ref p), some (.ref y), some (.ref va), some (.ref vb), some (.ref vc), some (.ref d), v7, some (.int (sumL (ev φ) a)), some (.int (sumL (ev φ) b)), none, none, none, none] ∧ H' = H1, ⟨_, rfl, _, rfl, .ref vb, d, kvs, b, φ, rfl, db.at_, es, hφ, bφ, v8 mob, go_name rfl ⟨rfl, rfl⟩⟩, ?_⟩
    rintro σ Hs ⟨rfl, rfl⟩
    obtain ⟨S0, hσ⟩ : ∃ S : L2.St, S = [some (.ref sa), some (.ref p), some (.ref y), some (.ref va), some (.ref vb), some (.ref vc), some (.ref d), v7, some (.int (sumL (ev φ) a)), some (.int (sumL (ev φ) b)), none, none, none, none] := ⟨_, rfl⟩
    have g2 : S0[2]? = some (some (.ref y)) := by rw [hσ]; rfl
    have g3 : S0[3]? = some (some (.ref va)) := by rw [hσ]; rfl
    have g4 : S0[4]? = some (some (.ref vb)) := by rw [hσ]; rfl
    have g5 : S0[5]? = some (some (.ref vc)) := by rw [hσ]; rfl
    have g6 : S0[6]? = some (some (.ref d)) := by rw [hσ]; rfl
    have g8 : S0[8]? = some (some (.int (sumL (ev φ) a))) := by rw [hσ]; rfl
    have g9 : S0[9]? = some (some (.int (sumL (ev φ) b))) := by rw [hσ]; rfl
    rw [← hσ]
    have A := tm_var g3 da.at_ da.pc
    have B := tm_var g4 db.at_ db.pc
    refine ⟨fun σ H' => σ = S0 ∧ FrT Hs H', ?_, ?_⟩
    · refine ⟨_, g8, .int _, .num (sumL (ev φ) a), rfl, .int _, true, rfl, iteF ?_⟩
      refine tm_fun cf_add A B (by omega) (by omega) (by omega) Ma30 Mb30 (N := a.length + b.length) (fun p q h h' => by rw [List.length_append]; omega) (by omega) Hs _ (FrT.refl _) fun H1 v q f1 kq pq cq lq => ?_
      have b8 : ∀ t ∈ q, ∀ z ∈ t.1, z.2 ≤ 8 := fun t ht => by
        obtain ⟨c, hc⟩ := mono_in pq cq t ht
        exact (List.mem_append.mp hc).elim (v8 moa (t.1, c)) (v8 mob (t.1, c))
      refine ⟨_, g6, v, d, kvs, q, φ, rfl, kq, f1.keep _ _ es (fun ps z => nomatch z), hφ, bφ, b8, _, g8, _, g9, _, _, rfl, rfl, rfl, ?_⟩
      rw [decide_eq_true (show V.int (sumL (ev φ) q) = V.int (sumL (ev φ) a + sumL (ev φ) b) by rw [linear (ev φ) cq, sumL_app])]
      exact ⟨false, rfl, iteF ⟨rfl, f1⟩⟩
    rintro σ H1 ⟨rfl, f1⟩
    refine ⟨fun σ' H' => σ' = σ ∧ FrT Hs H', ?_, ?_⟩
    · have big : (sumL (ev φ) a).natAbs ≤ 5000000 * 4294967296 := by
        refine Nat.le_trans (sum_le (B := 4294967296) fun t ht => ?_) (Nat.mul_le_mul_right _ ta)
        refine Nat.le_trans (ev_le bφ (moa t ht).2) ?_
        exact Nat.le_trans (Nat.pow_le_pow_right (by decide) (moa t ht).1) (by decide)
      refine tm_fun cf_mul A B (by omega) (by omega) (by omega) Ma30 Mb30 (N := a.length * b.length) (fun p q h h' => by rw [tmul_len]; exact Nat.mul_le_mul h h') (by omega) H1 _ f1 fun H2 v q f2 kq pq cq lq => ?_
      have b8 : ∀ t ∈ q, ∀ z ∈ t.1, z.2 ≤ 8 := fun t ht => by
        obtain ⟨c, hc⟩ := mono_in pq cq t ht
        obtain ⟨x, hx, hc⟩ := List.mem_flatMap.mp hc
        obtain ⟨y, hy, hc⟩ := List.mem_map.mp hc
        have e : mmul x.1 y.1 = t.1 := congrArg Prod.fst hc
        rw [← e]
        exact mmul_le (ca.mc x hx) (cb.mc y hy) (moa x hx).2 (mob y hy).2
      have f02 := f1.trans f2
      refine ⟨_, g6, v, d, kvs, q, φ, rfl, kq, f02.keep _ _ es (fun ps z => nomatch z), hφ, bφ, b8, _, g8, _, g9, _, _, rfl, rfl, .inl ⟨by omega, by omega⟩, rfl, ?_⟩
      rw [decide_eq_true (show V.int (sumL (ev φ) q) = V.int (sumL (ev φ) a * sumL (ev φ) b) by rw [linear (ev φ) cq, val_tmul])]
      refine ⟨false, rfl, iteF ?_⟩
      refine go_val ?_
      refine tm_vr (z := 2) 2 rfl H2 _ f02 fun H3 v q f3 kq pq cq lq => ?_
      have f03 := f02.trans f3
      have eq : q = [([(2, 1)], 1)] := pc_eq pq (pc_v 2) cq
      subst eq
      refine ⟨_, g6, v, d, kvs, _, φ, rfl, kq, f03.keep _ _ es (fun ps z => nomatch z), hφ, bφ, fun t ht z hz => ?_, _, g6, d, _, rfl, h2 ▸ DGet.k (k := .inl ((2 : Nat) : Int)) (f03.keep _ _ es (fun ps z => nomatch z)), rfl, ?_⟩
      · rw [List.mem_singleton.mp ht] at hz
        rw [List.mem_singleton.mp hz]
        decide
      rw [decide_eq_true (show V.int (sumL (ev φ) [([(2, 1)], 1)]) = V.int (φ 2) by
        show V.int (((1 : Nat) : Int) * (φ 2 ^ 1 * 1) + 0) = _
        rw [Int.pow_one, Int.mul_one, Int.add_zero]
        show V.int (1 * φ 2) = _
        rw [Int.one_mul])]
      exact ⟨false, rfl, iteF ⟨rfl, f03⟩⟩
    rintro σ' H2 ⟨rfl, f2⟩
    have Z : ∀ {W : WX}, Tm (tMethD P w K mg base 20 "zero" W (tVar 2) tNil) σ' Hs [] 0 := tm_nul m_zero (by decide) hyS g2 pc_nil
    have O : ∀ {W : WX}, Tm (tMethD P w K mg base 20 "one" W (tVar 2) tNil) σ' Hs [([], 1)] 1 := tm_nul m_one (by decide) hyS g2 pc_one
    refine ⟨fun σ H' => σ = σ' ∧ FrT Hs H', ?_, ?_⟩
    · exact (ts_or (ts_ne (tm_vr 7) (tm_dv 7) fun _ => rfl) (ts_or (ts_ne Z tm_nil fun _ => rfl) (ts_ne O tm_d1 fun _ => rfl))) H2 _ f2 fun H3 f3 => iteF ⟨rfl, f2.trans f3⟩
    rintro σ H3 ⟨rfl, f3⟩
    refine ⟨fun σ' H' => σ' = σ ∧ FrT Hs H', ?_, ?_⟩
    · subst hσ
      refine ⟨_, rfl, .ref va, a, rfl, Ky.frt f3 da.at_, by omega, fun t ht => Nat.le_trans (moa t ht).1 (by decide), fun H4 dg s4 dg0 dg1 => ?_⟩
      have f4 := f3.trans (FrT.of s4)
      obtain ⟨xs, ex, kx⟩ : ∃ xs, Hs va = some (.tup xs) ∧ Kys Hs (a.map kT) xs := by
        obtain ⟨a', xs, e, h1, h2⟩ := ky_tup da.at_
        cases e
        exact ⟨xs, h1, h2⟩
      have lx := kys_len kx
      rw [List.length_map] at lx
      have k4 : Kys H4 (a.map kT) xs := kx.keeps fun b ys e => f4.tup e
      refine ⟨_, rfl, va, rfl, ⟨_, SqT.of (f4.tup ex)⟩, fun D hD => ?_⟩
      refine DC2.walk_t (K := K) (xs := xs) (fun i H' => Same H4 H' ∧ H' D = some (.lst (((a.take i).map fun t => (t.1.map fun q => (q.2 : Int)).sum).map V.int))) ⟨same_new (Same.refl _) hD, upd_same⟩ (fun i H' _ ⟨s', _⟩ => SqT.of (s' _ _ (f4.tup ex))) (fun i z H5 hz ⟨s5, e5⟩ => ?_) (fun H5 ⟨s5, e5⟩ => ?_)
      · obtain ⟨m, c, q, u, hp, rfl, eq, ku⟩ := kt_at k4 hz
        obtain ⟨pm, ys, rfl, em, km⟩ := ky_tup ku
        have lm := kys_len km
        rw [List.length_map] at lm
        have hm4 : m.length ≤ 4 := (moa _ (List.mem_of_getElem? hp)).1
        refine ⟨rfl, yes_then (iteT ⟨_, rfl, q, _, _, .ref pm, rfl, rfl, SqT.of (s5 _ _ eq), at_of (j := 0) rfl rfl, pm, rfl, ⟨_, SqT.of (s5 _ _ em)⟩, fun D2 hD2 => ?_⟩)⟩
        refine DC2.walk_t (K := K) (xs := ys) (fun j H' => Same H5 H' ∧ H' D2 = some (.lst (((m.take j).map fun q => (q.2 : Int)).map V.int))) ⟨same_new (Same.refl _) hD2, upd_same⟩ (fun j H' _ ⟨s', _⟩ => SqT.of (s' _ _ (s5 _ _ em))) (fun j z H6 hz ⟨s6, e6⟩ => ?_) (fun H6 ⟨s6, e6⟩ => ?_)
        · obtain ⟨f, e, q2, hm, rfl, eq2⟩ := q_at km hz
          refine ⟨rfl, yes_then (iteT ⟨_, rfl, q2, _, _, .int (e : Int), rfl, rfl, SqT.of (s6 _ _ (s5 _ _ eq2)), at_of (j := 1) rfl rfl, _, e6, ?_, same_but hD2 s6 but_app, ?_⟩)⟩
          · rw [List.length_map, List.length_map, List.length_take]
            exact Nat.lt_of_le_of_lt (by omega : _ ≤ 1000) (by decide)
          · rw [upd_same, List.take_add_one, hm, show (some (f, e)).toList = [(f, e)] from rfl, List.map_append, List.map_append]
            rfl
        · rw [← lm, List.take_length] at e6
          refine ⟨D2, _, rfl, SqL.of e6, _, s6 _ _ e5, ?_, same_but hD (fun b o z => s6 _ _ (s5 _ _ z)) but_app, ?_⟩
          · rw [List.length_map, List.length_map, List.length_take]
            exact Nat.lt_of_le_of_lt (by omega : _ ≤ 1000) (by decide)
          · rw [upd_same, List.take_add_one, hp, show (some (m, c)).toList = [(m, c)] from rfl, List.map_append, List.map_append]
            rfl
      · rw [← lx, List.take_length] at e5
        refine ⟨(show 1 ≤ sizeLine by decide), fun D2 hD2 => ?_⟩
        have s6 := same_new (o := .lst [.int 0]) (Same.refl H5) hD2
        generalize hL : (a.map fun t => (t.1.map fun q => (q.2 : Int)).sum) = Ls at e5 dg1
        refine ⟨D, D2, _, _, rfl, rfl, s6 _ _ e5, upd_same, ?_, fun D3 hD3 => ?_⟩
        · rw [← hL, List.length_map, List.length_map]
          exact Nat.le_trans (by simp; omega : _ ≤ 1000) (by decide)
        have s7 := same_new (o := .lst (Ls.map V.int ++ [.int 0])) (Same.refl _) hD3
        refine ⟨D3, Ls ++ [0], rfl, SqL.of (by rw [upd_same, List.map_append]; rfl), by simp, fun mx m1 m2 => ?_⟩
        have nonneg : ∀ z ∈ Ls, 0 ≤ z := fun z hz => by
          rw [← hL] at hz
          obtain ⟨t, _, rfl⟩ := List.mem_map.mp hz
          generalize t.1 = m
          induction m with
          | nil => exact Int.le_refl 0
          | cons q m ih => rw [List.map_cons, List.sum_cons]; omega
        have e : dg = mx := by
          by_cases c : a = []
          · have := dg0 c
            subst c
            rw [← hL] at m1
            rw [this]
            exact (List.mem_singleton.mp m1).symm
          · obtain ⟨d1, d2⟩ := dg1 c
            have h1 := m2 dg (List.mem_append_left _ d1)
            have h2 := nonneg dg d1
            rcases List.mem_append.mp m1 with h | h
            · have := d2 mx h; omega
            · rw [List.mem_singleton.mp h] at h1 ⊢; omega
        refine ⟨rfl, ?_⟩
        rw [decide_eq_true (show V.int dg = V.int mx by rw [e])]
        exact ⟨false, rfl, iteF ⟨rfl, f4.trans (FrT.of fun b o z => s7 _ _ (s6 _ _ (s5 _ _ z)))⟩⟩
    rintro σ' H4 ⟨rfl, f4⟩
    -- star
    refine ⟨fun σ H' => σ = σ' ∧ FrT Hs H', ?_, ?_⟩
    · refine ⟨_, g2, (show 0 ≤ sizeLine by decide), fun u hu => ?_⟩
      have f5 := f4.trans (FrT.of (same_new (o := .tup []) (Same.refl _) hu))
      refine ⟨y, dy, .ref u, [], rfl, f5.ins hyS, .tup upd_same .nil, fun _ H5 t s5 _ kt => ?_, fun z => absurd rfl z⟩
      have f6 := f5.trans (FrT.of s5)
      refine O H5 _ f6 fun H6 v q f7 kq pq cq lq => ?_
      have eq : q = [([], 1)] := pc_eq pq pc_one cq
      subst eq
      have d1 := dep_kP [([], 1)]
      refine ⟨_, _, Ky.frt f7 kt, kq, num_kP _, num_kP _, by omega, by omega, false, by decide, iteF ?_⟩
      have f8 := f6.trans f7
      refine ⟨_, g3, (show 0 ≤ sizeLine by decide), fun u2 hu2 => ?_⟩
      have f9 := f8.trans (FrT.of (same_new (o := .tup []) (Same.refl _) hu2))
      have d2 := dep_kP a
      have d3 := dep_kP []
      refine ⟨kP a, kP [], Ky.frt f9 da.at_, .tup upd_same .nil, num_kP _, num_kP _, by omega, by omega, ?_⟩
      by_cases c : a = []
      · have ek : (!decide (kP a = kP [])) = false := by rw [c, decide_eq_true rfl]; rfl
        rw [if_pos rfl, ek]
        exact ⟨false, rfl, iteF ⟨rfl, f9⟩⟩
      · have ek : (!decide (kP a = kP [])) = true := by rw [decide_eq_false fun z => c (kP_inj z)]; rfl
        rw [if_pos rfl, ek]
        refine ⟨true, rfl, iteT ?_⟩
        refine ⟨_, g2, _, g3, y, dy, .ref va, a, rfl, f9.ins hyS, Ky.frt f9 da.at_, fun z => absurd z c, fun _ H10 s10 => ⟨true, true, rfl, rfl, ?_⟩⟩
        exact ⟨false, rfl, iteF ⟨rfl, f9.trans (FrT.of s10)⟩⟩
    rintro σ H5 ⟨rfl, f5⟩
    subst hσ
    -- what is no element
    refine ⟨fun σ H' => ∃ (bd : Addr) (bs : List V), σ = [some (.ref sa), some (.ref p), some (.ref y), some (.ref va), some (.ref vb), some (.ref vc), some (.ref d), v7, some (.int (sumL (ev φ) a)), some (.int (sumL (ev φ) b)), some (.ref bd), none, none, none] ∧ FrT Hs H' ∧ H' bd = some (.lst bs) ∧ bs.length = 8 ∧ ∀ (i : Nat) x, bs[i]? = some x → Arg H' x false, ?_, ?_⟩
    · refine ⟨(show 0 ≤ sizeLine by decide), fun x1 h1 => ⟨(show 2 ≤ sizeLine by decide), fun x2 h2 => ⟨(show 0 ≤ sizeLine by decide), fun x3 h3 => ⟨(show 2 ≤ sizeLine by decide), fun x4 h4 => ⟨(show 1 ≤ sizeLine by decide), fun x5 h5 => ⟨(show 2 ≤ sizeLine by decide), fun x6 h6 => ⟨(show 1 ≤ sizeLine by decide), fun x7 h7 => ⟨(show 2 ≤ sizeLine by decide), fun x8 h8 => ⟨(show 1 ≤ sizeLine by decide), fun x9 h9 => ⟨(show 2 ≤ sizeLine by decide), fun x10 h10 => ⟨(show 2 ≤ sizeLine by decide), fun x11 h11 => ⟨(show 2 ≤ sizeLine by decide), fun x12 h12 => ⟨(show 2 ≤ sizeLine by decide), fun x13 h13 => ⟨(show 1 ≤ sizeLine by decide), fun x14 h14 => ⟨(show 0 ≤ sizeLine by decide), fun x15 h15 => ⟨(show 2 ≤ sizeLine by decide), fun x16 h16 => ⟨(show 0 ≤ sizeLine by decide), fun x17 h17 => ⟨(show 2 ≤ sizeLine by decide), fun x18 h18 => ⟨(show 2 ≤ sizeLine by decide), fun x19 h19 => ⟨_, rfl, (show 2 ≤ sizeLine by decide), fun x20 h20 => ⟨(show 1 ≤ sizeLine by decide), fun x21 h21 => ⟨(show 2 ≤ sizeLine by decide), fun x22 h22 => ⟨(show 1 ≤ sizeLine by decide), fun x23 h23 => ⟨(show 0 ≤ sizeLine by decide), fun x24 h24 => ⟨(show 2 ≤ sizeLine by decide), fun x25 h25 => ⟨(show 1 ≤ sizeLine by decide), fun x26 h26 => ⟨(show 8 ≤ sizeLine by decide), fun x27 h27 => go_name rfl ?_⟩⟩⟩⟩⟩⟩⟩⟩⟩⟩⟩⟩⟩⟩⟩⟩⟩⟩⟩⟩⟩⟩⟩⟩⟩⟩⟩
      have ch : Ch H5 [(x1, .tup []), (x2, .tup [.ref x1, .int 1]), (x3, .tup []), (x4, .tup [.ref x3, .int 0]), (x5, .tup [.ref x4]), (x6, .tup [.int 0, .int 0]), (x7, .tup [.ref x6]), (x8, .tup [.ref x7, .int 1]), (x9, .tup [.ref x8]), (x10, .tup [.int 1, .int 1]), (x11, .tup [.int 0, .int 1]), (x12, .tup [.ref x10, .ref x11]), (x13, .tup [.ref x12, .int 1]), (x14, .tup [.ref x13]), (x15, .tup []), (x16, .tup [.ref x15, .int 1]), (x17, .tup []), (x18, .tup [.ref x17, .int 1]), (x19, .tup [.ref x16, .ref x18]), (x20, .tup [.int (-1), .int 1]), (x21, .tup [.ref x20]), (x22, .tup [.ref x21, .int 1]), (x23, .tup [.ref x22]), (x24, .tup []), (x25, .tup [.ref x24, .int 1]), (x26, .lst [.ref x25]), (x27, .lst [.int 5, .ref x2, .ref x5, .ref x9, .ref x14, .ref x19, .ref x23, .ref x26])] _ := .cons h1 (.cons h2 (.cons h3 (.cons h4 (.cons h5 (.cons h6 (.cons h7 (.cons h8 (.cons h9 (.cons h10 (.cons h11 (.cons h12 (.cons h13 (.cons h14 (.cons h15 (.cons h16 (.cons h17 (.cons h18 (.cons h19 (.cons h20 (.cons h21 (.cons h22 (.cons h23 (.cons h24 (.cons h25 (.cons h26 (.cons h27 .nil))))))))))))))))))))))))))
      refine ⟨x27, [.int 5, .ref x2, .ref x5, .ref x9, .ref x14, .ref x19, .ref x23, .ref x26], rfl, f5.trans (FrT.of ch.same), upd_same, rfl, fun i x hx => ?_⟩
      rcases i with _ | _ | _ | _ | _ | _ | _ | _ | i
      · cases hx
        exact arg_bad (k := .num 5) (.int 5) (by decide) (by decide)
      · cases hx
        exact arg_bad (k := .tup [.tup [], .num 1]) (.tup (ch.at 1 rfl) (.cons (.tup (ch.at 0 rfl) .nil) (.cons (.int _) .nil))) (by decide) (by decide)
      · cases hx
        exact arg_bad (k := .tup [.tup [.tup [], .num 0]]) (.tup (ch.at 4 rfl) (.cons (.tup (ch.at 3 rfl) (.cons (.tup (ch.at 2 rfl) .nil) (.cons (.int _) .nil))) .nil)) (by decide) (by decide)
      · cases hx
        exact arg_bad (k := .tup [.tup [.tup [.tup [.num 0, .num 0]], .num 1]]) (.tup (ch.at 8 rfl) (.cons (.tup (ch.at 7 rfl) (.cons (.tup (ch.at 6 rfl) (.cons (.tup (ch.at 5 rfl) (.cons (.int _) (.cons (.int _) .nil))) .nil)) (.cons (.int _) .nil))) .nil)) (by decide) (by decide)
      · cases hx
        exact arg_bad (k := .tup [.tup [.tup [.tup [.num 1, .num 1], .tup [.num 0, .num 1]], .num 1]]) (.tup (ch.at 13 rfl) (.cons (.tup (ch.at 12 rfl) (.cons (.tup (ch.at 11 rfl) (.cons (.tup (ch.at 9 rfl) (.cons (.int _) (.cons (.int _) .nil))) (.cons (.tup (ch.at 10 rfl) (.cons (.int _) (.cons (.int _) .nil))) .nil))) (.cons (.int _) .nil))) .nil)) (by decide) (by decide)
      · cases hx
        refine arg_bad (k := .tup [.tup [.tup [], .num 1], .tup [.tup [], .num 1]]) (.tup (ch.at 18 rfl) (.cons (.tup (ch.at 15 rfl) (.cons (.tup (ch.at 14 rfl) .nil) (.cons (.int _) .nil))) (.cons (.tup (ch.at 17 rfl) (.cons (.tup (ch.at 16 rfl) .nil) (.cons (.int _) .nil))) .nil))) ?_ (by decide)
        have hf : ascD [dM [], dM []] = false := decide_eq_false fun z => mlt_as [] [] (z 0 (by decide)) (z 0 (by decide))
        have eX : ∀ X : NestedKey, elK (.tup [X, X]) = ([X, X].all partK && ascD [kD (fstK X), kD (fstK X)]) := fun _ => rfl
        rw [eX]
        have hf : ascD [kD (fstK (.tup [.tup [], .num 1])), kD (fstK (.tup [.tup [], .num 1]))] = false := hf
        rw [hf, Bool.and_false]
      · cases hx
        exact arg_bad (k := .tup [.tup [.tup [.tup [.num (-1), .num 1]], .num 1]]) (.tup (ch.at 22 rfl) (.cons (.tup (ch.at 21 rfl) (.cons (.tup (ch.at 20 rfl) (.cons (.tup (ch.at 19 rfl) (.cons (.int _) (.cons (.int _) .nil))) .nil)) (.cons (.int _) .nil))) .nil)) (by decide) (by decide)
      · cases hx
        exact .lst (ch.at 25 rfl)
      · simp at hx
    rintro σ H6 ⟨bd, bs, rfl, f6, ebd, lbd, hbd⟩
    refine ⟨_, rfl, _, rfl, _, rfl, (show 3 ≤ sizeLine by decide), fun A hA => ⟨A, rfl, ⟨_, SqL.of upd_same⟩, fun D hD => ?_⟩⟩
    have f7 := f6.trans (FrT.of (same_new (o := .lst [.ref va, .ref vb, .ref vc]) (Same.refl _) hA))
    have eA : (upd H6 A (.lst [.ref va, .ref vb, .ref vc])) A = some (.lst [.ref va, .ref vb, .ref vc]) := upd_same
    have ebd := same_new (o := .lst [.ref va, .ref vb, .ref vc]) (Same.refl _) hA _ _ ebd
    have hbd : ∀ (i : Nat) x, bs[i]? = some x → Arg (upd H6 A (.lst [.ref va, .ref vb, .ref vc])) x false := fun i x h => (hbd i x h).fr (FrT.of (same_new (Same.refl _) hA))
    generalize upd H6 A (.lst [.ref va, .ref vb, .ref vc]) = H7 at f7 eA ebd hbd hD
    refine DC2.walk_l (K := K) (xs := [.ref va, .ref vb, .ref vc]) (fun i H' => FrT H7 H' ∧ H' D = some (.lst ((List.replicate i true).map V.bl))) ⟨frt_put (FrT.refl _) hD, upd_same⟩ (fun i H' _ ⟨f', _⟩ => SqL.of (f'.lst eA)) (fun i x H' hx ⟨f', e'⟩ => ?_) (fun H8 ⟨f8, e8⟩ => ?_)
    · have hi : i < 3 := (List.getElem?_eq_some_iff.mp hx).1
      have f3' := f7.trans f'
      have mm : ∀ {q : Terms}, (∀ x ∈ q, x.1.length ≤ 4 ∧ ∀ z ∈ x.1, z.2 ≤ 4) → ∀ t ∈ q, t.1.length ≤ 1000 := fun h t ht => Nat.le_trans (h t ht).1 (by decide)
      have arg : Arg H' x true := by
        rcases i with _ | _ | _ | i
        · cases hx; exact arg_good (Ky.frt f3' da.at_) da.pc (by omega) (mm moa)
        · cases hx; exact arg_good (Ky.frt f3' db.at_) db.pc (by omega) (mm mob)
        · cases hx; exact arg_good (Ky.frt f3' dc.at_) dc.pc (by omega) (mm moc)
        · omega
      refine ⟨rfl, yes_then (iteT ⟨_, rfl, y, _, dy, [], 9, _, rfl, f3'.ins hyS, rfl, by decide, m_elem, _, rfl, y, dy, [], x, true, rfl, f3'.ins hyS, arg, f3'.tabs _ hTE, f3'.tabs _ hTM, f3'.tabs _ hTA, fun H2 f2 => ⟨true, true, rfl, rfl, ?_⟩⟩)⟩
      rw [decide_eq_true rfl]
      refine ⟨_, f2.lst e', ?_, frt_put (f'.trans f2) hD, by rw [upd_same, rep_snoc]⟩
      rw [List.length_map, List.length_replicate]
      exact Nat.lt_of_lt_of_le hi (by decide)
    · refine ⟨D, List.replicate 3 true, rfl, SqL.of e8, ?_⟩
      refine ⟨true, rfl, iteT ?_⟩
      have f9 := f7.trans f8
      have hbd := fun i x h => (hbd i x h).fr f8
      have ebd := f8.lst ebd
      refine ⟨_, rfl, bd, rfl, ⟨_, SqL.of ebd⟩, fun D2 hD2 => ?_⟩
      refine DC2.walk_l (K := K) (xs := bs) (fun i H' => FrT H8 H' ∧ H' D2 = some (.lst ((List.replicate i true).map V.bl))) ⟨frt_put (FrT.refl _) hD2, upd_same⟩ (fun i H' _ ⟨f', _⟩ => SqL.of (f'.lst ebd)) (fun i x H' hx ⟨f', e'⟩ => ?_) (fun H' ⟨f', e'⟩ => ?_)
      · have hi : i < 8 := by rw [← lbd]; exact (List.getElem?_eq_some_iff.mp hx).1
        have f3' := f9.trans f'
        refine ⟨rfl, yes_then (iteT ⟨_, rfl, y, _, dy, [], 9, _, rfl, f3'.ins hyS, rfl, by decide, m_elem, _, rfl, y, dy, [], x, false, rfl, f3'.ins hyS, (hbd i x hx).fr f', f3'.tabs _ hTE, f3'.tabs _ hTM, f3'.tabs _ hTA, fun H2 f2 => ⟨false, false, rfl, rfl, ?_⟩⟩)⟩
        rw [decide_eq_true rfl]
        refine ⟨_, f2.lst e', ?_, frt_put (f'.trans f2) hD2, by rw [upd_same, rep_snoc]⟩
        rw [List.length_map, List.length_replicate]
        exact Nat.lt_of_lt_of_le hi (by decide)
      · rw [lbd] at e'
        refine ⟨D2, List.replicate 8 true, rfl, SqL.of e', ?_⟩
        exact k _
end
end K04

set_option Elab.async false
set_option linter.all false
set_option maxRecDepth 100000
set_option maxHeartbeats 8000000
namespace K04
open PySem PySem.Spec PyProof.Rows L2 Ew Tb GxR

theorem all_mk {l : PySem.W.OpenLaw} {w : World} {K : PySem.W.Frag} {h : Heap} {mg : Str → Option Value} {fa : Addr} (PP_ascends : Addr) (PP_Polynomials_is_element : Addr) (PP_is_monomial : Addr) (X : K.In h) (G : h.Ns mainGlobals mg) (hfa : mg "law" = some (.ref fa)) (TA_ascends : h.get? PP_ascends = some { cls := .none, data := .fields #[] }) (TA_Polynomials_is_element : h.get? PP_Polynomials_is_element = some { cls := .none, data := .fields #[] }) (TA_is_monomial : h.get? PP_is_monomial = some { cls := .none, data := .fields #[] })
    {C_Polynomials : Addr}
    {C_TooLarge : Addr}
    {C_NoStar : Addr}
    {C_WorthError : Addr}
    {f_is_integer : Addr} {od_is_integer an_is_integer : Option Addr} {sl_is_integer : Array (Option Value)} {oc_is_integer kV_is_integer dc_is_integer pm_is_integer cd_is_integer ct_is_integer : Value}
    {f_is_natural : Addr} {od_is_natural an_is_natural : Option Addr} {sl_is_natural : Array (Option Value)} {oc_is_natural kV_is_natural dc_is_natural pm_is_natural cd_is_natural ct_is_natural : Value}
    {f_is_pair : Addr} {od_is_pair an_is_pair : Option Addr} {sl_is_pair : Array (Option Value)} {oc_is_pair kV_is_pair dc_is_pair pm_is_pair cd_is_pair ct_is_pair : Value}
    {f_ascends cc_ascends : Addr} {od_ascends an_ascends : Option Addr} {sl_ascends : Array (Option Value)} {oc_ascends kV_ascends dc_ascends pm_ascends ct_ascends : Value}
    {f_Polynomials_zero : Addr} {od_Polynomials_zero an_Polynomials_zero : Option Addr} {sl_Polynomials_zero : Array (Option Value)} {oc_Polynomials_zero kV_Polynomials_zero dc_Polynomials_zero pm_Polynomials_zero cd_Polynomials_zero ct_Polynomials_zero : Value}
    {f_Polynomials_one : Addr} {od_Polynomials_one an_Polynomials_one : Option Addr} {sl_Polynomials_one : Array (Option Value)} {oc_Polynomials_one kV_Polynomials_one dc_Polynomials_one pm_Polynomials_one cd_Polynomials_one ct_Polynomials_one : Value}
    {f_Polynomials_plus : Addr} {od_Polynomials_plus an_Polynomials_plus : Option Addr} {sl_Polynomials_plus : Array (Option Value)} {oc_Polynomials_plus kV_Polynomials_plus dc_Polynomials_plus pm_Polynomials_plus cd_Polynomials_plus ct_Polynomials_plus : Value}
    {f_Polynomials_times : Addr} {od_Polynomials_times an_Polynomials_times : Option Addr} {sl_Polynomials_times : Array (Option Value)} {oc_Polynomials_times kV_Polynomials_times dc_Polynomials_times pm_Polynomials_times cd_Polynomials_times ct_Polynomials_times : Value}
    {f_Polynomials_star : Addr} {od_Polynomials_star an_Polynomials_star : Option Addr} {sl_Polynomials_star : Array (Option Value)} {oc_Polynomials_star kV_Polynomials_star dc_Polynomials_star pm_Polynomials_star cd_Polynomials_star ct_Polynomials_star : Value}
    {f_Polynomials_is_element cc_Polynomials_is_element : Addr} {od_Polynomials_is_element an_Polynomials_is_element : Option Addr} {sl_Polynomials_is_element : Array (Option Value)} {oc_Polynomials_is_element kV_Polynomials_is_element dc_Polynomials_is_element pm_Polynomials_is_element ct_Polynomials_is_element : Value}
    {f_is_part : Addr} {od_is_part an_is_part : Option Addr} {sl_is_part : Array (Option Value)} {oc_is_part kV_is_part dc_is_part pm_is_part cd_is_part ct_is_part : Value}
    {f_is_monomial cc_is_monomial : Addr} {od_is_monomial an_is_monomial : Option Addr} {sl_is_monomial : Array (Option Value)} {oc_is_monomial kV_is_monomial dc_is_monomial pm_is_monomial ct_is_monomial : Value}
    {f_is_power : Addr} {od_is_power an_is_power : Option Addr} {sl_is_power : Array (Option Value)} {oc_is_power kV_is_power dc_is_power pm_is_power cd_is_power ct_is_power : Value}
    {f_is_positive : Addr} {od_is_positive an_is_positive : Option Addr} {sl_is_positive : Array (Option Value)} {oc_is_positive kV_is_positive dc_is_positive pm_is_positive cd_is_positive ct_is_positive : Value}
    {f_put : Addr} {od_put an_put : Option Addr} {sl_put : Array (Option Value)} {oc_put kV_put dc_put pm_put cd_put ct_put : Value}
    {f_polynomial_of : Addr} {od_polynomial_of an_polynomial_of : Option Addr} {sl_polynomial_of : Array (Option Value)} {oc_polynomial_of kV_polynomial_of dc_polynomial_of pm_polynomial_of cd_polynomial_of ct_polynomial_of : Value}
    {f_product_of : Addr} {od_product_of an_product_of : Option Addr} {sl_product_of : Array (Option Value)} {oc_product_of kV_product_of dc_product_of pm_product_of cd_product_of ct_product_of : Value}
    {f_variable : Addr} {od_variable an_variable : Option Addr} {sl_variable : Array (Option Value)} {oc_variable kV_variable dc_variable pm_variable cd_variable ct_variable : Value}
    {f_degree : Addr} {od_degree an_degree : Option Addr} {sl_degree : Array (Option Value)} {oc_degree kV_degree dc_degree pm_degree cd_degree ct_degree : Value}
    {f_degree_of : Addr} {od_degree_of an_degree_of : Option Addr} {sl_degree_of : Array (Option Value)} {oc_degree_of kV_degree_of dc_degree_of pm_degree_of cd_degree_of ct_degree_of : Value}
    {f_value_at : Addr} {od_value_at an_value_at : Option Addr} {sl_value_at : Array (Option Value)} {oc_value_at kV_value_at dc_value_at pm_value_at cd_value_at ct_value_at : Value}
    {f_power : Addr} {od_power an_power : Option Addr} {sl_power : Array (Option Value)} {oc_power kV_power dc_power pm_power cd_power ct_power : Value}
    {f_law_pot : Addr} {od_law_pot an_law_pot : Option Addr} {sl_law_pot : Array (Option Value)} {oc_law_pot kV_law_pot dc_law_pot pm_law_pot cd_law_pot ct_law_pot : Value}
    {f_law_next : Addr} {od_law_next an_law_next : Option Addr} {sl_law_next : Array (Option Value)} {oc_law_next kV_law_next dc_law_next pm_law_next cd_law_next ct_law_next : Value}
    {f_law_is_int : Addr} {od_law_is_int an_law_is_int : Option Addr} {sl_law_is_int : Array (Option Value)} {oc_law_is_int kV_law_is_int dc_law_is_int pm_law_is_int cd_law_is_int ct_law_is_int : Value}
    {f_law_same : Addr} {od_law_same an_law_same : Option Addr} {sl_law_same : Array (Option Value)} {oc_law_same kV_law_same dc_law_same pm_law_same cd_law_same ct_law_same : Value}
    {f_law_star : Addr} {od_law_star an_law_star : Option Addr} {sl_law_star : Array (Option Value)} {oc_law_star kV_law_star dc_law_star pm_law_star cd_law_star ct_law_star : Value}
    {f_law_packed : Addr} {od_law_packed an_law_packed : Option Addr} {sl_law_packed : Array (Option Value)} {oc_law_packed kV_law_packed dc_law_packed pm_law_packed cd_law_packed ct_law_packed : Value}
    {f_law_drawn : Addr} {od_law_drawn an_law_drawn : Option Addr} {sl_law_drawn : Array (Option Value)} {oc_law_drawn kV_law_drawn dc_law_drawn pm_law_drawn cd_law_drawn ct_law_drawn : Value}
    {f_law_product : Addr} {od_law_product an_law_product : Option Addr} {sl_law_product : Array (Option Value)} {oc_law_product kV_law_product dc_law_product pm_law_product cd_law_product ct_law_product : Value}
    {f_law_sum : Addr} {od_law_sum an_law_sum : Option Addr} {sl_law_sum : Array (Option Value)} {oc_law_sum kV_law_sum dc_law_sum pm_law_sum cd_law_sum ct_law_sum : Value}
    {f_law : Addr} {od_law an_law : Option Addr} {sl_law : Array (Option Value)} {oc_law kV_law dc_law pm_law cd_law ct_law : Value}
    {tk_MOST_MONOMIALS : Tok}
    (aC_WorthError : PySem.W.nsIn K mainGlobals "WorthError" = some (some (.ref C_WorthError)))
    (aC_NoStar : PySem.W.nsIn K mainGlobals "NoStar" = some (some (.ref C_NoStar)))
    (aC_TooLarge : PySem.W.nsIn K mainGlobals "TooLarge" = some (some (.ref C_TooLarge)))
    (aC_Polynomials : PySem.W.nsIn K mainGlobals "Polynomials" = some (some (.ref C_Polynomials)))
    (a_is_integer : PySem.W.nsIn K mainGlobals "is_integer" = some (some (.ref f_is_integer)))
    (l_is_integer : K.lookup f_is_integer = some ⟨oc_is_integer, od_is_integer, .func (PySem.W.fnOf "is_integer" "is_integer" (defArgs s_is_integer) (defBody s_is_integer) (defScope s_is_integer) .none kV_is_integer dc_is_integer pm_is_integer an_is_integer cd_is_integer ct_is_integer), sl_is_integer⟩)
    (c_is_integer : PySem.W.codeIn K cd_is_integer "is_integer" = true)
    (k_is_integer : PySem.W.keepIn K (.ref f_is_integer) = true)
    (a_is_natural : PySem.W.nsIn K mainGlobals "is_natural" = some (some (.ref f_is_natural)))
    (l_is_natural : K.lookup f_is_natural = some ⟨oc_is_natural, od_is_natural, .func (PySem.W.fnOf "is_natural" "is_natural" (defArgs s_is_natural) (defBody s_is_natural) (defScope s_is_natural) .none kV_is_natural dc_is_natural pm_is_natural an_is_natural cd_is_natural ct_is_natural), sl_is_natural⟩)
    (c_is_natural : PySem.W.codeIn K cd_is_natural "is_natural" = true)
    (k_is_natural : PySem.W.keepIn K (.ref f_is_natural) = true)
    (a_is_pair : PySem.W.nsIn K mainGlobals "is_pair" = some (some (.ref f_is_pair)))
    (l_is_pair : K.lookup f_is_pair = some ⟨oc_is_pair, od_is_pair, .func (PySem.W.fnOf "is_pair" "is_pair" (defArgs s_is_pair) (defBody s_is_pair) (defScope s_is_pair) .none kV_is_pair dc_is_pair pm_is_pair an_is_pair cd_is_pair ct_is_pair), sl_is_pair⟩)
    (c_is_pair : PySem.W.codeIn K cd_is_pair "is_pair" = true)
    (k_is_pair : PySem.W.keepIn K (.ref f_is_pair) = true)
    (a_ascends : PySem.W.nsIn K mainGlobals "ascends" = some (some (.ref f_ascends)))
    (l_ascends : K.lookup f_ascends = some ⟨oc_ascends, od_ascends, .func (PySem.W.fnOf "ascends" "ascends" (defArgs s_ascends) (defBody s_ascends) (defScope s_ascends) .none kV_ascends dc_ascends pm_ascends an_ascends (.ref cc_ascends) ct_ascends), sl_ascends⟩)
    (c_ascends : PySem.W.codeIn K (.ref cc_ascends) "ascends" = true)
    (k_ascends : PySem.W.keepIn K (.ref f_ascends) = true)
    (a_Polynomials_zero : PySem.W.findIn K (.ref C_Polynomials) "zero" = some (some (.ref f_Polynomials_zero)))
    (i_Polynomials_zero : PySem.W.isFn K (.ref f_Polynomials_zero) = true)
    (l_Polynomials_zero : K.lookup f_Polynomials_zero = some ⟨oc_Polynomials_zero, od_Polynomials_zero, .func (PySem.W.fnOf "zero" "Polynomials.zero" (defArgs s_Polynomials_zero) (defBody s_Polynomials_zero) (defScope s_Polynomials_zero) .none kV_Polynomials_zero dc_Polynomials_zero pm_Polynomials_zero an_Polynomials_zero cd_Polynomials_zero ct_Polynomials_zero), sl_Polynomials_zero⟩)
    (c_Polynomials_zero : PySem.W.codeIn K cd_Polynomials_zero "Polynomials.zero" = true)
    (k_Polynomials_zero : PySem.W.keepIn K (.ref f_Polynomials_zero) = true)
    (a_Polynomials_one : PySem.W.findIn K (.ref C_Polynomials) "one" = some (some (.ref f_Polynomials_one)))
    (i_Polynomials_one : PySem.W.isFn K (.ref f_Polynomials_one) = true)
    (l_Polynomials_one : K.lookup f_Polynomials_one = some ⟨oc_Polynomials_one, od_Polynomials_one, .func (PySem.W.fnOf "one" "Polynomials.one" (defArgs s_Polynomials_one) (defBody s_Polynomials_one) (defScope s_Polynomials_one) .none kV_Polynomials_one dc_Polynomials_one pm_Polynomials_one an_Polynomials_one cd_Polynomials_one ct_Polynomials_one), sl_Polynomials_one⟩)
    (c_Polynomials_one : PySem.W.codeIn K cd_Polynomials_one "Polynomials.one" = true)
    (k_Polynomials_one : PySem.W.keepIn K (.ref f_Polynomials_one) = true)
    (a_Polynomials_plus : PySem.W.findIn K (.ref C_Polynomials) "plus" = some (some (.ref f_Polynomials_plus)))
    (i_Polynomials_plus : PySem.W.isFn K (.ref f_Polynomials_plus) = true)
    (l_Polynomials_plus : K.lookup f_Polynomials_plus = some ⟨oc_Polynomials_plus, od_Polynomials_plus, .func (PySem.W.fnOf "plus" "Polynomials.plus" (defArgs s_Polynomials_plus) (defBody s_Polynomials_plus) (defScope s_Polynomials_plus) .none kV_Polynomials_plus dc_Polynomials_plus pm_Polynomials_plus an_Polynomials_plus cd_Polynomials_plus ct_Polynomials_plus), sl_Polynomials_plus⟩)
    (c_Polynomials_plus : PySem.W.codeIn K cd_Polynomials_plus "Polynomials.plus" = true)
    (k_Polynomials_plus : PySem.W.keepIn K (.ref f_Polynomials_plus) = true)
    (a_Polynomials_times : PySem.W.findIn K (.ref C_Polynomials) "times" = some (some (.ref f_Polynomials_times)))
    (i_Polynomials_times : PySem.W.isFn K (.ref f_Polynomials_times) = true)
    (l_Polynomials_times : K.lookup f_Polynomials_times = some ⟨oc_Polynomials_times, od_Polynomials_times, .func (PySem.W.fnOf "times" "Polynomials.times" (defArgs s_Polynomials_times) (defBody s_Polynomials_times) (defScope s_Polynomials_times) .none kV_Polynomials_times dc_Polynomials_times pm_Polynomials_times an_Polynomials_times cd_Polynomials_times ct_Polynomials_times), sl_Polynomials_times⟩)
    (c_Polynomials_times : PySem.W.codeIn K cd_Polynomials_times "Polynomials.times" = true)
    (k_Polynomials_times : PySem.W.keepIn K (.ref f_Polynomials_times) = true)
    (a_Polynomials_star : PySem.W.findIn K (.ref C_Polynomials) "star" = some (some (.ref f_Polynomials_star)))
    (i_Polynomials_star : PySem.W.isFn K (.ref f_Polynomials_star) = true)
    (l_Polynomials_star : K.lookup f_Polynomials_star = some ⟨oc_Polynomials_star, od_Polynomials_star, .func (PySem.W.fnOf "star" "Polynomials.star" (defArgs s_Polynomials_star) (defBody s_Polynomials_star) (defScope s_Polynomials_star) .none kV_Polynomials_star dc_Polynomials_star pm_Polynomials_star an_Polynomials_star cd_Polynomials_star ct_Polynomials_star), sl_Polynomials_star⟩)
    (c_Polynomials_star : PySem.W.codeIn K cd_Polynomials_star "Polynomials.star" = true)
    (k_Polynomials_star : PySem.W.keepIn K (.ref f_Polynomials_star) = true)
    (a_Polynomials_is_element : PySem.W.findIn K (.ref C_Polynomials) "is_element" = some (some (.ref f_Polynomials_is_element)))
    (i_Polynomials_is_element : PySem.W.isFn K (.ref f_Polynomials_is_element) = true)
    (l_Polynomials_is_element : K.lookup f_Polynomials_is_element = some ⟨oc_Polynomials_is_element, od_Polynomials_is_element, .func (PySem.W.fnOf "is_element" "Polynomials.is_element" (defArgs s_Polynomials_is_element) (defBody s_Polynomials_is_element) (defScope s_Polynomials_is_element) .none kV_Polynomials_is_element dc_Polynomials_is_element pm_Polynomials_is_element an_Polynomials_is_element (.ref cc_Polynomials_is_element) ct_Polynomials_is_element), sl_Polynomials_is_element⟩)
    (c_Polynomials_is_element : PySem.W.codeIn K (.ref cc_Polynomials_is_element) "Polynomials.is_element" = true)
    (k_Polynomials_is_element : PySem.W.keepIn K (.ref f_Polynomials_is_element) = true)
    (a_is_part : PySem.W.nsIn K mainGlobals "_is_part" = some (some (.ref f_is_part)))
    (l_is_part : K.lookup f_is_part = some ⟨oc_is_part, od_is_part, .func (PySem.W.fnOf "_is_part" "_is_part" (defArgs s_is_part) (defBody s_is_part) (defScope s_is_part) .none kV_is_part dc_is_part pm_is_part an_is_part cd_is_part ct_is_part), sl_is_part⟩)
    (c_is_part : PySem.W.codeIn K cd_is_part "_is_part" = true)
    (k_is_part : PySem.W.keepIn K (.ref f_is_part) = true)
    (a_is_monomial : PySem.W.nsIn K mainGlobals "_is_monomial" = some (some (.ref f_is_monomial)))
    (l_is_monomial : K.lookup f_is_monomial = some ⟨oc_is_monomial, od_is_monomial, .func (PySem.W.fnOf "_is_monomial" "_is_monomial" (defArgs s_is_monomial) (defBody s_is_monomial) (defScope s_is_monomial) .none kV_is_monomial dc_is_monomial pm_is_monomial an_is_monomial (.ref cc_is_monomial) ct_is_monomial), sl_is_monomial⟩)
    (c_is_monomial : PySem.W.codeIn K (.ref cc_is_monomial) "_is_monomial" = true)
    (k_is_monomial : PySem.W.keepIn K (.ref f_is_monomial) = true)
    (a_is_power : PySem.W.nsIn K mainGlobals "_is_power" = some (some (.ref f_is_power)))
    (l_is_power : K.lookup f_is_power = some ⟨oc_is_power, od_is_power, .func (PySem.W.fnOf "_is_power" "_is_power" (defArgs s_is_power) (defBody s_is_power) (defScope s_is_power) .none kV_is_power dc_is_power pm_is_power an_is_power cd_is_power ct_is_power), sl_is_power⟩)
    (c_is_power : PySem.W.codeIn K cd_is_power "_is_power" = true)
    (k_is_power : PySem.W.keepIn K (.ref f_is_power) = true)
    (a_is_positive : PySem.W.nsIn K mainGlobals "_is_positive" = some (some (.ref f_is_positive)))
    (l_is_positive : K.lookup f_is_positive = some ⟨oc_is_positive, od_is_positive, .func (PySem.W.fnOf "_is_positive" "_is_positive" (defArgs s_is_positive) (defBody s_is_positive) (defScope s_is_positive) .none kV_is_positive dc_is_positive pm_is_positive an_is_positive cd_is_positive ct_is_positive), sl_is_positive⟩)
    (c_is_positive : PySem.W.codeIn K cd_is_positive "_is_positive" = true)
    (k_is_positive : PySem.W.keepIn K (.ref f_is_positive) = true)
    (a_put : PySem.W.nsIn K mainGlobals "_put" = some (some (.ref f_put)))
    (l_put : K.lookup f_put = some ⟨oc_put, od_put, .func (PySem.W.fnOf "_put" "_put" (defArgs s_put) (defBody s_put) (defScope s_put) .none kV_put dc_put pm_put an_put cd_put ct_put), sl_put⟩)
    (c_put : PySem.W.codeIn K cd_put "_put" = true)
    (k_put : PySem.W.keepIn K (.ref f_put) = true)
    (a_polynomial_of : PySem.W.nsIn K mainGlobals "_polynomial_of" = some (some (.ref f_polynomial_of)))
    (l_polynomial_of : K.lookup f_polynomial_of = some ⟨oc_polynomial_of, od_polynomial_of, .func (PySem.W.fnOf "_polynomial_of" "_polynomial_of" (defArgs s_polynomial_of) (defBody s_polynomial_of) (defScope s_polynomial_of) .none kV_polynomial_of dc_polynomial_of pm_polynomial_of an_polynomial_of cd_polynomial_of ct_polynomial_of), sl_polynomial_of⟩)
    (c_polynomial_of : PySem.W.codeIn K cd_polynomial_of "_polynomial_of" = true)
    (k_polynomial_of : PySem.W.keepIn K (.ref f_polynomial_of) = true)
    (a_product_of : PySem.W.nsIn K mainGlobals "_product_of" = some (some (.ref f_product_of)))
    (l_product_of : K.lookup f_product_of = some ⟨oc_product_of, od_product_of, .func (PySem.W.fnOf "_product_of" "_product_of" (defArgs s_product_of) (defBody s_product_of) (defScope s_product_of) .none kV_product_of dc_product_of pm_product_of an_product_of cd_product_of ct_product_of), sl_product_of⟩)
    (c_product_of : PySem.W.codeIn K cd_product_of "_product_of" = true)
    (k_product_of : PySem.W.keepIn K (.ref f_product_of) = true)
    (a_variable : PySem.W.nsIn K mainGlobals "variable" = some (some (.ref f_variable)))
    (l_variable : K.lookup f_variable = some ⟨oc_variable, od_variable, .func (PySem.W.fnOf "variable" "variable" (defArgs s_variable) (defBody s_variable) (defScope s_variable) .none kV_variable dc_variable pm_variable an_variable cd_variable ct_variable), sl_variable⟩)
    (c_variable : PySem.W.codeIn K cd_variable "variable" = true)
    (k_variable : PySem.W.keepIn K (.ref f_variable) = true)
    (a_degree : PySem.W.nsIn K mainGlobals "degree" = some (some (.ref f_degree)))
    (l_degree : K.lookup f_degree = some ⟨oc_degree, od_degree, .func (PySem.W.fnOf "degree" "degree" (defArgs s_degree) (defBody s_degree) (defScope s_degree) .none kV_degree dc_degree pm_degree an_degree cd_degree ct_degree), sl_degree⟩)
    (c_degree : PySem.W.codeIn K cd_degree "degree" = true)
    (k_degree : PySem.W.keepIn K (.ref f_degree) = true)
    (a_degree_of : PySem.W.nsIn K mainGlobals "_degree_of" = some (some (.ref f_degree_of)))
    (l_degree_of : K.lookup f_degree_of = some ⟨oc_degree_of, od_degree_of, .func (PySem.W.fnOf "_degree_of" "_degree_of" (defArgs s_degree_of) (defBody s_degree_of) (defScope s_degree_of) .none kV_degree_of dc_degree_of pm_degree_of an_degree_of cd_degree_of ct_degree_of), sl_degree_of⟩)
    (c_degree_of : PySem.W.codeIn K cd_degree_of "_degree_of" = true)
    (k_degree_of : PySem.W.keepIn K (.ref f_degree_of) = true)
    (a_value_at : PySem.W.nsIn K mainGlobals "value_at" = some (some (.ref f_value_at)))
    (l_value_at : K.lookup f_value_at = some ⟨oc_value_at, od_value_at, .func (PySem.W.fnOf "value_at" "value_at" (defArgs s_value_at) (defBody s_value_at) (defScope s_value_at) .none kV_value_at dc_value_at pm_value_at an_value_at cd_value_at ct_value_at), sl_value_at⟩)
    (c_value_at : PySem.W.codeIn K cd_value_at "value_at" = true)
    (k_value_at : PySem.W.keepIn K (.ref f_value_at) = true)
    (a_power : PySem.W.nsIn K mainGlobals "power" = some (some (.ref f_power)))
    (l_power : K.lookup f_power = some ⟨oc_power, od_power, .func (PySem.W.fnOf "power" "power" (defArgs s_power) (defBody s_power) (defScope s_power) .none kV_power dc_power pm_power an_power cd_power ct_power), sl_power⟩)
    (c_power : PySem.W.codeIn K cd_power "power" = true)
    (k_power : PySem.W.keepIn K (.ref f_power) = true)
    (a_law_pot : PySem.W.nsIn K mainGlobals "_law_pot" = some (some (.ref f_law_pot)))
    (l_law_pot : K.lookup f_law_pot = some ⟨oc_law_pot, od_law_pot, .func (PySem.W.fnOf "_law_pot" "_law_pot" (defArgs s_law_pot) (defBody s_law_pot) (defScope s_law_pot) .none kV_law_pot dc_law_pot pm_law_pot an_law_pot cd_law_pot ct_law_pot), sl_law_pot⟩)
    (c_law_pot : PySem.W.codeIn K cd_law_pot "_law_pot" = true)
    (k_law_pot : PySem.W.keepIn K (.ref f_law_pot) = true)
    (a_law_next : PySem.W.nsIn K mainGlobals "_law_next" = some (some (.ref f_law_next)))
    (l_law_next : K.lookup f_law_next = some ⟨oc_law_next, od_law_next, .func (PySem.W.fnOf "_law_next" "_law_next" (defArgs s_law_next) (defBody s_law_next) (defScope s_law_next) .none kV_law_next dc_law_next pm_law_next an_law_next cd_law_next ct_law_next), sl_law_next⟩)
    (c_law_next : PySem.W.codeIn K cd_law_next "_law_next" = true)
    (k_law_next : PySem.W.keepIn K (.ref f_law_next) = true)
    (a_law_is_int : PySem.W.nsIn K mainGlobals "_law_is_int" = some (some (.ref f_law_is_int)))
    (l_law_is_int : K.lookup f_law_is_int = some ⟨oc_law_is_int, od_law_is_int, .func (PySem.W.fnOf "_law_is_int" "_law_is_int" (defArgs s_law_is_int) (defBody s_law_is_int) (defScope s_law_is_int) .none kV_law_is_int dc_law_is_int pm_law_is_int an_law_is_int cd_law_is_int ct_law_is_int), sl_law_is_int⟩)
    (c_law_is_int : PySem.W.codeIn K cd_law_is_int "_law_is_int" = true)
    (k_law_is_int : PySem.W.keepIn K (.ref f_law_is_int) = true)
    (a_law_same : PySem.W.nsIn K mainGlobals "_law_same" = some (some (.ref f_law_same)))
    (l_law_same : K.lookup f_law_same = some ⟨oc_law_same, od_law_same, .func (PySem.W.fnOf "_law_same" "_law_same" (defArgs s_law_same) (defBody s_law_same) (defScope s_law_same) .none kV_law_same dc_law_same pm_law_same an_law_same cd_law_same ct_law_same), sl_law_same⟩)
    (c_law_same : PySem.W.codeIn K cd_law_same "_law_same" = true)
    (k_law_same : PySem.W.keepIn K (.ref f_law_same) = true)
    (a_law_star : PySem.W.nsIn K mainGlobals "_law_star" = some (some (.ref f_law_star)))
    (l_law_star : K.lookup f_law_star = some ⟨oc_law_star, od_law_star, .func (PySem.W.fnOf "_law_star" "_law_star" (defArgs s_law_star) (defBody s_law_star) (defScope s_law_star) .none kV_law_star dc_law_star pm_law_star an_law_star cd_law_star ct_law_star), sl_law_star⟩)
    (c_law_star : PySem.W.codeIn K cd_law_star "_law_star" = true)
    (k_law_star : PySem.W.keepIn K (.ref f_law_star) = true)
    (a_law_packed : PySem.W.nsIn K mainGlobals "_law_packed" = some (some (.ref f_law_packed)))
    (l_law_packed : K.lookup f_law_packed = some ⟨oc_law_packed, od_law_packed, .func (PySem.W.fnOf "_law_packed" "_law_packed" (defArgs s_law_packed) (defBody s_law_packed) (defScope s_law_packed) .none kV_law_packed dc_law_packed pm_law_packed an_law_packed cd_law_packed ct_law_packed), sl_law_packed⟩)
    (c_law_packed : PySem.W.codeIn K cd_law_packed "_law_packed" = true)
    (k_law_packed : PySem.W.keepIn K (.ref f_law_packed) = true)
    (a_law_drawn : PySem.W.nsIn K mainGlobals "_law_drawn" = some (some (.ref f_law_drawn)))
    (l_law_drawn : K.lookup f_law_drawn = some ⟨oc_law_drawn, od_law_drawn, .func (PySem.W.fnOf "_law_drawn" "_law_drawn" (defArgs s_law_drawn) (defBody s_law_drawn) (defScope s_law_drawn) .none kV_law_drawn dc_law_drawn pm_law_drawn an_law_drawn cd_law_drawn ct_law_drawn), sl_law_drawn⟩)
    (c_law_drawn : PySem.W.codeIn K cd_law_drawn "_law_drawn" = true)
    (k_law_drawn : PySem.W.keepIn K (.ref f_law_drawn) = true)
    (a_law_product : PySem.W.nsIn K mainGlobals "_law_product" = some (some (.ref f_law_product)))
    (l_law_product : K.lookup f_law_product = some ⟨oc_law_product, od_law_product, .func (PySem.W.fnOf "_law_product" "_law_product" (defArgs s_law_product) (defBody s_law_product) (defScope s_law_product) .none kV_law_product dc_law_product pm_law_product an_law_product cd_law_product ct_law_product), sl_law_product⟩)
    (c_law_product : PySem.W.codeIn K cd_law_product "_law_product" = true)
    (k_law_product : PySem.W.keepIn K (.ref f_law_product) = true)
    (a_law_sum : PySem.W.nsIn K mainGlobals "_law_sum" = some (some (.ref f_law_sum)))
    (l_law_sum : K.lookup f_law_sum = some ⟨oc_law_sum, od_law_sum, .func (PySem.W.fnOf "_law_sum" "_law_sum" (defArgs s_law_sum) (defBody s_law_sum) (defScope s_law_sum) .none kV_law_sum dc_law_sum pm_law_sum an_law_sum cd_law_sum ct_law_sum), sl_law_sum⟩)
    (c_law_sum : PySem.W.codeIn K cd_law_sum "_law_sum" = true)
    (k_law_sum : PySem.W.keepIn K (.ref f_law_sum) = true)
    (a_law : PySem.W.nsIn K mainGlobals "law" = some (some (.ref f_law)))
    (l_law : K.lookup f_law = some ⟨oc_law, od_law, .func (PySem.W.fnOf "law" "law" (defArgs s_law) (defBody s_law) (defScope s_law) .none kV_law dc_law pm_law an_law cd_law ct_law), sl_law⟩)
    (c_law : PySem.W.codeIn K cd_law "law" = true)
    (k_law : PySem.W.keepIn K (.ref f_law) = true)
    (x_WorthError : PySem.W.excIn K C_WorthError [.type "ValueError", .type "Exception", .type "BaseException", .type "object"] "ValueError.__new__" = true)
    (kp_WorthError : PySem.W.keepIn K (.ref C_WorthError) = true)
    (b_WorthError : PySem.W.subIn K (.ref C_WorthError) (.type "BaseException") = some true)
    (t_WorthError : PySem.W.typeIn K (.ref C_WorthError) = some (.type "type"))
    (hd_WorthError : PySem.W.hasDictIn K C_WorthError = true)
    (ga_WorthError : PySem.W.findIn K (.ref C_WorthError) "__getattribute__" = some (some (.builtin "BaseException.__getattribute__")))
    (gg_WorthError : PySem.W.findIn K (.ref C_WorthError) "__getattr__" = some none)
    (cc_WorthError : PySem.W.findIn K (.ref C_WorthError) "__class__" = some (some (.builtin "object.__class__")))
    (mo_WorthError : PySem.W.mroIn K C_WorthError (.type "object") = some true)
    (x_NoStar : PySem.W.excIn K C_NoStar [.type "ValueError", .type "Exception", .type "BaseException", .type "object"] "ValueError.__new__" = true)
    (kp_NoStar : PySem.W.keepIn K (.ref C_NoStar) = true)
    (b_NoStar : PySem.W.subIn K (.ref C_NoStar) (.type "BaseException") = some true)
    (t_NoStar : PySem.W.typeIn K (.ref C_NoStar) = some (.type "type"))
    (hd_NoStar : PySem.W.hasDictIn K C_NoStar = true)
    (ga_NoStar : PySem.W.findIn K (.ref C_NoStar) "__getattribute__" = some (some (.builtin "BaseException.__getattribute__")))
    (gg_NoStar : PySem.W.findIn K (.ref C_NoStar) "__getattr__" = some none)
    (cc_NoStar : PySem.W.findIn K (.ref C_NoStar) "__class__" = some (some (.builtin "object.__class__")))
    (mo_NoStar : PySem.W.mroIn K C_NoStar (.type "object") = some true)
    (s_NoStar_WorthError : PySem.W.subIn K (.ref C_NoStar) (.ref C_WorthError) = some true)
    (x_TooLarge : PySem.W.excIn K C_TooLarge [.type "ValueError", .type "Exception", .type "BaseException", .type "object"] "ValueError.__new__" = true)
    (kp_TooLarge : PySem.W.keepIn K (.ref C_TooLarge) = true)
    (b_TooLarge : PySem.W.subIn K (.ref C_TooLarge) (.type "BaseException") = some true)
    (t_TooLarge : PySem.W.typeIn K (.ref C_TooLarge) = some (.type "type"))
    (hd_TooLarge : PySem.W.hasDictIn K C_TooLarge = true)
    (ga_TooLarge : PySem.W.findIn K (.ref C_TooLarge) "__getattribute__" = some (some (.builtin "BaseException.__getattribute__")))
    (gg_TooLarge : PySem.W.findIn K (.ref C_TooLarge) "__getattr__" = some none)
    (cc_TooLarge : PySem.W.findIn K (.ref C_TooLarge) "__class__" = some (some (.builtin "object.__class__")))
    (mo_TooLarge : PySem.W.mroIn K C_TooLarge (.type "object") = some true)
    (s_TooLarge_WorthError : PySem.W.subIn K (.ref C_TooLarge) (.ref C_WorthError) = some true)
    (pg_Polynomials : PySem.W.plainGet K C_Polynomials Str.empty = true)
    (hd_Polynomials : PySem.W.hasDictIn K C_Polynomials = true)
    (po_Polynomials : PySem.W.plainOver K C_Polynomials = true)
    (sa_Polynomials : PySem.W.findIn K (.ref C_Polynomials) "__setattr__" = some (some (.builtin "object.__setattr__")))
    (mk_Polynomials : PySem.W.makesIn K C_Polynomials = true)
    (kc_Polynomials : PySem.W.keepIn K (.ref C_Polynomials) = true)
    (ini_Polynomials : PySem.W.findIn K (.ref C_Polynomials) "__init__" = some (some (.builtin "object.__init__")))
    (spc : PySem.W.specialIn K (.builtin "object.__class__") "__get__" = some (some (.builtin "getset_descriptor.__get__")))
    (tki : PySem.W.takesIn K (.builtin "object.__class__") = some true)
    (g_MOST_MONOMIALS : PySem.W.nsIn K mainGlobals "MOST_MONOMIALS" = some (some (.int 400 tk_MOST_MONOMIALS)))
    (z_isinstance : PySem.W.nsIn K mainGlobals "isinstance" = some none)
    (z_int : PySem.W.nsIn K mainGlobals "int" = some none)
    (z_bool : PySem.W.nsIn K mainGlobals "bool" = some none)
    (z_str : PySem.W.nsIn K mainGlobals "str" = some none)
    (z_list : PySem.W.nsIn K mainGlobals "list" = some none)
    (z_tuple : PySem.W.nsIn K mainGlobals "tuple" = some none)
    (z_abs : PySem.W.nsIn K mainGlobals "abs" = some none)
    (z_len : PySem.W.nsIn K mainGlobals "len" = some none)
    (z_range : PySem.W.nsIn K mainGlobals "range" = some none)
    (z_all : PySem.W.nsIn K mainGlobals "all" = some none)
    (z_max : PySem.W.nsIn K mainGlobals "max" = some none)
    (z_sorted : PySem.W.nsIn K mainGlobals "sorted" = some none)
    (z_sum : PySem.W.nsIn K mainGlobals "sum" = some none)
    (nt_ascends : K.lookup PP_ascends = none)
    (ch_ascends : PySem.W.codeHdIn K cc_ascends PP_ascends = true)
    (nt_Polynomials_is_element : K.lookup PP_Polynomials_is_element = none)
    (ch_Polynomials_is_element : PySem.W.codeHdIn K cc_Polynomials_is_element PP_Polynomials_is_element = true)
    (nt_is_monomial : K.lookup PP_is_monomial = none)
    (ch_is_monomial : PySem.W.codeHdIn K cc_is_monomial PP_is_monomial = true)
    : LamX.LawAtS l w K (L2.CX l.prog w) 21 63 "script" mg fa h := by
  have e := hfa.symm.trans (PySem.W.mg_of X G a_law)
  cases e
  have F_is_integer := fun_mk (st := s_is_integer) l_is_integer c_is_integer k_is_integer
  have b_is_integer := F_is_integer.binds (ps := ["thing"]) fun _ _ _ _ _ _ us hl => match us, hl with | [_], _ => rfl
  have F_is_natural := fun_mk (st := s_is_natural) l_is_natural c_is_natural k_is_natural
  have b_is_natural := F_is_natural.binds (ps := ["thing"]) fun _ _ _ _ _ _ us hl => match us, hl with | [_], _ => rfl
  have F_is_pair := fun_mk (st := s_is_pair) l_is_pair c_is_pair k_is_pair
  have b_is_pair := F_is_pair.binds (ps := ["thing"]) fun _ _ _ _ _ _ us hl => match us, hl with | [_], _ => rfl
  have FC_ascends := Tb.func_mk (st := s_ascends) l_ascends c_ascends k_ascends
  have F_ascends := FC_ascends.fun_
  have b_ascends := F_ascends.binds (ps := ["things"]) fun _ _ _ _ _ _ us hl => match us, hl with | [_], _ => rfl
  have F_Polynomials_zero := fun_mk (st := s_Polynomials_zero) l_Polynomials_zero c_Polynomials_zero k_Polynomials_zero
  have b_Polynomials_zero := F_Polynomials_zero.binds (ps := ["self"]) fun _ _ _ _ _ _ us hl => match us, hl with | [_], _ => rfl
  have F_Polynomials_one := fun_mk (st := s_Polynomials_one) l_Polynomials_one c_Polynomials_one k_Polynomials_one
  have b_Polynomials_one := F_Polynomials_one.binds (ps := ["self"]) fun _ _ _ _ _ _ us hl => match us, hl with | [_], _ => rfl
  have F_Polynomials_plus := fun_mk (st := s_Polynomials_plus) l_Polynomials_plus c_Polynomials_plus k_Polynomials_plus
  have b_Polynomials_plus := F_Polynomials_plus.binds (ps := ["self", "a", "b"]) fun _ _ _ _ _ _ us hl => match us, hl with | [_, _, _], _ => rfl
  have F_Polynomials_times := fun_mk (st := s_Polynomials_times) l_Polynomials_times c_Polynomials_times k_Polynomials_times
  have b_Polynomials_times := F_Polynomials_times.binds (ps := ["self", "a", "b"]) fun _ _ _ _ _ _ us hl => match us, hl with | [_, _, _], _ => rfl
  have F_Polynomials_star := fun_mk (st := s_Polynomials_star) l_Polynomials_star c_Polynomials_star k_Polynomials_star
  have b_Polynomials_star := F_Polynomials_star.binds (ps := ["self", "a"]) fun _ _ _ _ _ _ us hl => match us, hl with | [_, _], _ => rfl
  have FC_Polynomials_is_element := Tb.func_mk (st := s_Polynomials_is_element) l_Polynomials_is_element c_Polynomials_is_element k_Polynomials_is_element
  have F_Polynomials_is_element := FC_Polynomials_is_element.fun_
  have b_Polynomials_is_element := F_Polynomials_is_element.binds (ps := ["self", "a"]) fun _ _ _ _ _ _ us hl => match us, hl with | [_, _], _ => rfl
  have F_is_part := fun_mk (st := s_is_part) l_is_part c_is_part k_is_part
  have b_is_part := F_is_part.binds (ps := ["thing"]) fun _ _ _ _ _ _ us hl => match us, hl with | [_], _ => rfl
  have FC_is_monomial := Tb.func_mk (st := s_is_monomial) l_is_monomial c_is_monomial k_is_monomial
  have F_is_monomial := FC_is_monomial.fun_
  have b_is_monomial := F_is_monomial.binds (ps := ["thing"]) fun _ _ _ _ _ _ us hl => match us, hl with | [_], _ => rfl
  have F_is_power := fun_mk (st := s_is_power) l_is_power c_is_power k_is_power
  have b_is_power := F_is_power.binds (ps := ["thing"]) fun _ _ _ _ _ _ us hl => match us, hl with | [_], _ => rfl
  have F_is_positive := fun_mk (st := s_is_positive) l_is_positive c_is_positive k_is_positive
  have b_is_positive := F_is_positive.binds (ps := ["thing"]) fun _ _ _ _ _ _ us hl => match us, hl with | [_], _ => rfl
  have F_put := fun_mk (st := s_put) l_put c_put k_put
  have b_put := F_put.binds (ps := ["found", "monomial", "coefficient"]) fun _ _ _ _ _ _ us hl => match us, hl with | [_, _, _], _ => rfl
  have F_polynomial_of := fun_mk (st := s_polynomial_of) l_polynomial_of c_polynomial_of k_polynomial_of
  have b_polynomial_of := F_polynomial_of.binds (ps := ["found"]) fun _ _ _ _ _ _ us hl => match us, hl with | [_], _ => rfl
  have F_product_of := fun_mk (st := s_product_of) l_product_of c_product_of k_product_of
  have b_product_of := F_product_of.binds (ps := ["first", "second"]) fun _ _ _ _ _ _ us hl => match us, hl with | [_, _], _ => rfl
  have F_variable := fun_mk (st := s_variable) l_variable c_variable k_variable
  have b_variable := F_variable.binds (ps := ["fact"]) fun _ _ _ _ _ _ us hl => match us, hl with | [_], _ => rfl
  have F_degree := fun_mk (st := s_degree) l_degree c_degree k_degree
  have b_degree := F_degree.binds (ps := ["polynomial"]) fun _ _ _ _ _ _ us hl => match us, hl with | [_], _ => rfl
  have F_degree_of := fun_mk (st := s_degree_of) l_degree_of c_degree_of k_degree_of
  have b_degree_of := F_degree_of.binds (ps := ["monomial"]) fun _ _ _ _ _ _ us hl => match us, hl with | [_], _ => rfl
  have F_value_at := fun_mk (st := s_value_at) l_value_at c_value_at k_value_at
  have b_value_at := F_value_at.binds (ps := ["polynomial", "numbers"]) fun _ _ _ _ _ _ us hl => match us, hl with | [_, _], _ => rfl
  have F_power := fun_mk (st := s_power) l_power c_power k_power
  have b_power := F_power.binds (ps := ["base", "exponent"]) fun _ _ _ _ _ _ us hl => match us, hl with | [_, _], _ => rfl
  have F_law_pot := fun_mk (st := s_law_pot) l_law_pot c_law_pot k_law_pot
  have b_law_pot := F_law_pot.binds (ps := ["script"]) fun _ _ _ _ _ _ us hl => match us, hl with | [_], _ => rfl
  have F_law_next := fun_mk (st := s_law_next) l_law_next c_law_next k_law_next
  have b_law_next := F_law_next.binds (ps := ["pot", "limit"]) fun _ _ _ _ _ _ us hl => match us, hl with | [_, _], _ => rfl
  have F_law_is_int := fun_mk (st := s_law_is_int) l_law_is_int c_law_is_int k_law_is_int
  have b_law_is_int := F_law_is_int.binds (ps := ["value"]) fun _ _ _ _ _ _ us hl => match us, hl with | [_], _ => rfl
  have F_law_same := fun_mk (st := s_law_same) l_law_same c_law_same k_law_same
  have b_law_same := F_law_same.binds (ps := ["found", "value"]) fun _ _ _ _ _ _ us hl => match us, hl with | [_, _], _ => rfl
  have F_law_star := fun_mk (st := s_law_star) l_law_star c_law_star k_law_star
  have b_law_star := F_law_star.binds (ps := ["ring", "a"]) fun _ _ _ _ _ _ us hl => match us, hl with | [_, _], _ => rfl
  have F_law_packed := fun_mk (st := s_law_packed) l_law_packed c_law_packed k_law_packed
  have b_law_packed := F_law_packed.binds (ps := ["table"]) fun _ _ _ _ _ _ us hl => match us, hl with | [_], _ => rfl
  have F_law_drawn := fun_mk (st := s_law_drawn) l_law_drawn c_law_drawn k_law_drawn
  have b_law_drawn := F_law_drawn.binds (ps := ["pot"]) fun _ _ _ _ _ _ us hl => match us, hl with | [_], _ => rfl
  have F_law_product := fun_mk (st := s_law_product) l_law_product c_law_product k_law_product
  have b_law_product := F_law_product.binds (ps := ["one", "other"]) fun _ _ _ _ _ _ us hl => match us, hl with | [_, _], _ => rfl
  have F_law_sum := fun_mk (st := s_law_sum) l_law_sum c_law_sum k_law_sum
  have b_law_sum := F_law_sum.binds (ps := ["one", "other"]) fun _ _ _ _ _ _ us hl => match us, hl with | [_, _], _ => rfl
  have F_law := fun_mk (st := s_law) l_law c_law k_law
  have b_law := F_law.binds (ps := ["script"]) fun _ _ _ _ _ _ us hl => match us, hl with | [_], _ => rfl
  have cl_Polynomials : Cls K C_Polynomials := ⟨pg_Polynomials, hd_Polynomials, po_Polynomials, sa_Polynomials⟩
  have kself : ∀ c : Addr, PySem.W.kitOne K (.ref c) (.ref c) = some true := fun c => if_pos (beq_iff_eq.mpr rfl)
  let ad : Ad := ⟨C_WorthError, C_NoStar, C_TooLarge, C_Polynomials⟩
  have T : Txt K mg ad :=
    { z_isinstance := PySem.W.mg_none_of X G z_isinstance, z_int := PySem.W.mg_none_of X G z_int, z_bool := PySem.W.mg_none_of X G z_bool, z_str := PySem.W.mg_none_of X G z_str, z_list := PySem.W.mg_none_of X G z_list, z_tuple := PySem.W.mg_none_of X G z_tuple,
      z_abs := PySem.W.mg_none_of X G z_abs, z_len := PySem.W.mg_none_of X G z_len, z_range := PySem.W.mg_none_of X G z_range, z_all := PySem.W.mg_none_of X G z_all, z_max := PySem.W.mg_none_of X G z_max, z_sorted := PySem.W.mg_none_of X G z_sorted, z_sum := PySem.W.mg_none_of X G z_sum,
      g_MOST_MONOMIALS := ⟨_, PySem.W.mg_of X G g_MOST_MONOMIALS⟩, g_WorthError := PySem.W.mg_of X G aC_WorthError, g_NoStar := PySem.W.mg_of X G aC_NoStar, g_TooLarge := PySem.W.mg_of X G aC_TooLarge,
      x_TooLarge := x_TooLarge, k_TooLarge := kp_TooLarge, b_TooLarge := b_TooLarge, t_TooLarge := t_TooLarge,
      x_NoStar := x_NoStar, k_NoStar := kp_NoStar, b_NoStar := b_NoStar, t_NoStar := t_NoStar,
      ec_NoStar := ⟨ga_NoStar, gg_NoStar, b_NoStar, hd_NoStar, cc_NoStar, spc, tki, mo_NoStar⟩,
      em_NoStar := PySem.W.exm_ref b_WorthError hd_WorthError t_WorthError s_NoStar_WorthError, ki_NoStar := kself _, c_Polynomials := cl_Polynomials }
  refine ⟨PySem.W.fnOf "law" "law" (defArgs s_law) (defBody s_law) (defScope s_law) .none kV_law dc_law pm_law an_law cd_law ct_law, [(cc_ascends, PP_ascends), (cc_Polynomials_is_element, PP_Polynomials_is_element), (cc_is_monomial, PP_is_monomial)], spLaw K PP_ascends PP_Polynomials_is_element PP_is_monomial, (List.forall_mem_cons.mpr ⟨TA_ascends, (List.forall_mem_cons.mpr ⟨TA_Polynomials_is_element, (List.forall_mem_cons.mpr ⟨TA_is_monomial, (fun _ z => nomatch z)⟩)⟩)⟩), (List.forall_mem_cons.mpr ⟨nt_ascends, (List.forall_mem_cons.mpr ⟨nt_Polynomials_is_element, (List.forall_mem_cons.mpr ⟨nt_is_monomial, (fun _ z => nomatch z)⟩)⟩)⟩), (List.forall_mem_cons.mpr ⟨PySem.W.codeHd_of_K X ch_ascends, (List.forall_mem_cons.mpr ⟨PySem.W.codeHd_of_K X ch_Polynomials_is_element, (List.forall_mem_cons.mpr ⟨PySem.W.codeHd_of_K X ch_is_monomial, (fun _ z => nomatch z)⟩)⟩)⟩), fun s v => .of_eq rfl, ?_, fun base _ _ TBa => ?_⟩
  · intro H a ns hl _ hT hS
    have tg : ∀ P, H P = some (.tbl #[]) → TabG H P := fun P e => ⟨#[], e, by first | trivial | decide | exact TriplesOk_nil | simp [TriplesOk]⟩
    exact ⟨a, ns, rfl, hS, hl, tg _ (hT (cc_ascends, PP_ascends) (by simp)), tg _ (hT (cc_Polynomials_is_element, PP_Polynomials_is_element) (by simp)), tg _ (hT (cc_is_monomial, PP_is_monomial) (by simp)), fun _ => rfl⟩
  have TB_ascends : GxR.TabB base mg cc_ascends PP_ascends := by
    have z := TBa (cc_ascends, PP_ascends) (by simp)
    exact ⟨z.code, z.bm, z.gP⟩
  have TB_Polynomials_is_element : GxR.TabB base mg cc_Polynomials_is_element PP_Polynomials_is_element := by
    have z := TBa (cc_Polynomials_is_element, PP_Polynomials_is_element) (by simp)
    exact ⟨z.code, z.bm, z.gP⟩
  have TB_is_monomial : GxR.TabB base mg cc_is_monomial PP_is_monomial := by
    have z := TBa (cc_is_monomial, PP_is_monomial) (by simp)
    exact ⟨z.code, z.bm, z.gP⟩
  have c_is_integer := cal_mk (x := "is_integer") (ok_is_integer (P := l.prog) (w := w) (K := K) (mg := mg) (base := base) (ad := ad) F_is_integer T) (PySem.W.mg_of X G a_is_integer) k_is_integer b_is_integer
  have c_is_natural := cal_mk (x := "is_natural") (ok_is_natural (P := l.prog) (w := w) (K := K) (mg := mg) (base := base) (ad := ad) c_is_integer F_is_natural T) (PySem.W.mg_of X G a_is_natural) k_is_natural b_is_natural
  have c_is_pair := cal_mk (x := "is_pair") (ok_is_pair (P := l.prog) (w := w) (K := K) (mg := mg) (base := base) (ad := ad) F_is_pair T) (PySem.W.mg_of X G a_is_pair) k_is_pair b_is_pair
  have c_is_positive := cal_mk (x := "_is_positive") (ok_is_positive (P := l.prog) (w := w) (K := K) (mg := mg) (base := base) (ad := ad) c_is_natural F_is_positive T) (PySem.W.mg_of X G a_is_positive) k_is_positive b_is_positive
  have c_is_power := cal_mk (x := "_is_power") (ok_is_power (P := l.prog) (w := w) (K := K) (mg := mg) (base := base) (ad := ad) c_is_pair c_is_natural c_is_positive F_is_power T) (PySem.W.mg_of X G a_is_power) k_is_power b_is_power
  have c_asc1 := cal_mk (x := "ascends") (ok_ascends (P := l.prog) (w := w) (K := K) (mg := mg) (base := base) (ad := ad) FC_ascends TB_ascends T) (PySem.W.mg_of X G a_ascends) k_ascends b_ascends
  have c_asc2 := cal_mk (x := "ascends") (_root_.K04.T.ok_ascends (P := l.prog) (w := w) (K := K) (mg := mg) (base := base) (ad := ad) FC_ascends TB_ascends T) (PySem.W.mg_of X G a_ascends) k_ascends b_ascends
  have c_is_monomial := cal_mk (x := "_is_monomial") (ok_is_monomial (P := l.prog) (w := w) (K := K) (mg := mg) (base := base) (ad := ad) c_is_power c_asc1 FC_is_monomial TB_is_monomial T) (PySem.W.mg_of X G a_is_monomial) k_is_monomial b_is_monomial
  have c_is_part := cal_mk (x := "_is_part") (ok_is_part (P := l.prog) (w := w) (K := K) (mg := mg) (base := base) (ad := ad) c_is_pair c_is_monomial c_is_positive F_is_part T) (PySem.W.mg_of X G a_is_part) k_is_part b_is_part
  have c_put := cal_mk (x := "_put") (ok_put (P := l.prog) (w := w) (K := K) (mg := mg) (base := base) (ad := ad) F_put T) (PySem.W.mg_of X G a_put) k_put b_put
  have c_polynomial_of := cal_mk (x := "_polynomial_of") (ok_polynomial_of (P := l.prog) (w := w) (K := K) (mg := mg) (base := base) (ad := ad) F_polynomial_of T) (PySem.W.mg_of X G a_polynomial_of) k_polynomial_of b_polynomial_of
  have c_product_of := cal_mk (x := "_product_of") (ok_product_of (P := l.prog) (w := w) (K := K) (mg := mg) (base := base) (ad := ad) F_product_of T) (PySem.W.mg_of X G a_product_of) k_product_of b_product_of
  have c_variable := cal_mk (x := "variable") (ok_variable (P := l.prog) (w := w) (K := K) (mg := mg) (base := base) (ad := ad) F_variable T) (PySem.W.mg_of X G a_variable) k_variable b_variable
  have c_degree_of := cal_mk (x := "_degree_of") (ok_degree_of (P := l.prog) (w := w) (K := K) (mg := mg) (base := base) (ad := ad) F_degree_of T) (PySem.W.mg_of X G a_degree_of) k_degree_of b_degree_of
  have c_degree := cal_mk (x := "degree") (ok_degree (P := l.prog) (w := w) (K := K) (mg := mg) (base := base) (ad := ad) c_degree_of F_degree T) (PySem.W.mg_of X G a_degree) k_degree b_degree
  have c_power := cal_mk (x := "power") (ok_power (P := l.prog) (w := w) (K := K) (mg := mg) (base := base) (ad := ad) F_power T) (PySem.W.mg_of X G a_power) k_power b_power
  have c_value_at := cal_mk (x := "value_at") (ok_value_at (P := l.prog) (w := w) (K := K) (mg := mg) (base := base) (ad := ad) c_power F_value_at T) (PySem.W.mg_of X G a_value_at) k_value_at b_value_at
  have m_zero : MetX l.prog w K mg base 1 C_Polynomials "zero" (spNulP C_Polynomials []) := (met_mk cl_Polynomials ⟨a_Polynomials_zero, i_Polynomials_zero, k_Polynomials_zero⟩ ((ok_Polynomials_zero (P := l.prog) (w := w) (K := K) (mg := mg) (base := base) (ad := ad) F_Polynomials_zero T).mono (by decide)) b_Polynomials_zero)
  have m_one : MetX l.prog w K mg base 1 C_Polynomials "one" (spNulP C_Polynomials [([], 1)]) := (met_mk cl_Polynomials ⟨a_Polynomials_one, i_Polynomials_one, k_Polynomials_one⟩ ((ok_Polynomials_one (P := l.prog) (w := w) (K := K) (mg := mg) (base := base) (ad := ad) F_Polynomials_one T).mono (by decide)) b_Polynomials_one)
  have m_star : MetX l.prog w K mg base 2 C_Polynomials "star" (spStarP C_Polynomials C_NoStar) := (met_mk cl_Polynomials ⟨a_Polynomials_star, i_Polynomials_star, k_Polynomials_star⟩ ((ok_Polynomials_star (P := l.prog) (w := w) (K := K) (mg := mg) (base := base) (ad := ad) m_one F_Polynomials_star T).mono (by decide)) b_Polynomials_star)
  have m_plus : MetX l.prog w K mg base 3 C_Polynomials "plus" (spBinP C_Polynomials (fun a b => a ++ b)) := (met_mk cl_Polynomials ⟨a_Polynomials_plus, i_Polynomials_plus, k_Polynomials_plus⟩ ((ok_Polynomials_plus (P := l.prog) (w := w) (K := K) (mg := mg) (base := base) (ad := ad) c_put c_polynomial_of F_Polynomials_plus T).mono (by decide)) b_Polynomials_plus)
  have m_times : MetX l.prog w K mg base 3 C_Polynomials "times" (spBinP C_Polynomials PM.tmul) := (met_mk cl_Polynomials ⟨a_Polynomials_times, i_Polynomials_times, k_Polynomials_times⟩ ((ok_Polynomials_times (P := l.prog) (w := w) (K := K) (mg := mg) (base := base) (ad := ad) c_put c_product_of c_polynomial_of F_Polynomials_times T).mono (by decide)) b_Polynomials_times)
  have m_elem : MetX l.prog w K mg base 9 C_Polynomials "is_element" (spIsEl PP_Polynomials_is_element PP_is_monomial PP_ascends C_Polynomials) := (met_mk cl_Polynomials ⟨a_Polynomials_is_element, i_Polynomials_is_element, k_Polynomials_is_element⟩ ((ok_Polynomials_is_element (P := l.prog) (w := w) (K := K) (mg := mg) (base := base) (ad := ad) c_is_part c_asc2 FC_Polynomials_is_element TB_Polynomials_is_element T).mono (by decide)) b_Polynomials_is_element)
  have c_law_pot := cal_mk (x := "_law_pot") (ok_law_pot (P := l.prog) (w := w) (K := K) (mg := mg) (base := base) (ad := ad) F_law_pot T) (PySem.W.mg_of X G a_law_pot) k_law_pot b_law_pot
  have c_law_next := cal_mk (x := "_law_next") (ok_law_next (P := l.prog) (w := w) (K := K) (mg := mg) (base := base) (ad := ad) F_law_next T) (PySem.W.mg_of X G a_law_next) k_law_next b_law_next
  have c_law_is_int := cal_mk (x := "_law_is_int") (ok_law_is_int (P := l.prog) (w := w) (K := K) (mg := mg) (base := base) (ad := ad) F_law_is_int T) (PySem.W.mg_of X G a_law_is_int) k_law_is_int b_law_is_int
  have c_law_star := cal_mk (x := "_law_star") (ok_law_star (P := l.prog) (w := w) (K := K) (mg := mg) (base := base) (ad := ad) m_star F_law_star T) (PySem.W.mg_of X G a_law_star) k_law_star b_law_star
  have c_law_packed := cal_mk (x := "_law_packed") (ok_law_packed (P := l.prog) (w := w) (K := K) (mg := mg) (base := base) (ad := ad) F_law_packed T) (PySem.W.mg_of X G a_law_packed) k_law_packed b_law_packed
  have c_law_drawn := cal_mk (x := "_law_drawn") (ok_law_drawn (P := l.prog) (w := w) (K := K) (mg := mg) (base := base) (ad := ad) c_law_next c_law_packed F_law_drawn T) (PySem.W.mg_of X G a_law_drawn) k_law_drawn b_law_drawn
  have c_law_product := cal_mk (x := "_law_product") (ok_law_product (P := l.prog) (w := w) (K := K) (mg := mg) (base := base) (ad := ad) c_law_packed F_law_product T) (PySem.W.mg_of X G a_law_product) k_law_product b_law_product
  have c_law_sum := cal_mk (x := "_law_sum") (ok_law_sum (P := l.prog) (w := w) (K := K) (mg := mg) (base := base) (ad := ad) c_law_packed F_law_sum T) (PySem.W.mg_of X G a_law_sum) k_law_sum b_law_sum
  have c_law_same := same_cal (P := l.prog) (w := w) (base := base) (ad := ad) F_law_same T (PySem.W.mg_of X G a_law_same) b_law_same c_law_is_int 5
  have mkP : Mk0 K mg "Polynomials" C_Polynomials := ⟨PySem.W.mg_of X G aC_Polynomials, mk_Polynomials, ini_Polynomials, kc_Polynomials⟩
  exact ok_law (P := l.prog) (w := w) (base := base) (ad := ad) mkP m_zero m_one m_plus m_times m_elem c_law_pot c_law_next c_law_is_int c_law_same c_law_star c_law_drawn c_law_product c_law_sum c_variable c_degree c_value_at F_law T
theorem walk {l : PySem.W.OpenLaw} {q : Program} {loose : List Str} {XP : (Str → Option Value) → Heap → Prop} {YP : World → Heap → Prop} {d : DefRec} {K : Params → PySem.W.Frag} (hn : l.most = some 63) (hdf : d.params.defaults = [])
    (hY : ∀ (w : World) (h : Heap), YP w h → (K w.params).In h)
    (F : ∀ (w : World) (mg : Str → Option Value) (fa : Addr) (h : Heap), YP w h → (K w.params).In h → h.Ns mainGlobals mg → mg d.name = some (.ref fa) → LamX.LawAtS l w (K w.params) (L2.CX l.prog w) 21 63 "script" mg fa h) :
    PySem.W.WalkO q loose XP YP l.row.toRowW d [] (fun f vs => PySem.call f vs) :=
  LamX.walk_ofTs (n := 63) (k := 21) (x := "script") (CX := fun w => L2.CX l.prog w) hn (by decide) hdf ⟨rfl, by decide, by decide⟩ hY F fun _ _ _ _ _ h => by
    obtain ⟨_, _, _, _, _, _, _, _, _, _, _, _, z⟩ := h
    exact z
end K04
open PySem PySem.W PyProof.Rows
local macro_rules | `(tactic| o_head ($f:ident $a $b $c)) => `(tactic| o_head (PySem.W.kmHook $a $b $c [74, 123, 142]))
set_option maxRecDepth 100000 in
set_option maxHeartbeats 0 in
theorem PySem.Challenge.cw_everyworth_k04_polynomials_holds : PySem.Challenge.rw_everyworth_k04_polynomials.Holds := by
  w_on; o_law; k_head; (case hw => w_witness2)
  k_fill
  refine K04.walk (l := PySem.Challenge.rw_everyworth_k04_polynomials) rfl rfl (fun w h Y => PySem.W.km_in_of Y) ?F
  case F =>
    intro w mg fa h Y KX G hmg
    refine' K04.all_mk 74 123 142 KX G hmg (PySem.W.km_tabs_of Y _ (by simp)) (PySem.W.km_tabs_of Y _ (by simp)) (PySem.W.km_tabs_of Y _ (by simp)) ?aC_WorthError ?aC_NoStar ?aC_TooLarge ?aC_Polynomials ?a_is_integer ?l_is_integer ?c_is_integer ?k_is_integer ?a_is_natural ?l_is_natural ?c_is_natural ?k_is_natural ?a_is_pair ?l_is_pair ?c_is_pair ?k_is_pair ?a_ascends ?l_ascends ?c_ascends ?k_ascends ?a_Polynomials_zero ?i_Polynomials_zero ?l_Polynomials_zero ?c_Polynomials_zero ?k_Polynomials_zero ?a_Polynomials_one ?i_Polynomials_one ?l_Polynomials_one ?c_Polynomials_one ?k_Polynomials_one ?a_Polynomials_plus ?i_Polynomials_plus ?l_Polynomials_plus ?c_Polynomials_plus ?k_Polynomials_plus ?a_Polynomials_times ?i_Polynomials_times ?l_Polynomials_times ?c_Polynomials_times ?k_Polynomials_times ?a_Polynomials_star ?i_Polynomials_star ?l_Polynomials_star ?c_Polynomials_star ?k_Polynomials_star ?a_Polynomials_is_element ?i_Polynomials_is_element ?l_Polynomials_is_element ?c_Polynomials_is_element ?k_Polynomials_is_element ?a_is_part ?l_is_part ?c_is_part ?k_is_part ?a_is_monomial ?l_is_monomial ?c_is_monomial ?k_is_monomial ?a_is_power ?l_is_power ?c_is_power ?k_is_power ?a_is_positive ?l_is_positive ?c_is_positive ?k_is_positive ?a_put ?l_put ?c_put ?k_put ?a_polynomial_of ?l_polynomial_of ?c_polynomial_of ?k_polynomial_of ?a_product_of ?l_product_of ?c_product_of ?k_product_of ?a_variable ?l_variable ?c_variable ?k_variable ?a_degree ?l_degree ?c_degree ?k_degree ?a_degree_of ?l_degree_of ?c_degree_of ?k_degree_of ?a_value_at ?l_value_at ?c_value_at ?k_value_at ?a_power ?l_power ?c_power ?k_power ?a_law_pot ?l_law_pot ?c_law_pot ?k_law_pot ?a_law_next ?l_law_next ?c_law_next ?k_law_next ?a_law_is_int ?l_law_is_int ?c_law_is_int ?k_law_is_int ?a_law_same ?l_law_same ?c_law_same ?k_law_same ?a_law_star ?l_law_star ?c_law_star ?k_law_star ?a_law_packed ?l_law_packed ?c_law_packed ?k_law_packed ?a_law_drawn ?l_law_drawn ?c_law_drawn ?k_law_drawn ?a_law_product ?l_law_product ?c_law_product ?k_law_product ?a_law_sum ?l_law_sum ?c_law_sum ?k_law_sum ?a_law ?l_law ?c_law ?k_law ?x_WorthError ?kp_WorthError ?b_WorthError ?t_WorthError ?hd_WorthError ?ga_WorthError ?gg_WorthError ?cc_WorthError ?mo_WorthError ?x_NoStar ?kp_NoStar ?b_NoStar ?t_NoStar ?hd_NoStar ?ga_NoStar ?gg_NoStar ?cc_NoStar ?mo_NoStar ?s_NoStar_WorthError ?x_TooLarge ?kp_TooLarge ?b_TooLarge ?t_TooLarge ?hd_TooLarge ?ga_TooLarge ?gg_TooLarge ?cc_TooLarge ?mo_TooLarge ?s_TooLarge_WorthError ?pg_Polynomials ?hd_Polynomials ?po_Polynomials ?sa_Polynomials ?mk_Polynomials ?kc_Polynomials ?ini_Polynomials ?spc ?tki ?g_MOST_MONOMIALS ?z_isinstance ?z_int ?z_bool ?z_str ?z_list ?z_tuple ?z_abs ?z_len ?z_range ?z_all ?z_max ?z_sorted ?z_sum ?nt_ascends ?ch_ascends ?nt_Polynomials_is_element ?ch_Polynomials_is_element ?nt_is_monomial ?ch_is_monomial
    (case aC_WorthError => k_is)
    (case aC_NoStar => k_is)
    (case aC_TooLarge => k_is)
    (case aC_Polynomials => k_is)
    (case a_is_integer => k_is)
    (case l_is_integer => k_is)
    (case c_is_integer => k_is)
    (case k_is_integer => k_is)
    (case a_is_natural => k_is)
    (case l_is_natural => k_is)
    (case c_is_natural => k_is)
    (case k_is_natural => k_is)
    (case a_is_pair => k_is)
    (case l_is_pair => k_is)
    (case c_is_pair => k_is)
    (case k_is_pair => k_is)
    (case a_ascends => k_is)
    (case l_ascends => k_is)
    (case c_ascends => k_is)
    (case k_ascends => k_is)
    (case a_Polynomials_zero => k_is)
    (case i_Polynomials_zero => k_is)
    (case l_Polynomials_zero => k_is)
    (case c_Polynomials_zero => k_is)
    (case k_Polynomials_zero => k_is)
    (case a_Polynomials_one => k_is)
    (case i_Polynomials_one => k_is)
    (case l_Polynomials_one => k_is)
    (case c_Polynomials_one => k_is)
    (case k_Polynomials_one => k_is)
    (case a_Polynomials_plus => k_is)
    (case i_Polynomials_plus => k_is)
    (case l_Polynomials_plus => k_is)
    (case c_Polynomials_plus => k_is)
    (case k_Polynomials_plus => k_is)
    (case a_Polynomials_times => k_is)
    (case i_Polynomials_times => k_is)
    (case l_Polynomials_times => k_is)
    (case c_Polynomials_times => k_is)
    (case k_Polynomials_times => k_is)
    (case a_Polynomials_star => k_is)
    (case i_Polynomials_star => k_is)
    (case l_Polynomials_star => k_is)
    (case c_Polynomials_star => k_is)
    (case k_Polynomials_star => k_is)
    (case a_Polynomials_is_element => k_is)
    (case i_Polynomials_is_element => k_is)
    (case l_Polynomials_is_element => k_is)
    (case c_Polynomials_is_element => k_is)
    (case k_Polynomials_is_element => k_is)
    (case a_is_part => k_is)
    (case l_is_part => k_is)
    (case c_is_part => k_is)
    (case k_is_part => k_is)
    (case a_is_monomial => k_is)
    (case l_is_monomial => k_is)
    (case c_is_monomial => k_is)
    (case k_is_monomial => k_is)
    (case a_is_power => k_is)
    (case l_is_power => k_is)
    (case c_is_power => k_is)
    (case k_is_power => k_is)
    (case a_is_positive => k_is)
    (case l_is_positive => k_is)
    (case c_is_positive => k_is)
    (case k_is_positive => k_is)
    (case a_put => k_is)
    (case l_put => k_is)
    (case c_put => k_is)
    (case k_put => k_is)
    (case a_polynomial_of => k_is)
    (case l_polynomial_of => k_is)
    (case c_polynomial_of => k_is)
    (case k_polynomial_of => k_is)
    (case a_product_of => k_is)
    (case l_product_of => k_is)
    (case c_product_of => k_is)
    (case k_product_of => k_is)
    (case a_variable => k_is)
    (case l_variable => k_is)
    (case c_variable => k_is)
    (case k_variable => k_is)
    (case a_degree => k_is)
    (case l_degree => k_is)
    (case c_degree => k_is)
    (case k_degree => k_is)
    (case a_degree_of => k_is)
    (case l_degree_of => k_is)
    (case c_degree_of => k_is)
    (case k_degree_of => k_is)
    (case a_value_at => k_is)
    (case l_value_at => k_is)
    (case c_value_at => k_is)
    (case k_value_at => k_is)
    (case a_power => k_is)
    (case l_power => k_is)
    (case c_power => k_is)
    (case k_power => k_is)
    (case a_law_pot => k_is)
    (case l_law_pot => k_is)
    (case c_law_pot => k_is)
    (case k_law_pot => k_is)
    (case a_law_next => k_is)
    (case l_law_next => k_is)
    (case c_law_next => k_is)
    (case k_law_next => k_is)
    (case a_law_is_int => k_is)
    (case l_law_is_int => k_is)
    (case c_law_is_int => k_is)
    (case k_law_is_int => k_is)
    (case a_law_same => k_is)
    (case l_law_same => k_is)
    (case c_law_same => k_is)
    (case k_law_same => k_is)
    (case a_law_star => k_is)
    (case l_law_star => k_is)
    (case c_law_star => k_is)
    (case k_law_star => k_is)
    (case a_law_packed => k_is)
    (case l_law_packed => k_is)
    (case c_law_packed => k_is)
    (case k_law_packed => k_is)
    (case a_law_drawn => k_is)
    (case l_law_drawn => k_is)
    (case c_law_drawn => k_is)
    (case k_law_drawn => k_is)
    (case a_law_product => k_is)
    (case l_law_product => k_is)
    (case c_law_product => k_is)
    (case k_law_product => k_is)
    (case a_law_sum => k_is)
    (case l_law_sum => k_is)
    (case c_law_sum => k_is)
    (case k_law_sum => k_is)
    (case a_law => k_is)
    (case l_law => k_is)
    (case c_law => k_is)
    (case k_law => k_is)
    (case x_WorthError => k_exc)
    (case kp_WorthError => k_is)
    (case b_WorthError => k_is)
    (case t_WorthError => k_is)
    (case hd_WorthError => k_is)
    (case ga_WorthError => k_is)
    (case gg_WorthError => k_is)
    (case cc_WorthError => k_is)
    (case mo_WorthError => k_is)
    (case x_NoStar => k_exc)
    (case kp_NoStar => k_is)
    (case b_NoStar => k_is)
    (case t_NoStar => k_is)
    (case hd_NoStar => k_is)
    (case ga_NoStar => k_is)
    (case gg_NoStar => k_is)
    (case cc_NoStar => k_is)
    (case mo_NoStar => k_is)
    (case s_NoStar_WorthError => k_is)
    (case x_TooLarge => k_exc)
    (case kp_TooLarge => k_is)
    (case b_TooLarge => k_is)
    (case t_TooLarge => k_is)
    (case hd_TooLarge => k_is)
    (case ga_TooLarge => k_is)
    (case gg_TooLarge => k_is)
    (case cc_TooLarge => k_is)
    (case mo_TooLarge => k_is)
    (case s_TooLarge_WorthError => k_is)
    (case pg_Polynomials => k_is)
    (case hd_Polynomials => k_is)
    (case po_Polynomials => k_is)
    (case sa_Polynomials => k_is)
    (case mk_Polynomials => k_is)
    (case kc_Polynomials => k_is)
    (case ini_Polynomials => k_is)
    (case spc => k_is)
    (case tki => k_is)
    (case g_MOST_MONOMIALS => k_is)
    (case z_isinstance => k_is)
    (case z_int => k_is)
    (case z_bool => k_is)
    (case z_str => k_is)
    (case z_list => k_is)
    (case z_tuple => k_is)
    (case z_abs => k_is)
    (case z_len => k_is)
    (case z_range => k_is)
    (case z_all => k_is)
    (case z_max => k_is)
    (case z_sorted => k_is)
    (case z_sum => k_is)
    (case nt_ascends => first | k_is | kernel_rfl)
    (case ch_ascends => first | k_is | kernel_rfl)
    (case nt_Polynomials_is_element => first | k_is | kernel_rfl)
    (case ch_Polynomials_is_element => first | k_is | kernel_rfl)
    (case nt_is_monomial => first | k_is | kernel_rfl)
    (case ch_is_monomial => first | k_is | kernel_rfl)
