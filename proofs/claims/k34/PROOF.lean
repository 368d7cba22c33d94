import PyProof.Rows.All
import Wide.All
import OpenK.AllK
import Wide.FinOn
import HandS.ForMost
import HandS.ForExc
import HandS.IsInst
import HandS.ExcIs
import HandS.CallSlots
import HandS.Wide
import HandS.EndBits
import HandS.Flow
import HandS.AnyAll
import HandS.SortKw
import HandS.Dict
import KE.KeyNested
import KE.KDictKeyed
import KE.KDictDisplayH
import HandS.List
import KE.KIndexOf
import KE.SortData
import KE.DataCmp
import HandS.NamedTupSort
import HandS.Style
import HandS.DictTup
import HandS.More
import HandS.TupLen
import KE.KDictWalk
import KE.KDictSum
import KE.BitLaws
import HandS.Text
import HandS.GenOver
import HandS.GenList
import PyProof.GenRules
import PyProof.GenQ
import HandS.Steps
import HandS.Codes
import HandS.TupAny
import HandS.SetFor
import KE.KDictPairs
import HandS.DictComp
import HandS.TupMul
import HandS.SortInts
import HandS.Defaults
import PySem.Challenge.RW_everyworth_k34_slopes
set_option Elab.async false
set_option linter.all false
set_option maxRecDepth 100000
set_option maxHeartbeats 4000000
/-! Rules whose callee is told by the reading: calls of defs, methods, classes by what stands in the heap. -/
namespace Ew
open PySem PySem.Spec PyProof.Rows L2

/-- a def under its name keeps sp at level k -/
structure CalX (P : Program) (w : World) (K : PySem.W.Frag) (mg : Str → Option Value) (base : Heap) (k : Nat) (x : Str) (sp : Sp) : Prop where
  ex : ∃ (f : Addr) (fd : FuncData) (ps : List Str) (ds : List Value) (dvs : List V) (sp0 : Sp), FnOk P w K mg base (L2.CX P w) k f fd ps sp0 ∧ mg x = some (.ref f) ∧ PySem.W.keepIn K (.ref f) = true ∧ Binds K fd ps ds ∧ Vals dvs ds ∧
    ∀ vs H Q E, sp vs H Q E → sp0 (vs ++ dvs) H Q E
/-- a method m of the class at C keeps sp at level k -/
structure MetX (P : Program) (w : World) (K : PySem.W.Frag) (mg : Str → Option Value) (base : Heap) (k : Nat) (C : Addr) (m : Str) (sp : Sp) : Prop where
  ex : ∃ (f : Addr) (fd : FuncData) (ps : List Str) (ds : List Value) (dvs : List V) (sp0 : Sp), Cls K C ∧ Meth K C m f ∧ FnOk P w K mg base (L2.CX P w) k f fd ps sp0 ∧ Binds K fd ps ds ∧ Vals dvs ds ∧
    ∀ vs H Q E, sp vs H Q E → sp0 (vs ++ dvs) H Q E
/-- a class under its name, its __init__ keeps sp at level k -/
structure MakX (P : Program) (w : World) (K : PySem.W.Frag) (mg : Str → Option Value) (base : Heap) (k : Nat) (x : Str) (C : Addr) (sp : Sp) : Prop where
  ex : ∃ (f : Addr) (fd : FuncData) (ps : List Str) (ds : List Value) (dvs : List V) (sp0 : Sp), Mk K C f ∧ mg x = some (.ref C) ∧ FnOk P w K mg base (L2.CX P w) k f fd ps sp0 ∧ Binds K fd ps ds ∧ Vals dvs ds ∧
    ∀ vs H Q E, sp vs H Q E → sp0 (vs ++ dvs) H Q E

def tCallD (P : Program) (w : World) (K : PySem.W.Frag) (mg : Str → Option Value) (base : Heap) (j : Nat) (x : Str) (W : WX) (t : TA) : TE := fun σ H Q =>
  ∃ (k : Nat) (sp : Sp), k ≤ j ∧ CalX P w K mg base k x sp ∧ t σ H fun vs H1 => sp vs H1 Q (WE W σ)
def tMethD (P : Program) (w : World) (K : PySem.W.Frag) (mg : Str → Option Value) (base : Heap) (j : Nat) (m : Str) (W : WX) (ta : TE) (t : TA) : TE := fun σ H Q => ta σ H fun x H1 =>
  ∃ (a C dx : Addr) (fs : List (Str × V)) (k : Nat) (sp : Sp), x = .ref a ∧ H1 a = some (.ins C dx fs) ∧ fs.lookup m = none ∧ k ≤ j ∧ MetX P w K mg base k C m sp ∧ t σ H1 fun vs H2 => sp (x :: vs) H2 Q (WE W σ)
def tMakeD (P : Program) (w : World) (K : PySem.W.Frag) (mg : Str → Option Value) (base : Heap) (j : Nat) (x : Str) (W : WX) (t : TA) : TE := fun σ H Q =>
  ∃ (k : Nat) (C : Addr) (sp : Sp), k + 1 ≤ j ∧ MakX P w K mg base k x C sp ∧ t σ H fun vs H1 => ∀ y dy, H1 y = none → H1 dy = none → dy ≠ y →
    sp (.ref y :: vs) (upd (upd H1 dy (.own y)) y (.ins C dy [])) (fun v H2 => v = .non ∧ Q (.ref y) H2) (WE W σ)

section
variable {X : Cx} {j : Nat} {x m : Str} {p pos apos : Pos} {e o : Expr} {es : List Expr} {ta : TE} {t : TA} {W : WX}

theorem pd_call (hr : Room j X.A) (tk : Takes X W) (hg : Gl X x) (ha : PA X (e :: es) t)
    (hdb : (x == ("__debug__" : Str)) = false := by decide) (he : starEach (e :: es) X.env = (false, eval e X.env) :: starEach es X.env := by rfl) (hpl : (backTo pos (starEach es X.env)).any (·.1) = false := by rfl) :
    PE X (.Call (.Name x p) (e :: es) [] pos) (tCallD X.prog X.w X.K X.mg X.base j x W t) := by
  refine ⟨fun pins s σ H Q I h => ?_⟩
  obtain ⟨k, sp, hk, c, h⟩ := h
  obtain ⟨f, fd, ps, ds, dvs, sp0, F, hm, kp, b, d, imp⟩ := c.ex
  refine wpAny_Call_Name_kw (ld_glob I hg hm ?_ hdb)
  refine PySem.W.callWith_K (h₀ := X.base) I.ok.mod.kin kp (thn (ha.run pos pins s σ H _ I h) fun us s1 ⟨vs, H1, I1, r, q⟩ => ⟨I1.kIn, ?_⟩) he hpl
  exact run_fnSD (E := WE W) F (hr.mono hk) b d (passAt tk σ) I1 r (imp _ _ _ _ q)
theorem pd_call0 (hr : Room j X.A) (tk : Takes X W) (hg : Gl X x) (hdb : (x == ("__debug__" : Str)) = false := by decide) :
    PE X (.Call (.Name x p) [] [] pos) (tCallD X.prog X.w X.K X.mg X.base j x W tNil) := by
  refine ⟨fun pins s σ H Q I h => ?_⟩
  obtain ⟨k, sp, hk, c, h⟩ := h
  obtain ⟨f, fd, ps, ds, dvs, sp0, F, hm, kp, b, d, imp⟩ := c.ex
  refine wpAny_Call_Name_kw (ld_glob I hg hm ?_ hdb)
  exact PySem.W.callWith_K0 I.kIn kp (run_fnSD (us := []) (E := WE W) F (hr.mono hk) b d (passAt tk σ) I .nil (imp _ _ _ _ h))

theorem pd_meth {pl : Sem Bool} (hr : Room j X.A) (tk : Takes X W) (he : PE X o ta) (ha : PA X (e :: es) t)
    (hst : starEach (e :: es) X.env = (false, eval e X.env) :: starEach es X.env := by rfl) (hpl : (backTo pos (starEach es X.env)).any (·.1) = false := by rfl)
    (ht : eval (.Call (.Attribute o m apos) (e :: es) [] pos) X.env = (do
      let ov ← eval o X.env
      standAt apos.atName
      let (f, first) ← holding [ov] (getMethod ov m pl)
      callWith pos f first (backTo pos (starEach (e :: es) X.env)) (backToKw pos (keywordEach [] X.env))) := by rfl) :
    PE X (.Call (.Attribute o m apos) (e :: es) [] pos) (tMethD X.prog X.w X.K X.mg X.base j m W ta t) := by
  refine ⟨fun pins s σ H Q I h => ?_⟩
  refine PySem.W.methodCall_KW (pl := pl) (thn (he.run pins s σ H _ I h) fun u s1 hh => ?_) ht
  obtain ⟨x, H1, I1, rx, a, C, dx, fs, k, sp, ex, ea, l, hk, c, q⟩ := hh
  obtain ⟨f, fd, ps, ds, dvs, sp0, hc, hm, F, b, d, imp⟩ := c.ex
  subst ex
  obtain rfl : u = Value.ref a := rx
  refine getmeth_ok I1 ea hc hm l ?_
  refine PySem.W.callWith_K (first := [.ref a]) (h₀ := X.base) I.ok.mod.kin hm.kp (thn (ha.run pos pins s1 σ H1 _ I1 q) fun us s2 ⟨vs, H2, I2, r, q2⟩ => ⟨I2.kIn, ?_⟩) hst hpl
  exact run_fnSD (us := .ref a :: us) (vs := .ref a :: vs) (E := WE W) F (hr.mono hk) b d (passAt tk σ) I2 (.cons rfl r) (imp _ _ _ _ q2)
theorem pd_meth0 {pl : Sem Bool} (hr : Room j X.A) (tk : Takes X W) (he : PE X o ta)
    (ht : eval (.Call (.Attribute o m apos) [] [] pos) X.env = (do
      let ov ← eval o X.env
      standAt apos.atName
      let (f, first) ← holding [ov] (getMethod ov m pl)
      callWith pos f first (backTo pos (starEach [] X.env)) (backToKw pos (keywordEach [] X.env))) := by rfl) :
    PE X (.Call (.Attribute o m apos) [] [] pos) (tMethD X.prog X.w X.K X.mg X.base j m W ta tNil) := by
  refine ⟨fun pins s σ H Q I h => ?_⟩
  refine PySem.W.methodCall_KW (pl := pl) (thn (he.run pins s σ H _ I h) fun u s1 hh => ?_) ht
  obtain ⟨x, H1, I1, rx, a, C, dx, fs, k, sp, ex, ea, l, hk, c, q⟩ := hh
  obtain ⟨f, fd, ps, ds, dvs, sp0, hc, hm, F, b, d, imp⟩ := c.ex
  subst ex
  obtain rfl : u = Value.ref a := rx
  refine getmeth_ok I1 ea hc hm l ?_
  exact PySem.W.callWith_K0 (first := [.ref a]) I1.kIn hm.kp (run_fnSD (us := [.ref a]) (vs := [.ref a]) (E := WE W) F (hr.mono hk) b d (passAt tk σ) I1 (.cons rfl .nil) (imp _ _ _ _ q))

theorem run_makeD {pins : List (Addr × Obj)} {σ : L2.St} {H : Hp} {s : Shared} {Q : VK} {us : List Value} {vs : List V} {k : Nat} {C f : Addr} {fd : FuncData} {ps : List Str} {ds : List Value} {dvs : List V} {sp : Sp} {E : L2.St → XK}
    (M : Mk X.K C f) (F : FnOk X.prog X.w X.K X.mg X.base (L2.CX X.prog X.w) k f fd ps sp) (hr : Room (k + 1) X.A) (hb : Binds X.K fd ps ds) (hd : Vals dvs ds)
    (hx : PassesAt (L2.CX X.prog X.w) X σ (E σ)) (I : Inv X pins σ H s) (r : Vals vs us)
    (h : ∀ x dx, H x = none → H dx = none → dx ≠ x → sp (.ref x :: (vs ++ dvs)) (upd (upd H dx (.own x)) x (.ins C dx [])) (fun v H2 => v = .non ∧ Q (.ref x) H2) (E σ)) :
    wpAny (model X.prog X.w) X.A (call (.ref C) us) (EP X pins σ Q) X.xe s := by
  have hq := h (s.heap.objs.size + 1) s.heap.objs.size (I.hok.fresh (Nat.le_succ _)) (I.hok.fresh (Nat.le_refl _)) (Nat.ne_of_lt (Nat.lt_succ_self _))
  have I2 := Inv.made (C := C) I
  have r2 : Vals (V.ref (s.heap.objs.size + 1) :: (vs ++ dvs)) (Value.ref (s.heap.objs.size + 1) :: (us ++ ds)) := .cons rfl (r.append hd)
  have hl : (Value.ref (s.heap.objs.size + 1) :: us ++ ds).length = ps.length := by
    have e := r2.length
    rw [F.len _ _ _ _ hq] at e
    exact e.symm
  refine wpAny_call (make_map (f := f) I.kIn M.makes M.init (beq_iff_eq.mp M.fn) (codeAny_mono (F.run _ X.stack _ _ ⟨Value.ref (s.heap.objs.size + 1) :: us, []⟩ (Value.ref (s.heap.objs.size + 1) :: (us ++ ds)) _ _ (E σ) (hr.make C us [])
    (I2.env0.make C us []) (hb _ (Value.ref (s.heap.objs.size + 1) :: us) I2.kIn hl) r2 hq) fun r s' hq' => ?_))
  cases r with
  | error e => exact hx pins _ _ e s' I2 hq'
  | ok fl =>
    cases fl with
    | ret u =>
      obtain ⟨v, H', I3, rv, ev, q3⟩ := I2.after hq'
      subst ev
      exact ⟨rv, ⟨V.ref (s.heap.objs.size + 1), H', I3, rfl, q3⟩⟩
    | next => exact False.elim hq'
    | brk => exact False.elim hq'
    | cont => exact False.elim hq'
theorem pd_make (hr : Room j X.A) (tk : Takes X W) (hg : Gl X x) (ha : PA X (e :: es) t)
    (hdb : (x == ("__debug__" : Str)) = false := by decide) (he : starEach (e :: es) X.env = (false, eval e X.env) :: starEach es X.env := by rfl) (hpl : (backTo pos (starEach es X.env)).any (·.1) = false := by rfl) :
    PE X (.Call (.Name x p) (e :: es) [] pos) (tMakeD X.prog X.w X.K X.mg X.base j x W t) := by
  refine ⟨fun pins s σ H Q I h => ?_⟩
  obtain ⟨k, C, sp, hk, c, h⟩ := h
  obtain ⟨f, fd, ps, ds, dvs, sp0, M, hm, F, b, d, imp⟩ := c.ex
  refine wpAny_Call_Name_kw (ld_glob I hg hm ?_ hdb)
  refine PySem.W.callWith_K (h₀ := X.base) I.ok.mod.kin M.kp (thn (ha.run pos pins s σ H _ I h) fun us s1 ⟨vs, H1, I1, r, q⟩ => ⟨I1.kIn, ?_⟩) he hpl
  exact run_makeD (E := WE W) M F (hr.mono hk) b d (passAt tk σ) I1 r fun y dy h1 h2 h3 => imp _ _ _ _ (q y dy h1 h2 h3)
theorem pd_make0 (hr : Room j X.A) (tk : Takes X W) (hg : Gl X x)
    (hdb : (x == ("__debug__" : Str)) = false := by decide) :
    PE X (.Call (.Name x p) [] [] pos) (tMakeD X.prog X.w X.K X.mg X.base j x W tNil) := by
  refine ⟨fun pins s σ H Q I h => ?_⟩
  obtain ⟨k, C, sp, hk, c, h⟩ := h
  obtain ⟨f, fd, ps, ds, dvs, sp0, M, hm, F, b, d, imp⟩ := c.ex
  refine wpAny_Call_Name_kw (ld_glob I hg hm ?_ hdb)
  exact PySem.W.callWith_K0 I.kIn M.kp (run_makeD (us := []) (E := WE W) M F (hr.mono hk) b d (passAt tk σ) I .nil fun y dy h1 h2 h3 => imp _ _ _ _ (h y dy h1 h2 h3))

/-- a class that has no __init__ of its own -/
structure Mk0 (K : PySem.W.Frag) (mg : Str → Option Value) (x : Str) (C : Addr) : Prop where
  mgC : mg x = some (.ref C)
  makes : PySem.W.makesIn K C = true
  init : PySem.W.findIn K (.ref C) "__init__" = some (some (.builtin "object.__init__"))
  kp : PySem.W.keepIn K (.ref C) = true
def tNew0D (K : PySem.W.Frag) (mg : Str → Option Value) (x : Str) : TE := fun _ H Q =>
  ∃ C, Mk0 K mg x C ∧ ∀ y dy, H y = none → H dy = none → dy ≠ y → Q (.ref y) (upd (upd H dy (.own y)) y (.ins C dy []))
theorem pd_new0 (hg : Gl X x) (hdb : (x == ("__debug__" : Str)) = false := by decide) : PE X (.Call (.Name x p) [] [] pos) (tNew0D X.K X.mg x) := by
  refine ⟨fun pins s σ H Q I h => ?_⟩
  obtain ⟨C, M, h⟩ := h
  refine wpAny_Call_Name_kw (ld_glob I hg M.mgC ?_ hdb)
  have hq := h (s.heap.objs.size + 1) s.heap.objs.size (I.hok.fresh (Nat.le_succ _)) (I.hok.fresh (Nat.le_refl _)) (Nat.ne_of_lt (Nat.lt_succ_self _))
  have I2 := Inv.made (C := C) I
  refine PySem.W.callWith_K0 I.kIn M.kp ?_
  show wpAny (model X.prog X.w) X.A (call (.ref C) []) _ _ _
  have I0 := I
  obtain ⟨hh, g, d, tk, os⟩ := s
  have Y := PySem.W.makes_of (M := model X.prog X.w) I0.kIn M.makes
  refine wpAny_call (PySem.W.make_core Y (PySem.W.looks_findIn I0.kIn M.init) (fun self => PySem.W.Looks.of_pure (PySem.W.oi_bind self)) (.inr ⟨rfl, rfl⟩) ?_)
  have hx : ((hh.push PySem.W.emptyDict).push (PySem.W.instObj C hh.objs.size)).get? (hh.objs.size + 1) = some (PySem.W.instObj C hh.objs.size) := by heap_get
  have t1 : PySem.W.Looks (model X.prog X.w) ((hh.push PySem.W.emptyDict).push (PySem.W.instObj C hh.objs.size)) (typeOf (.ref (hh.objs.size + 1))) (.ref C) := (PySem.W.Looks.ld hx).andThen .now
  have t2 : PySem.W.Looks (model X.prog X.w) ((hh.push PySem.W.emptyDict).push (PySem.W.instObj C hh.objs.size)) (isInstance (.ref (hh.objs.size + 1)) (.type "object")) true := t1.andThen (Y.top.keeps fun b o e => Heap.get?_push_of_some _ (Heap.get?_push_of_some _ e))
  refine codeAny_call_builtin PySem.W.oi_plain PySem.W.entry_oi (@PySem.W.check_slot (model X.prog X.w) _ _ _ "object.__init__" "object" "__init__" (.ref (hh.objs.size + 1)) [] [] _ PySem.W.oi_kind PySem.W.oi_split t2 (PySem.W.oi_args (.ref (hh.objs.size + 1))) ?_)
  rw [PySem.W.oi_run]
  exact wpAny_pure (And.intro rfl ⟨V.ref (hh.objs.size + 1), _, I2, rfl, hq⟩)

/-- f(e, ..) by a known promise -/
def tCallF (sp : Sp) (W : WX) (t : TA) : TE := fun σ H Q => t σ H fun vs H1 => sp vs H1 Q (WE W σ)
theorem pc_call {k : Nat} {sp : Sp} (c : CalX X.prog X.w X.K X.mg X.base k x sp) (hr : Room j X.A) (hk : k ≤ j) (tk : Takes X W) (hg : Gl X x) (ha : PA X (e :: es) t)
    (hdb : (x == ("__debug__" : Str)) = false := by decide) (he : starEach (e :: es) X.env = (false, eval e X.env) :: starEach es X.env := by rfl) (hpl : (backTo pos (starEach es X.env)).any (·.1) = false := by rfl) :
    PE X (.Call (.Name x p) (e :: es) [] pos) (tCallF sp W t) :=
  ⟨fun pins s σ H Q I h => (pd_call (p := p) (pos := pos) hr tk hg ha hdb he hpl).run pins s σ H Q I ⟨k, sp, hk, c, h⟩⟩
theorem pc_call0 {k : Nat} {sp : Sp} (c : CalX X.prog X.w X.K X.mg X.base k x sp) (hr : Room j X.A) (hk : k ≤ j) (tk : Takes X W) (hg : Gl X x) (hdb : (x == ("__debug__" : Str)) = false := by decide) :
    PE X (.Call (.Name x p) [] [] pos) (tCallF sp W tNil) :=
  ⟨fun pins s σ H Q I h => (pd_call0 (p := p) (pos := pos) hr tk hg hdb).run pins s σ H Q I ⟨k, sp, hk, c, h⟩⟩
theorem pe_gint {n : Int} (hg : Gl X x) (h : ∃ t, X.mg x = some (.int n t)) (hdb : (x == ("__debug__" : Str)) = false := by decide) : PE X (.Name x pos) (tC (.int n)) := by
  obtain ⟨t, h⟩ := h
  exact pe_glob hg h ⟨t, rfl⟩ hdb
theorem pe_gcls {C : Addr} (hg : Gl X x) (h : X.mg x = some (.ref C)) (hdb : (x == ("__debug__" : Str)) = false := by decide) : PE X (.Name x pos) (tC (.ref C)) := pe_glob hg h rfl hdb

/-! ### the same rules, the written part named K (within a comprehension's block the reading must not speak of the block) -/
section
variable {K : PySem.W.Frag}
theorem kix_list (hK : X.K = K := by rfl) : IxR X (rIxL K) := hK ▸ ix_list
theorem kix_tup (hK : X.K = K := by rfl) : IxR X (rIxT K) := hK ▸ ix_tup
theorem kix_seq (hK : X.K = K := by rfl) : IxR X (rIx K) := hK ▸ ix_seq
theorem kcall_len (hK : X.K = K := by rfl) : CallR X (.builtin "len") (fun xs H Q => ∃ x n, xs = [x] ∧ LenV K x H n ∧ Q (.int n) H) := hK ▸ call_len
theorem kcall_isi (hK : X.K = K := by rfl) : CallR X (.builtin "isinstance") (rIsi K) := hK ▸ call_isi
theorem kin_seq (hK : X.K = K := by rfl) : OpR X (compareOp .In) (rIn K false) := hK ▸ op_in_seq
theorem knotIn_seq (hK : X.K = K := by rfl) : OpR X (compareOp .NotIn) (rIn K true) := hK ▸ op_notIn_seq
theorem kpe_fld {f : Str} (he : PE X e ta) (hb : attributeBase e f X.env (eval e X.env) = eval e X.env) (hK : X.K = K := by rfl) : PE X (.Attribute e f pos) (tFld K ta f) := hK ▸ pe_fld he hb
theorem kpi_list {tg l : Expr} {tl : TE} (hl : PE X l tl) (hK : X.K = K := by rfl) : PI X tg l (iList K tl) := hK ▸ pi_list hl
theorem kpi_tup {tg l : Expr} {tl : TE} (hl : PE X l tl) (hK : X.K = K := by rfl) : PI X tg l (iTup K tl) := hK ▸ pi_tup hl
end
theorem kpd_meth {P : Program} {w : World} {K : PySem.W.Frag} {mg : Str → Option Value} {base : Heap} {pl : Sem Bool} (hr : Room j X.A) (tk : Takes X W) (he : PE X o ta) (ha : PA X (e :: es) t)
    (hP : X.prog = P := by rfl) (hw : X.w = w := by rfl) (hK : X.K = K := by rfl) (hm : X.mg = mg := by rfl) (hB : X.base = base := by rfl)
    (hst : starEach (e :: es) X.env = (false, eval e X.env) :: starEach es X.env := by rfl) (hpl : (backTo pos (starEach es X.env)).any (·.1) = false := by rfl)
    (ht : eval (.Call (.Attribute o m apos) (e :: es) [] pos) X.env = (do
      let ov ← eval o X.env
      standAt apos.atName
      let (f, first) ← holding [ov] (getMethod ov m pl)
      callWith pos f first (backTo pos (starEach (e :: es) X.env)) (backToKw pos (keywordEach [] X.env))) := by rfl) :
    PE X (.Call (.Attribute o m apos) (e :: es) [] pos) (tMethD P w K mg base j m W ta t) := by
  subst hP hw hK hm hB
  exact pd_meth (pl := pl) hr tk he ha hst hpl ht
theorem kpd_meth0 {P : Program} {w : World} {K : PySem.W.Frag} {mg : Str → Option Value} {base : Heap} {pl : Sem Bool} (hr : Room j X.A) (tk : Takes X W) (he : PE X o ta)
    (hP : X.prog = P := by rfl) (hw : X.w = w := by rfl) (hK : X.K = K := by rfl) (hm : X.mg = mg := by rfl) (hB : X.base = base := by rfl)
    (ht : eval (.Call (.Attribute o m apos) [] [] pos) X.env = (do
      let ov ← eval o X.env
      standAt apos.atName
      let (f, first) ← holding [ov] (getMethod ov m pl)
      callWith pos f first (backTo pos (starEach [] X.env)) (backToKw pos (keywordEach [] X.env))) := by rfl) :
    PE X (.Call (.Attribute o m apos) [] [] pos) (tMethD P w K mg base j m W ta tNil) := by
  subst hP hw hK hm hB
  exact pd_meth0 (pl := pl) hr tk he ht

/-! ### both ways of a two-place rule -/
def rOr (r r' : R2) : R2 := fun x y H Q => r x y H Q ∨ r' x y H Q
theorem op_or2 {f : Value → Value → Sem Value} {r r' : R2} (h : OpR X f r) (h' : OpR X f r') : OpR X f (rOr r r') := OpR.or h h'
theorem call_or2 {f : Value} {r r' : List V → Hp → VK → Prop} (h : CallR X f r) (h' : CallR X f r') : CallR X f (fun xs H Q => r xs H Q ∨ r' xs H Q) := by
  intro pins s σ H xs us Q I v q
  rcases q with q | q
  · exact h pins s σ H xs us Q I v q
  · exact h' pins s σ H xs us Q I v q
/-- isinstance(e, c) of what a suite holds, its class told by the reading -/
def rIsED (K : PySem.W.Frag) (a : Addr) (cls : Value) (d : Option Addr) : List V → Hp → VK → Prop := fun xs H Q => ∃ D, cls = .ref D ∧ d = none ∧ ExcC K D ∧ rIsE K D a xs H Q
theorem call_isED {a : Addr} {oe : Obj} {pn : List (Addr × Obj)} {cls : Value} {d : Option Addr} (hz : Zc cls d oe) (hf : ∃ vs, oe.data = .fields vs) : CallR (X.suite a ((a, oe) :: pn)) (.builtin "isinstance") (rIsED X.K a cls d) := by
  intro pins s σ H xs us Q I r h
  obtain ⟨D, rfl, rfl, C, q⟩ := h
  exact call_isE C hz hf pins s σ H xs us Q I r q
/-- text * 0 or 1 -/
def rMulS : R2 := fun x y H Q => ∃ (a : Str) (b : Bool), x = .str a ∧ y = .int (if b then 1 else 0) ∧ Q (.str (if b then a else Str.empty)) H
theorem op_mulS : OpR X (binaryOp .Mult) rMulS := by
  intro pins s σ H x y v u Q I rx ry h
  obtain ⟨a, b, rfl, rfl, q⟩ := h
  obtain ⟨t, rfl⟩ := rx
  obtain ⟨t', rfl⟩ := ry
  cases b with
  | true =>
    refine SB.mul ⟨by decide, fun _ z => absurd z (by simp), fun _ z => absurd z (by simp)⟩ fun t' k => ?_
    refine ⟨.str a, H, I.tok _, ⟨t', ?_⟩, q⟩
    unfold Txt.mul
    rfl
  | false =>
    refine SB.mul ⟨by decide, fun z => absurd (show (0:Int) < 1 by decide) z, fun z => absurd (show (0:Int) < 1 by decide) z⟩ fun t' k => ?_
    refine ⟨.str Str.empty, H, I.tok _, ⟨t', ?_⟩, q⟩
    unfold Txt.mul
    rfl
end
/-! ### try: the body's and the suite's terms are given where the reading stands -/
section
variable {X : Cx} {x n : Str} {c : Value} {i : Nat} {body suite : List Stmt} {b0 : Stmt} {np pos pos' : Pos} {Wout : WX}
def tsD (X : Cx) (b0 : Stmt) (suite : List Stmt) (a : Addr) (cls : Value) (d : Option Addr) : TS := fun D σ H =>
  ∀ (oe : Obj) (pn : List (Addr × Obj)), Zc cls d oe → (∃ vs, oe.data = .fields vs) → ∃ t, PSs (X.suite a ((a, oe) :: pn)) (b0 :: suite) t ∧ t D σ H
def tbD (X : Cx) (body : List Stmt) (W : WX) : TS := fun D σ H =>
  ∀ (pn : List (Addr × Obj)) (xe : Value → Shared → Prop), Takes (X.tr pn xe) W → PassesOwn (model X.prog X.w) X.A X.env xe → ∃ t, PSs (X.tr pn xe) body t ∧ t D σ H
theorem ps_tryD (hs : X.stack = X.env :: X.outer) (hf : X.env.frame = some X.env.locals) (hN : X.N.Nodup) (hi : X.N[i]? = some n) (hln : X.env.kindOf n = some .local) (hc : Names X x c) (tk : Takes X Wout) :
    PS X (.Try body [.ExceptHandler (some (.Name x np)) (some n) (b0 :: suite) pos'] [] [] pos) (fun D σ H => tbD X body (wAs X.K c i (tsD X b0 suite) Wout D) D σ H) :=
  ps_try_as (tb := tbD X body) (ts := tsD X b0 suite) hs hf hN hi hln hc tk
    (fun _ pn xe tk1 po => ⟨fun pins s σ H D I h => let ⟨_, p, q⟩ := h pn xe tk1 po; p.run pins s σ H D I q⟩)
    (fun a oe cls d pn hz hv => ⟨fun pins s σ H D I h => let ⟨_, p, q⟩ := h oe pn hz hv; p.run pins s σ H D I q⟩)
end
/-! ### from a def's own promise -/
section
variable {P : Program} {w : World} {K : PySem.W.Frag} {mg : Str → Option Value} {base : Heap} {k : Nat} {f C : Addr} {fd : FuncData} {ps : List Str} {sp : Sp} {x m : Str}
theorem cal_mk (G : FnOk P w K mg base (L2.CX P w) k f fd ps sp) (hm : mg x = some (.ref f)) (kp : PySem.W.keepIn K (.ref f) = true) (b : Binds K fd ps []) : CalX P w K mg base k x sp :=
  ⟨f, fd, ps, [], [], sp, G, hm, kp, b, .nil, fun _ _ _ _ h => by rw [List.append_nil]; exact h⟩
theorem met_mk (c : Cls K C) (me : Meth K C m f) (G : FnOk P w K mg base (L2.CX P w) k f fd ps sp) (b : Binds K fd ps []) : MetX P w K mg base k C m sp :=
  ⟨f, fd, ps, [], [], sp, c, me, G, b, .nil, fun _ _ _ _ h => by rw [List.append_nil]; exact h⟩
theorem mak_mk (M : Mk K C f) (hm : mg x = some (.ref C)) (G : FnOk P w K mg base (L2.CX P w) k f fd ps sp) (b : Binds K fd ps []) : MakX P w K mg base k x C sp :=
  ⟨f, fd, ps, [], [], sp, M, hm, G, b, .nil, fun _ _ _ _ h => by rw [List.append_nil]; exact h⟩
theorem cal_false (hm : mg x = some (.ref f)) (kp : PySem.W.keepIn K (.ref f) = true) (b : Binds K fd ps []) : CalX P w K mg base 0 x (fun _ _ _ _ => False) :=
  cal_mk ⟨fun _ _ _ _ h => h.elim, fun _ _ _ _ _ _ _ _ _ _ _ _ _ h => h.elim⟩ hm kp b
theorem CalX.imp {sp' : Sp} (c : CalX P w K mg base k x sp) (h : ∀ vs H Q E, sp' vs H Q E → sp vs H Q E) : CalX P w K mg base k x sp' := by
  obtain ⟨f, fd, ps, ds, dvs, sp0, F, hm, kp, b, d, imp⟩ := c.ex
  exact ⟨f, fd, ps, ds, dvs, sp0, F, hm, kp, b, d, fun vs H Q E q => imp vs H Q E (h vs H Q E q)⟩
theorem MetX.imp {sp' : Sp} (c : MetX P w K mg base k C m sp) (h : ∀ vs H Q E, sp' vs H Q E → sp vs H Q E) : MetX P w K mg base k C m sp' := by
  obtain ⟨f, fd, ps, ds, dvs, sp0, F, hm, kp, b, d, imp⟩ := c.ex
  exact ⟨f, fd, ps, ds, dvs, sp0, F, hm, kp, b, d, fun vs H Q E q => imp vs H Q E (h vs H Q E q)⟩
/-- two promises of one def at once -/
theorem FnOk.or {sp' : Sp} (F : FnOk P w K mg base (L2.CX P w) k f fd ps sp) (G : FnOk P w K mg base (L2.CX P w) k f fd ps sp') : FnOk P w K mg base (L2.CX P w) k f fd ps (fun vs H Q E => sp vs H Q E ∨ sp' vs H Q E) :=
  ⟨fun vs H Q E h => h.elim (F.len vs H Q E) (G.len vs H Q E), fun A outer s H args us vs Q E hr he hb hv hs => hs.elim (F.run A outer s H args us vs Q E hr he hb hv) (G.run A outer s H args us vs Q E hr he hb hv)⟩
end
end Ew

set_option Elab.async false
set_option linter.all false
set_option maxRecDepth 100000
set_option maxHeartbeats 4000000
/-! Dicts whose keys are nested tuples, in the hand layer: the object, and d[k], k in d, k not in d, d[k] = v, d.get(k), {}, displays. -/
namespace ND
open PySem PySem.W L2
open Sem (wp)

/-! ### keys -/
mutual
inductive Ky (H : Hp) : NestedKey → V → Prop
  | non : Ky H .none .non
  | int (i : Int) : Ky H (.num i) (.int i)
  | str (x : Str) : Ky H (.text x) (.str x)
  | tup {a : Addr} {xs : List V} {ks : List NestedKey} : H a = some (.tup xs) → Kys H ks xs → Ky H (.tup ks) (.ref a)
inductive Kys (H : Hp) : List NestedKey → List V → Prop
  | nil : Kys H [] []
  | cons {k : NestedKey} {x : V} {ks : List NestedKey} {xs : List V} : Ky H k x → Kys H ks xs → Kys H (k :: ks) (x :: xs)
end
mutual
theorem Ky.keeps {H H' : Hp} (ht : ∀ b ys, H b = some (.tup ys) → H' b = some (.tup ys)) : ∀ {k : NestedKey} {v : V}, Ky H k v → Ky H' k v
  | _, _, .non => .non
  | _, _, .int i => .int i
  | _, _, .str x => .str x
  | _, _, .tup e r => .tup (ht _ _ e) (Kys.keeps ht r)
theorem Kys.keeps {H H' : Hp} (ht : ∀ b ys, H b = some (.tup ys) → H' b = some (.tup ys)) : ∀ {ks : List NestedKey} {xs : List V}, Kys H ks xs → Kys H' ks xs
  | _, _, .nil => .nil
  | _, _, .cons a r => .cons (Ky.keeps ht a) (Kys.keeps ht r)
end
mutual
theorem Ky.is {P : Program} {w : World} {H : Hp} {h : Heap} (ok : HOk P w H h) : ∀ {k : NestedKey} {v : V} {u : Value}, Ky H k v → RelV v u → NestedIs h k u
  | _, _, _, .non, r => by
    obtain rfl := (show _ = Value.none from r)
    exact .none
  | _, _, _, .int i, r => by
    obtain ⟨t, rfl⟩ := (show ∃ t, _ = Value.int i t from r)
    exact .int i t
  | _, _, _, .str x, r => by
    obtain ⟨t, rfl⟩ := (show ∃ t, _ = Value.str x t from r)
    exact .text x t
  | _, _, _, .tup (a := a) (xs := xs) e q, r => by
    obtain rfl := (show _ = Value.ref a from r)
    obtain ⟨_, its, rv, o, h1, h2, n, h3⟩ := (show ObjOk P w H h a (.tup xs) from ok a _ e)
    exact .tup h1 h2 h3 (by simpa using Kys.is ok q rv)
theorem Kys.is {P : Program} {w : World} {H : Hp} {h : Heap} (ok : HOk P w H h) : ∀ {ks : List NestedKey} {xs : List V} {us : List Value}, Kys H ks xs → Vals xs us → NestedAll h ks us
  | _, _, _, .nil, .nil => .nil
  | _, _, _, .cons a r, .cons b t => .cons (Ky.is ok a b) (Kys.is ok r t)
end
theorem Kys.ints {H : Hp} : ∀ is : List Int, Kys H (is.map .num) (is.map .int)
  | [] => .nil
  | i :: is => .cons (.int i) (Kys.ints is)
mutual
/-- a value is at most one key -/
theorem Ky.inj {H : Hp} : ∀ {k k' : NestedKey} {v : V}, Ky H k v → Ky H k' v → k = k'
  | _, _, _, .non, .non => rfl
  | _, _, _, .int i, .int _ => rfl
  | _, _, _, .str x, .str _ => rfl
  | _, _, _, .tup e q, .tup e' q' => by
    rw [e] at e'
    cases e'
    rw [Kys.inj q q']
theorem Kys.inj {H : Hp} : ∀ {ks ks' : List NestedKey} {xs : List V}, Kys H ks xs → Kys H ks' xs → ks = ks'
  | _, _, _, .nil, .nil => rfl
  | _, _, _, .cons a r, .cons a' r' => by rw [Ky.inj a a', Kys.inj r r']
end

/-! ### the object -/
abbrev RE : List (NestedKey × Addr × V) → List (NestedKey × Addr × Value) → Prop := Paired fun p q => p.1 = q.1 ∧ p.2.1 = q.2.1 ∧ RelV p.2.2 q.2.2
def nD (P : Program) (w : World) (a : Addr) (es : List (NestedKey × Addr × V)) : HO := .ext fun h =>
  es.length ≤ sizeLine ∧ (a == sysModules) = false ∧ ∃ xs, RE es xs ∧ ∃ o ds ep, h.get? a = some o ∧ o.ExactDict ∧ o.data = .dict ds ep ∧ ds.toList = xs.map (entryOfKey (nestedKind P w)) ∧ (xs.map (·.1)).Nodup
def kvOf (es : List (NestedKey × Addr × V)) : List (NestedKey × V) := es.map fun e => (e.1, e.2.2)
def Keyed (H : Hp) (es : List (NestedKey × Addr × V)) : Prop := ∀ e ∈ es, Ky H e.1 (.ref e.2.1) ∧ e.1.depth ≤ 8
/-- a dict with nested keys, readable; changeable -/
def AtR (P : Program) (w : World) (H : Hp) (a : Addr) (kvs : List (NestedKey × V)) : Prop := ∃ es, Rd H a (nD P w a es) ∧ Keyed H es ∧ kvs = kvOf es
def At (P : Program) (w : World) (H : Hp) (a : Addr) (kvs : List (NestedKey × V)) : Prop := ∃ es, H a = some (nD P w a es) ∧ Keyed H es ∧ kvs = kvOf es
section
variable {P : Program} {w : World} {H H' : Hp} {h : Heap} {a : Addr} {kvs : List (NestedKey × V)} {es : List (NestedKey × Addr × V)}
theorem At.rd (x : At P w H a kvs) : AtR P w H a kvs := let ⟨es, e, k, r⟩ := x; ⟨es, .inl e, k, r⟩
theorem At.ext (x : At P w H a kvs) : ∃ φ, H a = some (.ext φ) := let ⟨_, e, _⟩ := x; ⟨_, e⟩
theorem Keyed.keeps (x : Keyed H es) (ht : ∀ b ys, H b = some (.tup ys) → H' b = some (.tup ys)) : Keyed H' es := fun e he => ⟨(x e he).1.keeps ht, (x e he).2⟩
/-- it stays while it and the tuples stay -/
theorem At.keeps (x : At P w H a kvs) (ha : ∀ u, H a = some u → H' a = some u) (ht : ∀ b ys, H b = some (.tup ys) → H' b = some (.tup ys)) : At P w H' a kvs :=
  let ⟨es, e, k, r⟩ := x; ⟨es, ha _ e, k.keeps ht, r⟩
theorem nD_ok {xs : List (NestedKey × Addr × Value)} (hl : es.length ≤ sizeLine) (hd : (a == sysModules) = false) (r : RE es xs) (d : ∃ o ds ep, h.get? a = some o ∧ o.ExactDict ∧ o.data = .dict ds ep ∧ ds.toList = xs.map (entryOfKey (nestedKind P w)) ∧ (xs.map (·.1)).Nodup) :
    ObjOk P w H' h a (nD P w a es) :=
  ⟨⟨hl, hd, xs, r, d⟩, let ⟨o, _, _, e, _⟩ := d; ⟨o, e⟩, fun h1 h2 ⟨z1, z2, xs, r, o, ds, ep, e, q⟩ k => ⟨z1, z2, xs, r, o, ds, ep, k o e, q⟩⟩
theorem keyed_is (ok : HOk P w H h) : ∀ {es : List (NestedKey × Addr × V)} {xs : List (NestedKey × Addr × Value)}, RE es xs → Keyed H es → ∀ x ∈ xs, (nestedKind P w).is h x.1 x.2.1 := by
  intro es xs r
  induction r with
  | nil => intro _ x hx; exact nomatch hx
  | @cons p q ps qs hq t ih =>
    intro k x hx
    rcases List.mem_cons.mp hx with e | hx
    · subst e
      obtain ⟨k1, k2⟩ := k p (List.mem_cons_self ..)
      rw [← hq.1, ← hq.2.1]
      exact ⟨k1.is ok rfl, k2⟩
    · exact ih (fun e he => k e (List.mem_cons_of_mem _ he)) x hx
theorem re_kv : ∀ {es : List (NestedKey × Addr × V)} {xs : List (NestedKey × Addr × Value)}, RE es xs → KV (kvOf es) (pairsH xs)
  | _, _, .nil => .nil
  | _, _, .cons h t => .cons ⟨h.1, h.2.2⟩ (re_kv t)
theorem rd_all (ok : HOk P w H h) (x : AtR P w H a kvs) : kvs.length ≤ sizeLine ∧ (a == sysModules) = false ∧ ∃ vs, KV kvs vs ∧ h.DictKeyed (nestedKind P w) a vs := by
  obtain ⟨es, e, k, rfl⟩ := x
  obtain ⟨⟨z, y, xs, r, o, ds, ep, h1, h2, h3, h4, h5⟩, _, _⟩ := (show ObjOk P w H h a (nD P w a es) from rd_of ok e)
  exact ⟨by unfold kvOf; rw [List.length_map]; exact z, y, pairsH xs, re_kv r, xs, ⟨o, ds, ep, h1, h2, h3, h4, keyed_is ok r k, h5⟩, rfl⟩
end

/-! ### reads -/
/-- what the dict at a holds at the key y -/
def NGet (P : Program) (w : World) (H : Hp) (a : Addr) (y : V) (r : Option V) : Prop := ∃ kvs k b, AtR P w H a kvs ∧ y = .ref b ∧ Ky H k y ∧ k.depth ≤ 8 ∧ r = valV kvs k
section
variable {X : Cx} {pins : List (Addr × Obj)} {σ : L2.St} {H : Hp} {s : Shared} {a : Addr} {y v d : V} {u r : Value} {o : Option V} {A : Around} {E : Value → Shared → Prop}
theorem n_getItem {Q : Value → Shared → Prop} (hu : A.units + 9 < cLine) (I : Inv X pins σ H s) (g : NGet X.prog X.w H a y (some v)) (ry : RelV y u) (h : ∀ w' s', Inv X pins σ H s' → RelV v w' → Q w' s') :
    wpAny (model X.prog X.w) A (getItem (.ref a) u) Q E s := by
  obtain ⟨kvs, k, b, e, rfl, ky, kd, l⟩ := g
  cases (show u = Value.ref b from ry)
  obtain ⟨z, hd, vs, rel, dd⟩ := rd_all I.hok e
  obtain ⟨w', hw, rw'⟩ := RelO.some_of (v := v) (o := valueAt vs k) (by rw [l]; exact rel.val k)
  exact getItem_keyed (knd := nestedKind X.prog X.w) (by show A.units + 1 + 8 < cLine; omega) ⟨ky.is I.hok rfl, kd⟩ dd hw (h w' _ (I.tok _) rw')
theorem n_in {Q : Value → Shared → Prop} (hu : A.units + 9 < cLine) (I : Inv X pins σ H s) (g : NGet X.prog X.w H a y o) (ry : RelV y u) (h : ∀ s', Inv X pins σ H s' → Q (.bool o.isSome) s') :
    wpAny (model X.prog X.w) A (compareOp .In u (.ref a)) Q E s := by
  obtain ⟨kvs, k, b, e, rfl, ky, kd, l⟩ := g
  cases (show u = Value.ref b from ry)
  obtain ⟨z, hd, vs, rel, dd⟩ := rd_all I.hok e
  refine in_keyed (knd := nestedKind X.prog X.w) (by show A.units + 1 + 8 < cLine; omega) ⟨ky.is I.hok rfl, kd⟩ hd dd ?_
  rw [← (rel.val k).isSome_eq, ← l]
  exact h _ (I.tok _)
theorem n_notIn {Q : Value → Shared → Prop} (hu : A.units + 9 < cLine) (I : Inv X pins σ H s) (g : NGet X.prog X.w H a y o) (ry : RelV y u) (h : ∀ s', Inv X pins σ H s' → Q (.bool (!o.isSome)) s') :
    wpAny (model X.prog X.w) A (compareOp .NotIn u (.ref a)) Q E s := by
  obtain ⟨kvs, k, b, e, rfl, ky, kd, l⟩ := g
  cases (show u = Value.ref b from ry)
  obtain ⟨z, hd, vs, rel, dd⟩ := rd_all I.hok e
  refine notIn_keyed (knd := nestedKind X.prog X.w) (by show A.units + 1 + 8 < cLine; omega) ⟨ky.is I.hok rfl, kd⟩ hd dd ?_
  rw [← (rel.val k).isSome_eq, ← l]
  exact h _ (I.tok _)
theorem n_get1 {Q : Value → Shared → Prop} (hu : A.units + 9 < cLine) (I : Inv X pins σ H s) (g : NGet X.prog X.w H a y o) (ry : RelV y u) (h : ∀ w' s', Inv X pins σ H s' → RelV (o.getD .non) w' → Q w' s') :
    wpAny (model X.prog X.w) A (call (.builtin "dict.get") [.ref a, u]) Q E s := by
  obtain ⟨kvs, k, b, e, rfl, ky, kd, l⟩ := g
  cases (show u = Value.ref b from ry)
  obtain ⟨z, hd, vs, rel, dd⟩ := rd_all I.hok e
  refine get_keyed (knd := nestedKind X.prog X.w) (by show A.units + 1 + 8 < cLine; omega) ⟨ky.is I.hok rfl, kd⟩ hd dd (h _ _ (I.tok _) ?_)
  rw [l]
  exact (rel.val k).getD rfl
theorem n_get2 {Q : Value → Shared → Prop} (hu : A.units + 9 < cLine) (I : Inv X pins σ H s) (g : NGet X.prog X.w H a y o) (ry : RelV y u) (rd : RelV d r) (h : ∀ w' s', Inv X pins σ H s' → RelV (o.getD d) w' → Q w' s') :
    wpAny (model X.prog X.w) A (call (.builtin "dict.get") [.ref a, u, r]) Q E s := by
  obtain ⟨kvs, k, b, e, rfl, ky, kd, l⟩ := g
  cases (show u = Value.ref b from ry)
  obtain ⟨z, hd, vs, rel, dd⟩ := rd_all I.hok e
  refine getOr_keyed (knd := nestedKind X.prog X.w) (by show A.units + 1 + 8 < cLine; omega) ⟨ky.is I.hok rfl, kd⟩ hd dd (h _ _ (I.tok _) ?_)
  rw [l]
  exact (rel.val k).getD rd
end

/-! ### d[k] = v -/
def putE (es : List (NestedKey × Addr × V)) (k : NestedKey) (b : Addr) (v : V) : List (NestedKey × Addr × V) :=
  if (es.any fun e => decide (e.1 = k)) = true then es.map fun e => if e.1 = k then (e.1, e.2.1, v) else e else es ++ [(k, b, v)]
theorem kv_any (es : List (NestedKey × Addr × V)) (k : NestedKey) : ((kvOf es).any fun kv => decide (kv.1 = k)) = es.any fun e => decide (e.1 = k) := by
  unfold kvOf
  rw [List.any_map]
  rfl
theorem kv_put (es : List (NestedKey × Addr × V)) (k : NestedKey) (b : Addr) (v : V) : kvOf (putE es k b v) = putK (kvOf es) k v := by
  unfold putE putK
  rw [kv_any]
  by_cases c : (es.any fun e => decide (e.1 = k)) = true
  · rw [if_pos c, if_pos c]
    unfold kvOf
    rw [List.map_map, List.map_map]
    refine List.map_congr_left fun e _ => ?_
    show (fun e : NestedKey × Addr × V => (e.1, e.2.2)) (if e.1 = k then (e.1, e.2.1, v) else e) = if e.1 = k then (e.1, v) else (e.1, e.2.2)
    by_cases q : e.1 = k
    · rw [if_pos q, if_pos q]
    · rw [if_neg q, if_neg q]
  · rw [if_neg c, if_neg c]
    unfold kvOf
    rw [List.map_append]
    rfl
theorem putE_len (es : List (NestedKey × Addr × V)) (k : NestedKey) (b : Addr) (v : V) : (putE es k b v).length ≤ es.length + 1 := by
  unfold putE
  split
  · rw [List.length_map]; omega
  · rw [List.length_append]; exact Nat.le_refl _
theorem re_any {k : NestedKey} : ∀ {es : List (NestedKey × Addr × V)} {xs : List (NestedKey × Addr × Value)}, RE es xs → (es.any fun e => decide (e.1 = k)) = (atKey xs k).isSome
  | _, _, .nil => rfl
  | _, _, .cons (a := p) (b := q) (l₁ := ps) (l₂ := qs) h t => by
    have ih := re_any (k := k) t
    rw [List.any_cons, ih, h.1]
    by_cases e : q.1 = k
    · rw [decide_eq_true e, Bool.true_or]
      simp [atKey, List.find?_cons, e]
    · rw [decide_eq_false e, Bool.false_or]
      simp [atKey, List.find?_cons, e]
theorem re_repl {k : NestedKey} {v : V} {u : Value} (rv : RelV v u) : ∀ {es : List (NestedKey × Addr × V)} {xs : List (NestedKey × Addr × Value)}, RE es xs → RE (es.map fun e => if e.1 = k then (e.1, e.2.1, v) else e) (xs.map (putAt k u))
  | _, _, .nil => .nil
  | _, _, .cons (a := p) (b := q) h t => by
    rw [List.map_cons, List.map_cons]
    refine .cons ?_ (re_repl rv t)
    unfold putAt
    obtain ⟨h1, h2, h3⟩ := h
    by_cases e : p.1 = k
    · rw [if_pos e, if_pos (h1.symm.trans e)]
      exact ⟨h1, h2, rv⟩
    · rw [if_neg e, if_neg (fun z => e (h1.trans z))]
      exact ⟨h1, h2, h3⟩
theorem re_put {k : NestedKey} {b : Addr} {v : V} {u : Value} (rv : RelV v u) {es : List (NestedKey × Addr × V)} {xs : List (NestedKey × Addr × Value)} (r : RE es xs) : RE (putE es k b v) (storedH xs k b u) := by
  unfold putE storedH
  rw [re_any r]
  by_cases q : (atKey xs k).isSome = true
  · rw [if_pos q, if_pos q]
    exact re_repl rv r
  · rw [if_neg q, if_neg q]
    exact Paired.snoc r ⟨rfl, rfl, rv⟩
theorem keyed_put {H : Hp} {k : NestedKey} {b : Addr} {v : V} {es : List (NestedKey × Addr × V)} (x : Keyed H es) (ky : Ky H k (.ref b)) (kd : k.depth ≤ 8) : Keyed H (putE es k b v) := by
  unfold putE
  split
  · intro e he
    obtain ⟨e0, h0, rfl⟩ := List.mem_map.mp he
    have := x e0 h0
    by_cases q : e0.1 = k
    · rw [if_pos q]; exact this
    · rw [if_neg q]; exact this
  · intro e he
    rcases List.mem_append.mp he with h | h
    · exact x e h
    · rw [List.mem_singleton.mp h]
      exact ⟨ky, kd⟩
/-- the heap behind a[y] = v: any that holds the changed dict at a, and else what was -/
def NPut (P : Program) (w : World) (H : Hp) (a : Addr) (y v : V) (Q : Hp → Prop) : Prop :=
  ∃ kvs k b, At P w H a kvs ∧ y = .ref b ∧ Ky H k y ∧ k.depth ≤ 8 ∧ kvs.length < sizeLine ∧ ∀ φ, At P w (upd H a (.ext φ)) a (putK kvs k v) → Q (upd H a (.ext φ))
theorem upd_tup {H : Hp} {a : Addr} {u : HO} {φ : Heap → Prop} (e : H a = some (.ext φ)) : ∀ b ys, H b = some (.tup ys) → upd H a u b = some (.tup ys) := fun b ys eb => by
  rw [upd_ne (ne_of eb e (fun z => nomatch z))]
  exact eb
section
variable {X : Cx} {pins : List (Addr × Obj)} {σ : L2.St} {H : Hp} {s : Shared} {a : Addr} {y v d : V} {u r : Value} {A : Around} {E : Value → Shared → Prop}
theorem n_setItem {Qh : Hp → Prop} {Q : Unit → Shared → Prop} (hu : A.units + 9 < cLine) (I : Inv X pins σ H s) (g : NPut X.prog X.w H a y v Qh) (ry : RelV y u) (rv : RelV v r) (h : ∀ H' s', Inv X pins σ H' s' → Qh H' → Q () s') :
    wpAny (model X.prog X.w) A (setItem (.ref a) u r) Q E s := by
  obtain ⟨kvs, k, b, ⟨es, e, ke, rfl⟩, rfl, ky, kd, hl, q⟩ := g
  cases (show u = Value.ref b from ry)
  obtain ⟨⟨z, hd, xs, re, o, ds, ep, h1, h2, h3, h4, h5⟩, _, _⟩ := (show ObjOk X.prog X.w H s.heap a (nD X.prog X.w a es) from I.hok a _ e)
  have dd : s.heap.DictOfH (nestedKind X.prog X.w) a xs := ⟨o, ds, ep, h1, h2, h3, h4, keyed_is I.hok re ke, h5⟩
  have hel : (kvOf es).length = es.length := List.length_map ..
  have hz : xs.length ≤ sizeLine := by rw [← Paired.length re]; exact z
  refine wpAny_setItem_heap (knd := nestedKind X.prog X.w) (hsz := hz) (by show A.units + 1 + 8 < cLine; omega) ⟨ky.is I.hok rfl, kd⟩ dd fun h' dd' hs => ?_
  obtain ⟨o', ds', ep', g1, g2, g3, g4, _, g5⟩ := dd'
  have hzl : (putE es k b v).length ≤ sizeLine := by
    have := putE_len es k b v
    omega
  refine h _ _ (d_write (ob := nD X.prog X.w a (putE es k b v)) I (by rw [e]; exact True.intro) hs ⟨o', g1⟩ (nD_ok hzl hd (re_put rv re) ⟨o', ds', ep', g1, g2, g3, g4, g5⟩)) (q _ ⟨putE es k b v, upd_same, ?_, (kv_put es k b v).symm⟩)
  exact (keyed_put ke ky kd).keeps (upd_tup e)
end

/-! ### readings -/
section
variable (P : Program) (w : World)
def tNGet (td ty : TE) : TE := fun σ H Q => td σ H fun x H1 => ty σ H1 fun y H2 => ∃ a v, x = .ref a ∧ NGet P w H2 a y (some v) ∧ Q v H2
def tNIn (ty td : TE) : TE := fun σ H Q => ty σ H fun y H1 => td σ H1 fun x H2 => ∃ a o, x = .ref a ∧ NGet P w H2 a y o ∧ Q (.bl o.isSome) H2
def tNNotIn (ty td : TE) : TE := fun σ H Q => ty σ H fun y H1 => td σ H1 fun x H2 => ∃ a o, x = .ref a ∧ NGet P w H2 a y o ∧ Q (.bl (!o.isSome)) H2
def sNPut (td ty tv : TE) : TS := fun D σ H => tv σ H fun v H1 => td σ H1 fun x H2 => ty σ H2 fun y H3 => ∃ a, x = .ref a ∧ NPut P w H3 a y v (D.nx σ)
def tNGet1 (td ty : TE) : TE := fun σ H Q => td σ H fun x H1 => ∃ a kvs, x = .ref a ∧ AtR P w H1 a kvs ∧ ty σ H1 fun y H2 => ∃ o, NGet P w H2 a y o ∧ Q (o.getD .non) H2
def tNGet2 (td ty tx : TE) : TE := fun σ H Q => td σ H fun x H1 => ∃ a kvs, x = .ref a ∧ AtR P w H1 a kvs ∧ ty σ H1 fun y H2 => tx σ H2 fun z H3 => ∃ o, NGet P w H3 a y o ∧ Q (o.getD z) H3
def tNNew : TE := fun _ H Q => ∀ p φ, H p = none → At P w (upd H p (.ext φ)) p [] → Q (.ref p) (upd H p (.ext φ))
end
section
variable {X : Cx} {o i e f value : Expr} {pos pos' tpos apos cpos : Pos} {td ty tv tx : TE}
theorem typeIs_of {pins : List (Addr × Obj)} {σ : L2.St} {H : Hp} {s : Shared} {a : Addr} {kvs : List (NestedKey × V)} (I : Inv X pins σ H s) (g : AtR X.prog X.w H a kvs) : s.TypeIs (.ref a) "dict" := by
  obtain ⟨_, _, vs, _, dd⟩ := rd_all I.hok g
  exact dd.typeIs
theorem noDict_of {pins : List (Addr × Obj)} {σ : L2.St} {H : Hp} {s : Shared} {a : Addr} {kvs : List (NestedKey × V)} (I : Inv X pins σ H s) (g : AtR X.prog X.w H a kvs) :
    ∀ b, Value.ref a = .ref b → ∃ ob, s.heap.get? b = some ob ∧ ob.dict = none := fun b q => by
  cases q
  obtain ⟨_, _, vs, _, xs, ⟨ob, _, _, h1, h2, _⟩, _⟩ := rd_all I.hok g
  exact ⟨ob, h1, h2.2.1⟩
theorem pe_nget (hu : X.A.units + 9 < cLine) (ho : PE X o td) (hi : PE X i ty) (hs : NoSl i) : PE X (.Subscript o i pos) (tNGet X.prog X.w td ty) := by
  refine ⟨fun pins s σ H Q I h => ?_⟩
  refine subD_of PySem.F.slot_dict_getitem.lookup hs (thn (ho.run pins s σ H _ I h) fun u s1 ⟨x, H1, I1, rx, q1⟩ => thn (hi.run pins s1 σ H1 _ I1 q1) fun iv s2 ⟨y, H2, I2, ry, a, v, ex, g, q2⟩ => ?_)
  subst ex
  obtain rfl : u = Value.ref a := rx
  refine ⟨?_, n_getItem hu I2 g ry fun w' s3 I3 rw' => ⟨v, H2, I3, rw', q2⟩⟩
  obtain ⟨kvs, k, b, e, _⟩ := g
  exact typeIs_of I2 e
theorem pc_nin (hu : X.A.units + 9 < cLine) (hi : PE X i ty) (ho : PE X o td) : PC X .In i o (tNIn X.prog X.w ty td) := by
  refine ⟨fun pins s σ H Q I h => ?_⟩
  refine thn (hi.run pins s σ H _ I h) fun iv s1 ⟨y, H1, I1, ry, q1⟩ => thn (ho.run pins s1 σ H1 _ I1 q1) fun u s2 ⟨x, H2, I2, rx, a, ov, ex, g, q2⟩ => ?_
  subst ex
  obtain rfl : u = Value.ref a := rx
  exact n_in hu I2 g ry fun s3 I3 => ⟨.bl ov.isSome, H2, I3, rfl, q2⟩
theorem pc_nnotin (hu : X.A.units + 9 < cLine) (hi : PE X i ty) (ho : PE X o td) : PC X .NotIn i o (tNNotIn X.prog X.w ty td) := by
  refine ⟨fun pins s σ H Q I h => ?_⟩
  refine thn (hi.run pins s σ H _ I h) fun iv s1 ⟨y, H1, I1, ry, q1⟩ => thn (ho.run pins s1 σ H1 _ I1 q1) fun u s2 ⟨x, H2, I2, rx, a, ov, ex, g, q2⟩ => ?_
  subst ex
  obtain rfl : u = Value.ref a := rx
  exact n_notIn hu I2 g ry fun s3 I3 => ⟨.bl (!ov.isSome), H2, I3, rfl, q2⟩
theorem ps_nput (hu : X.A.units + 9 < cLine) (ho : PE X o td) (hi : PE X i ty) (hv : PE X value tv) (hs : swapsWith value (some (.Subscript o i pos')) pos.line X.env = pure false) :
    PS X (.Assign [.Subscript o i pos'] value pos) (sNPut X.prog X.w td ty tv) := by
  refine ⟨fun pins s σ H D I h => ?_⟩
  refine wpAny_Assign_Subscript (thn (hv.run pins s σ H _ I h) fun r s1 ⟨v, H1, I1, rv, q1⟩ => thn (ho.run pins s1 σ H1 _ I1 q1) fun u s2 ⟨x, H2, I2, rx, q2⟩ => thn (hi.run pins s2 σ H2 _ I2 q2) fun iv s3 ⟨y, H3, I3, ry, a, ex, g⟩ => ?_) hs
  subst ex
  obtain rfl : u = Value.ref a := rx
  exact n_setItem hu I3 g ry rv fun H4 s4 I4 q3 => ⟨σ, H4, I4, q3⟩
theorem pe_nget1 (hu : X.A.units + 9 < cLine) (ho : PE X o td) (he : PE X e ty) (m : M1 X o "get" apos e cpos) : PE X (.Call (.Attribute o "get" apos) [e] [] cpos) (tNGet1 X.prog X.w td ty) := by
  refine ⟨fun pins s σ H Q I h => ?_⟩
  refine wpAny_Call_method m.base m.few m.line PySem.F.plainAttrs_dict PySem.F.slot_dict_get PySem.F.type_dict_get (thn (ho.run pins s σ H _ I h) fun u s1 ⟨x, H1, I1, rx, a, kvs, ex, d, q1⟩ => ?_)
  subst ex
  obtain rfl : u = Value.ref a := rx
  refine ⟨typeIs_of I1 d, noDict_of I1 d, ?_⟩
  rw [m.trees]
  refine Calls.callWith_builtin rfl (Calls.evalArgs_plain (Calls.spliced_cons (thn (he.run pins s1 σ H1 _ I1 q1) fun iv s2 ⟨y, H2, I2, ry, ov, g, q2⟩ => Calls.spliced_nil ?_)))
  exact n_get1 hu I2 g ry fun w' s3 I3 rw' => ⟨_, H2, I3, rw', q2⟩
theorem pe_nget2 (hu : X.A.units + 9 < cLine) (ho : PE X o td) (he : PE X e ty) (hf : PE X f tx) (m : M2 X o "get" apos e f cpos) : PE X (.Call (.Attribute o "get" apos) [e, f] [] cpos) (tNGet2 X.prog X.w td ty tx) := by
  refine ⟨fun pins s σ H Q I h => ?_⟩
  refine wpAny_Call_method m.base m.few m.line PySem.F.plainAttrs_dict PySem.F.slot_dict_get PySem.F.type_dict_get (thn (ho.run pins s σ H _ I h) fun u s1 ⟨x, H1, I1, rx, a, kvs, ex, d, q1⟩ => ?_)
  subst ex
  obtain rfl : u = Value.ref a := rx
  refine ⟨typeIs_of I1 d, noDict_of I1 d, ?_⟩
  rw [m.trees]
  refine Calls.callWith_builtin rfl (Calls.evalArgs_plain (Calls.spliced_cons (thn (he.run pins s1 σ H1 _ I1 q1) fun iv s2 ⟨y, H2, I2, ry, q2⟩ =>
    Calls.spliced_cons (thn (hf.run pins s2 σ H2 _ I2 q2) fun fv s3 ⟨z, H3, I3, rz, ov, g, q3⟩ => Calls.spliced_nil ?_))))
  exact n_get2 hu I3 g ry rz fun w' s4 I4 rw' => ⟨_, H3, I4, rw', q3⟩
theorem n_empty {P : Program} {w : World} {H : Hp} (h : Heap) (hb : sysModules < h.objs.size) : ObjOk P w H (h.push { cls := .type "dict", data := .dict #[] }) h.objs.size (nD P w h.objs.size []) :=
  nD_ok (xs := []) (Nat.zero_le _) (beq_eq_false_iff_ne.mpr (Ne.symm (Nat.ne_of_lt hb))) .nil ⟨_, #[], 0, Heap.get?_push_size _ rfl, ⟨rfl, rfl, rfl⟩, rfl, rfl, List.nodup_nil⟩
theorem pe_nnew : PE X (.Dict [] [] pos) (tNNew X.prog X.w) := ⟨fun pins s σ H Q I h =>
  wpAny_Dict_empty ⟨.ref s.heap.objs.size, _, I.laid (a := s.heap.objs.size) (o := nD X.prog X.w s.heap.objs.size []) (t' := s.toks) (fun _ _ q => Heap.get?_push_of_some _ q) (Nat.le_refl _) (n_empty s.heap I.big), rfl,
    h _ _ (I.hok.fresh (Nat.le_refl _)) ⟨[], upd_same, (fun _ h => nomatch h), rfl⟩⟩⟩
end

/-! ### displays -/
inductive CK (H : Hp) : List (V × V) → List (NestedKey × Addr × V) → Prop
  | nil : CK H [] []
  | cons {k : NestedKey} {b : Addr} {v : V} {ps : List (V × V)} {es : List (NestedKey × Addr × V)} : Ky H k (.ref b) → k.depth ≤ 8 → CK H ps es → CK H ((.ref b, v) :: ps) ((k, b, v) :: es)
def mergeE (acc more : List (NestedKey × Addr × V)) : List (NestedKey × Addr × V) := more.foldl (fun acc e => putE acc e.1 e.2.1 e.2.2) acc
theorem mergeE_len : ∀ (more acc : List (NestedKey × Addr × V)), (mergeE acc more).length ≤ acc.length + more.length
  | [], acc => Nat.le_refl _
  | p :: r, acc => by
    have h1 := mergeE_len r (putE acc p.1 p.2.1 p.2.2)
    have h2 := putE_len acc p.1 p.2.1 p.2.2
    show (mergeE (putE acc p.1 p.2.1 p.2.2) r).length ≤ _
    rw [List.length_cons]; omega
theorem ck_carries {P : Program} {w : World} {H : Hp} {h : Heap} (ok : HOk P w H h) {ps : List (V × V)} {es : List (NestedKey × Addr × V)} (c : CK H ps es) :
    ∀ {ws : List (Value × Value)}, VV ps ws → ∃ xs, CarriesH (nestedKind P w) h ws xs ∧ RE es xs := by
  induction c with
  | nil => intro ws r; cases r; exact ⟨[], True.intro, .nil⟩
  | @cons k b v ps es ky kd c ih =>
    intro ws r
    cases r with
    | @cons _ q _ qs h1 t =>
      obtain ⟨xs, c', r'⟩ := ih t
      obtain ⟨q1, q2⟩ := q
      obtain rfl : q1 = Value.ref b := h1.1
      exact ⟨(k, b, q2) :: xs, ⟨rfl, rfl, ⟨ky.is ok rfl, kd⟩, c'⟩, .cons ⟨rfl, rfl, h1.2⟩ r'⟩
theorem re_merge {es : List (NestedKey × Addr × V)} {xs : List (NestedKey × Addr × Value)} (r : RE es xs) : ∀ {acc : List (NestedKey × Addr × V)} {acc' : List (NestedKey × Addr × Value)}, RE acc acc' → RE (mergeE acc es) (storedAllH acc' xs) := by
  induction r with
  | nil => intro _ _ r; exact r
  | @cons p q ps qs h t ih =>
    intro acc acc' r
    obtain ⟨h1, h2, h3⟩ := h
    have := ih (re_put (k := p.1) (b := p.2.1) h3 r)
    rw [show mergeE acc (p :: ps) = mergeE (putE acc p.1 p.2.1 p.2.2) ps from rfl, show storedAllH acc' (q :: qs) = storedAllH (storedH acc' q.1 q.2.1 q.2.2) qs from rfl, ← h1, ← h2]
    exact this
theorem keyed_merge {H : Hp} : ∀ {es acc : List (NestedKey × Addr × V)}, Keyed H es → Keyed H acc → Keyed H (mergeE acc es)
  | [], _, _, r => r
  | (k, b, v) :: es, acc, q, r => by
    have h1 := q (k, b, v) (List.mem_cons_self ..)
    exact keyed_merge (es := es) (fun e he => q e (List.mem_cons_of_mem _ he)) (keyed_put r h1.1 h1.2)
theorem CK.keyed {H : Hp} {ps : List (V × V)} {es : List (NestedKey × Addr × V)} (c : CK H ps es) : Keyed H es := by
  induction c with
  | nil => exact fun _ h => nomatch h
  | cons ky kd _ ih =>
    intro e he
    rcases List.mem_cons.mp he with h | h
    · rw [h]; exact ⟨ky, kd⟩
    · exact ih e h
theorem kv_merge : ∀ (es acc : List (NestedKey × Addr × V)), kvOf (mergeE acc es) = es.foldl (fun acc e => putK acc e.1 e.2.2) (kvOf acc)
  | [], _ => rfl
  | (k, b, v) :: es, acc => by
    show kvOf (mergeE (putE acc k b v) es) = List.foldl (fun acc (e : NestedKey × Addr × V) => putK acc e.1 e.2.2) (putK (kvOf acc) k v) es
    rw [kv_merge es, kv_put]
def tNDisp (P : Program) (w : World) (trs : List (TE × TE)) : TE := fun σ H Q => ∀ p φ, H p = none → At P w (upd H p (.ext φ)) p [] → tPairs trs σ (upd H p (.ext φ)) fun ps H2 => H2 p = some (.ext φ) ∧ ∃ es, CK H2 ps es ∧ es.length ≤ 15 ∧
  ∀ φ', At P w (upd H2 p (.ext φ')) p (kvOf (mergeE [] es)) → Q (.ref p) (upd H2 p (.ext φ'))
theorem pe_ndisp {X : Cx} {pos : Pos} {keys : List (Option Expr)} {values : List Expr} {trs : List (TE × TE)} (hu : X.A.units + 9 < cLine) (h : PPs X pos keys values trs) (hall : keys.all (·.isSome) = true) (hl : keys.length = values.length) (h0 : keys ≠ [])
    (h15 : keys.length ≤ 15) : PE X (.Dict keys values pos) (tNDisp X.prog X.w trs) := by
  refine ⟨fun pins s σ H Q I q => ?_⟩
  have hn := I.hok.fresh (Nat.le_refl s.heap.objs.size)
  have I1 := I.laid (a := s.heap.objs.size) (o := nD X.prog X.w s.heap.objs.size []) (h' := s.heap.push { cls := .type "dict", data := .dict #[] }) (t' := s.toks) (fun _ _ q => Heap.get?_push_of_some _ q) (Nat.le_refl _) (n_empty s.heap I.big)
  have hlen := pairTrees_length keys values X.env pos hall hl
  have hne : pairTrees keys values X.env pos ≠ [] := fun e => by
    rw [e] at hlen
    exact h0 (List.length_eq_zero_iff.mp hlen.symm)
  rw [arm_eval_Dict, zip_pairTrees keys values X.env pos hall hl, dictDisplay_pairs _ hne (by omega)]
  refine wpAny_bind (wpAny_standAt (wpAny_bind (wpAny_subDictH (knd := nestedKind X.prog X.w) (by show X.A.units + 8 < cLine; omega) (by rw [hlen]; exact h15) ?_)))
  refine thn (h.run pins _ σ _ _ I1 (q _ _ hn ⟨[], upd_same, (fun _ h => nomatch h), rfl⟩)) fun ws s2 ⟨ps, H2, I2, rel, e, es, ck, lk, q2⟩ => ?_
  obtain ⟨xs, c, rk⟩ := ck_carries (P := X.prog) (w := X.w) I2.hok ck rel
  obtain ⟨⟨z, hd, xs0, re0, o, ds, ep, h1, h2, h3, h4, h5⟩, _, _⟩ := (show ObjOk X.prog X.w H2 s2.heap s.heap.objs.size (nD X.prog X.w s.heap.objs.size []) from I2.hok _ _ e)
  cases re0
  refine ⟨xs, c, ⟨o, ds, ep, h1, h2, h3, h4, (fun _ h => nomatch h), h5⟩, fun h' tk dd' hs => wpAny_pure ⟨.ref s.heap.objs.size, _, ?_, rfl, q2 _ ⟨mergeE [] es, upd_same, (keyed_merge (acc := []) ck.keyed (fun _ h => nomatch h)).keeps (upd_tup e), rfl⟩⟩⟩
  obtain ⟨o', ds', ep', g1, g2, g3, g4, _, g5⟩ := dd'
  have hz : (mergeE [] es).length ≤ sizeLine := by
    have h1 := mergeE_len es []
    rw [List.length_nil] at h1
    rw [sizeLine_eq]; omega
  exact d_write (ob := nD X.prog X.w s.heap.objs.size (mergeE [] es)) I2 (by rw [e]; exact True.intro) hs ⟨o', g1⟩ (nD_ok hz hd (re_merge rk .nil) ⟨o', ds', ep', g1, g2, g3, g4, g5⟩)
end ND

set_option Elab.async false
set_option linter.all false
set_option maxRecDepth 100000
set_option maxHeartbeats 4000000
/-! ==, !=, in, not in, list.index of nested tuples. -/
namespace ND
open PySem PySem.W L2
open Sem (wp)

theorem Kys.depth_le {H : Hp} : ∀ {ks : List NestedKey} {d : Nat}, NestedKey.depthAll ks ≤ d → ∀ k ∈ ks, k.depth ≤ d
  | [], _, _, _, h => nomatch h
  | k :: ks, d, hd, x, hx => by
    rw [NestedKey.depthAll] at hd
    rcases List.mem_cons.mp hx with rfl | h
    · omega
    · exact Kys.depth_le (H := H) (by omega) x h
section
variable {X : Cx}
/-- two tuples that are keys are compared -/
def rEqK : R2 := fun x y H Q => ∃ ks ks', Ky H (.tup ks) x ∧ Ky H (.tup ks') y ∧ NestedKey.depthAll ks ≤ 7 ∧ Q (.bl (decide (ks = ks'))) H
theorem decide_tup (ks ks' : List NestedKey) : decide (ks = ks') = NestedKey.beqAll ks ks' := by
  rw [← (show NestedKey.beq (.tup ks) (.tup ks') = NestedKey.beqAll ks ks' from rfl), ← NestedKey.decide_eq]
  by_cases e : ks = ks'
  · rw [e]; simp
  · rw [decide_eq_false e, decide_eq_false fun z => e (by injection z)]
theorem op_eqK (hu : X.A.units + 9 < cLine) : OpR X (compareOp .Eq) rEqK := by
  intro pins s σ H x y v u Q I rx ry h
  obtain ⟨ks, ks', a, b, hd, q⟩ := h
  have ha := a.is I.hok rx
  have hb := b.is I.hok ry
  cases ha with
  | @tup l o vs n _ h1 h2 h3 h4 =>
    cases hb with
    | @tup l' o' vs' n' _ k1 k2 k3 k4 =>
      have hl : s.heap.IsTuple l vs := ⟨_, h1, h2, _, h3⟩
      have hl' : s.heap.IsTuple l' vs' := ⟨_, k1, k2, _, k3⟩
      have n1 : vs.size = ks.length := by simpa using NestedAll.length _ _ h4
      have n2 : vs'.size = ks'.length := by simpa using NestedAll.length _ _ k4
      refine SeqAt.eq_tupleAt (e := keyEqAt ks ks') hl hl' (by omega) (fun j j1 j2 => ?_) ?_
      · have := eqAt_keys ks ks' X.A.in1 s vs.toList vs'.toList h4 k4 (by show X.A.units + 1 + _ < cLine; omega) j (by simpa using j1) (by simpa using j2)
        simpa using this
      · rw [n1, n2, beqAll_eq, ← decide_tup]
        exact ⟨.bl _, H, I, rfl, q⟩
/-- the item is the key k -/
noncomputable def isK (h : Heap) (k : NestedKey) (v : Value) : Bool := @decide (NestedIs h k v) (Classical.propDecidable _)
theorem isK_of {h : Heap} {k k' : NestedKey} {v : Value} (x : NestedIs h k' v) : isK h k v = decide (k' = k) := by
  unfold isK
  by_cases e : k' = k
  · subst e
    rw [decide_eq_true rfl]
    exact @decide_eq_true _ (Classical.propDecidable _) x
  · rw [decide_eq_false e]
    exact @decide_eq_false _ (Classical.propDecidable _) fun y => e (NestedIs.inj _ _ _ x y)
theorem any_isK {h : Heap} {k : NestedKey} : ∀ {ks : List NestedKey} {vs : List Value}, NestedAll h ks vs → vs.any (isK h k) = decide (k ∈ ks)
  | _, _, .nil => rfl
  | _, _, .cons (k := k') a r => by
    rw [List.any_cons, isK_of a, any_isK r]
    by_cases e : k' = k
    · simp [e]
    · have e' : ¬ k = k' := fun z => e z.symm
      simp [e, e']
theorem all_eq {h : Heap} {A : Around} {s : Shared} {k : NestedKey} {u : Value} (hs : s.heap = h) (hu : A.units + 8 < cLine) (hk : NestedIs h k u) (hd : k.depth ≤ 8) : ∀ {ks : List NestedKey} {vs : List Value}, NestedAll h ks vs → ∀ v ∈ vs, SeqAt.EqAt A s v u (isK h k v)
  | _, _, .nil => fun _ hv => nomatch hv
  | _, _, .cons (k := k') (v := v0) a r => fun v hv => by
    rcases List.mem_cons.mp hv with rfl | hv
    · rw [isK_of a, NestedKey.decide_eq]
      exact eqAt_key k' k A s _ u (by rw [hs]; exact a) (by rw [hs]; exact hk) (by omega)
    · exact all_eq hs hu hk hd r v hv
def rInK (K : PySem.W.Frag) (neg : Bool) : R2 := fun x y H Q => ∃ k p ks xs, y = .ref p ∧ SqL K H p xs ∧ Ky H k x ∧ k.depth ≤ 8 ∧ Kys H ks xs ∧ Q (.bl (if neg then !decide (k ∈ ks) else decide (k ∈ ks))) H
theorem op_inK (hu : X.A.units + 9 < cLine) : OpR X (compareOp .In) (rInK X.K false) := by
  intro pins s σ H x y v u Q I rx ry h
  obtain ⟨k, p, ks, xs, rfl, hq, hk, hd, hks, q⟩ := h
  cases ry
  obtain ⟨its, r, pl, hz⟩ := I.list hq
  have hv := hk.is I.hok rx
  have hi := hks.is I.hok r
  refine SeqAt.in_listAt (isK s.heap k) pl.isList (fun w hw => all_eq rfl (by show X.A.units + 1 + 8 < cLine; omega) hv hd hi w (by simpa using hw)) ⟨.bl _, H, I, rfl, ?_⟩
  rw [show its.toArray.any (isK s.heap k) = its.any (isK s.heap k) by simp, any_isK hi]
  exact q
theorem op_notInK (hu : X.A.units + 9 < cLine) : OpR X (compareOp .NotIn) (rInK X.K true) := by
  intro pins s σ H x y v u Q I rx ry h
  obtain ⟨k, p, ks, xs, rfl, hq, hk, hd, hks, q⟩ := h
  cases ry
  obtain ⟨its, r, pl, hz⟩ := I.list hq
  have hv := hk.is I.hok rx
  have hi := hks.is I.hok r
  refine SeqAt.notIn_listAt (isK s.heap k) pl.isList (fun w hw => all_eq rfl (by show X.A.units + 1 + 8 < cLine; omega) hv hd hi w (by simpa using hw)) ⟨.bl _, H, I, rfl, ?_⟩
  rw [show its.toArray.any (isK s.heap k) = its.any (isK s.heap k) by simp, any_isK hi]
  exact q
def rIndexK (K : PySem.W.Frag) : V → List V → Hp → VK → Prop := fun x ys H Q => ∃ p k y ks xs, x = .ref p ∧ ys = [y] ∧ SqL K H p xs ∧ Ky H k y ∧ k.depth ≤ 8 ∧ Kys H ks xs ∧ k ∈ ks ∧ Q (.int (ks.idxOf k : Nat)) H
theorem mt_indexK (hu : X.A.units + 9 < cLine) : MtR X "list.index" (rIndexK X.K) := by
  intro pins s σ H x xs v us Q I rx rxs h
  obtain ⟨p, k, y, ks, ys, rfl, rfl, hq, hk, hd, hks, hm, q⟩ := h
  cases rx
  cases rxs with
  | cons ry rt =>
    rename_i uy ut
    cases rt
    obtain ⟨its, r, pl, hz⟩ := I.list hq
    have hv := hk.is I.hok ry
    have hi := hks.is I.hok r
    have hl := NestedAll.length _ _ hi
    exact SeqAt.call_list_index pl.isList (SeqAt.ItemsEq.nested hi hv (by show X.A.units + 1 + k.depth < cLine; omega)) (by rw [← hl, ← r.length]; exact hz) hm ⟨.int (ks.idxOf k : Nat), H, I.tok _, ⟨_, rfl⟩, q⟩
/-- y in d, y not in d: d a dict with nested keys -/
def rInN (P : Program) (w : World) (neg : Bool) : R2 := fun y x H Q => ∃ a o, x = .ref a ∧ NGet P w H a y o ∧ Q (.bl (if neg then !o.isSome else o.isSome)) H
theorem op_inN (hu : X.A.units + 9 < cLine) : OpR X (compareOp .In) (rInN X.prog X.w false) := by
  intro pins s σ H y x u v Q I ry rx h
  obtain ⟨a, o, rfl, g, q⟩ := h
  cases rx
  exact n_in hu I g ry fun s3 I3 => ⟨.bl o.isSome, H, I3, rfl, q⟩
theorem op_notInN (hu : X.A.units + 9 < cLine) : OpR X (compareOp .NotIn) (rInN X.prog X.w true) := by
  intro pins s σ H y x u v Q I ry rx h
  obtain ⟨a, o, rfl, g, q⟩ := h
  cases rx
  exact n_notIn hu I g ry fun s3 I3 => ⟨.bl (!o.isSome), H, I3, rfl, q⟩
/-- a list or a tuple is walked -/
def iSeq (K : PySem.W.Frag) (tl : TE) : TI := fun σ H R => tl σ H fun x H1 => ∃ a xs, x = .ref a ∧ ((SqL K H1 a xs ∧ R (Itl K a) H1) ∨ (SqT K H1 a xs ∧ R (Itt K a) H1))
theorem pi_seq {tg l : Expr} {tl : TE} (hl : PE X l tl) : PI X tg l (iSeq X.K tl) := by
  refine ⟨fun pins s σ H R I h => ?_⟩
  refine thn (hl.run pins s σ H _ I h) fun v s1 ⟨x, H1, I1, r1, q1⟩ => ?_
  obtain ⟨a, xs, e, q⟩ := q1
  subst e
  cases r1
  rcases q with ⟨hq, q⟩ | ⟨hq, q⟩
  · obtain ⟨its, rv, p, hz⟩ := I1.list hq
    refine wpAny_pyIter_list p.isList ?_
    refine ⟨s1.heap.objs.size, [s1.heap.objs.size], _, _, H1, rfl, I1.kept (t' := s1.toks) fun b o e => Heap.get?_push_of_some _ e, turn_list a _, ⟨_, Heap.get?_push_size _ rfl, rfl, rfl⟩, fun b hb => ?_, q⟩
    have e : b = s1.heap.objs.size := by simpa using hb
    subst e
    exact I1.fpOk (Nat.le_refl _) (I1.hok.fresh (Nat.le_refl _))
  · obtain ⟨its, rv, p, hz⟩ := I1.tuple hq
    refine wpAny_pyIter_tuple (show s1.heap.IsTuple a its.toArray from p) ?_
    refine ⟨s1.heap.objs.size, [s1.heap.objs.size], _, _, H1, rfl, I1.kept (t' := s1.toks) fun b o e => Heap.get?_push_of_some _ e, turn_tuple a _, ⟨_, Heap.get?_push_size _ rfl, rfl, rfl⟩, fun b hb => ?_, q⟩
    have e : b = s1.heap.objs.size := by simpa using hb
    subst e
    exact I1.fpOk (Nat.le_refl _) (I1.hok.fresh (Nat.le_refl _))
theorem hu9 {A : Around} {k : Nat} (hr : Room k A) : A.units + 9 < cLine := by have := hr.un; omega
end
end ND

set_option Elab.async false
set_option linter.all false
set_option maxRecDepth 100000
set_option maxHeartbeats 4000000
/-! sorted(xs), xs a list of nested data: tuples of any lengths (empty ones too), or no tuples; < of nested data. -/
namespace SDx
open PySem PySem.W PySem.Calls PyProof.Rows SeqAt
section
variable {prog : Program} {w : World} {A : Around} {s : Shared}
/-- a tuple's own __lt__, as a sort calls it -/
theorem call_tup_lt {E Q : Value → Shared → Prop} {l b : Addr} {xs ys : Array Value} {e r : Nat → Bool} (hl : s.heap.IsTuple l xs) (hb : s.heap.IsTuple b ys)
    (he : ∀ j (h1 : j < xs.size) (h2 : j < ys.size), EqAt A.in1 s xs[j] ys[j] (e j)) (hr : ∀ j (h1 : j < xs.size) (h2 : j < ys.size), e j = false → RcLt A.in1 s xs[j] ys[j] (r j))
    (h : Q (.bool (firstLt e r (decide (xs.size < ys.size)) (List.range (min xs.size ys.size)))) s) : wpAny (model prog w) A (call (.builtin "tuple.__lt__") [.ref l, .ref b]) Q E s := by
  obtain ⟨⟨c1, d1, x1, s1⟩, o1, q1, n1, r1⟩ := id hl
  obtain ⟨⟨c2, d2, x2, s2⟩, o2, q2, n2, r2⟩ := id hb
  simp only at q1 r1 q2 r2
  subst q1 r1 q2 r2
  exact call_meets F.slot_tuple_lt ⟨_, o1, rfl⟩ F.entry_tuple_lt (F.args_tuple_lt_2 _ _) (tuple_ltAt l b xs ys n1 n2 d1 d2 s1 s2 e r) ⟨o1, o2, he, hr, h⟩
theorem oneLt_any {E : Value → Shared → Prop} {f : Bool} {da db : PyData} {a b : Value} {as bs : List Addr} {Q : Bool → Shared → Prop} (ra : Reads s.heap a da as) (rb : Reads s.heap b db bs) (h : alike da db = true) (hn : da ≠ .none) (hu : A.units + min da.depth db.depth < cLine)
    (hq : Q (dataLt da db) s) : wpAny (model prog w) A (oneLt' f a b) Q E s := by
  cases f with
  | false => exact oneLt_alike (fun z => nomatch z) ra rb h hn hu hq
  | true =>
    cases da with
    | tuple xs =>
      cases db with
      | tuple ys =>
        have hal : alikeAll xs ys = true := by simpa [alike] using h
        cases ra with
        | @tuple l o vs n _ as₁ h1 h2 h3 h4 =>
          cases rb with
          | @tuple l' o' vs' n' _ bs₁ k1 k2 k3 k4 =>
            have n1 : vs.size = xs.length := by simpa using SeqAt.ReadsAll.length _ _ _ h4
            have n2 : vs'.size = ys.length := by simpa using SeqAt.ReadsAll.length _ _ _ k4
            rw [dataLt_tuple, ← firstLt_toks xs ys hal, ← n1, ← n2] at hq
            rw [oneLt'_eq]
            simp only [if_true]
            refine wpAny_bind (wpAny_cRoomFor (SeqAt.room_here hu) ?_)
            refine wpAny_bind (wpAny_callSpecialIfBound?_slot (T := "tuple") ⟨_, h1, h2⟩ F.slot_tuple_lt (call_tup_lt (e := pairEq xs ys) (r := fun j => dataLt (xs.getD j .none) (ys.getD j .none)) ⟨_, h1, h2, _, h3⟩ ⟨_, k1, k2, _, k3⟩ (fun j j1 j2 => ?_) (fun j j1 j2 hj => ?_) (wpAny_truthy_bool hq)))
            · have := eqAt_alikeAll xs ys A.in1 s vs.toList vs'.toList _ _ h4 k4 hal (SeqAt.room_in hu) j (by simpa using j1) (by simpa using j2)
              simpa using this
            · have := rcLt_alikeAll xs ys A.in1 s vs.toList vs'.toList _ _ h4 k4 hal (SeqAt.room_in hu) j (by simpa using j1) (by simpa using j2) hj
              simpa using this
      | _ => exact absurd h (by simp [alike])
    | _ => exact oneLt_alike (fun _ xs z => by cases z) ra rb h hn hu hq
/-- the first items of tuples of which some are empty -/
theorem firsts_any : ∀ {vs : List Value} {ds : List PyData}, EachIs (fun v d => ∃ as, Reads s.heap v d as) vs ds → (∀ d ∈ ds, ∃ t, d = .tuple t) →
    ∃ fs : List (Option Value), (fs.all (·.isSome) = true → ∀ d ∈ ds, ∃ x r, d = .tuple (x :: r)) ∧ ∀ {E : Value → Shared → Prop} {Q : List (Option Value) → Shared → Prop}, Q fs s → wpAny (model prog w) A (vs.mapM firstOfTuple') Q E s
  | _, _, .nil, _ => ⟨[], fun _ d h => (nomatch h), fun {E Q} h => by rw [List.mapM_nil]; exact wpAny_pure h⟩
  | _, _, .cons (a := v) (b := d) (as := vs) (bs := ds) ⟨as, r⟩ q, ht => by
    obtain ⟨fs, h1, h2⟩ := firsts_any q fun d hd => ht d (List.mem_cons_of_mem _ hd)
    obtain ⟨t, rfl⟩ := ht d (List.mem_cons_self ..)
    cases r with
    | @tuple a o xs n _ _ ho hc hd hr =>
      refine ⟨xs[0]? :: fs, fun al e he => ?_, fun {E Q} h => ?_⟩
      · rw [List.all_cons, Bool.and_eq_true] at al
        rcases List.mem_cons.mp he with rfl | he
        · cases e1 : xs.toList with
          | nil =>
            have : xs[0]? = none := by rw [← Array.getElem?_toList, e1]; rfl
            rw [this] at al
            exact absurd al.1 (by decide)
          | cons f fr =>
            rw [e1] at hr
            cases hr with
            | cons r1 r2 => exact ⟨_, _, rfl⟩
        · exact h1 al.2 e he
      · rw [List.mapM_cons]
        refine wpAny_bind ?_
        rw [kas_first_eq]
        refine wpAny_bind (Looks.here (show Looks _ s.heap (typeOf (.ref a)) o.cls from (Looks.ld ho).andThen .now) ?_)
        rw [hc, if_neg (by decide)]
        refine wpAny_bind (listItems_at ho hd (wpAny_pure ?_))
        exact wpAny_bind (h2 (Q := fun bs s' => wpAny _ A (pure (xs[0]? :: bs)) Q E s') (wpAny_pure h))
/-- tuples of any lengths can be sorted -/
theorem sorts_tuples {vs : List Value} {ds : List PyData} (e : EachIs (fun v d => ∃ as, Reads s.heap v d as) vs ds) (hal : AllAlike ds) (ht : ∀ d ∈ ds, ∃ t, d = .tuple t) (hu : ∀ d, d ∈ ds → A.units + d.depth < cLine) : SortsAt prog w A s (dataKind s.heap ds) vs := by
  by_cases ne : ∀ d ∈ ds, ∃ x r, d = .tuple (x :: r)
  · exact SortsAt.data e hal (.inl ne) hu
  · have room : ∀ {d d' : PyData}, d ∈ ds → A.units + min d.depth d'.depth < cLine := fun {d d'} hd => Nat.lt_of_le_of_lt (Nat.add_le_add_left (Nat.min_le_left _ _) _) (hu d hd)
    have nn : ∀ {d}, d ∈ ds → d ≠ .none := fun hd z => by
      obtain ⟨t, e⟩ := ht _ hd
      rw [e] at z
      cases z
    refine ⟨fun v hv => ?_, ?_⟩
    · obtain ⟨d, hd, as, r⟩ := e.left v hv
      exact ⟨_, dataKind_some hal hd r⟩
    · have lt1 : H.LtAt prog w A s (dataKind s.heap ds) oneType' := by
        intro E x y a b Q ha hb hq
        obtain ⟨d, as, hd, ra, rfl⟩ := dataKind_inv ha
        obtain ⟨d', as', hd', rb, rfl⟩ := dataKind_inv hb
        rw [keyLt'_oneType]
        exact oneLt_any ra rb (hal d hd d' hd') (nn hd) (room hd) hq
      have lt2 : H.LtAt prog w A s (dataKind s.heap ds) general' := by
        intro E x y a b Q ha hb hq
        obtain ⟨d, as, hd, ra, rfl⟩ := dataKind_inv ha
        obtain ⟨d', as', hd', rb, rfl⟩ := dataKind_inv hb
        show wpAny _ _ (oneLt' false x y) _ _ _
        exact oneLt_any ra rb (hal d hd d' hd') (nn hd) (room hd) hq
      have one : ∀ (E : Value → Shared → Prop) {Q : Option Value → Shared → Prop}, 1 ≤ vs.length → Q (some (.type "tuple")) s → wpAny (model prog w) A (oneTypeOnly' vs.toArray) Q E s := fun E Q h1 hq => by
        rw [oneTypeOnly'_eq, List.mapM_toArray, map_eq_pure_bind]
        refine wpAny_bind (wpAny_bind (kas_mapM (r := Value.type "tuple") _ (fun v hv Q' hq' => ?_) (wpAny_pure ?_)))
        · obtain ⟨d, hd, as, r⟩ := e.left v hv
          obtain ⟨t, e⟩ := ht d hd
          subst e
          exact (looks_reads r).here hq'
        · match vs, h1 with
          | v :: rest, _ =>
            have hall : ((List.map (fun _ => Value.type "tuple") (v :: rest)).toArray.all fun x => x == Value.type "tuple") = true := by
              simp only [List.all_toArray, List.all_map, List.all_eq_true]
              intro _ _
              rfl
            have h0 : (List.map (fun _ => Value.type "tuple") (v :: rest)).toArray[0]? = some (Value.type "tuple") := by simp
            rw [h0]
            simp only [hall, if_true]
            exact wpAny_pure hq
      obtain ⟨fs, h1, h2⟩ := firsts_any (prog := prog) (w := w) (A := A) e ht
      have nall : ¬ fs.all (·.isSome) = true := fun z => ne (h1 z)
      have nall' : ¬ (fs.toArray.all fun x => x.isSome) = true := by simpa using nall
      by_cases c : (fs.toArray[0]?.bind id).isSome = true
      · refine ⟨general', lt2, fun h2' E Q hq => ?_⟩
        rw [kat_kind_eq, List.mapM_toArray, map_eq_pure_bind]
        refine wpAny_bind (wpAny_bind (h2 (wpAny_pure ?_)))
        rw [if_neg nall', if_pos c]
        exact wpAny_pure hq
      · refine ⟨oneType', lt1, fun h2' E Q hq => ?_⟩
        rw [kat_kind_eq, List.mapM_toArray, map_eq_pure_bind]
        refine wpAny_bind (wpAny_bind (h2 (wpAny_pure ?_)))
        rw [if_neg nall', if_neg c]
        refine wpAny_bind (one E (by omega) ?_)
        exact wpAny_pure hq
end
end SDx
namespace L2
open PySem PySem.Spec PyProof.Rows PySem.W
/-- data that a sort takes: alike, all tuples or none a tuple -/
def SortOk (ds : List PyData) : Prop := AllAlike ds ∧ ((∀ d ∈ ds, ∃ t, d = .tuple t) ∨ ∀ d, d ∈ ds → d ≠ .none ∧ ∀ xs, d ≠ .tuple xs)
/-- sorted(xs), xs a list of nested data: a new list of the same things in their order -/
def rSortedD (K : PySem.W.Frag) : List V → Hp → VK → Prop := fun vs H Q => ∃ (a : Addr) (zs : List (V × PyData)), vs = [V.ref a] ∧ SqL K H a (zs.map (·.1)) ∧ (∀ z ∈ zs, Dp K H z.1 z.2 ∧ z.2.depth ≤ 60) ∧ SortOk (zs.map (·.2)) ∧
  ∀ (ys : List (V × PyData)) (p : Addr), ys.Perm zs → ys.Pairwise (fun a b => dataLt b.2 a.2 = false) → H p = none → Q (.ref p) (upd H p (.lst (ys.map (·.1))))
theorem each_vals : ∀ {zs : List (V × PyData)} {us : List Value}, Vals (zs.map (·.1)) us → EachIs (fun u z => RelV z.1 u) us zs
  | [], _, r => by rw [List.map_nil] at r; cases r; exact .nil
  | z :: zs, _, r => by
    rw [List.map_cons] at r
    cases r with
    | cons h q => exact .cons h (each_vals q)
theorem vals_each : ∀ {zs : List (V × PyData)} {us : List Value}, EachIs (fun u z => RelV z.1 u) us zs → Vals (zs.map (·.1)) us
  | _, _, .nil => .nil
  | _, _, .cons h q => .cons h (vals_each q)
theorem each_and {α β : Type} {R : α → β → Prop} {S : β → Prop} {as : List α} {bs : List β} (e : EachIs R as bs) (h : ∀ b ∈ bs, S b) : EachIs (fun a b => R a b ∧ S b) as bs := by
  induction e with
  | nil => exact .nil
  | cons h1 t ih => exact .cons ⟨h1, h _ (List.mem_cons_self ..)⟩ (ih fun b hb => h b (List.mem_cons_of_mem _ hb))
section
variable {X : Cx}
theorem cr_sortedD (hu : X.A.units + 64 < cLine) : CallR X (.builtin "sorted") (rSortedD X.K) := by
  intro pins s σ H vs us Q I r h
  obtain ⟨a, zs, rfl, hs, hx, ⟨hal, hk⟩, q⟩ := h
  obtain ⟨its, rv, hl, hz⟩ := I.list hs
  rw [Vals.ref1 r]
  have e := each_vals rv
  have er : EachIs (fun v (z : V × PyData) => ∃ as, Reads s.heap v z.2 as) its zs := (each_and e hx).mono fun v z h => Dp.reads I z.2 z.1 v h.2.1 h.1
  have er' : EachIs (fun v (z : V × PyData) => ∃ as, Reads (sortingHeap (copyHeap s.heap its) (s.heap.objs.size + 1) its) v z.2 as) its zs := er.mono fun _ _ ⟨as, r⟩ => ⟨as, PyProof.Rows.Reads.keeps (fun _ _ => sorting_copy_old) r⟩
  have em := each_map (R := fun v d => ∃ as, Reads (sortingHeap (copyHeap s.heap its) (s.heap.objs.size + 1) its) v d as) (fun z : V × PyData => z.2) er'
  have hd : ∀ d, d ∈ zs.map (fun z => z.2) → X.A.in1.in1.units + d.depth < cLine := fun d h => by
    obtain ⟨z, hz, rfl⟩ := List.mem_map.mp h
    have := (hx z hz).2
    show X.A.units + 1 + 1 + _ < cLine
    omega
  have S : SortsAt X.prog X.w X.A.in1.in1 { s with heap := sortingHeap (copyHeap s.heap its) (s.heap.objs.size + 1) its } (dataKind (sortingHeap (copyHeap s.heap its) (s.heap.objs.size + 1) its) (zs.map fun z => z.2)) its := by
    rcases hk with ht | hn
    · exact SDx.sorts_tuples (s := { s with heap := sortingHeap (copyHeap s.heap its) (s.heap.objs.size + 1) its }) em hal ht hd
    · exact SortsAt.data (s := { s with heap := sortingHeap (copyHeap s.heap its) (s.heap.objs.size + 1) its }) em hal (.inr hn) hd
  refine sorted_vals hl.isList S (by rw [← rv.length]; exact hz) ?_
  have eo := sortVals_data false e er' hal
  have rvo := vals_each eo
  generalize sortVals (dataKind (sortingHeap (copyHeap s.heap its) (s.heap.objs.size + 1) its) (zs.map fun z => z.2)) false its its = out at rvo eo ⊢
  generalize hys : zs.mergeSort (dataLe false fun z => z.2) = ys at rvo eo
  have pp : ys.Perm zs := by rw [← hys]; exact List.mergeSort_perm ..
  have ps : ys.Pairwise (fun a b => dataLt b.2 a.2 = false) := by
    rw [← hys]
    refine (sort_pairwise (sortLe_total _ _ _) zs).imp fun {a b} h => ?_
    have h' : (!dataLt b.2 a.2) = true := h
    simpa using h'
  obtain ⟨n, hn⟩ := sortedAll_at s.heap its out.toArray
  refine ⟨.ref (s.heap.objs.size + 1), upd H (s.heap.objs.size + 1) (.lst (ys.map (·.1))), I.laid (t' := s.toks) (fun b o e => sortedAll_old e) (Nat.le_succ _) ⟨?_, out, n, rvo, hn⟩, rfl, q ys _ pp ps (I.hok.fresh (Nat.le_succ _))⟩
  rw [List.length_map, pp.length_eq]
  rw [List.length_map] at hz
  exact hz
/-- x < y of nested data -/
def rLtD (K : PySem.W.Frag) : R2 := fun x y H Q => ∃ d e, Dp K H x d ∧ Dp K H y e ∧ alike d e = true ∧ d ≠ .none ∧ d.depth ≤ 60 ∧ Q (.bl (dataLt d e)) H
theorem op_ltD (hu : X.A.units + 64 < cLine) : OpR X (compareOp .Lt) (rLtD X.K) := by
  intro pins s σ H x y v u Q I rx ry h
  obtain ⟨d, e, hd, he, al, nn, dp, q⟩ := h
  obtain ⟨as, r1⟩ := Dp.reads I d x v hd rx
  obtain ⟨bs, r2⟩ := Dp.reads I e y u he ry
  exact lt_data r1 r2 al nn (by have := Nat.min_le_left d.depth e.depth; omega) ⟨.bl _, H, I, rfl, q⟩
end
/-- of two alike things neither is less: they are the same -/
theorem data_tie {x y : PyData} (h : alike x y = true) (h1 : dataLt x y = false) (h2 : dataLt y x = false) : PyData.eqv x y = true := by
  rcases e : PyData.eqv x y with _ | _
  · have k := (toks_eqv x y h).2 e
    have et : keyToks x = keyToks y := lex_total (O := itemOrd) _ _ h1 h2
    have k1 := k [] [.inl 0]
    rw [List.append_nil, et] at k1
    have k2 := k [] []
    rw [et] at k2
    have l1 : PyProof.Rows.lexLt itemOrd (keyToks y) (keyToks y ++ [.inl 0]) = true := by
      have := lex_pre (keyToks y) [] [.inl 0]
      rw [List.append_nil] at this
      rw [this]
      rfl
    rw [l1, show PyProof.Rows.lexLt itemOrd (keyToks y) (keyToks y) = false from lex_irrefl _] at k1
    cases k1
  · rfl
end L2

set_option Elab.async false
set_option linter.all false
set_option maxRecDepth 100000
set_option maxHeartbeats 4000000
/-! d.items(), sorted(d), sorted(d.items()), len(d): d a dict with nested keys, or with int and text keys. -/
namespace NI
open PySem PySem.W PySem.Calls PyProof.Rows L2
open L2.DX (itemsO itemsO_ok takeT)
/-- the pairs that stand in the dict at a -/
def DictV (P : Program) (w : World) (H : Hp) (a : Addr) (ps : List (V × V)) : Prop :=
  (∃ es, Rd H a (ND.nD P w a es) ∧ ps = es.map fun e => (V.ref e.2.1, e.2.2)) ∨ ∃ kvs : List (L2.Key × V), Rd H a (.dK kvs) ∧ ps = kvs.map fun kv => (kV kv.1, kv.2)
def RawV (h : Heap) (a : Addr) (ps : List (V × V)) : Prop := ∃ es ep, h.DictRaw a es ep ∧ (a == sysModules) = false ∧ es.size = ps.length ∧ ps.length ≤ sizeLine ∧ ∀ (i : Nat) (p : V × V), ps[i]? = some p → ∃ e, es[i]? = some e ∧ RelV p.1 e.key ∧ RelV p.2 e.val
theorem re_at {es : List (NestedKey × Addr × V)} {xs : List (NestedKey × Addr × Value)} (r : ND.RE es xs) : ∀ (i : Nat) e, es[i]? = some e → ∃ x, xs[i]? = some x ∧ e.1 = x.1 ∧ e.2.1 = x.2.1 ∧ RelV e.2.2 x.2.2 := by
  induction r with
  | nil => intro i e h; simp at h
  | cons h t ih =>
    intro i e he
    rcases i with _ | i
    · cases he
      exact ⟨_, rfl, h⟩
    · exact ih i e he
theorem kv_at {κ : Type} {kvs : List (κ × V)} {vs : List (κ × Value)} (r : KV kvs vs) : ∀ (i : Nat) e, kvs[i]? = some e → ∃ x, vs[i]? = some x ∧ e.1 = x.1 ∧ RelV e.2 x.2 := by
  induction r with
  | nil => intro i e h; simp at h
  | cons h t ih =>
    intro i e he
    rcases i with _ | i
    · cases he
      exact ⟨_, rfl, h⟩
    · exact ih i e he
theorem each_of {α β : Type} {R : α → β → Prop} : ∀ {as : List α} {bs : List β}, as.length = bs.length → (∀ (i : Nat) a b, as[i]? = some a → bs[i]? = some b → R a b) → EachIs R as bs
  | [], [], _, _ => .nil
  | [], _ :: _, h, _ => by simp at h
  | _ :: _, [], h, _ => by simp at h
  | a :: as, b :: bs, h, f => .cons (f 0 a b rfl rfl) (each_of (by simpa using h) fun i a b x y => f (i + 1) a b x y)
theorem DictV.raw {P : Program} {w : World} {H : Hp} {h : Heap} {a : Addr} {ps : List (V × V)} (ok : HOk P w H h) (d : DictV P w H a ps) : RawV h a ps := by
  rcases d with ⟨es, e, rfl⟩ | ⟨kvs, e, rfl⟩
  · obtain ⟨⟨z, y, xs, r, o, ds, ep, h1, h2, h3, h4, h5⟩, _, _⟩ := (show ObjOk P w H h a (ND.nD P w a es) from rd_of ok e)
    have l := Paired.length r
    have ls : ds.size = xs.length := size_of_entries h4
    refine ⟨ds, ep, ⟨o, h1, h2, h3⟩, y, by rw [List.length_map, l, ls], by rw [List.length_map]; exact z, fun i p hp => ?_⟩
    rw [List.getElem?_map] at hp
    obtain ⟨e', he', rfl⟩ := Option.map_eq_some_iff.mp hp
    obtain ⟨x, hx, _, e2, r3⟩ := re_at r i e' he'
    refine ⟨entryOfKey (nestedKind P w) x, by rw [entry_at h4 i, hx]; rfl, ?_, r3⟩
    show Value.ref x.2.1 = Value.ref e'.2.1
    rw [e2]
  · obtain ⟨z, lo, vs, rel, dd⟩ := dk_rd ok e
    obtain ⟨es, ep, dr, sz, at_⟩ := Heap.DictOf.raw dd
    have l := Paired.length rel
    refine ⟨es, ep, dr, lo, by rw [List.length_map, sz, l], by rw [List.length_map]; exact z, fun i p hp => ?_⟩
    rw [List.getElem?_map] at hp
    obtain ⟨kv, hk, rfl⟩ := Option.map_eq_some_iff.mp hp
    have hi : i < kvs.length := (List.getElem?_eq_some_iff.mp hk).1
    have hv : i < vs.length := by omega
    have he : i < es.size := by omega
    obtain ⟨b1, b2⟩ := at_ i he vs[i].1 vs[i].2 (by rw [List.getElem?_eq_getElem hv])
    obtain ⟨x, hx, r1, r2⟩ := kv_at rel i kv hk
    rw [List.getElem?_eq_getElem hv] at hx
    cases hx
    refine ⟨es[i], Array.getElem?_eq_getElem he, ?_, by rw [b2]; exact r2⟩
    rw [← r1] at b1
    rcases keyIs_shape (show keyIs kv.1 es[i].key = true from b1) with ⟨n, t, ek, ev⟩ | ⟨z, t, ek, ev⟩
    · rw [ek, ev]; exact ⟨t, rfl⟩
    · rw [ek, ev]; exact ⟨t, rfl⟩
theorem KV_src {prog : Program} {w : World} {a : Addr} {es : Array DictEntry} {ep : Nat} (lo : (a == sysModules) = false) : KdlSrc prog w "dict" a a es.size (fun i v => ∃ hi : i < es.size, v = es[i].key) (fun h => h.DictRaw a es ep) where
  type := fun _ hm => hm.typeIs
  there := fun _ hm => let ⟨_, ho, _⟩ := hm; ⟨Heap.lt_size ho, Heap.lt_size ho⟩
  keep := fun _ _ hm hk => hm.at fun o e => hk a (.inl rfl) o e
  notList := by decide
  notTuple := by decide
  hint := fun _ _ _ _ hm hq => kdl_hint_dict hm.typeIs hq
  iter := fun _ _ hh hm => ⟨_, _, (fun _ _ hq => wpAny_pyIter_dict_raw lo hm hq), Walks.rawKeys hh _ a (let ⟨_, ho, _⟩ := hm; Nat.ne_of_lt (Heap.lt_size ho)) es ep, ⟨⟨_, Heap.get?_push_size _ rfl, rfl, rfl⟩, hm.at fun o e => Heap.get?_push_of_some _ e⟩⟩
/-! ### the sort of a list just made -/
section
variable {prog : Program} {w : World} {A : Around} {E : Value → Shared → Prop} {s : Shared}
theorem sort_here {a : Addr} {vs : List Value} {n : Nat} {Q : Value → Shared → Prop} (zs : List (V × PyData)) (ho : s.heap.get? a = some (seqObj "list" vs.toArray n)) (e : EachIs (fun v (z : V × PyData) => RelV z.1 v ∧ ∃ as, Reads (sortingHeap s.heap a vs) v z.2 as) vs zs) (hok : SortOk (zs.map (·.2)))
    (hu : ∀ z ∈ zs, A.in1.units + z.2.depth < cLine) (hL : vs.length ≤ sizeLine)
    (h : ∀ (out : List Value) (ys : List (V × PyData)), ys.Perm zs → ys.Pairwise (fun a b => dataLt b.2 a.2 = false) → Vals (ys.map (·.1)) out → EachIs (fun v (z : V × PyData) => RelV z.1 v ∧ ∃ as, Reads (sortingHeap s.heap a vs) v z.2 as) out ys → Q .none { s with heap := sortedHeap s.heap a vs out.toArray }) :
    wpAny (model prog w) A (call (.builtin "list.sort") [.ref a]) Q E s := by
  refine wpAny_call_entry slot_list_sort ⟨_, ho, rfl⟩ entry_list_sort ?_ (args_list_sort _)
  have er : EachIs (fun v (z : V × PyData) => ∃ as, Reads (sortingHeap s.heap a vs) v z.2 as) vs zs := e.mono fun _ _ h => h.2
  have em := each_map (R := fun v d => ∃ as, Reads (sortingHeap s.heap a vs) v d as) (fun z : V × PyData => z.2) er
  have hd : ∀ d, d ∈ zs.map (fun z => z.2) → A.in1.units + d.depth < cLine := fun d h => by
    obtain ⟨z, hz, rfl⟩ := List.mem_map.mp h
    exact hu z hz
  have S : SortsAt prog w A.in1 { s with heap := sortingHeap s.heap a vs } (dataKind (sortingHeap s.heap a vs) (zs.map fun z => z.2)) vs := by
    rcases hok.2 with ht | hn
    · exact SDx.sorts_tuples (s := { s with heap := sortingHeap s.heap a vs }) em hok.1 ht hd
    · exact SortsAt.data (s := { s with heap := sortingHeap s.heap a vs }) em hok.1 (.inr hn) hd
  have eo := sortVals_data false e er hok.1
  refine list_sort_vals ho S hL ⟨.none, rfl, ?_⟩
  generalize sortVals (dataKind (sortingHeap s.heap a vs) (zs.map fun z => z.2)) false vs vs = out at eo ⊢
  refine h out (zs.mergeSort (dataLe false fun z => z.2)) (List.mergeSort_perm ..) ?_ (vals_each (eo.mono fun _ _ h => h.1)) eo
  refine (sort_pairwise (sortLe_total _ _ _) zs).imp fun {a b} h => ?_
  have h' : (!dataLt b.2 a.2) = true := h
  simpa using h'
end
theorem perm_backL {α β : Type} {f : α → β} : ∀ (l : List α) {ys : List β}, ys.Perm (l.map f) → ∃ ts : List α, ts.Perm l ∧ ts.map f = ys := by
  intro l ys h
  generalize hm : l.map f = m at h
  induction h generalizing l with
  | nil => exact ⟨[], by rw [List.map_eq_nil_iff.mp hm], rfl⟩
  | @cons x l1 l2 p ih =>
    match l, hm with
    | a :: l, hm =>
      injection hm with h1 h2
      obtain ⟨ts, p', e⟩ := ih l h2
      exact ⟨a :: ts, p'.cons a, by rw [List.map_cons, h1, e]⟩
  | swap x y l1 =>
    match l, hm with
    | a :: b :: l, hm =>
      injection hm with h1 h2
      injection h2 with h2 h3
      exact ⟨b :: a :: l, List.Perm.swap a b l, by rw [List.map_cons, List.map_cons, h1, h2, h3]⟩
  | trans p1 p2 ih1 ih2 =>
    obtain ⟨ts, p', e⟩ := ih2 l hm
    obtain ⟨us, p'', e'⟩ := ih1 ts e
    exact ⟨us, p''.trans p', e'⟩
end NI
namespace L2
open PySem PySem.W PySem.Calls PyProof.Rows NI
open L2.DX (itemsO itemsO_ok takeT)
section
variable {X : Cx}
def rItemsV (P : Program) (w : World) : V → List V → Hp → VK → Prop := fun x xs H Q => ∃ a ps, x = .ref a ∧ xs = [] ∧ DictV P w H a ps ∧ ∀ p, H p = none → Q (.ref p) (upd H p (itemsO p a))
theorem mt_itemsV : MtR X "dict.items" (rItemsV X.prog X.w) := by
  intro pins s σ H x xs v us Q I rx rxs h
  obtain ⟨a, ps, rfl, rfl, ha, q⟩ := h
  cases rx
  cases rxs
  obtain ⟨es, ep, dr, lo, _⟩ := ha.raw I.hok
  refine DT.callItems (es := es) (ep := ep) lo dr ?_
  exact ⟨.ref s.heap.objs.size, upd H s.heap.objs.size (itemsO s.heap.objs.size a), I.laid (t' := s.toks) (fun b u e => Heap.get?_push_of_some _ e) (Nat.le_refl _) (itemsO_ok (Heap.get?_push_size _ rfl)), rfl, q _ (I.hok.fresh (Nat.le_refl _))⟩
/-- sorted(d): its keys -/
def rSortKeys (P : Program) (w : World) (K : PySem.W.Frag) : List V → Hp → VK → Prop := fun vs H Q => ∃ (a : Addr) (ps : List (V × V)) (zs : List (V × PyData)), vs = [V.ref a] ∧ DictV P w H a ps ∧ zs.map (·.1) = ps.map (·.1) ∧ (∀ z ∈ zs, Dp K H z.1 z.2 ∧ z.2.depth ≤ 60) ∧ SortOk (zs.map (·.2)) ∧
  ∀ (ys : List (V × PyData)) (p : Addr), ys.Perm zs → ys.Pairwise (fun a b => dataLt b.2 a.2 = false) → H p = none → Q (.ref p) (upd H p (.lst (ys.map (·.1))))
theorem cr_sortKeys (hc : X.calm = true) (hu : X.A.units + 64 < cLine) : CallR X (.builtin "sorted") (rSortKeys X.prog X.w X.K) := by
  intro pins s σ H xs us Q I r h
  obtain ⟨a, ps, zs, rfl, hd, hz, hx, hok, q⟩ := h
  obtain rfl := Vals.ref1 r
  obtain ⟨es, ep, dr, lo, sz, hl, at_⟩ := hd.raw I.hok
  have lz : zs.length = ps.length := by have := congrArg List.length hz; rw [List.length_map, List.length_map] at this; exact this
  refine Calls.call_function_entry PyProof.Rows.kind_sorted PyProof.Rows.plain_sorted PyProof.Rows.entry_sorted (PyProof.Rows.args_sorted1 _) ?_
  unfold Builtin.«sorted»
  refine wpAny_bind (m := checkCount "sorted" 1 1 _) (wpAny_pure ?_)
  refine wpAny_bind (PySem.W.kdu_collect (A := X.A.in1) (KV_src (es := es) (ep := ep) lo) (I.ok.hd hc) dr (by rw [sz]; exact hl) fun h' tk acc hk hacc => ?_)
  have hal : acc.toList.length = zs.length := by rw [Array.length_toList, hacc.1, sz, lz]
  refine wpAny_bind (wpAny_newList ?_ (by rw [hal, lz]; exact hl))
  have I1 : Inv X pins σ H { s with heap := h', toks := tk } := I.kept hk
  have hoL : (h'.push (seqObj "list" acc.toList.toArray 0)).get? h'.objs.size = some (seqObj "list" acc.toList.toArray 0) := Heap.get?_push_size _ rfl
  have keep : ∀ b o, s.heap.get? b = some o → (sortingHeap (h'.push (seqObj "list" acc.toList.toArray 0)) h'.objs.size acc.toList).get? b = some o := fun b o e =>
    sortingHeap_old (Nat.ne_of_lt (Heap.lt_size (hk b o e))) (Heap.get?_push_of_some _ (hk b o e))
  have ev : EachIs (fun v (z : V × PyData) => RelV z.1 v ∧ ∃ as, Reads (sortingHeap (h'.push (seqObj "list" acc.toList.toArray 0)) h'.objs.size acc.toList) v z.2 as) acc.toList zs := by
    refine each_of hal fun j v z hv hzj => ?_
    obtain ⟨hi, ek⟩ := hacc.2 j v (by rw [← Array.getElem?_toList]; exact hv)
    have e3 : (ps.map (·.1))[j]? = some z.1 := by rw [← hz, List.getElem?_map, hzj]; rfl
    rw [List.getElem?_map] at e3
    obtain ⟨p, hp, e4⟩ := Option.map_eq_some_iff.mp e3
    obtain ⟨e, he, r1, _⟩ := at_ j p hp
    rw [Array.getElem?_eq_getElem hi] at he
    have e5 : es[j] = e := Option.some.inj he
    have rv : RelV z.1 v := by rw [ek, e5, ← e4]; exact r1
    obtain ⟨as, rd⟩ := Dp.reads I z.2 z.1 v (hx z (List.mem_of_getElem? hzj)).1 rv
    exact ⟨rv, as, PyProof.Rows.Reads.keeps keep rd⟩
  show wpAny _ _ _ _ _ { s with heap := h'.push (seqObj "list" acc.toList.toArray 0), toks := tk }
  refine wpAny_bind (wpAny_holding (sort_here (s := { s with heap := h'.push (seqObj "list" acc.toList.toArray 0), toks := tk }) zs hoL ev hok (fun z hz' => by have := (hx z hz').2; show X.A.units + 1 + 1 + _ < cLine; omega) (by rw [hal, lz]; exact hl) fun out ys pp ps' rv _ => ?_))
  obtain ⟨e', he'⟩ := PyProof.Rows.sortedHeap_at (vs := acc.toList) (out := out.toArray) hoL
  refine wpAny_pure ⟨_, rfl, .ref h'.objs.size, upd H h'.objs.size (.lst (ys.map (·.1))), I1.laid (t' := tk) (fun b u e => ?_) (Nat.le_refl _)
    (show ObjOk X.prog X.w _ _ _ (.lst (ys.map (·.1))) from ⟨by rw [List.length_map, pp.length_eq, lz]; exact hl, out, e', rv, he'⟩), rfl, q ys _ pp ps' (I1.hok.fresh (Nat.le_refl _))⟩
  have hb : b < h'.objs.size := Heap.lt_size e
  rw [PyProof.Rows.sortedHeap_old (Nat.ne_of_lt hb) (by rw [size_push']; exact Nat.lt_succ_of_lt hb)]
  exact Heap.get?_push_of_some _ e
/-- sorted(d.items()): new pairs of key and value -/
def rSortItems (P : Program) (w : World) (K : PySem.W.Frag) : List V → Hp → VK → Prop := fun vs H Q => ∃ (v a : Addr) (zs : List ((V × V) × (PyData × PyData))), vs = [V.ref v] ∧ H v = some (itemsO v a) ∧ DictV P w H a (zs.map (·.1)) ∧
  (∀ z ∈ zs, Dp K H z.1.1 z.2.1 ∧ Dp K H z.1.2 z.2.2 ∧ (PyData.tuple [z.2.1, z.2.2]).depth ≤ 60) ∧ SortOk (zs.map fun z => .tuple [z.2.1, z.2.2]) ∧
  ∀ (H' : Hp) (l : Addr) (ts : List (Addr × ((V × V) × (PyData × PyData)))), (∀ b o, H b = some o → H' b = some o) → (ts.map (·.2)).Perm zs → ts.Pairwise (fun a b => dataLt (.tuple [b.2.2.1, b.2.2.2]) (.tuple [a.2.2.1, a.2.2.2]) = false) → H l = none → H' l = some (.lst (ts.map fun z => V.ref z.1)) →
    (∀ z ∈ ts, H' z.1 = some (.tup [z.2.1.1, z.2.1.2])) → Q (.ref l) H'
theorem cr_sortItems (hc : X.calm = true) (hu : X.A.units + 64 < cLine) : CallR X (.builtin "sorted") (rSortItems X.prog X.w X.K) := by
  intro pins s σ H xs us Q I r h
  obtain ⟨p, a, zs, rfl, hp, hd, hx, hok, q⟩ := h
  obtain rfl := Vals.ref1 r
  have view : s.heap.IsItemsView p a := (show ObjOk X.prog X.w H s.heap p (itemsO p a) from I.hok p _ hp).1
  obtain ⟨es, ep, dr, lo, sz, hl, at_⟩ := hd.raw I.hok
  rw [List.length_map] at sz hl
  have hh : X.A.handled = none := I.ok.hd hc
  refine DT.sortedI (es := es) (ep := ep) hh view dr (by rw [sz]; exact hl) fun h' tk as hk hlt hla hG => ?_
  have lak : as.length = zs.length := by omega
  have nd : as.Nodup := List.Pairwise.imp (fun h => Nat.ne_of_lt h) hG.rise
  have pr : ∀ (j : Nat) (b : Addr) z, as[j]? = some b → zs[j]? = some z → ∃ kv vv, RelV z.1.1 kv ∧ RelV z.1.2 vv ∧ h'.get? b = some { cls := .type "tuple", data := .seq #[kv, vv] } := by
    intro j b z hj hz
    obtain ⟨en, he, hg⟩ := hG.pairs j b hj
    obtain ⟨e, he2, r1, r2⟩ := at_ j z.1 (by rw [List.getElem?_map, hz]; rfl)
    rw [he] at he2
    cases he2
    exact ⟨_, _, r1, r2, hg⟩
  have hob : (h'.push { cls := .type "list", data := .seq (as.map Value.ref).toArray }).get? h'.objs.size = some (seqObj "list" (as.map Value.ref).toArray 0) := Heap.get?_push_size _ rfl
  have ne0 : ∀ b o, h'.get? b = some o → b ≠ h'.objs.size := fun b o e => Nat.ne_of_lt (Heap.lt_size e)
  have ka : ∀ b o, h'.get? b = some o → (h'.push { cls := .type "list", data := .seq (as.map Value.ref).toArray }).get? b = some o := fun b o e => Heap.get?_push_of_some _ e
  generalize h'.push { cls := .type "list", data := .seq (as.map Value.ref).toArray } = h2 at hob ka ⊢
  have keep : ∀ b o, h'.get? b = some o → (sortingHeap h2 h'.objs.size (as.map Value.ref)).get? b = some o := fun b o e => sortingHeap_old (ne0 b o e) (ka b o e)
  generalize hws : (as.zip zs).map (fun z => (V.ref z.1, PyData.tuple [z.2.2.1, z.2.2.2])) = ws
  have lz : (as.zip zs).length = zs.length := by rw [List.length_zip, lak, Nat.min_self]
  have w2 : ws.map (·.2) = zs.map fun z => PyData.tuple [z.2.1, z.2.2] := by
    rw [← hws, List.map_map]
    have : (as.zip zs).map (fun z => z.2) = zs := List.map_snd_zip (by rw [lak]; exact Nat.le_refl _)
    conv => rhs; rw [← this]
    rw [List.map_map]
    rfl
  have ev : EachIs (fun v (z : V × PyData) => RelV z.1 v ∧ ∃ as', Reads (sortingHeap h2 h'.objs.size (as.map Value.ref)) v z.2 as') (as.map Value.ref) ws := by
    refine each_of (by rw [← hws, List.length_map, List.length_map, lz, lak]) fun j v z hv hz => ?_
    rw [← hws, List.getElem?_map] at hz
    obtain ⟨⟨b, z0⟩, hz0, rfl⟩ := Option.map_eq_some_iff.mp hz
    obtain ⟨hb, hz1⟩ := List.getElem?_zip_eq_some.mp hz0
    rw [List.getElem?_map, hb] at hv
    cases hv
    obtain ⟨kv, vv, r1, r2, hg⟩ := pr j b z0 hb hz1
    obtain ⟨d1, d2, _⟩ := hx z0 (List.mem_of_getElem? hz1)
    obtain ⟨as1, rd1⟩ := Dp.reads I _ _ _ d1 r1
    obtain ⟨as2, rd2⟩ := Dp.reads I _ _ _ d2 r2
    have rds : ReadsAll (sortingHeap h2 h'.objs.size (as.map Value.ref)) [kv, vv] [z0.2.1, z0.2.2] (as1 ++ (as2 ++ [])) := .cons (PyProof.Rows.Reads.keeps (fun b o e => keep b o (hk b o e)) rd1) (.cons (PyProof.Rows.Reads.keeps (fun b o e => keep b o (hk b o e)) rd2) .nil)
    exact ⟨rfl, _, .tuple (keep _ _ hg) rfl rfl rds⟩
  refine sort_here (s := { s with heap := h2, toks := tk }) ws hob ev (by rw [w2]; exact hok) (fun z hz => ?_) (by rw [List.length_map, lak]; exact hl) fun out ys pp ps' rv _ => ?_
  · rw [← hws] at hz
    obtain ⟨⟨b, z0⟩, hz0, rfl⟩ := List.mem_map.mp hz
    have := (hx z0 (List.of_mem_zip hz0).2).2.2
    show X.A.units + 1 + 1 + (PyData.tuple [z0.2.1, z0.2.2]).depth < cLine
    omega
  · obtain ⟨ts, pt, et⟩ : ∃ ts : List (Addr × ((V × V) × (PyData × PyData))), ts.Perm (as.zip zs) ∧ ts.map (fun z => (V.ref z.1, PyData.tuple [z.2.2.1, z.2.2.2])) = ys := perm_backL (as.zip zs) (by rw [hws]; exact pp)
    have idx : ∀ z ∈ ts, ∃ j : Nat, as[j]? = some z.1 ∧ zs[j]? = some z.2 := fun z hz => by
      obtain ⟨j, hj⟩ := List.mem_iff_getElem?.mp (pt.mem_iff.mp hz)
      exact ⟨j, List.getElem?_zip_eq_some.mp hj⟩
    have hperm : (ts.map (·.2)).Perm zs := by
      have e := pt.map (·.2)
      rw [show (as.zip zs).map (·.2) = zs from List.map_snd_zip (by rw [lak]; exact Nat.le_refl _)] at e
      exact e
    have hsort : ts.Pairwise (fun a b => dataLt (.tuple [b.2.2.1, b.2.2.2]) (.tuple [a.2.2.1, a.2.2.2]) = false) := by
      rw [← et, List.pairwise_map] at ps'
      exact ps'
    have y1 : ys.map (·.1) = ts.map fun z => V.ref z.1 := by rw [← et, List.map_map]; rfl
    have kF : ∀ b o, b ≠ h'.objs.size → h2.get? b = some o → (sortedHeap h2 h'.objs.size (as.map Value.ref) out.toArray).get? b = some o := fun b o hb e => (PyProof.Rows.sortedHeap_old hb (Heap.lt_size e)).trans e
    have kS : ∀ b o, s.heap.get? b = some o → (sortedHeap h2 h'.objs.size (as.map Value.ref) out.toArray).get? b = some o := fun b o e => kF b o (ne0 _ _ (hk b o e)) (ka b o (hk b o e))
    obtain ⟨eF, heF⟩ := PyProof.Rows.sortedHeap_at (vs := as.map Value.ref) (out := out.toArray) hob
    have I1 : Inv X pins σ H { s with heap := sortedHeap h2 h'.objs.size (as.map Value.ref) out.toArray, toks := tk } := I.kept (t' := tk) kS
    have hn0 : H h'.objs.size = none := I.hok.fresh (Nat.le_of_lt hlt)
    have hlen : (ts.map fun z => V.ref z.1).length ≤ sizeLine := by
      rw [List.length_map, pt.length_eq, lz]
      exact hl
    have I2 : Inv X pins σ (upd H h'.objs.size (.lst (ts.map fun z => V.ref z.1))) { s with heap := sortedHeap h2 h'.objs.size (as.map Value.ref) out.toArray, toks := tk } :=
      I1.take (h' := sortedHeap h2 h'.objs.size (as.map Value.ref) out.toArray) (t' := tk) (fun b ob _ e => e) (I.fpOk (Nat.le_of_lt hlt) hn0) ⟨hlen, out, eF, by rw [← y1]; exact rv, heF⟩
    obtain ⟨H2, I3, g, qt⟩ := takeT (P := fun b vs => ∃ (j : Nat) (z : (V × V) × (PyData × PyData)), as[j]? = some b ∧ zs[j]? = some z ∧ vs = [z.1.1, z.1.2]) I as _ I2 nd fun b hb => by
      obtain ⟨j, hj⟩ := List.mem_iff_getElem?.mp hb
      have hjz : j < zs.length := by rw [← lak]; exact (List.getElem?_eq_some_iff.mp hj).1
      have hz := List.getElem?_eq_getElem hjz
      obtain ⟨kv, vv, r1, r2, hg⟩ := pr j b _ hj hz
      have hbl : s.heap.objs.size ≤ b := Nat.le_of_lt (hG.above b hb)
      refine ⟨hbl, ?_, [zs[j].1.1, zs[j].1.2], ⟨j, _, hj, hz, rfl⟩, fun H3 => ⟨(by rw [sizeLine_eq]; show 2 ≤ 16777216; omega), [kv, vv], .cons r1 (.cons r2 .nil), ⟨_, kF _ _ (ne0 _ _ hg) (ka _ _ hg), rfl, 0, rfl⟩⟩⟩
      rw [upd_ne (ne0 _ _ hg)]
      exact I.hok.fresh hbl
    have gr : ∀ b o, H b = some o → H2 b = some o := fun b o e => g b o (by rw [upd_ne (ne_of_none e hn0)]; exact e)
    refine ⟨.ref h'.objs.size, H2, I3, rfl, q H2 h'.objs.size ts gr hperm hsort hn0 (g _ _ upd_same) fun z' hz' => ?_⟩
    obtain ⟨i, i1, i2⟩ := idx z' hz'
    obtain ⟨vs, ⟨j, z, j1, j2, ev⟩, hH⟩ := qt z'.1 (List.mem_of_getElem? i1)
    have eij : i = j := (List.getElem?_inj (List.getElem?_eq_some_iff.mp i1).1 nd).mp (i1.trans j1.symm)
    subst eij
    rw [ev, show z = z'.2 from Option.some.inj (j2.symm.trans i2)] at hH
    exact hH
/-- len(d), d with nested keys -/
def rLenN (P : Program) (w : World) : List V → Hp → VK → Prop := fun vs H Q => ∃ a kvs, vs = [V.ref a] ∧ ND.AtR P w H a kvs ∧ Q (.int (kvs.length : Nat)) H
theorem call_lenN : CallR X (.builtin "len") (rLenN X.prog X.w) := by
  intro pins s σ H xs us Q I r h
  obtain ⟨a, kvs, rfl, ⟨es, e, ke, rfl⟩, q⟩ := h
  obtain rfl := Vals.ref1 r
  obtain ⟨⟨z, hd, xs, re, o, ds, ep, h1, h2, h3, h4, h5⟩, _, _⟩ := (show ObjOk X.prog X.w H s.heap a (ND.nD X.prog X.w a es) from rd_of I.hok e)
  have dd : s.heap.DictOfH (nestedKind X.prog X.w) a xs := ⟨o, ds, ep, h1, h2, h3, h4, ND.keyed_is I.hok re ke, h5⟩
  have hl : es.length = xs.length := Paired.length re
  refine call_len_dictH hd dd (by rw [← hl]; rw [sizeLine_eq] at z; omega) ?_
  have hk : (ND.kvOf es).length = xs.length := by unfold ND.kvOf; rw [List.length_map, hl]
  rw [hk] at q
  exact ⟨.int (xs.length : Nat), H, I.tok _, ⟨_, rfl⟩, q⟩
/-- d.items() -/
def tItems (P : Program) (w : World) (to : TE) : TE := fun σ H Q => to σ H fun x H1 => ∃ a ps, x = .ref a ∧ DictV P w H1 a ps ∧ ∀ p, H1 p = none → Q (.ref p) (upd H1 p (itemsO p a))
theorem pe_items {o : Expr} {apos cpos : Pos} {to : TE} (ho : PE X o to) (hbase : attributeBase o "items" X.env (eval o X.env) = eval o X.env := by rfl) (hline : (apos.endLine == cpos.line) = true := by rfl) :
    PE X (.Call (.Attribute o "items" apos) [] [] cpos) (tItems X.prog X.w to) := by
  refine ⟨fun pins s σ H Q I h => ?_⟩
  refine wpAny_Call_method0_late hbase hline (thn (ho.run pins s σ H _ I h) fun v s1 ⟨x, H1, I1, r1, a, ps, ex, hd, q1⟩ => ?_)
  subst ex
  obtain rfl : v = Value.ref a := r1
  obtain ⟨es, ep, dr, lo, _⟩ := hd.raw I1.hok
  refine ⟨"dict", _, PySem.F.plainAttrs_dict, PySem.F.slot_dict_items, PySem.F.type_dict_items, dr.typeIs, fun b q => ?_, Calls.callWith_builtin rfl (PySem.evalArgs_none (mt_itemsV pins s1 σ H1 (.ref a) [] (.ref a) [] Q I1 rfl .nil ⟨a, ps, rfl, rfl, hd, q1⟩))⟩
  cases q
  obtain ⟨ob, h1, h2, _⟩ := dr
  exact ⟨ob, h1, h2.2.1⟩
end
end L2

set_option linter.all false
/-! Masks as sets of bits: the lowest bit, parts, the least ones. -/
namespace WM
/-- the place of the lowest bit -/
def lowI (n : Nat) : Nat := if n = 0 then 0 else if n % 2 = 1 then 0 else lowI (n / 2) + 1
termination_by n
decreasing_by omega
theorem lowI_odd (m : Nat) : lowI (2 * m + 1) = 0 := by
  rw [lowI, if_neg (by omega), if_pos (by omega)]
theorem lowI_even {m : Nat} (h : 0 < m) : lowI (2 * m) = lowI m + 1 := by
  rw [lowI, if_neg (by omega), if_neg (by omega), show 2 * m / 2 = m by omega]
def low (n : Nat) : Nat := 2 ^ lowI n
theorem even_odd (n : Nat) : (∃ m, n = 2 * m) ∨ ∃ m, n = 2 * m + 1 := by
  rcases Nat.mod_two_eq_zero_or_one n with h | h
  · exact .inl ⟨n / 2, by omega⟩
  · exact .inr ⟨n / 2, by omega⟩
theorem tb_even (m i : Nat) : (2 * m).testBit (i + 1) = m.testBit i := by
  rw [Nat.testBit_succ, show 2 * m / 2 = m by omega]
theorem tb_odd (m i : Nat) : (2 * m + 1).testBit (i + 1) = m.testBit i := by
  rw [Nat.testBit_succ, show (2 * m + 1) / 2 = m by omega]
theorem tb_even0 (m : Nat) : (2 * m).testBit 0 = false := by rw [Nat.testBit_zero, decide_eq_false_iff_not]; omega
theorem tb_odd0 (m : Nat) : (2 * m + 1).testBit 0 = true := by rw [Nat.testBit_zero, decide_eq_true_eq]; omega
theorem tb_low : ∀ n, 0 < n → n.testBit (lowI n) = true := by
  intro n
  induction n using Nat.strongRecOn with
  | ind n ih =>
    intro h
    rcases even_odd n with ⟨m, rfl⟩ | ⟨m, rfl⟩
    · rw [lowI_even (by omega), tb_even]
      exact ih m (by omega) (by omega)
    · rw [lowI_odd, tb_odd0]
theorem tb_below : ∀ n i, i < lowI n → n.testBit i = false := by
  intro n
  induction n using Nat.strongRecOn with
  | ind n ih =>
    intro i h
    rcases even_odd n with ⟨m, rfl⟩ | ⟨m, rfl⟩
    · rcases Nat.eq_zero_or_pos m with rfl | hm
      · rw [Nat.mul_zero, Nat.zero_testBit]
      · rw [lowI_even hm] at h
        rcases i with _ | i
        · exact tb_even0 m
        · rw [tb_even]
          exact ih m (by omega) i (by omega)
    · rw [lowI_odd] at h
      omega
/-- the lowest bit is taken off -/
def clr (n : Nat) : Nat := n - low n
theorem low_le : ∀ n, 0 < n → low n ≤ n := fun n h => Nat.ge_two_pow_of_testBit (tb_low n h)
theorem clr_lt {n : Nat} (h : 0 < n) : clr n < n := by
  have h1 : 0 < low n := Nat.two_pow_pos _
  unfold clr
  omega
theorem clr_even (m : Nat) (h : 0 < m) : clr (2 * m) = 2 * clr m := by
  unfold clr low
  rw [lowI_even h, Nat.pow_succ, Nat.mul_sub, Nat.mul_comm 2 (2 ^ lowI m)]
theorem clr_odd (m : Nat) : clr (2 * m + 1) = 2 * m := by
  unfold clr low
  rw [lowI_odd, Nat.pow_zero]
  omega
theorem tb_clr : ∀ n, 0 < n → ∀ i, (clr n).testBit i = (n.testBit i && decide (i ≠ lowI n)) := by
  intro n
  induction n using Nat.strongRecOn with
  | ind n ih =>
    intro h i
    rcases even_odd n with ⟨m, rfl⟩ | ⟨m, rfl⟩
    · rw [clr_even m (by omega), lowI_even (by omega)]
      rcases i with _ | i
      · rw [tb_even0, tb_even0]; rfl
      · rw [tb_even, tb_even, ih m (by omega) (by omega) i]
        congr 1
        exact decide_eq_decide.mpr (by omega)
    · rw [clr_odd, lowI_odd]
      rcases i with _ | i
      · rw [tb_even0]; simp
      · rw [tb_even, tb_odd]
        simp
theorem and_pred : ∀ n, 0 < n → n &&& (n - 1) = clr n := fun n h => by
  refine Nat.eq_of_testBit_eq fun i => ?_
  rw [Nat.testBit_and, tb_clr n h i]
  by_cases c : n.testBit i = true
  · rw [c, Bool.true_and, Bool.true_and]
    revert h c
    induction n using Nat.strongRecOn generalizing i with
    | ind n ih =>
      intro h c
      rcases even_odd n with ⟨m, rfl⟩ | ⟨m, rfl⟩
      · have hm : 0 < m := by omega
        rw [lowI_even hm, show 2 * m - 1 = 2 * (m - 1) + 1 by omega]
        rcases i with _ | i
        · rw [tb_even0] at c; cases c
        · rw [tb_even] at c
          rw [tb_odd, ih m (by omega) i hm c]
          exact decide_eq_decide.mpr (by omega)
      · rw [lowI_odd, Nat.add_sub_cancel]
        rcases i with _ | i
        · rw [tb_even0]; simp
        · rw [tb_odd] at c
          rw [tb_even, c]
          simp
  · rw [Bool.not_eq_true] at c
    rw [c]; rfl
theorem xor_low (n : Nat) (h : 0 < n) : n ^^^ low n = clr n := by
  refine Nat.eq_of_testBit_eq fun i => ?_
  rw [Nat.testBit_xor, tb_clr n h i]
  unfold low
  rw [Nat.testBit_two_pow]
  by_cases e : lowI n = i
  · subst e
    rw [tb_low n h]; simp
  · have e' : i ≠ lowI n := fun z => e z.symm
    simp [e, e']
open PySem in
/-- n & -n -/
theorem and_neg {n : Nat} (h : 0 < n) : Builtin.bitAnd (n : Int) (-(n : Int)) = (low n : Nat) := by
  rw [PyProof.Rows.bitAnd_pn (Int.natCast_nonneg n) (by omega)]
  have e : (Builtin.bitNot (-(n : Int))).toNat = n - 1 := by
    unfold Builtin.bitNot
    omega
  rw [e, Int.toNat_natCast, and_pred n h]
  have := low_le n h
  unfold clr
  omega
open PySem in
theorem and_neg0 : Builtin.bitAnd ((0 : Nat) : Int) (-((0 : Nat) : Int)) = 0 := by decide
open PySem in
/-- n ^ (n & -n) -/
theorem xor_bit {n : Nat} (h : 0 < n) : Builtin.bitXor (n : Int) (low n : Nat) = (clr n : Nat) := by
  rw [Bits.bitXor_pp (Int.natCast_nonneg _) (Int.natCast_nonneg _), Int.toNat_natCast, Int.toNat_natCast, xor_low n h]
/-- all of a's bits are b's -/
def Sub (a b : Nat) : Prop := a &&& b = a
instance (a b : Nat) : Decidable (Sub a b) := inferInstanceAs (Decidable (a &&& b = a))
theorem sub_iff {a b : Nat} : Sub a b ↔ ∀ i, a.testBit i = true → b.testBit i = true := by
  constructor
  · intro h i hi
    have e : (a &&& b).testBit i = a.testBit i := congrArg (fun n => Nat.testBit n i) h
    rw [Nat.testBit_and, hi] at e
    simpa using e
  · intro h
    refine Nat.eq_of_testBit_eq fun i => ?_
    rw [Nat.testBit_and]
    cases c : a.testBit i with
    | false => rfl
    | true => rw [h i c]; rfl
theorem Sub.le {a b : Nat} (h : Sub a b) : a ≤ b := by
  have := Nat.and_le_right (n := a) (m := b)
  rw [h] at this
  exact this
theorem Sub.refl (a : Nat) : Sub a a := Nat.and_self a
theorem Sub.trans {a b c : Nat} (h : Sub a b) (h' : Sub b c) : Sub a c := sub_iff.mpr fun i hi => sub_iff.mp h' i (sub_iff.mp h i hi)
theorem Sub.antisymm {a b : Nat} (h : Sub a b) (h' : Sub b a) : a = b := Nat.le_antisymm h.le h'.le
theorem sub_zero {a : Nat} : Sub a 0 ↔ a = 0 := ⟨fun h => by have := h.le; omega, fun h => h ▸ Sub.refl _⟩
theorem zero_sub (a : Nat) : Sub 0 a := Nat.zero_and a
open PySem in
/-- part & mask == part -/
theorem and_sub (a b : Nat) : Builtin.bitAnd (a : Int) (b : Int) = (a : Int) ↔ Sub a b := by
  rw [PyProof.Rows.bitAnd_pp (Int.natCast_nonneg _) (Int.natCast_nonneg _), Int.toNat_natCast, Int.toNat_natCast]
  unfold Sub
  omega
/-- the lowest bit of a part is a bit of the whole -/
theorem sub_low {a b : Nat} (h : Sub a b) (ha : 0 < a) : b.testBit (lowI a) = true := sub_iff.mp h _ (tb_low a ha)
theorem low_inj {a b : Nat} (h : low a = low b) : lowI a = lowI b := (Nat.pow_right_inj (by decide : 1 < 2)).mp h
/-- one of the kept is a part -/
def HP (kept : List Nat) (m : Nat) : Prop := ∃ k ∈ kept, Sub k m
instance (kept : List Nat) (m : Nat) : Decidable (HP kept m) := inferInstanceAs (Decidable (∃ k ∈ kept, Sub k m))
/-- the least ones, the masks told ascending -/
def leastA : List Nat → List Nat → List Nat
  | kept, [] => kept
  | kept, m :: ms => leastA (if HP kept m then kept else kept ++ [m]) ms
/-- what the kept are behind the masks ms -/
structure Kept (ms kept : List Nat) : Prop where
  mem : ∀ k ∈ kept, k ∈ ms
  up : ∀ m ∈ ms, HP kept m
  ap : kept.Pairwise fun a b => a < b ∧ ¬ Sub a b
theorem Kept.nil : Kept [] [] := ⟨(fun _ h => nomatch h), (fun _ h => nomatch h), .nil⟩
theorem Kept.step {ms kept : List Nat} {m : Nat} (x : Kept ms kept) (hm : ∀ y ∈ ms, y ≤ m) : Kept (ms ++ [m]) (if HP kept m then kept else kept ++ [m]) := by
  by_cases c : HP kept m
  · rw [if_pos c]
    refine ⟨fun k hk => List.mem_append_left _ (x.mem k hk), fun y hy => ?_, x.ap⟩
    rcases List.mem_append.mp hy with h | h
    · exact x.up y h
    · rw [List.mem_singleton.mp h]; exact c
  · rw [if_neg c]
    refine ⟨fun k hk => ?_, fun y hy => ?_, List.pairwise_append.mpr ⟨x.ap, List.pairwise_singleton .., fun a ha b hb => ?_⟩⟩
    · rcases List.mem_append.mp hk with h | h
      · exact List.mem_append_left _ (x.mem k h)
      · exact List.mem_append_right _ h
    · rcases List.mem_append.mp hy with h | h
      · obtain ⟨k, hk, s⟩ := x.up y h
        exact ⟨k, List.mem_append_left _ hk, s⟩
      · rw [List.mem_singleton.mp h]
        exact ⟨m, List.mem_append_right _ (List.mem_singleton_self _), Sub.refl _⟩
    · rw [List.mem_singleton.mp hb]
      have ns : ¬ Sub a m := fun s => c ⟨a, ha, s⟩
      have := hm a (x.mem a ha)
      refine ⟨Nat.lt_of_le_of_ne this fun e => ns (e ▸ Sub.refl _), ns⟩
theorem least_kept : ∀ (ms pre kept : List Nat), Kept pre kept → (pre ++ ms).Pairwise (· ≤ ·) → Kept (pre ++ ms) (leastA kept ms)
  | [], pre, kept, x, _ => by rw [List.append_nil]; exact x
  | m :: ms, pre, kept, x, hs => by
    have e : pre ++ m :: ms = (pre ++ [m]) ++ ms := by simp
    rw [e] at hs ⊢
    refine least_kept ms (pre ++ [m]) _ (x.step fun y hy => ?_) hs
    exact (List.pairwise_append.mp (List.pairwise_append.mp hs).1).2.2 y hy m (List.mem_singleton_self _)
theorem least_of {ms : List Nat} (hs : ms.Pairwise (· ≤ ·)) : Kept ms (leastA [] ms) := least_kept ms [] [] .nil hs
/-- no two of the kept are parts of one another -/
theorem Kept.anti {ms kept : List Nat} (x : Kept ms kept) {a b : Nat} (ha : a ∈ kept) (hb : b ∈ kept) (s : Sub a b) : a = b := by
  obtain ⟨i, hi, rfl⟩ := List.mem_iff_getElem.mp ha
  obtain ⟨j, hj, rfl⟩ := List.mem_iff_getElem.mp hb
  rcases Nat.lt_trichotomy i j with h | h | h
  · exact absurd s (List.pairwise_iff_getElem.mp x.ap i j hi hj h).2
  · subst h; rfl
  · have := (List.pairwise_iff_getElem.mp x.ap j i hj hi h).1
    have := s.le
    omega
/-- what has a part among the masks has one among the kept -/
theorem Kept.upIff {ms kept : List Nat} (x : Kept ms kept) (m : Nat) : HP kept m ↔ HP ms m := by
  constructor
  · rintro ⟨k, hk, s⟩; exact ⟨k, x.mem k hk, s⟩
  · rintro ⟨y, hy, s⟩
    obtain ⟨k, hk, s'⟩ := x.up y hy
    exact ⟨k, hk, s'.trans s⟩
theorem Kept.nd {ms kept : List Nat} (x : Kept ms kept) : kept.Nodup := x.ap.imp fun h => Nat.ne_of_lt h.1
/-- the walk over the bits: if no kept part begins with a bit that was seen, none of them is a part that begins there -/
theorem walk_step {kept : List Nat} {mask rest : Nat} (h : 0 < rest) (inv : ∀ k ∈ kept, Sub k mask → rest.testBit (lowI k) = true) (no : ∀ k ∈ kept, low k = low rest → ¬ Sub k mask) : ∀ k ∈ kept, Sub k mask → (clr rest).testBit (lowI k) = true := fun k hk s => by
  rw [tb_clr rest h, inv k hk s, Bool.true_and]
  exact decide_eq_true fun e => no k hk (by unfold low; rw [e]) s
theorem walk_end {kept : List Nat} {mask : Nat} (inv : ∀ k ∈ kept, Sub k mask → (0 : Nat).testBit (lowI k) = true) : ¬ HP kept mask := fun ⟨k, hk, s⟩ => by
  have := inv k hk s
  rw [Nat.zero_testBit] at this
  cases this
theorem walk_start {kept : List Nat} {mask : Nat} (h0 : ¬ 0 ∈ kept) : ∀ k ∈ kept, Sub k mask → mask.testBit (lowI k) = true := fun k hk s =>
  sub_low s (Nat.pos_of_ne_zero fun e => h0 (e ▸ hk))
end WM

set_option linter.all false
/-! Least sets: sorted lists of ascending lists, none a part of another, and what lies above them. -/
namespace WS
open WM
theorem pw_ext {α : Type} {R : α → α → Prop} (as : ∀ a b, R a b → ¬ R b a) : ∀ {l m : List α}, l.Pairwise R → m.Pairwise R → (∀ x, x ∈ l ↔ x ∈ m) → l = m
  | [], [], _, _, _ => rfl
  | [], y :: m, _, _, h => absurd ((h y).mpr (List.mem_cons_self ..)) (List.not_mem_nil)
  | x :: l, [], _, _, h => absurd ((h x).mp (List.mem_cons_self ..)) (List.not_mem_nil)
  | x :: l, y :: m, hl, hm, h => by
    obtain ⟨h1, h2⟩ := List.pairwise_cons.mp hl
    obtain ⟨h3, h4⟩ := List.pairwise_cons.mp hm
    have e : x = y := by
      rcases List.mem_cons.mp ((h x).mp (List.mem_cons_self ..)) with e | a
      · exact e
      · rcases List.mem_cons.mp ((h y).mpr (List.mem_cons_self ..)) with e | b
        · exact e.symm
        · exact absurd (h1 y b) (as _ _ (h3 x a))
    subst e
    rw [pw_ext as h2 h4 fun z => ?_]
    constructor
    · intro hz
      rcases List.mem_cons.mp ((h z).mp (List.mem_cons_of_mem _ hz)) with e | a
      · subst e
        exact absurd (h1 z hz) (as _ _ (h1 z hz))
      · exact a
    · intro hz
      rcases List.mem_cons.mp ((h z).mpr (List.mem_cons_of_mem _ hz)) with e | a
      · subst e
        exact absurd (h3 z hz) (as _ _ (h3 z hz))
      · exact a
abbrev Asc (s : List Nat) : Prop := s.Pairwise (· < ·)
theorem asc_ext {a b : List Nat} (ha : Asc a) (hb : Asc b) (h : ∀ x, x ∈ a ↔ x ∈ b) : a = b := pw_ext (fun _ _ h h' => by omega) ha hb h
theorem Asc.nd {s : List Nat} (h : Asc s) : s.Nodup := h.imp fun h => Nat.ne_of_lt h
abbrev SubL (a b : List Nat) : Prop := ∀ x ∈ a, x ∈ b
abbrev iN (s : List Nat) : List Int := s.map fun (n : Nat) => (n : Int)
/-- a element of the least sets -/
structure Can (ss : List (List Nat)) : Prop where
  asc : ∀ s ∈ ss, Asc s
  anti : ∀ a ∈ ss, ∀ b ∈ ss, SubL a b → a = b
  srt : ss.Pairwise fun a b => HT.lexLt (iN a) (iN b) = true
/-- s has a part among the sets -/
def Up (ss : List (List Nat)) (s : List Nat) : Prop := ∃ t ∈ ss, SubL t s
theorem can_sub {a b : List (List Nat)} (ha : Can a) (hb : Can b) (h : ∀ s, Up a s ↔ Up b s) {t : List Nat} (ht : t ∈ a) : t ∈ b := by
  obtain ⟨t', h1, h2⟩ := (h t).mp ⟨t, ht, fun _ z => z⟩
  obtain ⟨t'', h3, h4⟩ := (h t').mpr ⟨t', h1, fun _ z => z⟩
  have e : t'' = t := ha.anti _ h3 _ ht fun x hx => h2 x (h4 x hx)
  subst e
  rw [asc_ext (ha.asc _ ht) (hb.asc _ h1) fun x => ⟨h4 x, h2 x⟩]
  exact h1
/-- two elements with the same above them are the same -/
theorem can_ext {a b : List (List Nat)} (ha : Can a) (hb : Can b) (h : ∀ s, Up a s ↔ Up b s) : a = b :=
  pw_ext (fun x y h1 h2 => by rw [NtL.lex_asym _ _ h1] at h2; cases h2) ha.srt hb.srt fun t => ⟨can_sub ha hb h, can_sub hb ha fun s => (h s).symm⟩
/-! ### masks of sets -/
theorem tb_add : ∀ (k n : Nat), n.testBit k = false → ∀ i, (2 ^ k + n).testBit i = (decide (i = k) || n.testBit i)
  | 0, n, h, i => by
    rcases even_odd n with ⟨m, rfl⟩ | ⟨m, rfl⟩
    · rw [show 2 ^ 0 + 2 * m = 2 * m + 1 by rw [Nat.pow_zero]; omega]
      rcases i with _ | i
      · rw [tb_odd0]; rfl
      · rw [tb_odd, tb_even]; simp
    · rw [tb_odd0] at h; cases h
  | k + 1, n, h, i => by
    rcases even_odd n with ⟨m, rfl⟩ | ⟨m, rfl⟩
    · rw [tb_even] at h
      rw [show 2 ^ (k + 1) + 2 * m = 2 * (2 ^ k + m) by rw [Nat.pow_succ]; omega]
      rcases i with _ | i
      · rw [tb_even0, tb_even0]; simp
      · rw [tb_even, tb_even, tb_add k m h i]
        congr 1
        exact decide_eq_decide.mpr (by omega)
    · rw [tb_odd] at h
      rw [show 2 ^ (k + 1) + (2 * m + 1) = 2 * (2 ^ k + m) + 1 by rw [Nat.pow_succ]; omega]
      rcases i with _ | i
      · rw [tb_odd0, tb_odd0]; simp
      · rw [tb_odd, tb_odd, tb_add k m h i]
        congr 1
        exact decide_eq_decide.mpr (by omega)
def mask (F : List Nat) (s : List Nat) : Nat := (s.map fun f => 2 ^ F.idxOf f).sum
theorem idx_inj {F : List Nat} {x y : Nat} (hx : x ∈ F) (hy : y ∈ F) (h : F.idxOf x = F.idxOf y) : x = y := by
  have h1 := List.getElem_idxOf (List.idxOf_lt_length_of_mem hx)
  have h2 := List.getElem_idxOf (List.idxOf_lt_length_of_mem hy)
  rw [← h1, ← h2]
  congr 1
theorem tb_mask {F : List Nat} : ∀ {s : List Nat}, s.Nodup → (∀ x ∈ s, x ∈ F) → ∀ i, (mask F s).testBit i = true ↔ ∃ x ∈ s, F.idxOf x = i
  | [], _, _, i => by
    rw [show mask F [] = 0 from rfl, Nat.zero_testBit]
    exact ⟨fun h => (nomatch h), fun ⟨_, h, _⟩ => (nomatch h)⟩
  | y :: s, hn, hF, i => by
    obtain ⟨n1, n2⟩ := List.nodup_cons.mp hn
    have ih := tb_mask (s := s) n2 fun x hx => hF x (List.mem_cons_of_mem _ hx)
    have h0 : (mask F s).testBit (F.idxOf y) = false := by
      rw [← Bool.not_eq_true]
      intro z
      obtain ⟨x, hx, e⟩ := (ih _).mp z
      exact n1 (idx_inj (hF x (List.mem_cons_of_mem _ hx)) (hF y (List.mem_cons_self ..)) e ▸ hx)
    rw [show mask F (y :: s) = 2 ^ F.idxOf y + mask F s from rfl, tb_add _ _ h0, Bool.or_eq_true, decide_eq_true_eq, ih]
    constructor
    · rintro (e | ⟨x, hx, e⟩)
      · exact ⟨y, List.mem_cons_self .., e.symm⟩
      · exact ⟨x, List.mem_cons_of_mem _ hx, e⟩
    · rintro ⟨x, hx, e⟩
      rcases List.mem_cons.mp hx with rfl | hx
      · exact .inl e.symm
      · exact .inr ⟨x, hx, e⟩
theorem sub_mask {F s t : List Nat} (hs : s.Nodup) (ht : t.Nodup) (sF : ∀ x ∈ s, x ∈ F) (tF : ∀ x ∈ t, x ∈ F) : Sub (mask F s) (mask F t) ↔ SubL s t := by
  rw [sub_iff]
  constructor
  · intro h x hx
    obtain ⟨y, hy, e⟩ := (tb_mask ht tF _).mp (h _ ((tb_mask hs sF _).mpr ⟨x, hx, rfl⟩))
    rw [← idx_inj (tF y hy) (sF x hx) e]
    exact hy
  · intro h i hi
    obtain ⟨x, hx, e⟩ := (tb_mask hs sF _).mp hi
    exact (tb_mask ht tF _).mpr ⟨x, h x hx, e⟩
theorem low_uniq {n k : Nat} (h : n.testBit k = true) (hl : ∀ i, i < k → n.testBit i = false) : lowI n = k := by
  have hn : 0 < n := by
    rcases Nat.eq_zero_or_pos n with e | e
    · rw [e, Nat.zero_testBit] at h; cases h
    · exact e
  rcases Nat.lt_trichotomy (lowI n) k with c | c | c
  · have := hl _ c
    rw [tb_low n hn] at this; cases this
  · exact c
  · rw [tb_below n k c] at h; cases h
/-- the set that a mask tells -/
def setOf (F : List Nat) (m : Nat) : List Nat := if h : m = 0 then [] else F.getD (lowI m) 0 :: setOf F (clr m)
termination_by m
decreasing_by exact clr_lt (Nat.pos_of_ne_zero h)
theorem idx_lt {F : List Nat} (hF : Asc F) {x y : Nat} (hx : x ∈ F) (hy : y ∈ F) (h : x < y) : F.idxOf x < F.idxOf y := by
  have lx := List.idxOf_lt_length_of_mem hx
  have ly := List.idxOf_lt_length_of_mem hy
  have h1 := List.getElem_idxOf lx
  have h2 := List.getElem_idxOf ly
  rcases Nat.lt_trichotomy (F.idxOf x) (F.idxOf y) with c | c | c
  · exact c
  · have := idx_inj hx hy c; omega
  · have := List.pairwise_iff_getElem.mp hF _ _ ly lx c
    omega
theorem mask_cons {F s : List Nat} {x : Nat} (hF : Asc F) (hs : Asc (x :: s)) (sF : ∀ y ∈ x :: s, y ∈ F) : lowI (mask F (x :: s)) = F.idxOf x ∧ clr (mask F (x :: s)) = mask F s := by
  have e : lowI (mask F (x :: s)) = F.idxOf x := by
    refine low_uniq ((tb_mask hs.nd sF _).mpr ⟨x, List.mem_cons_self .., rfl⟩) fun i hi => ?_
    rw [← Bool.not_eq_true]
    intro z
    obtain ⟨y, hy, e⟩ := (tb_mask hs.nd sF _).mp z
    rcases List.mem_cons.mp hy with rfl | hy'
    · omega
    · have := idx_lt hF (sF x (List.mem_cons_self ..)) (sF y hy) ((List.pairwise_cons.mp hs).1 y hy')
      omega
  refine ⟨e, ?_⟩
  unfold clr low
  rw [e, show mask F (x :: s) = 2 ^ F.idxOf x + mask F s from rfl]
  omega
theorem mask_pos {F s : List Nat} {x : Nat} : mask F (x :: s) ≠ 0 := by
  have : 0 < 2 ^ F.idxOf x := Nat.two_pow_pos _
  rw [show mask F (x :: s) = 2 ^ F.idxOf x + mask F s from rfl]
  omega
theorem setOf_mask {F : List Nat} (hF : Asc F) : ∀ {s : List Nat}, Asc s → (∀ x ∈ s, x ∈ F) → setOf F (mask F s) = s
  | [], _, _ => by rw [setOf]; rfl
  | x :: s, hs, sF => by
    obtain ⟨h1, h2⟩ := mask_cons hF hs sF
    have hx := sF x (List.mem_cons_self ..)
    rw [setOf, dif_neg mask_pos, h1, h2, setOf_mask hF (List.pairwise_cons.mp hs).2 fun y hy => sF y (List.mem_cons_of_mem _ hy)]
    have lx := List.idxOf_lt_length_of_mem hx
    rw [List.getD_eq_getElem?_getD, List.getElem?_eq_getElem lx, List.getElem_idxOf lx]
    rfl
/-- the program's way, over the facts F: masks, the least ones, sets again, sorted -/
theorem can_of {F : List Nat} (hF : Asc F) {ss : List (List Nat)} (hs : ∀ s ∈ ss, Asc s) (sF : ∀ s ∈ ss, ∀ x ∈ s, x ∈ F) {ms : List Nat} (hp : ms.Perm (ss.map (mask F))) (ho : ms.Pairwise (· ≤ ·))
    {out : List (List Nat)} (op : out.Perm ((leastA [] ms).map (setOf F))) (oo : out.Pairwise fun a b => HT.lexLt (iN b) (iN a) = false) : Can out ∧ ∀ s, Up out s ↔ Up ss s := by
  have K := least_of ho
  have src : ∀ k ∈ leastA [] ms, ∃ s ∈ ss, k = mask F s ∧ setOf F k = s := fun k hk => by
    obtain ⟨s, h1, h2⟩ := List.mem_map.mp (hp.mem_iff.mp (K.mem k hk))
    refine ⟨s, h1, h2.symm, ?_⟩
    rw [← h2]
    exact setOf_mask hF (hs s h1) (sF s h1)
  have mem : ∀ s ∈ out, s ∈ ss ∧ mask F s ∈ leastA [] ms := fun s h => by
    obtain ⟨k, hk, e⟩ := List.mem_map.mp (op.mem_iff.mp h)
    obtain ⟨s', h1, h2, h3⟩ := src k hk
    rw [h3] at e
    subst e
    exact ⟨h1, h2 ▸ hk⟩
  have nd : out.Nodup := by
    refine op.nodup_iff.mpr (List.Pairwise.map (R := fun a b => a ≠ b ∧ a ∈ leastA [] ms ∧ b ∈ leastA [] ms) _ (fun a b ⟨h, ha, hb⟩ e => ?_) ?_)
    · obtain ⟨s, _, h2, h3⟩ := src a ha
      obtain ⟨t, _, h4, h5⟩ := src b hb
      rw [h3, h5] at e
      exact h (by rw [h2, h4, e])
    · exact (List.Pairwise.and_mem.mp K.nd).imp fun ⟨h1, h2, h3⟩ => ⟨h3, h1, h2⟩
  refine ⟨⟨fun s h => hs s (mem s h).1, fun a ha b hb h => ?_, ?_⟩, fun s => ⟨fun ⟨t, h1, h2⟩ => ⟨t, (mem t h1).1, h2⟩, fun ⟨t, h1, h2⟩ => ?_⟩⟩
  · obtain ⟨a1, a2⟩ := mem a ha
    obtain ⟨b1, b2⟩ := mem b hb
    have e := K.anti a2 b2 ((sub_mask (hs a a1).nd (hs b b1).nd (sF a a1) (sF b b1)).mpr h)
    rw [← setOf_mask hF (hs a a1) (sF a a1), ← setOf_mask hF (hs b b1) (sF b b1), e]
  · refine (List.Pairwise.and oo nd).imp fun {a b} ⟨h1, h2⟩ => ?_
    rcases h : HT.lexLt (iN a) (iN b) with _ | _
    · exact absurd (lex_eq h h1) h2
    · rfl
  · obtain ⟨k, hk, s'⟩ := K.up (mask F t) (hp.mem_iff.mpr (List.mem_map.mpr ⟨t, h1, rfl⟩))
    obtain ⟨u, u1, u2, u3⟩ := src k hk
    refine ⟨u, op.mem_iff.mpr (List.mem_map.mpr ⟨k, hk, u3⟩), fun x hx => h2 x ?_⟩
    rw [u2] at s'
    exact (sub_mask (hs u u1).nd (hs t h1).nd (sF u u1) (sF t h1)).mp s' x hx
where
  lex_eq : ∀ {a b : List Nat}, HT.lexLt (iN a) (iN b) = false → HT.lexLt (iN b) (iN a) = false → a = b
  | [], [], _, _ => rfl
  | [], y :: b, h, _ => by rw [show iN [] = [] from rfl, show iN (y :: b) = (y : Int) :: iN b from rfl, HT.lexLt_nil_cons] at h; cases h
  | x :: a, [], _, h => by rw [show iN [] = [] from rfl, show iN (x :: a) = (x : Int) :: iN a from rfl, HT.lexLt_nil_cons] at h; cases h
  | x :: a, y :: b, h, h' => by
    rw [show iN (x :: a) = (x : Int) :: iN a from rfl, show iN (y :: b) = (y : Int) :: iN b from rfl, HT.lexLt_cons] at h h'
    by_cases e : x = y
    · subst e
      rw [if_pos rfl] at h h'
      rw [lex_eq h h']
    · rw [if_neg (by omega)] at h h'
      have h1 := of_decide_eq_false h
      have h2 := of_decide_eq_false h'
      omega
/-! ### above sums and products -/
theorem up_app (a b : List (List Nat)) (s : List Nat) : Up (a ++ b) s ↔ Up a s ∨ Up b s := by
  constructor
  · rintro ⟨t, ht, h⟩
    rcases List.mem_append.mp ht with c | c
    · exact .inl ⟨t, c, h⟩
    · exact .inr ⟨t, c, h⟩
  · rintro (⟨t, ht, h⟩ | ⟨t, ht, h⟩)
    · exact ⟨t, List.mem_append_left _ ht, h⟩
    · exact ⟨t, List.mem_append_right _ ht, h⟩
/-- the sets us are the unions of one of a and one of b -/
def Unions (a b us : List (List Nat)) : Prop := (∀ u ∈ us, ∃ x ∈ a, ∃ y ∈ b, ∀ z, z ∈ u ↔ z ∈ x ∨ z ∈ y) ∧ ∀ x ∈ a, ∀ y ∈ b, ∃ u ∈ us, ∀ z, z ∈ u ↔ z ∈ x ∨ z ∈ y
theorem up_unions {a b us : List (List Nat)} (h : Unions a b us) (s : List Nat) : Up us s ↔ Up a s ∧ Up b s := by
  constructor
  · rintro ⟨u, hu, hs⟩
    obtain ⟨x, hx, y, hy, e⟩ := h.1 u hu
    exact ⟨⟨x, hx, fun z hz => hs z ((e z).mpr (.inl hz))⟩, ⟨y, hy, fun z hz => hs z ((e z).mpr (.inr hz))⟩⟩
  · rintro ⟨⟨x, hx, h1⟩, ⟨y, hy, h2⟩⟩
    obtain ⟨u, hu, e⟩ := h.2 x hx y hy
    exact ⟨u, hu, fun z hz => ((e z).mp hz).elim (h1 z) (h2 z)⟩
end WS

set_option Elab.async false
set_option linter.all false
set_option maxRecDepth 100000
/-! Polynomials as lists of terms: coefficients, values, sums and products, canonical forms. -/
namespace PM
abbrev Mono := List (Nat × Nat)
abbrev Terms := List (Mono × Nat)
structure MCan (m : Mono) : Prop where
  asc : m.Pairwise fun a b => a.1 < b.1
  pos : ∀ x ∈ m, 1 ≤ x.2
/-- the exponent of a fact -/
def ex : Mono → Nat → Nat
  | [], _ => 0
  | (g, d) :: r, f => (if g = f then d else 0) + ex r f
theorem ex_zero {f : Nat} : ∀ {m : Mono}, (∀ x ∈ m, x.1 ≠ f) → ex m f = 0
  | [], _ => rfl
  | (g, d) :: r, h => by
    rw [ex, if_neg (h (g, d) (List.mem_cons_self ..)), Nat.zero_add]
    exact ex_zero fun x hx => h x (List.mem_cons_of_mem _ hx)
theorem MCan.tail {x : Nat × Nat} {m : Mono} (h : MCan (x :: m)) : MCan m := ⟨(List.pairwise_cons.mp h.asc).2, fun y hy => h.pos y (List.mem_cons_of_mem _ hy)⟩
theorem MCan.head_ex {g d : Nat} {m : Mono} (h : MCan ((g, d) :: m)) : ex m g = 0 := ex_zero fun x hx e => by
  have := (List.pairwise_cons.mp h.asc).1 x hx
  omega
theorem mono_ext : ∀ {a b : Mono}, MCan a → MCan b → (∀ f, ex a f = ex b f) → a = b
  | [], [], _, _, _ => rfl
  | [], (g, d) :: b, _, hb, h => by
    have h1 := h g
    rw [ex, ex, if_pos rfl, hb.head_ex] at h1
    have := hb.pos (g, d) (List.mem_cons_self ..)
    omega
  | (g, d) :: a, [], ha, _, h => by
    have h1 := h g
    rw [ex, ex, if_pos rfl, ha.head_ex] at h1
    have := ha.pos (g, d) (List.mem_cons_self ..)
    omega
  | (g, d) :: a, (g', d') :: b, ha, hb, h => by
    have pa := ha.pos (g, d) (List.mem_cons_self ..)
    have pb := hb.pos (g', d') (List.mem_cons_self ..)
    have e : g = g' := by
      rcases Nat.lt_trichotomy g g' with c | c | c
      · have h1 := h g
        rw [ex, ex, if_pos rfl, if_neg (by omega), ex_zero (m := b) (fun x hx e => by have := (List.pairwise_cons.mp hb.asc).1 x hx; omega)] at h1
        omega
      · exact c
      · have h1 := h g'
        rw [ex, ex, if_pos rfl, if_neg (by omega), ex_zero (m := a) (fun x hx e => by have := (List.pairwise_cons.mp ha.asc).1 x hx; omega)] at h1
        omega
    subst e
    have h1 := h g
    rw [ex, ex, if_pos rfl, if_pos rfl, ha.head_ex, hb.head_ex] at h1
    have ed : d = d' := by omega
    subst ed
    rw [mono_ext ha.tail hb.tail fun f => by
      have := h f
      rw [ex, ex] at this
      omega]
/-- one more power -/
def mput : Mono → Nat → Nat → Mono
  | [], f, e => [(f, e)]
  | (g, d) :: r, f, e => if f < g then (f, e) :: (g, d) :: r else if f = g then (g, d + e) :: r else (g, d) :: mput r f e
theorem ex_mput (f e h : Nat) : ∀ m : Mono, ex (mput m f e) h = ex m h + if f = h then e else 0
  | [] => by rw [mput, ex, Nat.add_comm]; rfl
  | (g, d) :: r => by
    rw [mput]
    split
    · rw [ex, ex]; omega
    · split
      · rename_i c1 c2
        subst c2
        rw [ex, ex]
        by_cases c : f = h
        · rw [if_pos c, if_pos c, if_pos c]; omega
        · rw [if_neg c, if_neg c, if_neg c]; omega
      · rw [ex, ex, ex_mput f e h r]; omega
theorem mput_mem {f e : Nat} {x : Nat × Nat} : ∀ {m : Mono}, x ∈ mput m f e → x.1 = f ∨ ∃ y ∈ m, y.1 = x.1
  | [], h => .inl (by rw [mput] at h; rw [List.mem_singleton.mp h])
  | (g, d) :: r, h => by
    rw [mput] at h
    split at h
    · rcases List.mem_cons.mp h with rfl | h
      · exact .inl rfl
      · exact .inr ⟨x, h, rfl⟩
    · split at h
      · rcases List.mem_cons.mp h with rfl | h
        · exact .inr ⟨(g, d), List.mem_cons_self .., rfl⟩
        · exact .inr ⟨x, List.mem_cons_of_mem _ h, rfl⟩
      · rcases List.mem_cons.mp h with rfl | h
        · exact .inr ⟨_, List.mem_cons_self .., rfl⟩
        · rcases mput_mem h with h | ⟨y, hy, e⟩
          · exact .inl h
          · exact .inr ⟨y, List.mem_cons_of_mem _ hy, e⟩
theorem mput_can {f e : Nat} (he : 1 ≤ e) : ∀ {m : Mono}, MCan m → MCan (mput m f e)
  | [], _ => ⟨List.pairwise_singleton .., fun x h => by rw [mput] at h; rw [List.mem_singleton.mp h]; exact he⟩
  | (g, d) :: r, h => by
    have hg := (List.pairwise_cons.mp h.asc).1
    have pd := h.pos (g, d) (List.mem_cons_self ..)
    rw [mput]
    split
    · rename_i c
      refine ⟨List.pairwise_cons.mpr ⟨fun x hx => ?_, h.asc⟩, fun x hx => ?_⟩
      · rcases List.mem_cons.mp hx with rfl | hx
        · exact c
        · exact Nat.lt_trans c (hg x hx)
      · rcases List.mem_cons.mp hx with rfl | hx
        · exact he
        · exact h.pos x hx
    · split
      · refine ⟨List.pairwise_cons.mpr ⟨hg, h.tail.asc⟩, fun x hx => ?_⟩
        rcases List.mem_cons.mp hx with rfl | hx
        · show 1 ≤ d + e; omega
        · exact h.tail.pos x hx
      · rename_i c1 c2
        have ih := mput_can (f := f) he h.tail
        refine ⟨List.pairwise_cons.mpr ⟨fun x hx => ?_, ih.asc⟩, fun x hx => ?_⟩
        · rcases mput_mem hx with e | ⟨y, hy, e⟩
          · show g < x.1; omega
          · show g < x.1
            have := hg y hy
            omega
        · rcases List.mem_cons.mp hx with rfl | hx
          · exact pd
          · exact ih.pos x hx
def mmul (a b : Mono) : Mono := b.foldl (fun acc x => mput acc x.1 x.2) a
theorem ex_mmul (h : Nat) : ∀ b a : Mono, ex (mmul a b) h = ex a h + ex b h
  | [], a => rfl
  | (f, e) :: b, a => by
    show ex (mmul (mput a f e) b) h = _
    rw [ex_mmul h b, ex_mput, ex]; omega
theorem mmul_can : ∀ {b a : Mono}, MCan a → MCan b → MCan (mmul a b)
  | [], _, h, _ => h
  | (f, e) :: b, a, ha, hb => mmul_can (b := b) (mput_can (hb.pos (f, e) (List.mem_cons_self ..)) ha) hb.tail
/-! ### values -/
def ev (φ : Nat → Int) : Mono → Int
  | [] => 1
  | (f, e) :: r => φ f ^ e * ev φ r
theorem ev_mput (φ : Nat → Int) (f e : Nat) : ∀ m : Mono, ev φ (mput m f e) = ev φ m * φ f ^ e
  | [] => by rw [mput, ev, Int.mul_comm]; rfl
  | (g, d) :: r => by
    rw [mput]
    split
    · rw [ev, ev, Int.mul_comm]
    · split
      · rename_i c1 c2
        subst c2
        rw [ev, ev, Int.pow_add, Int.mul_assoc, Int.mul_assoc, Int.mul_comm (φ f ^ e)]
      · rw [ev, ev, ev_mput φ f e r, Int.mul_assoc]
theorem ev_mmul (φ : Nat → Int) : ∀ b a : Mono, ev φ (mmul a b) = ev φ a * ev φ b
  | [], a => (Int.mul_one _).symm
  | (f, e) :: b, a => by
    show ev φ (mmul (mput a f e) b) = _
    rw [ev_mmul φ b, ev_mput, ev, Int.mul_assoc]
/-! ### lists of terms -/
def sumL (φ : Mono → Int) : Terms → Int
  | [] => 0
  | (m, c) :: r => (c : Int) * φ m + sumL φ r
def coef : Terms → Mono → Nat
  | [], _ => 0
  | (n, c) :: r, m => (if n = m then c else 0) + coef r m
theorem sumL_app (φ : Mono → Int) : ∀ a b : Terms, sumL φ (a ++ b) = sumL φ a + sumL φ b
  | [], b => (Int.zero_add _).symm
  | (m, c) :: a, b => by
    show (c : Int) * φ m + sumL φ (a ++ b) = (c : Int) * φ m + sumL φ a + sumL φ b
    rw [sumL_app φ a b, Int.add_assoc]
theorem coef_app (m : Mono) : ∀ a b : Terms, coef (a ++ b) m = coef a m + coef b m
  | [], b => (Nat.zero_add _).symm
  | (n, c) :: a, b => by
    show (if n = m then c else 0) + coef (a ++ b) m = _
    rw [coef_app m a b, coef, Nat.add_assoc]
theorem coef_sum (m : Mono) : ∀ a : Terms, (coef a m : Int) = sumL (fun n => if n = m then 1 else 0) a
  | [] => rfl
  | (n, c) :: a => by
    rw [coef, sumL, ← coef_sum m a]
    by_cases h : n = m
    · rw [if_pos h, if_pos h]; omega
    · rw [if_neg h, if_neg h]; omega
def del (m : Mono) (L : Terms) : Terms := L.filter fun x => !decide (x.1 = m)
theorem del_len (m : Mono) (L : Terms) : (del m L).length ≤ L.length := List.length_filter_le ..
theorem del_hit {m : Mono} {c : Nat} {L : Terms} : del m ((m, c) :: L) = del m L := List.filter_cons_of_neg (by simp)
theorem del_miss {m n : Mono} {c : Nat} {L : Terms} (h : ¬ n = m) : del m ((n, c) :: L) = (n, c) :: del m L := List.filter_cons_of_pos (by simp [h])
theorem sum_del (φ : Mono → Int) (m : Mono) : ∀ L : Terms, sumL φ L = (coef L m : Int) * φ m + sumL φ (del m L)
  | [] => by rw [coef]; show (0 : Int) = ((0 : Nat) : Int) * φ m + 0; rw [Int.natCast_zero, Int.zero_mul]; rfl
  | (n, c) :: L => by
    by_cases h : n = m
    · subst h
      rw [del_hit, sumL, coef, if_pos rfl, sum_del φ n L, Int.natCast_add, Int.add_mul, Int.add_assoc]
    · rw [del_miss h, sumL, sumL, coef, if_neg h, Nat.zero_add, sum_del φ m L]
      omega
theorem coef_del (m n : Mono) : ∀ L : Terms, coef (del m L) n = if n = m then 0 else coef L n
  | [] => by split <;> rfl
  | (k, c) :: L => by
    by_cases h : k = m
    · subst h
      rw [del_hit, coef_del k n L]
      by_cases e : n = k
      · rw [if_pos e, if_pos e]
      · rw [if_neg e, if_neg e, coef, if_neg (fun z => e z.symm), Nat.zero_add]
    · rw [del_miss h, coef, coef_del m n L]
      by_cases e : n = m
      · subst e
        rw [if_pos rfl, if_pos rfl, if_neg h]
      · rw [if_neg e, if_neg e, coef]
theorem sum_none (φ : Mono → Int) : ∀ L : Terms, (∀ m, coef L m = 0) → sumL φ L = 0
  | [], _ => rfl
  | (n, c) :: L, h => by
    have h1 := h n
    rw [coef, if_pos rfl] at h1
    have hc : c = 0 := by omega
    rw [sumL, sum_none φ L fun m => by have := h m; rw [coef] at this; omega, hc]
    simp
/-- sums depend on the coefficients alone -/
theorem lin (φ : Mono → Int) : ∀ (k : Nat) (L L' : Terms), L.length ≤ k → (∀ m, coef L m = coef L' m) → sumL φ L = sumL φ L'
  | _, [], L', _, h => (sum_none φ L' fun m => (h m).symm).symm
  | 0, _ :: _, _, hl, _ => absurd hl (Nat.not_succ_le_zero _)
  | k + 1, (m, c) :: L, L', hl, h => by
    rw [sum_del φ m ((m, c) :: L), sum_del φ m L', h m, del_hit, lin φ k (del m L) (del m L') (Nat.le_trans (del_len m L) (by simpa using hl)) fun n => by
      have := h n
      rw [coef_del, coef_del]
      by_cases e : n = m
      · rw [if_pos e, if_pos e]
      · rw [if_neg e, if_neg e, ← this, coef, if_neg (fun z => e z.symm), Nat.zero_add]]
theorem linear (φ : Mono → Int) {L L' : Terms} (h : ∀ m, coef L m = coef L' m) : sumL φ L = sumL φ L' := lin φ L.length L L' (Nat.le_refl _) h
def tmul (a b : Terms) : Terms := a.flatMap fun x => b.map fun y => (mmul x.1 y.1, x.2 * y.2)
theorem sum_one (φ : Mono → Int) (x : Mono × Nat) : ∀ b : Terms, sumL φ (b.map fun y => (mmul x.1 y.1, x.2 * y.2)) = (x.2 : Int) * sumL (fun n => φ (mmul x.1 n)) b
  | [] => (Int.mul_zero _).symm
  | (n, c) :: b => by
    show ((x.2 * c : Nat) : Int) * φ (mmul x.1 n) + sumL φ (b.map fun y => (mmul x.1 y.1, x.2 * y.2)) = _
    rw [sum_one φ x b, sumL, Int.mul_add, Int.natCast_mul, Int.mul_assoc]
theorem sum_tmul (φ : Mono → Int) (b : Terms) : ∀ a : Terms, sumL φ (tmul a b) = sumL (fun m => sumL (fun n => φ (mmul m n)) b) a
  | [] => rfl
  | (m, c) :: a => by
    show sumL φ ((b.map fun y => (mmul m y.1, c * y.2)) ++ tmul a b) = _
    rw [sumL_app, sum_tmul φ b a, sum_one φ (m, c) b, sumL]
theorem coefI {L L' : Terms} (h : ∀ m, sumL (fun n => if n = m then 1 else 0) L = sumL (fun n => if n = m then 1 else 0) L') (m : Mono) : coef L m = coef L' m := by
  have := h m
  rw [← coef_sum, ← coef_sum] at this
  omega
theorem tmul_congr {a a' b b' : Terms} (ha : ∀ m, coef a m = coef a' m) (hb : ∀ m, coef b m = coef b' m) (m : Mono) : coef (tmul a b) m = coef (tmul a' b') m := by
  refine coefI (fun m => ?_) m
  rw [sum_tmul, sum_tmul, linear _ ha]
  congr 1
  funext n
  exact linear _ hb
theorem tmul_add (a b c : Terms) (m : Mono) : coef (tmul a (b ++ c)) m = coef (tmul a b) m + coef (tmul a c) m := by
  have : coef (tmul a (b ++ c)) m = coef (tmul a b ++ tmul a c) m := by
    refine coefI (fun m => ?_) m
    rw [sumL_app, sum_tmul, sum_tmul, sum_tmul]
    induction a with
    | nil => rfl
    | cons x a ih =>
      obtain ⟨k, d⟩ := x
      rw [sumL, sumL, sumL, ih, sumL_app, Int.mul_add]
      omega
  rw [this, coef_app]
theorem tmul_one (a : Terms) (m : Mono) : coef (tmul a [([], 1)]) m = coef a m := by
  refine coefI (fun m => ?_) m
  rw [sum_tmul]
  congr 1
  funext n
  show ((1 : Nat) : Int) * _ + 0 = _
  rw [Int.natCast_one, Int.one_mul, Int.add_zero]
  rfl
theorem tmul_nil (a : Terms) : tmul a [] = [] := by
  induction a with
  | nil => rfl
  | cons x a ih => exact ih
theorem val_tmul (φ : Nat → Int) (a b : Terms) : sumL (ev φ) (tmul a b) = sumL (ev φ) a * sumL (ev φ) b := by
  rw [sum_tmul]
  induction a with
  | nil => exact (Int.zero_mul _).symm
  | cons x a ih =>
    obtain ⟨k, d⟩ := x
    rw [sumL, sumL, ih, Int.add_mul]
    congr 1
    have : ∀ b : Terms, sumL (fun n => ev φ (mmul k n)) b = ev φ k * sumL (ev φ) b := by
      intro b
      induction b with
      | nil => exact (Int.mul_zero _).symm
      | cons y b ih2 =>
        obtain ⟨n, c⟩ := y
        rw [sumL, sumL, ih2, ev_mmul, Int.mul_add, ← Int.mul_assoc, Int.mul_comm (c : Int) (ev φ k), Int.mul_assoc, ← Int.mul_assoc (ev φ k), Int.mul_comm (ev φ k) (c : Int), Int.mul_assoc, Int.mul_left_comm]
    rw [this, Int.mul_assoc]
/-! ### canonical -/
structure PCan (lt : Mono → Mono → Prop) (p : Terms) : Prop where
  srt : p.Pairwise fun a b => lt a.1 b.1
  mc : ∀ x ∈ p, MCan x.1
  pos : ∀ x ∈ p, 1 ≤ x.2
theorem coef_none {m : Mono} : ∀ {p : Terms}, (∀ x ∈ p, x.1 ≠ m) → coef p m = 0
  | [], _ => rfl
  | (n, c) :: p, h => by
    rw [coef, if_neg (h (n, c) (List.mem_cons_self ..)), Nat.zero_add]
    exact coef_none fun x hx => h x (List.mem_cons_of_mem _ hx)
theorem coef_at {m : Mono} {c : Nat} : ∀ {p : Terms}, (p.map (·.1)).Nodup → (m, c) ∈ p → coef p m = c
  | (n, d) :: p, nd, h => by
    obtain ⟨n1, n2⟩ := List.nodup_cons.mp (show (n :: p.map (·.1)).Nodup from nd)
    rcases List.mem_cons.mp h with e | h
    · cases e
      rw [coef, if_pos rfl, coef_none (fun x hx (e : x.1 = m) => n1 (by rw [← e]; exact List.mem_map.mpr ⟨x, hx, rfl⟩)), Nat.add_zero]
    · rw [coef, if_neg (fun (z : n = m) => n1 (by rw [z]; exact List.mem_map.mpr ⟨(m, c), h, rfl⟩)), Nat.zero_add, coef_at n2 h]
theorem coef_in {m : Mono} : ∀ {p : Terms}, 1 ≤ coef p m → ∃ c, (m, c) ∈ p
  | (n, d) :: p, h => by
    by_cases e : n = m
    · exact ⟨d, e ▸ List.mem_cons_self ..⟩
    · rw [coef, if_neg e, Nat.zero_add] at h
      obtain ⟨c, hc⟩ := coef_in h
      exact ⟨c, List.mem_cons_of_mem _ hc⟩
theorem PCan.nd {lt : Mono → Mono → Prop} {p : Terms} (as : ∀ a b, lt a b → ¬ lt b a) (h : PCan lt p) : (p.map (·.1)).Nodup :=
  List.pairwise_map.mpr (h.srt.imp fun {a b} l (e : a.1 = b.1) => as _ _ l (by rw [e] at l ⊢; exact l))
theorem can_ext {lt : Mono → Mono → Prop} (as : ∀ a b, lt a b → ¬ lt b a) {p q : Terms} (hp : PCan lt p) (hq : PCan lt q) (h : ∀ m, coef p m = coef q m) : p = q := by
  have go : ∀ {p q : Terms}, PCan lt p → PCan lt q → (∀ m, coef p m = coef q m) → ∀ x, x ∈ p → x ∈ q := fun {p q} hp hq h x hx => by
    obtain ⟨m, c⟩ := x
    have e := coef_at (hp.nd as) hx
    have p1 := hp.pos (m, c) hx
    obtain ⟨d, hd⟩ := coef_in (p := q) (m := m) (by rw [← h, e]; exact p1)
    have e2 := coef_at (hq.nd as) hd
    rw [← h, e] at e2
    rw [e2]
    exact hd
  exact WS.pw_ext (fun a b l => as _ _ l) hp.srt hq.srt fun x => ⟨go hp hq h x, go hq hp (fun m => (h m).symm) x⟩
end PM

set_option Elab.async false
set_option linter.all false
set_option maxRecDepth 100000
set_option maxHeartbeats 4000000
/-! all(.. for ..), any(.. for ..): the element is any expression that the reading serves. -/
namespace EwG
open PySem PySem.Spec PyProof.Rows L2 Ew GxR

/-- the context of a generator expression's frame -/
abbrev gx (X : Cx) (A1 : Around) (s : Shared) (H : Hp) (cenv : Env) (fp : List Addr) (pn : List (Addr × Obj)) : Cx :=
  { X with A := A1, s_0 := s, H_0 := H, env := cenv, outer := X.stack, stack := cenv :: X.stack, ex := fp, fn := fun _ => false, calm := true, pn := pn, xe := fun _ _ => False }

theorem inv_same {X : Cx} {pins : List (Addr × Obj)} {σ : L2.St} {H : Hp} {s s' : Shared} (I : Inv X pins σ H s) (hh : s'.heap = s.heap) (ho : s'.os = s.os) (hb : AllBare s'.gens) : Inv X pins σ H s' := by
  obtain ⟨h', g', d', t', o'⟩ := s'
  have e1 : h' = s.heap := hh
  have e2 : o' = s.os := ho
  subst e1 e2
  exact ⟨I.ok, I.os, hb, I.base, I.loc, I.cell, I.free, I.freeC, I.pin, I.hok, I.len⟩

section
variable {X : Cx} {pins : List (Addr × Obj)} {σ : L2.St} {H : Hp} {s : Shared}
abbrev genv (X : Cx) (scope : Scope) (C : Addr) (code : Value) : Env := genEnv scope (cloFrom X.env.cells scope.names []) C code builtinsNs X.env

theorem gen_start {scope : Scope} {own : List (Str × Nat)} {fp : List Addr} {A1 : Around} {h' : Heap} {obj : Obj} {code : Value} {m : Str → Option Value} {g' : Array GenState} {t' : Nat}
    (I : Inv X pins σ H s) (ok : BlkOk X.N X.env.scope scope own) (hcell : ∀ y ∈ scope.names, y.2 ≠ .cell) (hN : X.N.Nodup) (hfp : ∀ b ∈ fp, FpOk X pins H b ∧ b < s.heap.objs.size)
    (hA : A1.handled = none) (hfr : A1.frames = some (genv X scope s.heap.objs.size code :: X.stack)) (hn' : h'.Ns s.heap.objs.size m) (kp0 : ∀ b o, s.heap.get? b = some o → h'.get? b = some o) (hs : h'.objs.size = s.heap.objs.size + 1)
    (hob : (h'.push obj).get? h'.objs.size = some obj) (hod : ∀ v, obj.data ≠ .cell v) (hg : AllBare g') :
    Inv (gx X A1 s H (genv X scope s.heap.objs.size code) fp [(h'.objs.size, obj)]) [] (wipe σ (own.map (·.2))) H { s with heap := h'.push obj, gens := g', toks := t' } := by
  have hfree : ∀ y ∈ scope.names, y.2 = .free → ∃ c, X.env.cells.lookup y.1 = some c := fun y hy e => by
    rcases ok.free y hy e with k | k
    · exact I.ok.has _ (.inl k)
    · exact I.ok.has _ (.inr k)
  have kp : ∀ b o, s.heap.get? b = some o → (h'.push obj).get? b = some o := fun b o e => Heap.get?_push_of_some _ (kp0 b o e)
  generalize hcenv : genv X scope s.heap.objs.size code = cenv at hfr
  have hL : cenv.locals = s.heap.objs.size := by rw [← hcenv]; rfl
  have hF : cenv.frame = some cenv.locals := by rw [← hcenv]; rfl
  have hcl : cenv.cells = cloFrom X.env.cells scope.names [] := by rw [← hcenv]; rfl
  have hsc : cenv.scope = scope := by rw [← hcenv]; rfl
  have cm : ∀ {y c}, cenv.cells.lookup y = some c → X.env.cells.lookup y = some c ∧ c < s.heap.objs.size := fun {y c} hm => by
    rw [hcl] at hm
    rcases cloFrom_mem (PySem.mem_of_lookup hm) with hm | ⟨h1, rfl⟩
    · cases hm
    · obtain ⟨c, hc⟩ := hfree _ h1 rfl
      rw [hc]
      obtain ⟨w, z⟩ := I.cell _ _ hc
      exact ⟨rfl, z.lt⟩
  have look : ∀ {y}, scope.names.lookup y = some .free → ∃ c, cenv.cells.lookup y = some c ∧ X.env.cells.lookup y = some c := fun {y} hl => by
    have hy : (y, NameKind.free) ∈ scope.names := PySem.mem_of_lookup hl
    obtain ⟨c', e'⟩ := mem_lookup (cloFrom_has (cells := X.env.cells) (acc := []) hy)
    rw [← hcl] at e'
    exact ⟨c', e', (cm e').1⟩
  have okB : (gx X A1 s H cenv fp [(h'.objs.size, obj)]).Ok := by
    refine ⟨I.ok.mod, by show cenv.scope.kind = _; rw [hsc]; exact ok.kind, by show cenv.globals = _; rw [← hcenv]; exact I.ok.glob, by show cenv.builtins = _; rw [← hcenv]; rfl, by show s.heap.objs.size ≤ cenv.locals; rw [hL]; exact Nat.le_refl _,
      fun y z c e1 e2 => I.ok.inj y z c (cm e1).1 (cm e2).1, fun y hy => ?_, fun y c z e => absurd (show false = true from z) Bool.false_ne_true, fun _ => hA, hfr, .inr ⟨rfl, hF⟩, fun b hb => ⟨?_, fun y c e z => ?_⟩, I.bs, Nat.le_trans I.ok.bsz I.sz, fun b o e hb => ?_, fun b hb z => ?_, I.stack, I.stkFree⟩
    · show ∃ c, cenv.cells.lookup y = some c
      rcases hy with hy | hy
      · have hy : cenv.scope.names.lookup y = some .cell := hy
        rw [hsc] at hy
        exact absurd rfl (hcell _ (PySem.mem_of_lookup hy))
      · have hy : cenv.scope.names.lookup y = some .free := hy
        rw [hsc] at hy
        obtain ⟨c, h1, _⟩ := look hy
        exact ⟨c, h1⟩
    · show b ≠ cenv.locals
      rw [hL]; exact Nat.ne_of_lt (hfp b hb).2
    · exact (hfp b hb).1.2.2.2.2.1 y c (cm e).1 z
    · rcases (hfp b hb).1.2.2.2.1 with z | z
      · exact I.ok.noex b o e z
      · exact absurd (Nat.lt_of_lt_of_le (Heap.lt_size e) (Nat.le_trans I.ok.bsz z)) (Nat.lt_irrefl _)
    · rcases List.mem_cons.mp (I.stkSub b z) with z | z
      · exact (hfp b hb).1.2.1 z
      · exact (hfp b hb).1.2.2.1 z
  refine ⟨okB, rfl, hg, Un.kept kp, ⟨m, ?_, fun i y av e1 e2 e3 => ?_⟩, fun y c e => ?_, ?_, fun y c e => ?_, fun p hp => ?_, I.hok.kept kp, by rw [wipe_length]; exact I.len⟩
  · show Heap.Ns _ cenv.locals _
    rw [hL]
    exact hn'.push _
  · obtain ⟨e2, hne⟩ := wipe_some e2
    have hfr : scope.names.lookup y = some .free := by
      have key : ∀ k, scope.names.lookup y = some k → k = .local ∨ k = .cell → False := fun k hk hh => by
        rcases ok.own _ (PySem.mem_of_lookup hk) hh with e' | e'
        · obtain ⟨p, hp, hpy⟩ := List.mem_map.mp e'
          have e3 := ok.ix p hp
          have : p.1 = y := hpy
          rw [this] at e3
          exact hne (List.mem_map.mpr ⟨p, hp, nodup_ix hN e3 e1⟩)
        · exact e' (List.mem_of_getElem? e1)
      have e3 : Vis cenv.scope y := e3
      rw [hsc] at e3
      rcases e3 with e3 | e3 | e3
      · exact (key _ e3 (.inl rfl)).elim
      · exact (key _ e3 (.inr rfl)).elim
      · exact e3
    obtain ⟨m, hn, hl⟩ := I.loc
    have hvis : Vis X.env.scope y := (ok.free _ (PySem.mem_of_lookup hfr) rfl).elim (fun k => .inr (.inl k)) (fun k => .inr (.inr k))
    obtain ⟨w, r, q⟩ := hl i y av e1 e2 hvis
    refine ⟨w, r, .inr ⟨.inr (by show cenv.scope.names.lookup y = _; rw [hsc]; exact hfr), ?_⟩⟩
    obtain ⟨c, h1, h2⟩ := look hfr
    rcases q with ⟨k, _⟩ | ⟨_, c', e', z⟩
    · have k : X.env.scope.names.lookup y = some .local := k
      rcases ok.free _ (PySem.mem_of_lookup hfr) rfl with k' | k' <;> rw [show X.env.scope.names.lookup y = _ from k'] at k <;> cases k
    · rw [h2] at e'; cases e'
      exact ⟨c, h1, z.keeps kp⟩
  · obtain ⟨w, z⟩ := I.cell y c (cm e).1
    exact ⟨w, z.keeps kp⟩
  · show H cenv.locals = none
    rw [hL]; exact I.hok.fresh (Nat.le_refl _)
  · exact I.freeC y c (cm e).1
  · have e : p = (h'.objs.size, obj) := by
      have hp : p ∈ [(h'.objs.size, obj)] ++ [] := hp
      simpa using hp
    subst e
    have le : s.heap.objs.size ≤ h'.objs.size := by omega
    refine ⟨hob, I.hok.fresh le, ?_, fun z => ?_, hod⟩
    · show h'.objs.size ≠ cenv.locals
      rw [hL, hs]; exact Nat.succ_ne_self _
    · rcases List.mem_cons.mp (I.stkSub _ z) with z | z
      · have := I.lt
        rw [← show h'.objs.size = X.env.locals from z] at this
        exact absurd (Nat.lt_of_lt_of_le this le) (Nat.lt_irrefl _)
      · exact I.nofs le z

/-- e: the truth that goes on (all: True, any: False) -/
def GW (J : It) (g : TG) (te : TE) (vs : List Nat) (σ : L2.St) (e : Bool) (Q : VK) (W : Nat → Nat → Hp → Prop) : Prop := ∀ i m H, W i m H →
  (J.stop i H ∧ Q (.bl e) H) ∨ (J.go i H ∧ ∀ x H', J.yld i H x H' → g x (wipe σ vs) H' fun σ2 H2 => wipe σ2 vs = wipe σ vs ∧ te σ2 H2 fun y H3 => ∃ b, y = .bl b ∧ (b = e → ∃ m', m' < m ∧ W (i + 1) m' H3) ∧ (b ≠ e → Q (.bl b) H3))
abbrev GP (Y : Cx) (e : Bool) (Q : VK) : Nat → Shared → Shared → Prop := fun _ _ s => ∃ σ H, Inv Y [] σ H s ∧ Q (.bl e) H
abbrev GRn (Y : Cx) (e : Bool) (Q : VK) : GenEnd := fun n s₀ r s => r = .ok .next ∧ GP Y e Q n s₀ s
def GYp (Y : Cx) (e : Bool) (Q : VK) : Protocol := fun n s₀ v s kap => ∃ b σ H, v = .bool b ∧ Inv Y [] σ H s ∧ (b ≠ e → Q (.bl b) H) ∧ (b = e → ∀ s' : Shared, s'.heap = s.heap → s'.os = s.os → AllBare s'.gens → kap (.send .none) s')

theorem seg_loop {Y : Cx} {A2 : Around} {elt tg iter : Expr} {scope : Scope} {pos : Pos} {it : Addr} {fp : List Addr} {tn : Nat → Heap → Prop} {J : It} {g : TG} {te : TE} {vs : List Nat} {σ : L2.St} {e : Bool} {Q : VK} {W : Nat → Nat → Hp → Prop}
    (hA : Y.A = A2.over (.compLoop (.GeneratorExp elt [⟨tg, iter, [], 0⟩] scope pos) 0 (.ref it) .none Y.env) []) (hex : Y.ex = fp) (hc : Y.calm = true) (hx : Y.xe = fun _ _ => False) (hpn : ∀ b ∈ fp, ∀ p ∈ Y.pn, p.1 ≠ b) (hco : Y.env.scope.isCoroutine = false)
    (T : Turn Y.prog Y.w Y.K tg J fp it tn) (pg : PG Y tg g) (pe : PE Y elt te) (hW : GW J g te vs σ e Q W) :
    ∀ (m i n : Nat) (s₀ s : Shared) (H : Hp), m < n → Inv Y [] (wipe σ vs) H s → tn i s.heap → (∀ b ∈ fp, H b = none) → W i m H →
      Seg (model Y.prog Y.w) A2 (GRn Y e Q) (GYp Y e Q) n s₀ (.compLoop (.GeneratorExp elt [⟨tg, iter, [], 0⟩] scope pos) 0 (.ref it) .none Y.env)
        ((model Y.prog Y.w).den (.compLoop (.GeneratorExp elt [⟨tg, iter, [], 0⟩] scope pos) 0 (.ref it) .none Y.env)) [] s := by
  have stat : ∀ {σ' : L2.St} {H' : Hp} {s' : Shared}, Inv Y [] σ' H' s' → (∀ b ∈ fp, H' b = none) → ∀ b ∈ fp, FpOk Y [] H' b := fun {σ' H' s'} I' hn b hb =>
    have hb' : b ∈ Y.ex := by rw [hex]; exact hb
    ⟨hn b hb, (I'.ok.exf b hb').1, I'.ok.exfs b hb', .inl hb', fun x c e => (I'.ok.exf b hb').2 x c e, fun p hp => hpn b hb p (by simpa using hp)⟩
  intro m
  induction m using Nat.strongRecOn with
  | ind m ih =>
    intro i n s₀ s H hmn I st hn w
    show Seg _ A2 _ _ _ s₀ _ ((compTurn (.GeneratorExp elt [⟨tg, iter, [], 0⟩] scope pos) 0 (.ref it) .none Y.env).onRaise (leaving Y.env)) [] s
    rw [compTurn_gen, Sem.onRaise_eq_wrap]
    refine seg_bind_wrap (wpAny_standAt ?_)
    rcases hW i m H w with ⟨stop, q⟩ | ⟨go, step⟩
    · refine seg_bind_wrap ?_
      rw [← hA]
      refine thnF (T.done Y rfl rfl rfl hc i [] s _ H (fun _ _ => False) I (stat I hn) st stop) fun r s6 ⟨hr, I6⟩ => ?_
      subst hr
      exact seg_end (.ok .next) ⟨rfl, _, H, I6, q⟩
    · refine seg_bind_wrap ?_
      rw [← hA]
      refine thnF (T.item Y rfl rfl rfl hc i [] s _ H (fun _ _ => False) I (stat I hn) st go) fun r s6 ⟨u, hr, h6⟩ => ?_
      subst hr
      refine seg_bind_wrap ?_
      rw [← hA]
      refine thnF h6 fun _ s7 ⟨x, H7, I7, r7, y7, st7, n7⟩ => ?_
      have I7' := I7.pinned (stat I7 n7) (T.obj _ _ st7)
      refine seg_bind_wrap ?_
      rw [← hA]
      have hpg := pg.run _ s7 _ H7 x u _ I7' r7 (step x H7 y7)
      rw [hx] at hpg
      refine thnF hpg fun _ s8 ⟨σ8, H8, I8, hw8, q8⟩ => ?_
      refine seg_bind_wrap ?_
      rw [← hA]
      refine wpAny_tests_nil ?_
      simp only [if_true]
      have hy : ∀ v, yieldOut Y.env v = yieldValue v := fun v => by simp only [yieldOut, hco, Bool.false_eq_true, if_false]
      simp only [hy]
      rw [Sem.bind_eq_wrap', Sem.bind_eq_wrap', Sem.wrap_wrap, Sem.wrap_wrap]
      refine seg_wrap ?_
      rw [← hA]
      have hpe := pe.run _ s8 σ8 H8 _ I8 q8
      rw [hx] at hpe
      refine thnF hpe fun z s9 ⟨y, H9, I9, r9, b, hyb, q9⟩ => ?_
      subst hyb
      have hz : z = .bool b := r9
      subst hz
      have pin' : ∀ c ∈ fp, ∀ o, s7.heap.get? c = some o → s9.heap.get? c = some o ∧ H9 c = none := fun c hb o e =>
        let z := I9.pin (c, o) (List.mem_append_right _ (List.mem_append_right _ (mem_pinsAt hb e)))
        ⟨z.1, z.2.1⟩
      have hl : (wipe σ vs).length = σ8.length := by rw [← hw8, wipe_length]
      have I10 : Inv Y [] (wipe σ vs) H9 s9 := (I9.unpinned (pins := [])).weak hl fun j v e => by
        rw [← hw8] at e
        exact (wipe_some e).1
      obtain ⟨n', rfl⟩ : ∃ n', n = n' + 1 := ⟨n - 1, by omega⟩
      refine seg_at (seg_yield rfl rfl rfl ⟨b, _, H9, rfl, I10, q9.2, fun hb s' hh ho hg => ?_⟩)
      obtain ⟨m', hm, w'⟩ := q9.1 hb
      refine seg_again rfl (ih m' hm (i + 1) n' s' s' H9 (by omega) (inv_same I10 hh ho hg) ?_ (fun c hc => ?_) w')
      · rw [hh]
        exact T.keep _ _ _ st7 fun c hb o e => (pin' c hb o e).1
      · obtain ⟨o, e, _⟩ := T.obj _ _ st7 c hc
        exact (pin' c hc o e).2

theorem seg_start {Y : Cx} {A2 : Around} {elt tg iter : Expr} {scope : Scope} {pos : Pos} {it : Addr} {fp : List Addr} {tn : Nat → Heap → Prop} {J : It} {e : Bool} {Q : VK} {n : Nat} {s₀ s : Shared}
    (T : Turn Y.prog Y.w Y.K tg J fp it tn) (st : tn 0 s.heap)
    (loop : Seg (model Y.prog Y.w) A2 (GRn Y e Q) (GYp Y e Q) n s₀ (.compLoop (.GeneratorExp elt [⟨tg, iter, [], 0⟩] scope pos) 0 (.ref it) .none Y.env)
        ((model Y.prog Y.w).den (.compLoop (.GeneratorExp elt [⟨tg, iter, [], 0⟩] scope pos) 0 (.ref it) .none Y.env)) [] s) :
    Seg (model Y.prog Y.w) A2 (GRn Y e Q) (GYp Y e Q) n s₀ (.compStart (.GeneratorExp elt [⟨tg, iter, [], 0⟩] scope pos) 0 (.ref it) .none Y.env)
        ((model Y.prog Y.w).den (.compStart (.GeneratorExp elt [⟨tg, iter, [], 0⟩] scope pos) 0 (.ref it) .none Y.env)) [] s := by
  show Seg _ A2 _ _ _ s₀ _ ((compStart (.GeneratorExp elt [⟨tg, iter, [], 0⟩] scope pos) 0 (.ref it) .none Y.env).onRaise (leaving Y.env)) [] s
  unfold compStart
  rw [Sem.onRaise_eq_wrap]
  show Seg _ A2 _ _ _ s₀ _ ((ask >>= _).wrap _ _ _ _) [] s
  refine seg_bind_wrap (wpAny_askSetting ?_)
  split
  · exact seg_again rfl loop
  · first
      | exact seg_bind_wrap (wpAny_rule (seg_bind_wrap (wpAny_standAt (seg_bind_wrap (T.self _ 0 s _ _ st (seg_again rfl loop))))))
      | (refine seg_bind_wrap (wpAny_rule ?_); show Seg _ A2 _ _ _ s₀ _ ((standAt iter.pos >>= _).wrap _ _ _ _) [] s; exact seg_bind_wrap (wpAny_standAt (seg_bind_wrap (T.self _ 0 s _ _ st (seg_again rfl loop)))))

theorem fin_heap {Y : Cx} {σ : L2.St} {H : Hp} {s₁ : Shared} {g : Nat} {h' : Heap} (I : Inv Y [] σ H s₁) (k : ∀ b o, s₁.heap.get? b = some o → h'.get? b = some o) : Inv Y [] σ H { s₁.setGen g .finished with heap := h' } :=
  inv_same (s' := { s₁.setGen g .finished with heap := h' }) (Inv.kept (t' := s₁.toks) I k) rfl rfl (allBare_setGen I.bare rfl)

/-- one step of the walk -/
theorem next_gen {Y : Cx} {A : Around} {a : Addr} {g n : Nat} {gs : GenState} {e : Bool} {Q : VK} {s : Shared} {Qo : Option Value → Shared → Prop} {E : Value → Shared → Prop} (hh : A.handled = none) (hroom : A.depth < recursionLimit)
    (hl : s.heap.NoLimit) (hg : s.heap.IsGen a g) (hgs : s.gens[g]? = some gs) (hb : AllBare s.gens)
    (hgo : ∀ s' : Shared, s'.heap = s.heap → s'.os = s.os → AllBare s'.gens → gs.Goes (model Y.prog Y.w) A.in1 (GRn Y e Q) (GYp Y e Q) n (.send .none) s')
    (hE : ∀ σ H s', Inv Y [] σ H s' → Q (.bl e) H → Qo none s')
    (hO : ∀ b σ H s', b ≠ e → Inv Y [] σ H s' → Q (.bl b) H → Qo (some (.bool b)) s')
    (hN : ∀ n' gs' σ H s', n = n' + 1 → Inv Y [] σ H s' → s'.gens[g]? = some gs' → (∀ s'' : Shared, s''.heap = s'.heap → s''.os = s'.os → AllBare s''.gens → gs'.Goes (model Y.prog Y.w) A.in1 (GRn Y e Q) (GYp Y e Q) n' (.send .none) s'') → Qo (some (.bool e)) s') :
    wpAny (model Y.prog Y.w) A (pyNext (.ref a)) Qo E s := by
  have hgl : g < s.gens.size := by
    rcases Nat.lt_or_ge g s.gens.size with h | h
    · exact h
    · rw [Array.getElem?_eq_none h] at hgs; cases hgs
  refine GenW.wpAny_gsz (Nat.le_refl s.gens.size) ?_
  refine wpAny_pyNext_genexpQ (P := GP Y e Q) hh hl hroom hg hgs (hgo _ rfl rfl (allBare_setGen hb rfl)) (fun v s₁ gs' hbr hY => ?_) (fun s₁ hP h' hk => ?_)
  · obtain ⟨b, σ, H, rfl, I, qne, qe⟩ := hY
    intro hsz
    have hsz1 : g < s₁.gens.size := by
      rw [GenW.setGen_size] at hsz
      omega
    have I' : Inv Y [] σ H (s₁.setGen g gs') := inv_same (s' := s₁.setGen g gs') I rfl rfl (allBare_setGen I.bare hbr)
    by_cases hbe : b = e
    · subst hbe
      have k := qe rfl
      cases n with
      | zero => exact False.elim (k s₁ rfl rfl I.bare)
      | succ n' =>
        refine hN n' gs' σ H _ rfl I' (setGen_self (gs := s₁.gens[g]) (Array.getElem?_eq_getElem hsz1)) fun s'' h1 h2 h3 => ?_
        exact k s'' h1 h2 h3
    · exact hO b σ H _ hbe I' (qne hbe)
  · obtain ⟨σ, H, I, q⟩ := hP
    intro _
    exact hE σ H _ (fin_heap I hk) q

theorem drv_all {Y : Cx} {A : Around} {a : Addr} {g : Nat} {Q : VK} {R : Result → Shared → Prop} {og : Obj} (hpn : (a, og) ∈ Y.pn) (hig : ∀ h : Heap, h.get? a = some og → h.IsGen a g)
    (hh : A.in1.handled = none) (hroom : A.in1.depth < recursionLimit) (hR : ∀ b σ H s', Inv Y [] σ H s' → Q (.bl b) H → R (.ok (.ret (.bool b))) s') :
    ∀ (n : Nat) (gs : GenState) (σ : L2.St) (H : Hp) (s : Shared), Inv Y [] σ H s → s.gens[g]? = some gs →
      (∀ s' : Shared, s'.heap = s.heap → s'.os = s.os → AllBare s'.gens → gs.Goes (model Y.prog Y.w) A.in1.in1 (GRn Y true Q) (GYp Y true Q) n (.send .none) s') →
      codeAny (model Y.prog Y.w) A (.builtin "all.loop" ⟨[.ref a], []⟩) R s := by
  intro n
  induction n with
  | zero =>
    intro gs σ H s I hgs hgo
    refine codeAny_builtin F.entry_all_loop ?_
    rw [Around.under_plainId F.plain_all_loop _]
    show wpAny _ A.in1 (pyNext (.ref a) >>= _) _ _ s
    refine wpAny_bind (next_gen hh hroom I.nolimit (hig _ (I.pin _ (List.mem_append_left _ hpn)).1) hgs I.bare hgo (fun σ H s' I' q => ?_) (fun b σ H s' hb I' q => ?_) fun n' gs' σ H s' hn I' h1 h2 => absurd hn (Nat.succ_ne_zero n').symm)
    · exact wpAny_bind (wpAny_rule (wpAny_pure (hR true σ H s' I' q)))
    · have hb : b = false := by cases b <;> simp_all
      subst hb
      refine wpAny_bind (wpAny_holding (wpAny_truthy_bool ?_))
      refine wpAny_bind (wpAny_letGo ?_)
      simp only [Bool.false_eq_true, if_false]
      exact wpAny_bind (wpAny_rule (wpAny_pure (hR false σ H s' I' q)))
  | succ n ih =>
    intro gs σ H s I hgs hgo
    refine codeAny_builtin F.entry_all_loop ?_
    rw [Around.under_plainId F.plain_all_loop _]
    show wpAny _ A.in1 (pyNext (.ref a) >>= _) _ _ s
    refine wpAny_bind (next_gen hh hroom I.nolimit (hig _ (I.pin _ (List.mem_append_left _ hpn)).1) hgs I.bare hgo (fun σ H s' I' q => ?_) (fun b σ H s' hb I' q => ?_) fun n' gs' σ H s' hn I' h1 h2 => ?_)
    · exact wpAny_bind (wpAny_rule (wpAny_pure (hR true σ H s' I' q)))
    · have hb : b = false := by cases b <;> simp_all
      subst hb
      refine wpAny_bind (wpAny_holding (wpAny_truthy_bool ?_))
      refine wpAny_bind (wpAny_letGo ?_)
      simp only [Bool.false_eq_true, if_false]
      exact wpAny_bind (wpAny_rule (wpAny_pure (hR false σ H s' I' q)))
    · cases hn
      refine wpAny_bind (wpAny_holding (wpAny_truthy_bool ?_))
      refine wpAny_bind (wpAny_letGo ?_)
      simp only [if_true]
      exact wpAny_pure ⟨plainId_quiet F.plain_all_loop _, ih gs' σ H s' I' h1 h2⟩
theorem drv_any {Y : Cx} {A : Around} {a : Addr} {g : Nat} {Q : VK} {R : Result → Shared → Prop} {og : Obj} (hpn : (a, og) ∈ Y.pn) (hig : ∀ h : Heap, h.get? a = some og → h.IsGen a g)
    (hh : A.in1.handled = none) (hroom : A.in1.depth < recursionLimit) (hR : ∀ b σ H s', Inv Y [] σ H s' → Q (.bl b) H → R (.ok (.ret (.bool b))) s') :
    ∀ (n : Nat) (gs : GenState) (σ : L2.St) (H : Hp) (s : Shared), Inv Y [] σ H s → s.gens[g]? = some gs →
      (∀ s' : Shared, s'.heap = s.heap → s'.os = s.os → AllBare s'.gens → gs.Goes (model Y.prog Y.w) A.in1.in1 (GRn Y false Q) (GYp Y false Q) n (.send .none) s') →
      codeAny (model Y.prog Y.w) A (.builtin "any.loop" ⟨[.ref a], []⟩) R s := by
  intro n
  induction n with
  | zero =>
    intro gs σ H s I hgs hgo
    refine codeAny_builtin F.entry_any_loop ?_
    rw [Around.under_plainId F.plain_any_loop _]
    show wpAny _ A.in1 (pyNext (.ref a) >>= _) _ _ s
    refine wpAny_bind (next_gen hh hroom I.nolimit (hig _ (I.pin _ (List.mem_append_left _ hpn)).1) hgs I.bare hgo (fun σ H s' I' q => ?_) (fun b σ H s' hb I' q => ?_) fun n' gs' σ H s' hn I' h1 h2 => absurd hn (Nat.succ_ne_zero n').symm)
    · exact wpAny_bind (wpAny_rule (wpAny_pure (hR false σ H s' I' q)))
    · have hb : b = true := by cases b <;> simp_all
      subst hb
      refine wpAny_bind (wpAny_holding (wpAny_truthy_bool ?_))
      refine wpAny_bind (wpAny_letGo ?_)
      simp only [if_true]
      exact wpAny_bind (wpAny_rule (wpAny_pure (hR true σ H s' I' q)))
  | succ n ih =>
    intro gs σ H s I hgs hgo
    refine codeAny_builtin F.entry_any_loop ?_
    rw [Around.under_plainId F.plain_any_loop _]
    show wpAny _ A.in1 (pyNext (.ref a) >>= _) _ _ s
    refine wpAny_bind (next_gen hh hroom I.nolimit (hig _ (I.pin _ (List.mem_append_left _ hpn)).1) hgs I.bare hgo (fun σ H s' I' q => ?_) (fun b σ H s' hb I' q => ?_) fun n' gs' σ H s' hn I' h1 h2 => ?_)
    · exact wpAny_bind (wpAny_rule (wpAny_pure (hR false σ H s' I' q)))
    · have hb : b = true := by cases b <;> simp_all
      subst hb
      refine wpAny_bind (wpAny_holding (wpAny_truthy_bool ?_))
      refine wpAny_bind (wpAny_letGo ?_)
      simp only [if_true]
      exact wpAny_bind (wpAny_rule (wpAny_pure (hR true σ H s' I' q)))
    · cases hn
      refine wpAny_bind (wpAny_holding (wpAny_truthy_bool ?_))
      refine wpAny_bind (wpAny_letGo ?_)
      simp only [Bool.false_eq_true, if_false]
      exact wpAny_pure ⟨plainId_quiet F.plain_any_loop _, ih gs' σ H s' I' h1 h2⟩

/-- the around of the generator's body, of a consumer that is called at A -/
abbrev gA (A : Around) (elt tg iter : Expr) (scope : Scope) (pos : Pos) (it : Addr) (cenv : Env) : Around := A.in1.in1.over (.compLoop (.GeneratorExp elt [⟨tg, iter, [], 0⟩] scope pos) 0 (.ref it) .none cenv) []
theorem gA_room {k : Nat} {A : Around} {elt tg iter : Expr} {scope : Scope} {pos : Pos} {it : Addr} {cenv : Env} (r : Room (k + 1) A) : Room k (gA A elt tg iter scope pos it cenv) :=
  ⟨r.hd, by have := r.dp; show A.depth + 0 + 1 + 3 * k + 5 < _; omega, by have := r.un; show A.units + 1 + 1 + 0 + 3 + 16 * k + 200 < _; omega⟩
theorem gA_frames {A : Around} {elt tg iter : Expr} {scope : Scope} {pos : Pos} {it : Addr} {cenv : Env} {l : List Env} (h : A.frames = some l) : (gA A elt tg iter scope pos it cenv).frames = some (cenv :: l) := by
  show pushEnvs [cenv] (pushEnvs [] A.frames) = _
  rw [h]
  rfl

/-- the generator at a, that has not begun -/
def Ready2 (X : Cx) (pins : List (Addr × Obj)) (σ : L2.St) (e : Bool) (Q : VK) (a : Addr) (s5 : Shared) : Prop :=
  ∃ (A1 : Around) (s4 : Shared) (H4 : Hp) (cenv : Env) (fp : List Addr) (pn : List (Addr × Obj)) (og : Obj) (g : Nat) (gs : GenState) (σ' : L2.St) (H5 : Hp) (n : Nat),
    (a, og) ∈ pn ∧ (∀ h : Heap, h.get? a = some og → h.IsGen a g) ∧ Inv (gx X A1 s4 H4 cenv fp pn) [] σ' H5 s5 ∧ s5.gens[g]? = some gs ∧
    (∀ s' : Shared, s'.heap = s5.heap → s'.os = s5.os → AllBare s'.gens → gs.Goes (model X.prog X.w) X.A.in1.in1 (GRn (gx X A1 s4 H4 cenv fp pn) e Q) (GYp (gx X A1 s4 H4 cenv fp pn) e Q) n (.send .none) s') ∧
    ∀ σ' H' s', Inv (gx X A1 s4 H4 cenv fp pn) [] σ' H' s' → Inv X pins σ H' s'

/-- all(.., any(..: the reading; e: the truth that goes on -/
def tGen (e : Bool) (P : Addr) (wi : TI) (g : TG) (te : TE) (vs : List Nat) : TE := fun σ H Q => wi σ H fun J H1 => TabG H1 P ∧ ∀ H2, Tabbed P H1 H2 → ∃ W : Nat → Nat → Hp → Prop, (∃ m, W 0 m H2) ∧ GW J g te vs σ e Q W

theorem gen_make {c P : Addr} {elt tg iter : Expr} {gpos : Pos} {scope : Scope} {own : List (Str × Nat)} {wi : TI} {g : TG} {te : TE} {k : Nat} {e : Bool} {Q : VK} {Q' : Value → Shared → Prop}
    (hr : Room (k + 1) X.A) (TB : TabB X.base X.mg c P) (hcode : X.env.code = .ref c) (hN : X.N.Nodup) (ok : BlkOk X.N X.env.scope scope own) (hcell : ∀ y ∈ scope.names, y.2 ≠ .cell) (hco : scope.isCoroutine = false) (h0 : scope.names.lookup (".0" : Str) = some NameKind.local)
    (hi : PI X tg iter wi)
    (hpg : ∀ (A1 : Around) (s : Shared) (H : Hp) (C : Addr) (code : Value) (fp : List Addr) (pn : List (Addr × Obj)), PG (gx X A1 s H (genv X scope C code) fp pn) tg g)
    (hpe : ∀ (A1 : Around) (s : Shared) (H : Hp) (C : Addr) (code : Value) (fp : List Addr) (pn : List (Addr × Obj)), Room k A1 → PE (gx X A1 s H (genv X scope C code) fp pn) elt te)
    (hs : ∀ v, genFold iter X.env v = pure v) (I : Inv X pins σ H s) (h : tGen e P wi g te (own.map (·.2)) σ H Q)
    (hQ : ∀ a s5, Ready2 X pins σ e Q a s5 → Q' (.ref a) s5) :
    wpAny (model X.prog X.w) X.A (eval (.GeneratorExp elt [⟨tg, iter, [], 0⟩] scope gpos) X.env) Q' X.xe s := by
  have hfree : ∀ y ∈ scope.names, y.2 = .free → ∃ c, X.env.cells.lookup y.1 = some c := fun y hy e => by
    rcases ok.free y hy e with k | k
    · exact I.ok.has _ (.inl k)
    · exact I.ok.has _ (.inr k)
  refine wpAny_GeneratorExp_make hco (closure_ok hfree) hcell h0 ok.kind (by have := hr.dp; omega) ?_ hs
  refine thn (hi.run pins s σ H _ I h) fun xv s1 hx => thn hx fun itv s2 h2 => ?_
  obtain ⟨it, fp, tn, J, H2, e2, I2, T, st2, f2, ⟨ps, hP, ht⟩, q⟩ := h2
  subst e2
  have hPs : s2.heap.get? P = some { cls := .none, data := .fields ps } := I2.hok P _ hP
  have cd : PySem.W.CodeHd s2.heap c P := TB.code.keeps fun b u e => I2.bk b u e
  have sz : ∀ b ∈ fp, b < s2.heap.objs.size := fun b hb => by
    obtain ⟨o, e, _⟩ := T.obj _ _ st2 b hb
    exact Heap.lt_size e
  have cont : ∀ (code : Value) (h3 : Heap) (tk : Nat) (ps' : Array Value), Heap.ExtBut P s2.heap h3 → s2.heap.objs.size ≤ h3.objs.size → h3.get? P = some { cls := .none, data := .fields ps' } → (∃ more, ps' = ps ++ more) → TriplesOk ps'.toList →
      wpAny (model X.prog X.w) X.A (builtinsFor X.env.globals X.env.builtins) (fun bi s₄ =>
        ∀ h', h'.Ns s₄.heap.objs.size (fun y => if y = ".0" then some (.ref it) else none) → Heap.SameBut s₄.heap.objs.size (s₄.heap.push { cls := .type "frame", data := .dict #[] }) h' →
          Q' (.ref h'.objs.size) { s₄ with
            gens := s₄.gens.push (.fresh (.compStart (.GeneratorExp elt [⟨tg, iter, [], 0⟩] scope gpos) 0 (.ref it) .none (genEnv scope (cloFrom X.env.cells scope.names []) s₄.heap.objs.size code bi X.env))),
            toks := s₄.toks + 1 + 1 + 1,
            heap := h'.push { cls := .type "generator", data := .fields #[.int s₄.gens.size 0, .str "<genexpr>" (s₄.toks + 1), .str (X.env.qual ++ "<genexpr>") (s₄.toks + 1 + 1)] } }) X.xe { s2 with heap := h3, toks := tk } := by
    intro code h3 tk ps' hx hsz hP3 hmore ht3
    obtain ⟨bm, ob, e1, e2, e3, e4, e5, e6, e7, e8⟩ := TB.bm
    have keep3 : ∀ b u, b ≠ P → s2.heap.get? b = some u → h3.get? b = some u := fun b u hb e => hx b u hb e
    refine wpAny_builtinsFor (m := X.mg) (by rw [I2.ok.glob]; exact (I2.mod.glob.keeps I2.bk).extBut hx TB.gP) e1 e2 (keep3 _ _ e4 (I2.bk _ _ e5)) e6 e7 e8 ?_
    obtain ⟨more, em⟩ := hmore
    have I4 : Inv X pins σ (upd H2 P (.tbl (ps ++ more))) { s2 with heap := h3, toks := tk } :=
      inv_tab (more := more) (h' := h3) (g' := s2.gens) (d' := s2.drawn) (t' := tk) I2 hP keep3 (by rw [← em]; exact hP3) I2.bare
    have nP : ∀ b ∈ fp, b ≠ P := fun b hb z => by
      have := (f2 b hb).1
      rw [z, hP] at this
      cases this
    have f4 : ∀ b ∈ fp, FpOk X pins (upd H2 P (.tbl (ps ++ more))) b ∧ b < h3.objs.size := fun b hb =>
      ⟨⟨by rw [upd_ne (nP b hb)]; exact (f2 b hb).1, (f2 b hb).2⟩, Nat.lt_of_lt_of_le (sz b hb) hsz⟩
    have st4 : tn 0 h3 := T.keep _ _ _ st2 fun b hb o e => keep3 b o (nP b hb) e
    obtain ⟨W, ⟨m0, w0⟩, gw⟩ := q _ ⟨⟨ps ++ more, upd_same, by rw [← em]; exact ht3⟩, fun b hb => upd_ne hb⟩
    intro h' hn' hs'
    have hn' : h'.Ns h3.objs.size (fun y => if y = ".0" then some (.ref it) else none) := hn'
    have hs' : Heap.SameBut h3.objs.size (h3.push { cls := .type "frame", data := .dict #[] }) h' := hs'
    have hsz' : h'.objs.size = h3.objs.size + 1 := by rw [hs'.1, Heap.size_push]
    have keep' : ∀ b o, h3.get? b = some o → h'.get? b = some o := fun b o e => hs'.extBut b o (Nat.ne_of_lt (Heap.lt_size e)) (Heap.get?_push_of_some _ e)
    generalize hcenv : genv X scope h3.objs.size code = cenv
    have I5 := gen_start (A1 := gA X.A elt tg iter scope gpos it cenv) (code := code) (t' := tk + 1 + 1 + 1)
      (obj := { cls := .type "generator", data := .fields #[.int s2.gens.size 0, .str "<genexpr>" (tk + 1), .str (X.env.qual ++ "<genexpr>") (tk + 1 + 1)] })
      (g' := s2.gens.push (.fresh (.compStart (.GeneratorExp elt [⟨tg, iter, [], 0⟩] scope gpos) 0 (.ref it) .none cenv)))
      I4 ok hcell hN f4 hr.hd (by rw [hcenv]; exact gA_frames I.ok.frames) hn' keep' hsz' (Heap.get?_push_size _ rfl) (fun v z => by cases z) (I2.bare.push rfl)
    have pg := hpg (gA X.A elt tg iter scope gpos it cenv) { s2 with heap := h3, toks := tk } (upd H2 P (.tbl (ps ++ more))) h3.objs.size code fp [(h'.objs.size, { cls := .type "generator", data := .fields #[.int s2.gens.size 0, .str "<genexpr>" (tk + 1), .str (X.env.qual ++ "<genexpr>") (tk + 1 + 1)] })]
    have pe := hpe (gA X.A elt tg iter scope gpos it cenv) { s2 with heap := h3, toks := tk } (upd H2 P (.tbl (ps ++ more))) h3.objs.size code fp [(h'.objs.size, { cls := .type "generator", data := .fields #[.int s2.gens.size 0, .str "<genexpr>" (tk + 1), .str (X.env.qual ++ "<genexpr>") (tk + 1 + 1)] })] (gA_room hr)
    have I5 : Inv (gx X (gA X.A elt tg iter scope gpos it cenv) { s2 with heap := h3, toks := tk } (upd H2 P (.tbl (ps ++ more))) (genv X scope h3.objs.size code) fp [(h'.objs.size, _)]) [] (wipe σ (own.map (·.2))) _ _ := I5
    rw [hcenv] at I5 pg pe
    have hcoE : cenv.scope.isCoroutine = false := by rw [← hcenv]; exact hco
    generalize hog : ({ cls := .type "generator", data := .fields #[.int s2.gens.size 0, .str "<genexpr>" (tk + 1), .str (X.env.qual ++ "<genexpr>") (tk + 1 + 1)] } : Obj) = og at I5 pg pe
    have hig : ∀ h : Heap, h.get? h'.objs.size = some og → h.IsGen h'.objs.size s2.gens.size := fun hh e => ⟨og, _, _, e, by rw [← hog], by rw [← hog], by rw [← hog]⟩
    have mI5 : ∀ b ∈ fp, (upd H2 P (.tbl (ps ++ more))) b = none := fun b hb => (f4 b hb).1.1
    have back : ∀ σ' H' s', Inv (gx X (gA X.A elt tg iter scope gpos it cenv) { s2 with heap := h3, toks := tk } (upd H2 P (.tbl (ps ++ more))) cenv fp [(h'.objs.size, og)]) [] σ' H' s' → Inv X pins σ H' s' := fun σ' H' s' I6 =>
      I4.call' (ch := fp) I6.os I6.base I6.hok I6.bare fun b hb => ⟨(f4 b hb).1.2.2.2.1, (f4 b hb).1.2.1, (f4 b hb).1.2.2.2.2.1, (f4 b hb).1.2.2.2.2.2⟩
    have goes : ∀ s' : Shared, s'.heap = h'.push og → s'.os = s2.os → AllBare s'.gens →
        Seg (model X.prog X.w) X.A.in1.in1 (GRn (gx X (gA X.A elt tg iter scope gpos it cenv) { s2 with heap := h3, toks := tk } (upd H2 P (.tbl (ps ++ more))) cenv fp [(h'.objs.size, og)]) e Q)
          (GYp (gx X (gA X.A elt tg iter scope gpos it cenv) { s2 with heap := h3, toks := tk } (upd H2 P (.tbl (ps ++ more))) cenv fp [(h'.objs.size, og)]) e Q) (m0 + 1) s'
          (.compStart (.GeneratorExp elt [⟨tg, iter, [], 0⟩] scope gpos) 0 (.ref it) .none cenv) ((model X.prog X.w).den (.compStart (.GeneratorExp elt [⟨tg, iter, [], 0⟩] scope gpos) 0 (.ref it) .none cenv)) [] s' := fun s' hh ho hg => by
      have I6 := inv_same (s' := s') I5 hh ho hg
      have st6 : tn 0 s'.heap := by
        rw [hh]
        exact T.keep _ _ _ st4 fun b _ o e => Heap.get?_push_of_some _ (keep' b o e)
      refine seg_start (Y := gx X (gA X.A elt tg iter scope gpos it cenv) { s2 with heap := h3, toks := tk } (upd H2 P (.tbl (ps ++ more))) cenv fp [(h'.objs.size, og)]) T st6
        (seg_loop rfl rfl rfl rfl (fun b hb p hp z => ?_) hcoE T pg pe gw m0 0 (m0 + 1) s' s' _ (Nat.lt_succ_self _) I6 st6 mI5 w0)
      have hp : p ∈ [(h'.objs.size, og)] := hp
      rw [List.mem_singleton.mp hp] at z
      have z : h'.objs.size = b := z
      have h9 := (f4 b hb).2
      rw [← z, hsz'] at h9
      exact absurd h9 (Nat.not_lt.mpr (Nat.le_succ _))
    have ee : genEnv scope (cloFrom X.env.cells scope.names []) h3.objs.size code builtinsNs X.env = cenv := hcenv
    have fin := hQ h'.objs.size { s2 with heap := h'.push og, gens := s2.gens.push (.fresh (.compStart (.GeneratorExp elt [⟨tg, iter, [], 0⟩] scope gpos) 0 (.ref it) .none cenv)), toks := tk + 1 + 1 + 1 }
      ⟨gA X.A elt tg iter scope gpos it cenv, { s2 with heap := h3, toks := tk }, upd H2 P (.tbl (ps ++ more)), cenv, fp, [(h'.objs.size, og)], og, s2.gens.size, .fresh (.compStart (.GeneratorExp elt [⟨tg, iter, [], 0⟩] scope gpos) 0 (.ref it) .none cenv), wipe σ (own.map (·.2)), upd H2 P (.tbl (ps ++ more)), m0 + 1,
        List.mem_singleton.mpr rfl, hig, I5, Array.getElem?_push_size .., fun s' hh ho hg => ⟨rfl, goes s' hh ho hg⟩, back⟩
    rw [← ee] at fin
    exact fin
  cases hf : codeAmong gpos ps.toList with
  | none =>
    refine ⟨I2.nolimit, ?_⟩
    refine wpAny_genexprCodeX hcode (cd.code hPs ht) (cd.tab hPs) hf fun c' h' tk hx hge hlt hco' _ htab' _ => ?_
    obtain ⟨o1, vs, f1, tf, fl, tg, inF, tx, tt, op, _, _, _, _, _, _, _, _, _, htr, _⟩ := hco'
    exact cont _ h' tk _ hx (Nat.le_trans hge (Nat.le_of_lt hlt)) htab'.2 ⟨_, rfl⟩ htr
  | some cv =>
    refine ⟨I2.nolimit, ?_⟩
    refine wpAny_genexprCode_hit hcode (cd.code hPs ht) hf ?_
    exact cont cv s2.heap s2.toks ps (Heap.ExtBut.refl _ _) (Nat.le_refl _) hPs ⟨#[], by simp⟩ ht

theorem pe_all {c P : Addr} {elt tg iter : Expr} {p pos gpos : Pos} {scope : Scope} {own : List (Str × Nat)} {wi : TI} {g : TG} {te : TE} {k : Nat}
    (hr : Room (k + 1) X.A) (hg : Gl X "all") (hm : X.mg "all" = none) (TB : TabB X.base X.mg c P) (hcode : X.env.code = .ref c) (hN : X.N.Nodup) (ok : BlkOk X.N X.env.scope scope own) (hcell : ∀ y ∈ scope.names, y.2 ≠ .cell) (hco : scope.isCoroutine = false) (h0 : scope.names.lookup (".0" : Str) = some NameKind.local)
    (hi : PI X tg iter wi)
    (hpg : ∀ (A1 : Around) (s : Shared) (H : Hp) (C : Addr) (code : Value) (fp : List Addr) (pn : List (Addr × Obj)), PG (gx X A1 s H (genv X scope C code) fp pn) tg g)
    (hpe : ∀ (A1 : Around) (s : Shared) (H : Hp) (C : Addr) (code : Value) (fp : List Addr) (pn : List (Addr × Obj)), Room k A1 → PE (gx X A1 s H (genv X scope C code) fp pn) elt te)
    (hs : ∀ v, genFold iter X.env v = pure v := by intro _; rfl)
    (he : starEach [.GeneratorExp elt [⟨tg, iter, [], 0⟩] scope gpos] X.env = (false, eval (.GeneratorExp elt [⟨tg, iter, [], 0⟩] scope gpos) X.env) :: starEach [] X.env := by rfl) :
    PE X (.Call (.Name "all" p) [.GeneratorExp elt [⟨tg, iter, [], 0⟩] scope gpos] [] pos) (tGen true P wi g te (own.map (·.2))) := by
  refine ⟨fun pins s σ H Q I h => ?_⟩
  refine wpAny_Call_Name_kw (ld_blt I hg hm boot_all ?_)
  refine PyProof.Rows.callWith_builtin1 ?_ he (by rfl)
  rw [he]
  show wpAny _ _ (spliced ((false, eval (.GeneratorExp elt [⟨tg, iter, [], 0⟩] scope gpos) X.env) :: backTo pos (starEach [] X.env))) _ _ s
  refine Calls.spliced_cons (gen_make (e := true) (Q := Q) hr TB hcode hN ok hcell hco h0 hi hpg hpe hs I h fun a s5 hG => ?_)
  obtain ⟨A1, s4, H4, cenv, fp, pn, og, gi, gs, σ', H5, n, hpn, hig, I5, hgs, hgo, back⟩ := hG
  refine Calls.spliced_nil ?_
  refine call_function_tree F.kind_all F.plain_all F.entry_all (F.args_all1 _) ?_
  unfold Builtin.«all»
  refine wpAny_bind (m := oneArg "all" _) (wpAny_pure ?_)
  refine wpAny_bind (wpAny_pyIter_gen (hig _ (I5.pin _ (List.mem_append_left _ hpn)).1) ?_)
  refine wpAny_pure ⟨plainId_quiet F.plain_all_loop _, drv_all (Y := gx X A1 s4 H4 cenv fp pn) (A := X.A) hpn hig hr.hd (by have := hr.dp; show X.A.depth + 0 < _; omega) (fun b σ6 H6 s6 I6 q => ?_) n gs σ' H5 s5 I5 hgs hgo⟩
  exact ⟨.bl b, H6, back σ6 H6 s6 I6, rfl, q⟩
theorem pe_any {c P : Addr} {elt tg iter : Expr} {p pos gpos : Pos} {scope : Scope} {own : List (Str × Nat)} {wi : TI} {g : TG} {te : TE} {k : Nat}
    (hr : Room (k + 1) X.A) (hg : Gl X "any") (hm : X.mg "any" = none) (TB : TabB X.base X.mg c P) (hcode : X.env.code = .ref c) (hN : X.N.Nodup) (ok : BlkOk X.N X.env.scope scope own) (hcell : ∀ y ∈ scope.names, y.2 ≠ .cell) (hco : scope.isCoroutine = false) (h0 : scope.names.lookup (".0" : Str) = some NameKind.local)
    (hi : PI X tg iter wi)
    (hpg : ∀ (A1 : Around) (s : Shared) (H : Hp) (C : Addr) (code : Value) (fp : List Addr) (pn : List (Addr × Obj)), PG (gx X A1 s H (genv X scope C code) fp pn) tg g)
    (hpe : ∀ (A1 : Around) (s : Shared) (H : Hp) (C : Addr) (code : Value) (fp : List Addr) (pn : List (Addr × Obj)), Room k A1 → PE (gx X A1 s H (genv X scope C code) fp pn) elt te)
    (hs : ∀ v, genFold iter X.env v = pure v := by intro _; rfl)
    (he : starEach [.GeneratorExp elt [⟨tg, iter, [], 0⟩] scope gpos] X.env = (false, eval (.GeneratorExp elt [⟨tg, iter, [], 0⟩] scope gpos) X.env) :: starEach [] X.env := by rfl) :
    PE X (.Call (.Name "any" p) [.GeneratorExp elt [⟨tg, iter, [], 0⟩] scope gpos] [] pos) (tGen false P wi g te (own.map (·.2))) := by
  refine ⟨fun pins s σ H Q I h => ?_⟩
  refine wpAny_Call_Name_kw (ld_blt I hg hm boot_any ?_)
  refine PyProof.Rows.callWith_builtin1 ?_ he (by rfl)
  rw [he]
  show wpAny _ _ (spliced ((false, eval (.GeneratorExp elt [⟨tg, iter, [], 0⟩] scope gpos) X.env) :: backTo pos (starEach [] X.env))) _ _ s
  refine Calls.spliced_cons (gen_make (e := false) (Q := Q) hr TB hcode hN ok hcell hco h0 hi hpg hpe hs I h fun a s5 hG => ?_)
  obtain ⟨A1, s4, H4, cenv, fp, pn, og, gi, gs, σ', H5, n, hpn, hig, I5, hgs, hgo, back⟩ := hG
  refine Calls.spliced_nil ?_
  refine call_function_tree F.kind_any F.plain_any F.entry_any (F.args_any1 _) ?_
  unfold Builtin.«any»
  refine wpAny_bind (m := oneArg "any" _) (wpAny_pure ?_)
  refine wpAny_bind (wpAny_pyIter_gen (hig _ (I5.pin _ (List.mem_append_left _ hpn)).1) ?_)
  refine wpAny_pure ⟨plainId_quiet F.plain_any_loop _, drv_any (Y := gx X A1 s4 H4 cenv fp pn) (A := X.A) hpn hig hr.hd (by have := hr.dp; show X.A.depth + 0 < _; omega) (fun b σ6 H6 s6 I6 q => ?_) n gs σ' H5 s5 I5 hgs hgo⟩
  exact ⟨.bl b, H6, back σ6 H6 s6 I6, rfl, q⟩
end
end EwG

set_option Elab.async false
set_option linter.all false
set_option maxRecDepth 100000
set_option maxHeartbeats 4000000
/-! all(.. for .. for ..): two clauses. -/
namespace EwG
open PySem PySem.Spec PyProof.Rows L2 Ew GxR
open Sem (wp)

theorem eval_GE2 (elt t0 i0 t1 i1 : Expr) (scope : Scope) (pos : Pos) (env : Env) (hco : scope.isCoroutine = false) :
    eval (.GeneratorExp elt [⟨t0, i0, [], 0⟩, ⟨t1, i1, [], 0⟩] scope pos) env = (do
      let x ← eval i0 env
      standAt i0.pos
      let x ← genFold i0 env x
      let it ← holding [x] (pyIter x)
      enterFrame
      let cl ← closureFor scope env
      let code ← genexprCode env pos (env.qual ++ "<genexpr>") scope
      let bi ← builtinsFor env.globals env.builtins
      let cenv ← newFunctionEnv scope env.globals cl [(".0", it)] (env.qual ++ "<genexpr>.") none code none bi
      newGenerator (.compStart (.GeneratorExp elt [⟨t0, i0, [], 0⟩, ⟨t1, i1, [], 0⟩] scope pos) 0 it .none cenv) "<genexpr>" (env.qual ++ "<genexpr>")) := by
  rw [arm_eval_GeneratorExp]
  simp only [hco, Bool.false_eq_true, if_false]
  cases i0 <;> rfl

theorem make_GE2 {M : Model} {A : Around} {E : Value → Shared → Prop} {s : Shared} {env : Env} {elt t0 i0 t1 i1 : Expr} {scope : Scope} {cl : List (Str × Addr)} {pos : Pos} {Q : Value → Shared → Prop}
    (hco : scope.isCoroutine = false) (hclos : closureFor scope env = pure cl) (hcell : ∀ y ∈ scope.names, y.2 ≠ .cell) (h0 : scope.names.lookup (".0" : Str) = some NameKind.local) (hkind : scope.kind = .function)
    (hroom : A.depth < recursionLimit)
    (h : wpAny M A (eval i0 env) (fun xv s₁ => wpAny M A (pyIter xv) (fun it s₂ => s₂.heap.NoLimit ∧
      wpAny M A (genexprCode env pos (env.qual ++ "<genexpr>") scope) (fun code s₃ => wpAny M A (builtinsFor env.globals env.builtins) (fun bi s₄ =>
        ∀ h', h'.Ns s₄.heap.objs.size (fun y => if y = ".0" then some it else none) → Heap.SameBut s₄.heap.objs.size (s₄.heap.push { cls := .type "frame", data := .dict #[] }) h' →
          Q (.ref h'.objs.size) { s₄ with
            gens := s₄.gens.push (.fresh (.compStart (.GeneratorExp elt [⟨t0, i0, [], 0⟩, ⟨t1, i1, [], 0⟩] scope pos) 0 it .none (genEnv scope cl s₄.heap.objs.size code bi env))),
            toks := s₄.toks + 1 + 1 + 1,
            heap := h'.push { cls := .type "generator", data := .fields #[.int s₄.gens.size 0, .str "<genexpr>" (s₄.toks + 1), .str (env.qual ++ "<genexpr>") (s₄.toks + 1 + 1)] } }) E s₃) E s₂) E s₁) E s)
    (hs : ∀ x, genFold i0 env x = pure x) :
    wpAny M A (eval (.GeneratorExp elt [⟨t0, i0, [], 0⟩, ⟨t1, i1, [], 0⟩] scope pos) env) Q E s := by
  rw [eval_GE2 _ _ _ _ _ _ _ _ hco, hclos]
  refine wpAny_bind (wpAny_mono h (fun xv s₁ h₁ => ?_) fun _ _ e => e)
  refine wpAny_bind (wpAny_standAt ?_)
  refine wpAny_bind (wpAny_of_eq (hs xv) ?_)
  refine wpAny_bind (wpAny_holding (wpAny_mono h₁ (fun it s₂ h₂ => ?_) fun _ _ e => e))
  refine wpAny_bind (wpAny_enterFrame h₂.1 hroom ?_)
  refine wpAny_bind (wpAny_pure ?_)
  refine wpAny_bind (wpAny_mono h₂.2 (fun code s₃ h₃ => ?_) fun _ _ e => e)
  refine wpAny_bind (wpAny_mono h₃ (fun bi s₄ h₄ => ?_) fun _ _ e => e)
  have hbinds : ∀ y ∈ ([((".0" : Str), it)] : List (Str × Value)), scope.names.lookup y.1 = some NameKind.local := by
    intro y hy
    rcases List.mem_cons.mp hy with rfl | hy
    · exact h0
    · cases hy
  refine wpAny_bind (wpAny_newFunctionEnv hcell hbinds (fun h' hn' hs' => ?_) hkind)
  have e : (fun y : Str => ([((".0" : Str), it)] : List (Str × Value)).reverse.lookup y) = fun y : Str => if y = (".0" : Str) then some it else none := by
    funext y
    by_cases hy : y = ".0"
    · subst hy; simp
    · have : (y == (".0" : Str)) = false := by simpa using hy
      simp [List.lookup, this, hy]
  rw [e] at hn'
  simp only [newGenerator, newFields]
  refine wpAny_bind (wpAny_newGen (wpAny_bind (wpAny_mkText (wpAny_bind (wpAny_mkText (wpAny_newObj_type ?_ (by size_fits)))))))
  exact h₄ h' hn' hs'

theorem turn2_out (elt t0 i0 t1 i1 : Expr) (scope : Scope) (pos : Pos) (it acc : Value) (env : Env) :
    compTurn (.GeneratorExp elt [⟨t0, i0, [], 0⟩, ⟨t1, i1, [], 0⟩] scope pos) 0 it acc env = (do
      standAt i0.pos
      match ← pyNext it with
      | none => pure (.done .next)
      | some v =>
        letOwnedTupleGo t0 it v
        assign t0 env v
        let mut ok := true
        for c in ([] : List Expr) do
          if ok then ok ← isTrue c env (eval c env)
        if ok then
          let x ← eval i1 env
          standAt i1.pos
          let x ← foldedSetIterable i1 env x
          let _ ← runOwn (.compStart (.GeneratorExp elt [⟨t0, i0, [], 0⟩, ⟨t1, i1, [], 0⟩] scope pos) 1 (← holding [x] (pyIter x)) acc env) env
        again (.compLoop (.GeneratorExp elt [⟨t0, i0, [], 0⟩, ⟨t1, i1, [], 0⟩] scope pos) 0 it acc env)) := by rfl
theorem turn2_in (elt t0 i0 t1 i1 : Expr) (scope : Scope) (pos : Pos) (it acc : Value) (env : Env) :
    compTurn (.GeneratorExp elt [⟨t0, i0, [], 0⟩, ⟨t1, i1, [], 0⟩] scope pos) 1 it acc env = (do
      standAt i1.pos
      match ← pyNext it with
      | none => pure (.done .next)
      | some v =>
        letOwnedTupleGo t1 it v
        assign t1 env v
        let mut ok := true
        for c in ([] : List Expr) do
          if ok then ok ← isTrue c env (eval c env)
        if ok then
          (do let v ← eval elt env; standAt elt.pos; let _ ← yieldOut env v)
        again (.compLoop (.GeneratorExp elt [⟨t0, i0, [], 0⟩, ⟨t1, i1, [], 0⟩] scope pos) 1 it acc env)) := by rfl

def GW2 (J : It) (g : TG) (wi1 : TI) (g1 : TG) (te : TE) (vs vs1 : List Nat) (σ : L2.St) (e : Bool) (Q : VK) (W : Nat → Nat → Hp → Prop) : Prop := ∀ i m H, W i m H →
  (J.stop i H ∧ Q (.bl e) H) ∨ (J.go i H ∧ ∀ x H', J.yld i H x H' → g x (wipe σ vs) H' fun σ2 H2 => wipe σ2 vs = wipe σ vs ∧ wi1 σ2 H2 fun J1 H3 => ∃ W1 : Nat → Nat → Hp → Prop, (∃ k, k < m ∧ W1 0 k H3) ∧ ∀ j k H, W1 j k H →
    (J1.stop j H ∧ ∃ m', m' ≤ k ∧ m' < m ∧ W (i + 1) m' H) ∨ (J1.go j H ∧ ∀ x H', J1.yld j H x H' → g1 x (wipe σ2 vs1) H' fun σ3 H5 => wipe σ3 vs1 = wipe σ2 vs1 ∧ te σ3 H5 fun y H6 => ∃ b, y = .bl b ∧ (b = e → ∃ k', k' < k ∧ W1 (j + 1) k' H6) ∧ (b ≠ e → Q (.bl b) H6)))

section
variable {X : Cx} {pins : List (Addr × Obj)} {σ : L2.St} {H : Hp} {s : Shared}
theorem seg_in {Y : Cx} {A2 : Around} {elt t0 i0 t1 i1 : Expr} {scope : Scope} {pos : Pos} {it1 : Addr} {fp1 : List Addr} {tn1 : Nat → Heap → Prop} {J1 : It} {g1 : TG} {te : TE} {vs1 : List Nat} {σ8 : L2.St} {e : Bool} {Q : VK} {W1 : Nat → Nat → Hp → Prop} {Nx : Nat → Hp → Prop} {fs : List Frame} {pins : List (Addr × Obj)}
    (hA : Y.A = A2.over (.compLoop (.GeneratorExp elt [⟨t0, i0, [], 0⟩, ⟨t1, i1, [], 0⟩] scope pos) 1 (.ref it1) .none Y.env) fs) (hsp : splitAtGen fs = none) (hgd : fs.any Frame.guarded = false) (hc : Y.calm = true) (hx : Y.xe = fun _ _ => False) (hco : Y.env.scope.isCoroutine = false)
    (T1 : Turn Y.prog Y.w Y.K t1 J1 fp1 it1 tn1) (stat1 : ∀ {H' : Hp}, (∀ b ∈ fp1, H' b = none) → ∀ b ∈ fp1, FpOk Y pins H' b) (pg1 : PG Y t1 g1) (pe : PE Y elt te)
    (hW1 : ∀ j k H, W1 j k H → (J1.stop j H ∧ Nx k H) ∨ (J1.go j H ∧ ∀ x H', J1.yld j H x H' → g1 x (wipe σ8 vs1) H' fun σ3 H5 => wipe σ3 vs1 = wipe σ8 vs1 ∧ te σ3 H5 fun y H6 => ∃ b, y = .bl b ∧ (b = e → ∃ k', k' < k ∧ W1 (j + 1) k' H6) ∧ (b ≠ e → Q (.bl b) H6)))
    (leave : ∀ (k n : Nat) (s₀ s : Shared) (H : Hp), k < n → Inv Y pins (wipe σ8 vs1) H s → Nx k H → Seg (model Y.prog Y.w) A2 (GRn Y e Q) (GYp Y e Q) n s₀ (.compLoop (.GeneratorExp elt [⟨t0, i0, [], 0⟩, ⟨t1, i1, [], 0⟩] scope pos) 1 (.ref it1) .none Y.env) (leafOf (.ok .next)) fs s) :
    ∀ (k j n : Nat) (s₀ s : Shared) (H : Hp), k < n → Inv Y pins (wipe σ8 vs1) H s → tn1 j s.heap → (∀ b ∈ fp1, H b = none) → W1 j k H →
      Seg (model Y.prog Y.w) A2 (GRn Y e Q) (GYp Y e Q) n s₀ (.compLoop (.GeneratorExp elt [⟨t0, i0, [], 0⟩, ⟨t1, i1, [], 0⟩] scope pos) 1 (.ref it1) .none Y.env)
        ((model Y.prog Y.w).den (.compLoop (.GeneratorExp elt [⟨t0, i0, [], 0⟩, ⟨t1, i1, [], 0⟩] scope pos) 1 (.ref it1) .none Y.env)) fs s := by
  intro k
  induction k using Nat.strongRecOn with
  | ind k ih =>
    intro j n s₀ s H hkn I st hn w
    show Seg _ A2 _ _ _ s₀ _ ((compTurn (.GeneratorExp elt [⟨t0, i0, [], 0⟩, ⟨t1, i1, [], 0⟩] scope pos) 1 (.ref it1) .none Y.env).onRaise (fun x => do noteFrame x Y.env; theTreesLotGoes x)) fs s
    rw [turn2_in, Sem.onRaise_eq_wrap]
    refine seg_bind_wrap (wpAny_standAt ?_)
    rcases hW1 j k H w with ⟨stop, q⟩ | ⟨go, step⟩
    · refine seg_bind_wrap ?_
      rw [← hA]
      refine thnF (T1.done Y rfl rfl rfl hc j pins s _ H (fun _ _ => False) I (stat1 hn) st stop) fun r s6 ⟨hr, I6⟩ => ?_
      subst hr
      exact leave k n s₀ s6 H hkn I6 q
    · refine seg_bind_wrap ?_
      rw [← hA]
      refine thnF (T1.item Y rfl rfl rfl hc j pins s _ H (fun _ _ => False) I (stat1 hn) st go) fun r s6 ⟨u, hr, h6⟩ => ?_
      subst hr
      refine seg_bind_wrap ?_
      rw [← hA]
      refine thnF h6 fun _ s7 ⟨x, H7, I7, r7, y7, st7, n7⟩ => ?_
      have I7' := I7.pinned (stat1 n7) (T1.obj _ _ st7)
      refine seg_bind_wrap ?_
      rw [← hA]
      have hpg := pg1.run _ s7 _ H7 x u _ I7' r7 (step x H7 y7)
      rw [hx] at hpg
      refine thnF hpg fun _ s8 ⟨σ15, H8, I8, hw8, q8⟩ => ?_
      refine seg_bind_wrap ?_
      rw [← hA]
      refine wpAny_tests_nil ?_
      simp only [if_true]
      have hy : ∀ v, yieldOut Y.env v = yieldValue v := fun v => by simp only [yieldOut, hco, Bool.false_eq_true, if_false]
      simp only [hy]
      rw [Sem.bind_eq_wrap', Sem.bind_eq_wrap', Sem.wrap_wrap, Sem.wrap_wrap]
      refine seg_wrap ?_
      rw [← hA]
      have hpe := pe.run _ s8 σ15 H8 _ I8 q8
      rw [hx] at hpe
      refine thnF hpe fun z s9 ⟨y, H9, I9, r9, b, hyb, q9⟩ => ?_
      subst hyb
      have hz : z = .bool b := r9
      subst hz
      have pin' : ∀ c ∈ fp1, ∀ o, s7.heap.get? c = some o → s9.heap.get? c = some o ∧ H9 c = none := fun c hb o e =>
        let z := I9.pin (c, o) (List.mem_append_right _ (List.mem_append_right _ (mem_pinsAt hb e)))
        ⟨z.1, z.2.1⟩
      have hl : (wipe σ8 vs1).length = σ15.length := by rw [← hw8, wipe_length]
      have I10 : Inv Y pins (wipe σ8 vs1) H9 s9 := (I9.unpinned (pins := pins)).weak hl fun j v e => by
        rw [← hw8] at e
        exact (wipe_some e).1
      obtain ⟨n', rfl⟩ : ∃ n', n = n' + 1 := ⟨n - 1, by omega⟩
      refine seg_at (seg_yield hsp rfl hgd ⟨b, _, H9, rfl, I10.pins_of (pins' := []) (fun p hp => absurd hp (by simp)), q9.2, fun hb s' hh ho hg => ?_⟩)
      obtain ⟨k', hk, w'⟩ := q9.1 hb
      refine seg_again rfl (ih k' hk (j + 1) n' s' s' H9 (by omega) (inv_same I10 hh ho hg) ?_ (fun c hc => ?_) w')
      · rw [hh]
        exact T1.keep _ _ _ st7 fun c hb o e => (pin' c hb o e).1
      · obtain ⟨o, e, _⟩ := T1.obj _ _ st7 c hc
        exact (pin' c hc o e).2

theorem seg_loop2 {Y : Cx} {A2 : Around} {elt t0 i0 t1 i1 : Expr} {scope : Scope} {pos : Pos} {it : Addr} {fp : List Addr} {tn : Nat → Heap → Prop} {J : It} {g g1 : TG} {wi1 : TI} {te : TE} {vs vs1 : List Nat} {σ : L2.St} {e : Bool} {Q : VK} {W : Nat → Nat → Hp → Prop}
    (hA : Y.A = A2.over (.compLoop (.GeneratorExp elt [⟨t0, i0, [], 0⟩, ⟨t1, i1, [], 0⟩] scope pos) 0 (.ref it) .none Y.env) []) (hex : Y.ex = fp) (hc : Y.calm = true) (hx : Y.xe = fun _ _ => False) (hpn : ∀ b ∈ fp, ∀ p ∈ Y.pn, p.1 ≠ b) (hco : Y.env.scope.isCoroutine = false)
    (T : Turn Y.prog Y.w Y.K t0 J fp it tn) (pg : PG Y t0 g) (pi1 : PI Y t1 i1 wi1) (pg1 : PG Y t1 g1) (pe : PE Y elt te) (hs1 : ∀ x, foldedSetIterable i1 Y.env x = pure x) (hv : ∀ i ∈ vs1, i ∈ vs) (hW : GW2 J g wi1 g1 te vs vs1 σ e Q W) :
    ∀ (m i n : Nat) (s₀ s : Shared) (H : Hp), m < n → Inv Y [] (wipe σ vs) H s → tn i s.heap → (∀ b ∈ fp, H b = none) → W i m H →
      Seg (model Y.prog Y.w) A2 (GRn Y e Q) (GYp Y e Q) n s₀ (.compLoop (.GeneratorExp elt [⟨t0, i0, [], 0⟩, ⟨t1, i1, [], 0⟩] scope pos) 0 (.ref it) .none Y.env)
        ((model Y.prog Y.w).den (.compLoop (.GeneratorExp elt [⟨t0, i0, [], 0⟩, ⟨t1, i1, [], 0⟩] scope pos) 0 (.ref it) .none Y.env)) [] s := by
  have stat : ∀ {σ' : L2.St} {H' : Hp} {s' : Shared}, Inv Y [] σ' H' s' → (∀ b ∈ fp, H' b = none) → ∀ b ∈ fp, FpOk Y [] H' b := fun {σ' H' s'} I' hn b hb =>
    have hb' : b ∈ Y.ex := by rw [hex]; exact hb
    ⟨hn b hb, (I'.ok.exf b hb').1, I'.ok.exfs b hb', .inl hb', fun x c e => (I'.ok.exf b hb').2 x c e, fun p hp => hpn b hb p (by simpa using hp)⟩
  intro m
  induction m using Nat.strongRecOn with
  | ind m ih =>
    intro i n s₀ s H hmn I st hn w
    show Seg _ A2 _ _ _ s₀ _ ((compTurn (.GeneratorExp elt [⟨t0, i0, [], 0⟩, ⟨t1, i1, [], 0⟩] scope pos) 0 (.ref it) .none Y.env).onRaise (leaving Y.env)) [] s
    rw [turn2_out, Sem.onRaise_eq_wrap]
    refine seg_bind_wrap (wpAny_standAt ?_)
    rcases hW i m H w with ⟨stop, q⟩ | ⟨go, step⟩
    · refine seg_bind_wrap ?_
      rw [← hA]
      refine thnF (T.done Y rfl rfl rfl hc i [] s _ H (fun _ _ => False) I (stat I hn) st stop) fun r s6 ⟨hr, I6⟩ => ?_
      subst hr
      exact seg_end (.ok .next) ⟨rfl, _, H, I6, q⟩
    · refine seg_bind_wrap ?_
      rw [← hA]
      refine thnF (T.item Y rfl rfl rfl hc i [] s _ H (fun _ _ => False) I (stat I hn) st go) fun r s6 ⟨u, hr, h6⟩ => ?_
      subst hr
      refine seg_bind_wrap ?_
      rw [← hA]
      refine thnF h6 fun _ s7 ⟨x, H7, I7, r7, y7, st7, n7⟩ => ?_
      have I7' := I7.pinned (stat I7 n7) (T.obj _ _ st7)
      refine seg_bind_wrap ?_
      rw [← hA]
      have hpg := pg.run _ s7 _ H7 x u _ I7' r7 (step x H7 y7)
      rw [hx] at hpg
      refine thnF hpg fun _ s8 ⟨σ8, H8, I8, hw8, q8⟩ => ?_
      refine seg_bind_wrap ?_
      rw [← hA]
      refine wpAny_tests_nil ?_
      simp only [if_true]
      refine seg_bind_wrap ?_
      rw [← hA]
      have hpi := pi1.run _ s8 σ8 H8 _ I8 q8
      rw [hx] at hpi
      refine thnF hpi fun xv s9 h9 => ?_
      refine seg_bind_wrap (wpAny_standAt ?_)
      refine seg_bind_wrap (wpAny_of_eq (hs1 xv) ?_)
      refine seg_bind_wrap ?_
      rw [← hA]
      refine wpAny_holding (thnF h9 fun itv s11 h11 => ?_)
      obtain ⟨it1, fp1, tn1, J1, H11, e1, I11, T1, st11, f11, W1, ⟨k1, hk1, w1⟩, turn1⟩ := h11
      subst e1
      rw [Sem.bind_eq_wrap', Sem.wrap_wrap]
      unfold runOwn
      rw [Sem.onRaise_eq_wrap, Sem.wrap_wrap]
      have pin' : ∀ {σ' : L2.St} {H' : Hp} {s' : Shared}, Inv Y ([] ++ pinsAt fp s7.heap) σ' H' s' → ∀ c ∈ fp, ∀ o, s7.heap.get? c = some o → s'.heap.get? c = some o ∧ H' c = none := fun I' c hb o e =>
        let z := I'.pin (c, o) (List.mem_append_right _ (List.mem_append_right _ (mem_pinsAt hb e)))
        ⟨z.1, z.2.1⟩
      have hl : (wipe σ vs).length = (wipe σ8 vs1).length := by rw [← hw8, wipe_length, wipe_length]
      refine seg_call fun pc => ?_
      have hA1 : Y.A = A2.over (.compLoop (.GeneratorExp elt [⟨t0, i0, [], 0⟩, ⟨t1, i1, [], 0⟩] scope pos) 0 (.ref it) .none Y.env) [] := hA
      generalize hK : (fun r : Result => _) = kk
      have loop1 := seg_in (e := e) (Q := Q) (Nx := fun k H => ∃ m', m' ≤ k ∧ m' < m ∧ W (i + 1) m' H) (A2 := A2) (t0 := t0) (i0 := i0) (i1 := i1) (scope := scope) (pos := pos) (fs := [.ret kk none (id false) (id []) (.compLoop (.GeneratorExp elt [⟨t0, i0, [], 0⟩, ⟨t1, i1, [], 0⟩] scope pos) 0 (.ref it) .none Y.env) pc []])
        (hA.trans (GenW.over_loop (c := .compLoop (.GeneratorExp elt [⟨t0, i0, [], 0⟩, ⟨t1, i1, [], 0⟩] scope pos) 0 (.ref it) .none Y.env) rfl rfl).symm) rfl rfl hc hx hco T1 (fun hn b hb => ⟨hn b hb, (f11 b hb).2⟩) pg1 pe turn1 (fun k n s₀ s' H' hkn I' ⟨m', hm1, hm2, w'⟩ => ?_) k1 0 n s₀ s11 H11 (by omega) (I11.weak (wipe_length _ _) fun j v e => (wipe_some e).1) st11 (fun b hb => (f11 b hb).1) w1
      · show Seg _ A2 _ _ _ s₀ _ ((compStart (.GeneratorExp elt [⟨t0, i0, [], 0⟩, ⟨t1, i1, [], 0⟩] scope pos) 1 (.ref it1) .none Y.env).onRaise (fun x => do noteFrame x Y.env; standAt theWindowsPlace)) _ s11
        unfold compStart
        rw [Sem.onRaise_eq_wrap]
        show Seg _ A2 _ _ _ s₀ _ ((ask >>= _).wrap _ _ _ _) _ s11
        refine seg_bind_wrap (wpAny_askSetting ?_)
        split
        · exact seg_again rfl loop1
        · first
            | exact seg_bind_wrap (wpAny_rule (seg_bind_wrap (wpAny_standAt (seg_bind_wrap (T1.self _ 0 s11 _ _ st11 (seg_again rfl loop1))))))
            | (refine seg_bind_wrap (wpAny_rule ?_); show Seg _ A2 _ _ _ s₀ _ ((standAt i1.pos >>= _).wrap _ _ _ _) _ s11; exact seg_bind_wrap (wpAny_standAt (seg_bind_wrap (T1.self _ 0 s11 _ _ st11 (seg_again rfl loop1)))))
      · subst hK
        refine seg_leaf (.ok .next) ?_
        refine seg_again rfl (ih m' hm2 (i + 1) n s₀ s' H' (by omega) ((I'.unpinned (pins := [])).weak hl fun j v e => ?_) (T.keep _ _ _ st7 fun c hb o e => (pin' I' c hb o e).1) (fun c hc => ?_) w')
        · rw [← hw8] at e
          obtain ⟨e1, e2⟩ := wipe_some e
          rw [wipe_out fun z => e2 (hv j z)]
          exact e1
        · obtain ⟨o, e, _⟩ := T.obj _ _ st7 c hc
          exact (pin' I' c hc o e).2
theorem seg_start2 {Y : Cx} {A2 : Around} {elt t0 i0 t1 i1 : Expr} {scope : Scope} {pos : Pos} {it : Addr} {fp : List Addr} {tn : Nat → Heap → Prop} {J : It} {e : Bool} {Q : VK} {n : Nat} {s₀ s : Shared}
    (T : Turn Y.prog Y.w Y.K t0 J fp it tn) (st : tn 0 s.heap)
    (loop : Seg (model Y.prog Y.w) A2 (GRn Y e Q) (GYp Y e Q) n s₀ (.compLoop (.GeneratorExp elt [⟨t0, i0, [], 0⟩, ⟨t1, i1, [], 0⟩] scope pos) 0 (.ref it) .none Y.env)
        ((model Y.prog Y.w).den (.compLoop (.GeneratorExp elt [⟨t0, i0, [], 0⟩, ⟨t1, i1, [], 0⟩] scope pos) 0 (.ref it) .none Y.env)) [] s) :
    Seg (model Y.prog Y.w) A2 (GRn Y e Q) (GYp Y e Q) n s₀ (.compStart (.GeneratorExp elt [⟨t0, i0, [], 0⟩, ⟨t1, i1, [], 0⟩] scope pos) 0 (.ref it) .none Y.env)
        ((model Y.prog Y.w).den (.compStart (.GeneratorExp elt [⟨t0, i0, [], 0⟩, ⟨t1, i1, [], 0⟩] scope pos) 0 (.ref it) .none Y.env)) [] s := by
  show Seg _ A2 _ _ _ s₀ _ ((compStart (.GeneratorExp elt [⟨t0, i0, [], 0⟩, ⟨t1, i1, [], 0⟩] scope pos) 0 (.ref it) .none Y.env).onRaise (leaving Y.env)) [] s
  unfold compStart
  rw [Sem.onRaise_eq_wrap]
  show Seg _ A2 _ _ _ s₀ _ ((ask >>= _).wrap _ _ _ _) [] s
  refine seg_bind_wrap (wpAny_askSetting ?_)
  split
  · exact seg_again rfl loop
  · first
      | exact seg_bind_wrap (wpAny_rule (seg_bind_wrap (wpAny_standAt (seg_bind_wrap (T.self _ 0 s _ _ st (seg_again rfl loop))))))
      | (refine seg_bind_wrap (wpAny_rule ?_); show Seg _ A2 _ _ _ s₀ _ ((standAt i0.pos >>= _).wrap _ _ _ _) [] s; exact seg_bind_wrap (wpAny_standAt (seg_bind_wrap (T.self _ 0 s _ _ st (seg_again rfl loop)))))

/-- the around of the generator's body, of a consumer that is called at A -/
abbrev gB (A : Around) (elt t0 i0 t1 i1 : Expr) (scope : Scope) (pos : Pos) (it : Addr) (cenv : Env) : Around := A.in1.in1.over (.compLoop (.GeneratorExp elt [⟨t0, i0, [], 0⟩, ⟨t1, i1, [], 0⟩] scope pos) 0 (.ref it) .none cenv) []
theorem gB_room {k : Nat} {A : Around} {elt t0 i0 t1 i1 : Expr} {scope : Scope} {pos : Pos} {it : Addr} {cenv : Env} (r : Room (k + 1) A) : Room k (gB A elt t0 i0 t1 i1 scope pos it cenv) :=
  ⟨r.hd, by have := r.dp; show A.depth + 0 + 1 + 3 * k + 5 < _; omega, by have := r.un; show A.units + 1 + 1 + 0 + 3 + 16 * k + 200 < _; omega⟩
theorem gB_frames {A : Around} {elt t0 i0 t1 i1 : Expr} {scope : Scope} {pos : Pos} {it : Addr} {cenv : Env} {l : List Env} (h : A.frames = some l) : (gB A elt t0 i0 t1 i1 scope pos it cenv).frames = some (cenv :: l) := by
  show pushEnvs [cenv] (pushEnvs [] A.frames) = _
  rw [h]
  rfl

def tGen2 (e : Bool) (P : Addr) (wi : TI) (g : TG) (wi1 : TI) (g1 : TG) (te : TE) (vs vs1 : List Nat) : TE := fun σ H Q => wi σ H fun J H1 => TabG H1 P ∧ ∀ H2, Tabbed P H1 H2 → ∃ W : Nat → Nat → Hp → Prop, (∃ m, W 0 m H2) ∧ GW2 J g wi1 g1 te vs vs1 σ e Q W

theorem gen_make2 {c P : Addr} {elt t0 i0 t1 i1 : Expr} {gpos : Pos} {scope : Scope} {own : List (Str × Nat)} {wi wi1 : TI} {g g1 : TG} {vs1 : List Nat} {te : TE} {k : Nat} {e : Bool} {Q : VK} {Q' : Value → Shared → Prop}
    (hr : Room (k + 1) X.A) (TB : TabB X.base X.mg c P) (hcode : X.env.code = .ref c) (hN : X.N.Nodup) (ok : BlkOk X.N X.env.scope scope own) (hcell : ∀ y ∈ scope.names, y.2 ≠ .cell) (hco : scope.isCoroutine = false) (h0 : scope.names.lookup (".0" : Str) = some NameKind.local)
    (hi : PI X t0 i0 wi) (hv : ∀ i ∈ vs1, i ∈ own.map (·.2))
    (hpg : ∀ (A1 : Around) (s : Shared) (H : Hp) (C : Addr) (code : Value) (fp : List Addr) (pn : List (Addr × Obj)), PG (gx X A1 s H (genv X scope C code) fp pn) t0 g)
    (hpi1 : ∀ (A1 : Around) (s : Shared) (H : Hp) (C : Addr) (code : Value) (fp : List Addr) (pn : List (Addr × Obj)), Room k A1 → PI (gx X A1 s H (genv X scope C code) fp pn) t1 i1 wi1)
    (hpg1 : ∀ (A1 : Around) (s : Shared) (H : Hp) (C : Addr) (code : Value) (fp : List Addr) (pn : List (Addr × Obj)), PG (gx X A1 s H (genv X scope C code) fp pn) t1 g1)
    (hpe : ∀ (A1 : Around) (s : Shared) (H : Hp) (C : Addr) (code : Value) (fp : List Addr) (pn : List (Addr × Obj)), Room k A1 → PE (gx X A1 s H (genv X scope C code) fp pn) elt te)
    (hs : ∀ v, genFold i0 X.env v = pure v) (hs1 : ∀ env x, foldedSetIterable i1 env x = pure x) (I : Inv X pins σ H s) (h : tGen2 e P wi g wi1 g1 te (own.map (·.2)) vs1 σ H Q)
    (hQ : ∀ a s5, Ready2 X pins σ e Q a s5 → Q' (.ref a) s5) :
    wpAny (model X.prog X.w) X.A (eval (.GeneratorExp elt [⟨t0, i0, [], 0⟩, ⟨t1, i1, [], 0⟩] scope gpos) X.env) Q' X.xe s := by
  have hfree : ∀ y ∈ scope.names, y.2 = .free → ∃ c, X.env.cells.lookup y.1 = some c := fun y hy e => by
    rcases ok.free y hy e with k | k
    · exact I.ok.has _ (.inl k)
    · exact I.ok.has _ (.inr k)
  refine make_GE2 hco (closure_ok hfree) hcell h0 ok.kind (by have := hr.dp; omega) ?_ hs
  refine thn (hi.run pins s σ H _ I h) fun xv s1 hx => thn hx fun itv s2 h2 => ?_
  obtain ⟨it, fp, tn, J, H2, e2, I2, T, st2, f2, ⟨ps, hP, ht⟩, q⟩ := h2
  subst e2
  have hPs : s2.heap.get? P = some { cls := .none, data := .fields ps } := I2.hok P _ hP
  have cd : PySem.W.CodeHd s2.heap c P := TB.code.keeps fun b u e => I2.bk b u e
  have sz : ∀ b ∈ fp, b < s2.heap.objs.size := fun b hb => by
    obtain ⟨o, e, _⟩ := T.obj _ _ st2 b hb
    exact Heap.lt_size e
  have cont : ∀ (code : Value) (h3 : Heap) (tk : Nat) (ps' : Array Value), Heap.ExtBut P s2.heap h3 → s2.heap.objs.size ≤ h3.objs.size → h3.get? P = some { cls := .none, data := .fields ps' } → (∃ more, ps' = ps ++ more) → TriplesOk ps'.toList →
      wpAny (model X.prog X.w) X.A (builtinsFor X.env.globals X.env.builtins) (fun bi s₄ =>
        ∀ h', h'.Ns s₄.heap.objs.size (fun y => if y = ".0" then some (.ref it) else none) → Heap.SameBut s₄.heap.objs.size (s₄.heap.push { cls := .type "frame", data := .dict #[] }) h' →
          Q' (.ref h'.objs.size) { s₄ with
            gens := s₄.gens.push (.fresh (.compStart (.GeneratorExp elt [⟨t0, i0, [], 0⟩, ⟨t1, i1, [], 0⟩] scope gpos) 0 (.ref it) .none (genEnv scope (cloFrom X.env.cells scope.names []) s₄.heap.objs.size code bi X.env))),
            toks := s₄.toks + 1 + 1 + 1,
            heap := h'.push { cls := .type "generator", data := .fields #[.int s₄.gens.size 0, .str "<genexpr>" (s₄.toks + 1), .str (X.env.qual ++ "<genexpr>") (s₄.toks + 1 + 1)] } }) X.xe { s2 with heap := h3, toks := tk } := by
    intro code h3 tk ps' hx hsz hP3 hmore ht3
    obtain ⟨bm, ob, e1, e2, e3, e4, e5, e6, e7, e8⟩ := TB.bm
    have keep3 : ∀ b u, b ≠ P → s2.heap.get? b = some u → h3.get? b = some u := fun b u hb e => hx b u hb e
    refine wpAny_builtinsFor (m := X.mg) (by rw [I2.ok.glob]; exact (I2.mod.glob.keeps I2.bk).extBut hx TB.gP) e1 e2 (keep3 _ _ e4 (I2.bk _ _ e5)) e6 e7 e8 ?_
    obtain ⟨more, em⟩ := hmore
    have I4 : Inv X pins σ (upd H2 P (.tbl (ps ++ more))) { s2 with heap := h3, toks := tk } :=
      inv_tab (more := more) (h' := h3) (g' := s2.gens) (d' := s2.drawn) (t' := tk) I2 hP keep3 (by rw [← em]; exact hP3) I2.bare
    have nP : ∀ b ∈ fp, b ≠ P := fun b hb z => by
      have := (f2 b hb).1
      rw [z, hP] at this
      cases this
    have f4 : ∀ b ∈ fp, FpOk X pins (upd H2 P (.tbl (ps ++ more))) b ∧ b < h3.objs.size := fun b hb =>
      ⟨⟨by rw [upd_ne (nP b hb)]; exact (f2 b hb).1, (f2 b hb).2⟩, Nat.lt_of_lt_of_le (sz b hb) hsz⟩
    have st4 : tn 0 h3 := T.keep _ _ _ st2 fun b hb o e => keep3 b o (nP b hb) e
    obtain ⟨W, ⟨m0, w0⟩, gw⟩ := q _ ⟨⟨ps ++ more, upd_same, by rw [← em]; exact ht3⟩, fun b hb => upd_ne hb⟩
    intro h' hn' hs'
    have hn' : h'.Ns h3.objs.size (fun y => if y = ".0" then some (.ref it) else none) := hn'
    have hs' : Heap.SameBut h3.objs.size (h3.push { cls := .type "frame", data := .dict #[] }) h' := hs'
    have hsz' : h'.objs.size = h3.objs.size + 1 := by rw [hs'.1, Heap.size_push]
    have keep' : ∀ b o, h3.get? b = some o → h'.get? b = some o := fun b o e => hs'.extBut b o (Nat.ne_of_lt (Heap.lt_size e)) (Heap.get?_push_of_some _ e)
    generalize hcenv : genv X scope h3.objs.size code = cenv
    have I5 := gen_start (A1 := gB X.A elt t0 i0 t1 i1 scope gpos it cenv) (code := code) (t' := tk + 1 + 1 + 1)
      (obj := { cls := .type "generator", data := .fields #[.int s2.gens.size 0, .str "<genexpr>" (tk + 1), .str (X.env.qual ++ "<genexpr>") (tk + 1 + 1)] })
      (g' := s2.gens.push (.fresh (.compStart (.GeneratorExp elt [⟨t0, i0, [], 0⟩, ⟨t1, i1, [], 0⟩] scope gpos) 0 (.ref it) .none cenv)))
      I4 ok hcell hN f4 hr.hd (by rw [hcenv]; exact gB_frames I.ok.frames) hn' keep' hsz' (Heap.get?_push_size _ rfl) (fun v z => by cases z) (I2.bare.push rfl)
    have pg := hpg (gB X.A elt t0 i0 t1 i1 scope gpos it cenv) { s2 with heap := h3, toks := tk } (upd H2 P (.tbl (ps ++ more))) h3.objs.size code fp [(h'.objs.size, { cls := .type "generator", data := .fields #[.int s2.gens.size 0, .str "<genexpr>" (tk + 1), .str (X.env.qual ++ "<genexpr>") (tk + 1 + 1)] })]
    have pi1 := hpi1 (gB X.A elt t0 i0 t1 i1 scope gpos it cenv) { s2 with heap := h3, toks := tk } (upd H2 P (.tbl (ps ++ more))) h3.objs.size code fp [(h'.objs.size, { cls := .type "generator", data := .fields #[.int s2.gens.size 0, .str "<genexpr>" (tk + 1), .str (X.env.qual ++ "<genexpr>") (tk + 1 + 1)] })] (gB_room hr)
    have pg1 := hpg1 (gB X.A elt t0 i0 t1 i1 scope gpos it cenv) { s2 with heap := h3, toks := tk } (upd H2 P (.tbl (ps ++ more))) h3.objs.size code fp [(h'.objs.size, { cls := .type "generator", data := .fields #[.int s2.gens.size 0, .str "<genexpr>" (tk + 1), .str (X.env.qual ++ "<genexpr>") (tk + 1 + 1)] })]
    have pe := hpe (gB X.A elt t0 i0 t1 i1 scope gpos it cenv) { s2 with heap := h3, toks := tk } (upd H2 P (.tbl (ps ++ more))) h3.objs.size code fp [(h'.objs.size, { cls := .type "generator", data := .fields #[.int s2.gens.size 0, .str "<genexpr>" (tk + 1), .str (X.env.qual ++ "<genexpr>") (tk + 1 + 1)] })] (gB_room hr)
    have I5 : Inv (gx X (gB X.A elt t0 i0 t1 i1 scope gpos it cenv) { s2 with heap := h3, toks := tk } (upd H2 P (.tbl (ps ++ more))) (genv X scope h3.objs.size code) fp [(h'.objs.size, _)]) [] (wipe σ (own.map (·.2))) _ _ := I5
    rw [hcenv] at I5 pg pi1 pg1 pe
    have hcoE : cenv.scope.isCoroutine = false := by rw [← hcenv]; exact hco
    generalize hog : ({ cls := .type "generator", data := .fields #[.int s2.gens.size 0, .str "<genexpr>" (tk + 1), .str (X.env.qual ++ "<genexpr>") (tk + 1 + 1)] } : Obj) = og at I5 pg pi1 pg1 pe
    have hig : ∀ h : Heap, h.get? h'.objs.size = some og → h.IsGen h'.objs.size s2.gens.size := fun hh e => ⟨og, _, _, e, by rw [← hog], by rw [← hog], by rw [← hog]⟩
    have mI5 : ∀ b ∈ fp, (upd H2 P (.tbl (ps ++ more))) b = none := fun b hb => (f4 b hb).1.1
    have back : ∀ σ' H' s', Inv (gx X (gB X.A elt t0 i0 t1 i1 scope gpos it cenv) { s2 with heap := h3, toks := tk } (upd H2 P (.tbl (ps ++ more))) cenv fp [(h'.objs.size, og)]) [] σ' H' s' → Inv X pins σ H' s' := fun σ' H' s' I6 =>
      I4.call' (ch := fp) I6.os I6.base I6.hok I6.bare fun b hb => ⟨(f4 b hb).1.2.2.2.1, (f4 b hb).1.2.1, (f4 b hb).1.2.2.2.2.1, (f4 b hb).1.2.2.2.2.2⟩
    have goes : ∀ s' : Shared, s'.heap = h'.push og → s'.os = s2.os → AllBare s'.gens →
        Seg (model X.prog X.w) X.A.in1.in1 (GRn (gx X (gB X.A elt t0 i0 t1 i1 scope gpos it cenv) { s2 with heap := h3, toks := tk } (upd H2 P (.tbl (ps ++ more))) cenv fp [(h'.objs.size, og)]) e Q)
          (GYp (gx X (gB X.A elt t0 i0 t1 i1 scope gpos it cenv) { s2 with heap := h3, toks := tk } (upd H2 P (.tbl (ps ++ more))) cenv fp [(h'.objs.size, og)]) e Q) (m0 + 1) s'
          (.compStart (.GeneratorExp elt [⟨t0, i0, [], 0⟩, ⟨t1, i1, [], 0⟩] scope gpos) 0 (.ref it) .none cenv) ((model X.prog X.w).den (.compStart (.GeneratorExp elt [⟨t0, i0, [], 0⟩, ⟨t1, i1, [], 0⟩] scope gpos) 0 (.ref it) .none cenv)) [] s' := fun s' hh ho hg => by
      have I6 := inv_same (s' := s') I5 hh ho hg
      have st6 : tn 0 s'.heap := by
        rw [hh]
        exact T.keep _ _ _ st4 fun b _ o e => Heap.get?_push_of_some _ (keep' b o e)
      refine seg_start2 (Y := gx X (gB X.A elt t0 i0 t1 i1 scope gpos it cenv) { s2 with heap := h3, toks := tk } (upd H2 P (.tbl (ps ++ more))) cenv fp [(h'.objs.size, og)]) T st6
        (seg_loop2 rfl rfl rfl rfl (fun b hb p hp z => ?_) hcoE T pg pi1 pg1 pe (hs1 _) hv gw m0 0 (m0 + 1) s' s' _ (Nat.lt_succ_self _) I6 st6 mI5 w0)
      have hp : p ∈ [(h'.objs.size, og)] := hp
      rw [List.mem_singleton.mp hp] at z
      have z : h'.objs.size = b := z
      have h9 := (f4 b hb).2
      rw [← z, hsz'] at h9
      exact absurd h9 (Nat.not_lt.mpr (Nat.le_succ _))
    have ee : genEnv scope (cloFrom X.env.cells scope.names []) h3.objs.size code builtinsNs X.env = cenv := hcenv
    have fin := hQ h'.objs.size { s2 with heap := h'.push og, gens := s2.gens.push (.fresh (.compStart (.GeneratorExp elt [⟨t0, i0, [], 0⟩, ⟨t1, i1, [], 0⟩] scope gpos) 0 (.ref it) .none cenv)), toks := tk + 1 + 1 + 1 }
      ⟨gB X.A elt t0 i0 t1 i1 scope gpos it cenv, { s2 with heap := h3, toks := tk }, upd H2 P (.tbl (ps ++ more)), cenv, fp, [(h'.objs.size, og)], og, s2.gens.size, .fresh (.compStart (.GeneratorExp elt [⟨t0, i0, [], 0⟩, ⟨t1, i1, [], 0⟩] scope gpos) 0 (.ref it) .none cenv), wipe σ (own.map (·.2)), upd H2 P (.tbl (ps ++ more)), m0 + 1,
        List.mem_singleton.mpr rfl, hig, I5, Array.getElem?_push_size .., fun s' hh ho hg => ⟨rfl, goes s' hh ho hg⟩, back⟩
    rw [← ee] at fin
    exact fin
  cases hf : codeAmong gpos ps.toList with
  | none =>
    refine ⟨I2.nolimit, ?_⟩
    refine wpAny_genexprCodeX hcode (cd.code hPs ht) (cd.tab hPs) hf fun c' h' tk hx hge hlt hco' _ htab' _ => ?_
    obtain ⟨o1, vs, f1, tf, fl, tg, inF, tx, tt, op, _, _, _, _, _, _, _, _, _, htr, _⟩ := hco'
    exact cont _ h' tk _ hx (Nat.le_trans hge (Nat.le_of_lt hlt)) htab'.2 ⟨_, rfl⟩ htr
  | some cv =>
    refine ⟨I2.nolimit, ?_⟩
    refine wpAny_genexprCode_hit hcode (cd.code hPs ht) hf ?_
    exact cont cv s2.heap s2.toks ps (Heap.ExtBut.refl _ _) (Nat.le_refl _) hPs ⟨#[], by simp⟩ ht

theorem pe_all2 {c P : Addr} {elt t0 i0 t1 i1 : Expr} {p pos gpos : Pos} {scope : Scope} {own : List (Str × Nat)} {wi wi1 : TI} {g g1 : TG} {vs1 : List Nat} {te : TE} {k : Nat}
    (hr : Room (k + 1) X.A) (hg : Gl X "all") (hm : X.mg "all" = none) (TB : TabB X.base X.mg c P) (hcode : X.env.code = .ref c) (hN : X.N.Nodup) (ok : BlkOk X.N X.env.scope scope own) (hcell : ∀ y ∈ scope.names, y.2 ≠ .cell) (hco : scope.isCoroutine = false) (h0 : scope.names.lookup (".0" : Str) = some NameKind.local)
    (hi : PI X t0 i0 wi) (hv : ∀ i ∈ vs1, i ∈ own.map (·.2))
    (hpg : ∀ (A1 : Around) (s : Shared) (H : Hp) (C : Addr) (code : Value) (fp : List Addr) (pn : List (Addr × Obj)), PG (gx X A1 s H (genv X scope C code) fp pn) t0 g)
    (hpi1 : ∀ (A1 : Around) (s : Shared) (H : Hp) (C : Addr) (code : Value) (fp : List Addr) (pn : List (Addr × Obj)), Room k A1 → PI (gx X A1 s H (genv X scope C code) fp pn) t1 i1 wi1)
    (hpg1 : ∀ (A1 : Around) (s : Shared) (H : Hp) (C : Addr) (code : Value) (fp : List Addr) (pn : List (Addr × Obj)), PG (gx X A1 s H (genv X scope C code) fp pn) t1 g1)
    (hpe : ∀ (A1 : Around) (s : Shared) (H : Hp) (C : Addr) (code : Value) (fp : List Addr) (pn : List (Addr × Obj)), Room k A1 → PE (gx X A1 s H (genv X scope C code) fp pn) elt te)
    (hs : ∀ v, genFold i0 X.env v = pure v := by intro _; rfl)
    (hs1 : ∀ env x, foldedSetIterable i1 env x = pure x := by intro _ _; rfl)
    (he : starEach [.GeneratorExp elt [⟨t0, i0, [], 0⟩, ⟨t1, i1, [], 0⟩] scope gpos] X.env = (false, eval (.GeneratorExp elt [⟨t0, i0, [], 0⟩, ⟨t1, i1, [], 0⟩] scope gpos) X.env) :: starEach [] X.env := by rfl) :
    PE X (.Call (.Name "all" p) [.GeneratorExp elt [⟨t0, i0, [], 0⟩, ⟨t1, i1, [], 0⟩] scope gpos] [] pos) (tGen2 true P wi g wi1 g1 te (own.map (·.2)) vs1) := by
  refine ⟨fun pins s σ H Q I h => ?_⟩
  refine wpAny_Call_Name_kw (ld_blt I hg hm boot_all ?_)
  refine PyProof.Rows.callWith_builtin1 ?_ he (by rfl)
  rw [he]
  show wpAny _ _ (spliced ((false, eval (.GeneratorExp elt [⟨t0, i0, [], 0⟩, ⟨t1, i1, [], 0⟩] scope gpos) X.env) :: backTo pos (starEach [] X.env))) _ _ s
  refine Calls.spliced_cons (gen_make2 (e := true) (Q := Q) hr TB hcode hN ok hcell hco h0 hi hv hpg hpi1 hpg1 hpe hs hs1 I h fun a s5 hG => ?_)
  obtain ⟨A1, s4, H4, cenv, fp, pn, og, gi, gs, σ', H5, n, hpn, hig, I5, hgs, hgo, back⟩ := hG
  refine Calls.spliced_nil ?_
  refine call_function_tree F.kind_all F.plain_all F.entry_all (F.args_all1 _) ?_
  unfold Builtin.«all»
  refine wpAny_bind (m := oneArg "all" _) (wpAny_pure ?_)
  refine wpAny_bind (wpAny_pyIter_gen (hig _ (I5.pin _ (List.mem_append_left _ hpn)).1) ?_)
  refine wpAny_pure ⟨plainId_quiet F.plain_all_loop _, drv_all (Y := gx X A1 s4 H4 cenv fp pn) (A := X.A) hpn hig hr.hd (by have := hr.dp; show X.A.depth + 0 < _; omega) (fun b σ6 H6 s6 I6 q => ?_) n gs σ' H5 s5 I5 hgs hgo⟩
  exact ⟨.bl b, H6, back σ6 H6 s6 I6, rfl, q⟩
end
end EwG

set_option Elab.async false
set_option linter.all false
set_option maxRecDepth 100000
set_option maxHeartbeats 4000000
/-! Finite commutative semirings given by tables. -/
namespace SRm
structure SR (n : Nat) (p t : Nat → Nat → Nat) (o : Nat) : Prop where
  pos : 0 < n
  oo : o < n
  pc : ∀ a, a < n → ∀ b, b < n → p a b < n
  tc : ∀ a, a < n → ∀ b, b < n → t a b < n
  p0 : ∀ a, a < n → p 0 a = a
  ps : ∀ a, a < n → ∀ b, b < n → p a b = p b a
  pa : ∀ a, a < n → ∀ b, b < n → ∀ c, c < n → p a (p b c) = p (p a b) c
  t1 : ∀ a, a < n → t o a = a
  t0 : ∀ a, a < n → t 0 a = 0
  ts : ∀ a, a < n → ∀ b, b < n → t a b = t b a
  ta : ∀ a, a < n → ∀ b, b < n → ∀ c, c < n → t a (t b c) = t (t a b) c
  ds : ∀ a, a < n → ∀ b, b < n → ∀ c, c < n → t a (p b c) = p (t a b) (t a c)
abbrev SRp (n : Nat) (p t : Nat → Nat → Nat) (o : Nat) : Prop :=
  0 < n ∧ o < n ∧ (∀ a, a < n → p 0 a = a ∧ t o a = a ∧ t 0 a = 0 ∧ ∀ b, b < n → p a b < n ∧ t a b < n ∧ p a b = p b a ∧ t a b = t b a ∧ ∀ c, c < n → p a (p b c) = p (p a b) c ∧ t a (t b c) = t (t a b) c ∧ t a (p b c) = p (t a b) (t a c))
theorem SR.of {n : Nat} {p t : Nat → Nat → Nat} {o : Nat} (h : SRp n p t o) : SR n p t o where
  pos := h.1
  oo := h.2.1
  pc := fun a ha b hb => ((h.2.2 a ha).2.2.2 b hb).1
  tc := fun a ha b hb => ((h.2.2 a ha).2.2.2 b hb).2.1
  p0 := fun a ha => (h.2.2 a ha).1
  ps := fun a ha b hb => ((h.2.2 a ha).2.2.2 b hb).2.2.1
  pa := fun a ha b hb c hc => (((h.2.2 a ha).2.2.2 b hb).2.2.2.2 c hc).1
  t1 := fun a ha => (h.2.2 a ha).2.1
  t0 := fun a ha => (h.2.2 a ha).2.2.1
  ts := fun a ha b hb => ((h.2.2 a ha).2.2.2 b hb).2.2.2.1
  ta := fun a ha b hb c hc => (((h.2.2 a ha).2.2.2 b hb).2.2.2.2 c hc).2.1
  ds := fun a ha b hb c hc => (((h.2.2 a ha).2.2.2 b hb).2.2.2.2 c hc).2.2
/-- equal within the range -/
theorem SR.congr {n : Nat} {p t p' t' : Nat → Nat → Nat} {o : Nat} (h : SR n p t o) (hp : ∀ a, a < n → ∀ b, b < n → p' a b = p a b) (ht : ∀ a, a < n → ∀ b, b < n → t' a b = t a b) : SR n p' t' o := by
  refine SR.of ⟨h.pos, h.oo, fun a ha => ⟨by rw [hp _ h.pos _ ha]; exact h.p0 a ha, by rw [ht _ h.oo _ ha]; exact h.t1 a ha, by rw [ht _ h.pos _ ha]; exact h.t0 a ha, fun b hb => ?_⟩⟩
  have e1 := hp _ ha _ hb
  have e2 := hp _ hb _ ha
  have e3 := ht _ ha _ hb
  have e4 := ht _ hb _ ha
  refine ⟨by rw [e1]; exact h.pc a ha b hb, by rw [e3]; exact h.tc a ha b hb, by rw [e1, e2]; exact h.ps a ha b hb, by rw [e3, e4]; exact h.ts a ha b hb, fun c hc => ?_⟩
  have pbc := h.pc b hb c hc
  have pab := h.pc a ha b hb
  have tbc := h.tc b hb c hc
  have tab := h.tc a ha b hb
  have tac := h.tc a ha c hc
  refine ⟨?_, ?_, ?_⟩
  · rw [hp _ hb _ hc, e1, hp _ ha _ pbc, hp _ pab _ hc]; exact h.pa a ha b hb c hc
  · rw [ht _ hb _ hc, e3, ht _ ha _ tbc, ht _ tab _ hc]; exact h.ta a ha b hb c hc
  · rw [hp _ hb _ hc, e3, ht _ ha _ pbc, ht _ ha _ hc, hp _ tab _ tac]; exact h.ds a ha b hb c hc
/-- the drawn families -/
def fP (kind n : Nat) : Nat → Nat → Nat := fun a b => match kind with
  | 0 => (a + b) % n
  | 1 => min (a + b) (n - 1)
  | 2 => max a b
  | 3 => a ||| b
  | 4 => a ^^^ b
  | _ => if a * b = 0 then max a b else min a b
def fT (kind n : Nat) : Nat → Nat → Nat := fun a b => match kind with
  | 0 => (a * b) % n
  | 1 => min (a * b) (n - 1)
  | 2 => min a b
  | 3 => a &&& b
  | 4 => a &&& b
  | _ => if a * b = 0 then 0 else min (a + b - 1) (n - 1)
def fO (kind n : Nat) : Nat := match kind with
  | 0 => 1 % n
  | 1 => min 1 (n - 1)
  | 2 => n - 1
  | 3 => n - 1
  | 4 => n - 1
  | _ => 1
def SRb (n : Nat) (p t : Nat → Nat → Nat) (o : Nat) : Bool :=
  Nat.blt 0 n && Nat.blt o n && (List.range n).all fun a => p 0 a == a && t o a == a && t 0 a == 0 && (List.range n).all fun b => Nat.blt (p a b) n && Nat.blt (t a b) n && p a b == p b a && t a b == t b a &&
    (List.range n).all fun c => p a (p b c) == p (p a b) c && t a (t b c) == t (t a b) c && t a (p b c) == p (t a b) (t a c)
theorem SR.ofb {n : Nat} {p t : Nat → Nat → Nat} {o : Nat} (h : SRb n p t o = true) : SR n p t o := by
  unfold SRb at h
  simp only [Bool.and_eq_true, List.all_eq_true, List.mem_range, beq_iff_eq, Nat.blt_eq] at h
  obtain ⟨⟨h1, h2⟩, h3⟩ := h
  refine SR.of ⟨h1, h2, fun a ha => ?_⟩
  obtain ⟨⟨⟨a1, a2⟩, a3⟩, a4⟩ := h3 a ha
  refine ⟨a1, a2, a3, fun b hb => ?_⟩
  obtain ⟨⟨⟨⟨b1, b2⟩, b3⟩, b4⟩, b5⟩ := a4 b hb
  refine ⟨b1, b2, b3, b4, fun c hc => ?_⟩
  obtain ⟨⟨c1, c2⟩, c3⟩ := b5 c hc
  exact ⟨c1, c2, c3⟩
theorem sr_smallb : ((List.range 3).all fun k => (List.range 6).all fun n => SRb (n + 1) (fP k (n + 1)) (fT k (n + 1)) (fO k (n + 1))) = true := by decide +kernel
theorem sr_bitsb : ((List.range 3).all fun k => (List.range 3).all fun m => SRb (2 ^ (m + 1)) (fP (k + 3) (2 ^ (m + 1))) (fT (k + 3) (2 ^ (m + 1))) (fO (k + 3) (2 ^ (m + 1)))) = true := by decide +kernel
theorem sr_small {k n : Nat} (hk : k < 3) (h0 : 0 < n) (hn : n < 7) : SR n (fP k n) (fT k n) (fO k n) := by
  have h := sr_smallb
  simp only [List.all_eq_true, List.mem_range] at h
  have q := h k hk (n - 1) (by omega)
  rw [show n - 1 + 1 = n by omega] at q
  exact SR.ofb q
theorem sr_bits {k m : Nat} (hk : k < 3) (hm : m < 3) : SR (2 ^ (m + 1)) (fP (k + 3) (2 ^ (m + 1))) (fT (k + 3) (2 ^ (m + 1))) (fO (k + 3) (2 ^ (m + 1))) := by
  have h := sr_bitsb
  simp only [List.all_eq_true, List.mem_range] at h
  exact SR.ofb (h k hk m hm)

theorem dm {m x y : Nat} (h : y < m) : (x * m + y) / m = x ∧ (x * m + y) % m = y := by
  have hm : 0 < m := Nat.lt_of_le_of_lt (Nat.zero_le _) h
  refine ⟨?_, ?_⟩
  · rw [Nat.mul_comm, Nat.mul_add_div hm, Nat.div_eq_of_lt h]; rfl
  · rw [Nat.mul_comm, Nat.mul_add_mod, Nat.mod_eq_of_lt h]
theorem lt_mul {n m x y : Nat} (hx : x < n) (hy : y < m) : x * m + y < n * m := by
  have : (x + 1) * m ≤ n * m := Nat.mul_le_mul_right m hx
  rw [Nat.succ_mul] at this
  omega
/-- both at once -/
def pr2 (m : Nat) (f g : Nat → Nat → Nat) : Nat → Nat → Nat := fun a b => f (a / m) (b / m) * m + g (a % m) (b % m)
theorem sr_pair {n m o o' : Nat} {p t p' t' : Nat → Nat → Nat} (x : SR n p t o) (y : SR m p' t' o') : SR (n * m) (pr2 m p p') (pr2 m t t') (o * m + o') := by
  have hm := y.pos
  have dl : ∀ {a}, a < n * m → a / m < n := fun h => Nat.div_lt_of_lt_mul (by rw [Nat.mul_comm]; exact h)
  have ml : ∀ a, a % m < m := fun a => Nat.mod_lt _ hm
  have eq : ∀ a, a / m * m + a % m = a := fun a => by rw [Nat.mul_comm]; exact Nat.div_add_mod a m
  have z : 0 / m = 0 ∧ 0 % m = 0 := ⟨Nat.zero_div _, Nat.zero_mod _⟩
  refine SR.of ⟨Nat.mul_pos x.pos hm, lt_mul x.oo y.oo, fun a ha => ⟨?_, ?_, ?_, fun b hb => ⟨?_, ?_, ?_, ?_, fun c hc => ⟨?_, ?_, ?_⟩⟩⟩⟩
  · unfold pr2; rw [z.1, z.2, x.p0 _ (dl ha), y.p0 _ (ml a), eq]
  · unfold pr2; rw [(dm y.oo).1, (dm y.oo).2, x.t1 _ (dl ha), y.t1 _ (ml a), eq]
  · unfold pr2; rw [z.1, z.2, x.t0 _ (dl ha), y.t0 _ (ml a)]; simp
  · exact lt_mul (x.pc _ (dl ha) _ (dl hb)) (y.pc _ (ml a) _ (ml b))
  · exact lt_mul (x.tc _ (dl ha) _ (dl hb)) (y.tc _ (ml a) _ (ml b))
  · unfold pr2; rw [x.ps _ (dl ha) _ (dl hb), y.ps _ (ml a) _ (ml b)]
  · unfold pr2; rw [x.ts _ (dl ha) _ (dl hb), y.ts _ (ml a) _ (ml b)]
  · unfold pr2
    rw [(dm (y.pc _ (ml b) _ (ml c))).1, (dm (y.pc _ (ml b) _ (ml c))).2, (dm (y.pc _ (ml a) _ (ml b))).1, (dm (y.pc _ (ml a) _ (ml b))).2, x.pa _ (dl ha) _ (dl hb) _ (dl hc), y.pa _ (ml a) _ (ml b) _ (ml c)]
  · unfold pr2
    rw [(dm (y.tc _ (ml b) _ (ml c))).1, (dm (y.tc _ (ml b) _ (ml c))).2, (dm (y.tc _ (ml a) _ (ml b))).1, (dm (y.tc _ (ml a) _ (ml b))).2, x.ta _ (dl ha) _ (dl hb) _ (dl hc), y.ta _ (ml a) _ (ml b) _ (ml c)]
  · unfold pr2
    rw [(dm (y.pc _ (ml b) _ (ml c))).1, (dm (y.pc _ (ml b) _ (ml c))).2, (dm (y.tc _ (ml a) _ (ml b))).1, (dm (y.tc _ (ml a) _ (ml b))).2, (dm (y.tc _ (ml a) _ (ml c))).1, (dm (y.tc _ (ml a) _ (ml c))).2, x.ds _ (dl ha) _ (dl hb) _ (dl hc), y.ds _ (ml a) _ (ml b) _ (ml c)]
/-- renamed by s, back by b -/
theorem sr_ren {n o : Nat} {p t : Nat → Nat → Nat} {s b : Nat → Nat} (x : SR n p t o) (hs : ∀ i, i < n → s i < n) (hb : ∀ i, i < n → b i < n) (sb : ∀ i, i < n → s (b i) = i) (bs : ∀ i, i < n → b (s i) = i) (s0 : s 0 = 0) :
    SR n (fun i j => s (p (b i) (b j))) (fun i j => s (t (b i) (b j))) (s o) := by
  have b0 : b 0 = 0 := by have := bs 0 x.pos; rw [s0] at this; exact this
  refine SR.of ⟨x.pos, hs _ x.oo, fun i hi => ⟨?_, ?_, ?_, fun j hj => ⟨?_, ?_, ?_, ?_, fun k hk => ⟨?_, ?_, ?_⟩⟩⟩⟩
  · show s (p (b 0) (b i)) = i
    rw [b0, x.p0 _ (hb i hi), sb i hi]
  · show s (t (b (s o)) (b i)) = i
    rw [bs _ x.oo, x.t1 _ (hb i hi), sb i hi]
  · show s (t (b 0) (b i)) = 0
    rw [b0, x.t0 _ (hb i hi), s0]
  · exact hs _ (x.pc _ (hb i hi) _ (hb j hj))
  · exact hs _ (x.tc _ (hb i hi) _ (hb j hj))
  · show s (p (b i) (b j)) = s (p (b j) (b i))
    rw [x.ps _ (hb i hi) _ (hb j hj)]
  · show s (t (b i) (b j)) = s (t (b j) (b i))
    rw [x.ts _ (hb i hi) _ (hb j hj)]
  · show s (p (b i) (b (s (p (b j) (b k))))) = s (p (b (s (p (b i) (b j)))) (b k))
    rw [bs _ (x.pc _ (hb j hj) _ (hb k hk)), bs _ (x.pc _ (hb i hi) _ (hb j hj)), x.pa _ (hb i hi) _ (hb j hj) _ (hb k hk)]
  · show s (t (b i) (b (s (t (b j) (b k))))) = s (t (b (s (t (b i) (b j)))) (b k))
    rw [bs _ (x.tc _ (hb j hj) _ (hb k hk)), bs _ (x.tc _ (hb i hi) _ (hb j hj)), x.ta _ (hb i hi) _ (hb j hj) _ (hb k hk)]
  · show s (t (b i) (b (s (p (b j) (b k))))) = s (p (b (s (t (b i) (b j)))) (b (s (t (b i) (b k)))))
    rw [bs _ (x.pc _ (hb j hj) _ (hb k hk)), bs _ (x.tc _ (hb i hi) _ (hb j hj)), bs _ (x.tc _ (hb i hi) _ (hb k hk)), x.ds _ (hb i hi) _ (hb j hj) _ (hb k hk)]
end SRm

set_option Elab.async false
set_option linter.all false
set_option maxRecDepth 100000
set_option maxHeartbeats 4000000
/-! Readings of comprehensions and loops over tables. -/
namespace Tb
open PySem PySem.Spec PyProof.Rows L2 Ew EwG GxR

theorem yes_then {σ : L2.St} {H : Hp} {Q : Bool → Hp → Prop} (q : Q true H) : tYes σ H Q := q
/-- all but what stands at a is as it was -/
def But (a : Addr) (H H' : Hp) : Prop := ∀ b o, b ≠ a → H b = some o → H' b = some o
theorem but_app {D : Addr} {H : Hp} {o : HO} : But D H (upd H D o) := fun b u n e => by rw [upd_ne n]; exact e
theorem But.of {D : Addr} {H H' : Hp} (s : Same H H') : But D H H' := fun b o _ e => s b o e
theorem But.trans {D : Addr} {H H' H'' : Hp} (x : But D H H') (y : But D H' H'') : But D H H'' := fun b o n e => y b o n (x b o n e)
theorem same_but {D : Addr} {H1 H H' : Hp} (hD : H1 D = none) (s : Same H1 H) (b : But D H H') : Same H1 H' := fun c o e => b c o (ne_of_none e hD) (s c o e)
theorem same_new {p : Addr} {H H1 : Hp} {o : HO} (x : Same H H1) (h : H p = none) : Same H (L2.upd H1 p o) := fun b u e => by rw [upd_ne (ne_of_none e h)]; exact x b u e
theorem ext_of {xs : List V} {n : Nat} {f : Nat → V} (hl : xs.length = n) (h : ∀ (i : Nat) v, xs[i]? = some v → v = f i) : xs = (List.range n).map f := by
  refine List.ext_getElem? fun i => ?_
  rw [List.getElem?_map]
  by_cases c : i < n
  · have e : (List.range n)[i]? = some i := by rw [List.getElem?_eq_getElem (by simpa using c), List.getElem_range]
    rw [e]
    obtain ⟨v, hv⟩ : ∃ v, xs[i]? = some v := ⟨_, List.getElem?_eq_getElem (by omega)⟩
    rw [hv, h i v hv]
    rfl
  · rw [List.getElem?_eq_none (by omega), List.getElem?_eq_none (by simpa using c)]
    rfl
theorem at_map {n i : Nat} {f : Nat → V} (h : i < n) : ((List.range n).map f)[i]? = some (f i) := by
  rw [List.getElem?_map, List.getElem?_eq_getElem (by simpa using h), List.getElem_range]
  rfl

/-- [e for x in range(lo, lo + n)]: the heap grows; each element satisfies R -/
theorem lc_rng {lo : Int} {n k : Nat} {te : TE} {vs : List Nat} {σ : L2.St} {H1 : Hp} {D : Addr} {Qd : Hp → Prop} (R : Nat → V → Hp → Prop) (hD : H1 D = none)
    (NR : ∀ i v H H', But D H H' → R i v H → R i v H') (hn : n ≤ 100000) (hw : ∀ x, wipe ((wipe σ vs).set k (some x)) vs = wipe σ vs)
    (hs : ∀ (i : Nat) (H : Hp) (acc : List V) (Kt : VK), i < n → Same H1 H → H D = some (.lst acc) → (∀ y H4, Same H H4 → R i y H4 → Kt y H4) → te ((wipe σ vs).set k (some (.int (lo + i)))) H Kt)
    (hd : ∀ H rows, Same H1 H → H D = some (.lst rows) → rows.length = n → (∀ (i : Nat) v, rows[i]? = some v → R i v H) → Qd H) :
    ∃ W : Nat → Nat → Hp → Prop, (∃ m, W 0 m (upd H1 D (.lst []))) ∧ ∀ i m H, W i m H →
      ((Itr lo n).stop i H ∧ Qd H) ∨ ((Itr lo n).go i H ∧ ∃ Nx : Hp → Prop, (∀ H', Nx H' → ∃ m', m' < m ∧ W (i + 1) m' H') ∧ ∀ x H', (Itr lo n).yld i H x H' → gName k x (wipe σ vs) H' fun σ2 H2 => wipe σ2 vs = wipe σ vs ∧ tYes σ2 H2 fun b H3 =>
        if b = true then te σ2 H3 fun y H4 => ∃ acc, H4 D = some (.lst acc) ∧ acc.length < sizeLine ∧ Nx (upd H4 D (.lst (acc ++ [y]))) else Nx H3) := by
  refine lc_range (fun i H => Same H1 H ∧ ∃ rows, H D = some (.lst rows) ∧ rows.length = i ∧ ∀ (j : Nat) v, rows[j]? = some v → R j v H) ⟨same_new (Same.refl _) hD, [], upd_same, rfl, fun j v e => by simp at e⟩ (fun i H hi ⟨s1, rows, e1, e2, e3⟩ => ?_) (fun H ⟨s1, rows, e1, e2, e3⟩ => hd H rows s1 e1 e2 e3)
  refine ⟨hw _, ?_⟩
  refine yes_then ?_
  refine iteT ?_
  refine hs i H rows _ hi s1 e1 fun y H4 s4 r4 => ⟨rows, s4 _ _ e1, ?_, same_but hD (fun b o e => s4 b o (s1 b o e)) but_app, rows ++ [y], upd_same, by rw [List.length_append, e2]; rfl, fun j v e => ?_⟩
  · rw [e2]
    exact Nat.lt_of_lt_of_le hi (Nat.le_trans hn (by decide))
  · by_cases c : j < rows.length
    · rw [List.getElem?_append_left c] at e
      exact NR _ _ _ _ (But.trans (But.of s4) but_app) (e3 j v e)
    · rw [List.getElem?_append_right (by omega)] at e
      have hj : j = i := by
        have : j - rows.length < [y].length := by
          rcases Nat.lt_or_ge (j - rows.length) [y].length with h | h
          · exact h
          · rw [List.getElem?_eq_none h] at e; cases e
        have h1 : [y].length = 1 := rfl
        omega
      subst hj
      rw [e2, Nat.sub_self] at e
      have : y = v := by simpa using e
      subst this
      exact NR _ _ _ _ but_app r4
/-- .. whose elements are plain values -/
theorem lc_vals {lo : Int} {n k : Nat} {te : TE} {vs : List Nat} {σ : L2.St} {H1 : Hp} {D : Addr} {Qd : Hp → Prop} (f : Nat → V) (hD : H1 D = none)
    (hn : n ≤ 100000) (hw : ∀ x, wipe ((wipe σ vs).set k (some x)) vs = wipe σ vs)
    (hs : ∀ (i : Nat) (H : Hp) (Kt : VK), i < n → Same H1 H → (∀ H4, Same H H4 → Kt (f i) H4) → te ((wipe σ vs).set k (some (.int (lo + i)))) H Kt)
    (hd : ∀ H, Same H1 H → H D = some (.lst ((List.range n).map f)) → Qd H) :
    ∃ W : Nat → Nat → Hp → Prop, (∃ m, W 0 m (upd H1 D (.lst []))) ∧ ∀ i m H, W i m H →
      ((Itr lo n).stop i H ∧ Qd H) ∨ ((Itr lo n).go i H ∧ ∃ Nx : Hp → Prop, (∀ H', Nx H' → ∃ m', m' < m ∧ W (i + 1) m' H') ∧ ∀ x H', (Itr lo n).yld i H x H' → gName k x (wipe σ vs) H' fun σ2 H2 => wipe σ2 vs = wipe σ vs ∧ tYes σ2 H2 fun b H3 =>
        if b = true then te σ2 H3 fun y H4 => ∃ acc, H4 D = some (.lst acc) ∧ acc.length < sizeLine ∧ Nx (upd H4 D (.lst (acc ++ [y]))) else Nx H3) :=
  lc_rng (fun i v _ => v = f i) hD (fun _ _ _ _ _ h => h) hn hw (fun i H _ Kt hi s _ k => hs i H Kt hi s fun H4 s4 => k _ H4 s4 rfl) fun H rows s e l h => hd H s (by rw [e, ext_of l h])

/-- a list (at D) of n lists of n ints; none of them at a -/
def LL (a : Addr) (H : Hp) (D : Addr) (n : Nat) (F : Nat → Nat → Int) : Prop :=
  ∃ rows : List V, D ≠ a ∧ H D = some (.lst rows) ∧ rows.length = n ∧ ∀ i, i < n → ∃ r, rows[i]? = some (.ref r) ∧ r ≠ a ∧ H r = some (.lst ((List.range n).map fun j => V.int (F i j)))
theorem LL.but {a D : Addr} {H H' : Hp} {n : Nat} {F : Nat → Nat → Int} (x : LL a H D n F) (b : But a H H') : LL a H' D n F := by
  obtain ⟨rows, h1, h2, h3, h4⟩ := x
  exact ⟨rows, h1, b _ _ h1 h2, h3, fun i hi => let ⟨r, e1, e2, e3⟩ := h4 i hi; ⟨r, e1, e2, b _ _ e2 e3⟩⟩
theorem LL.congr {a D : Addr} {H : Hp} {n : Nat} {F G : Nat → Nat → Int} (x : LL a H D n F) (e : ∀ i, i < n → ∀ j, j < n → F i j = G i j) : LL a H D n G := by
  obtain ⟨rows, h1, h2, h3, h4⟩ := x
  refine ⟨rows, h1, h2, h3, fun i hi => ?_⟩
  obtain ⟨r, e1, e2, e3⟩ := h4 i hi
  refine ⟨r, e1, e2, ?_⟩
  rw [e3]
  refine congrArg (fun z => some (HO.lst z)) (List.map_congr_left fun j hj => ?_)
  rw [e i hi j (List.mem_range.mp hj)]
/-- a tuple of n tuples of n ints -/
def TT (H : Hp) (D : Addr) (n : Nat) (F : Nat → Nat → Int) : Prop :=
  ∃ rows : List V, H D = some (.tup rows) ∧ rows.length = n ∧ ∀ i, i < n → ∃ r, rows[i]? = some (.ref r) ∧ H r = some (.tup ((List.range n).map fun j => V.int (F i j)))
theorem TT.same {D : Addr} {H H' : Hp} {n : Nat} {F : Nat → Nat → Int} (x : TT H D n F) (b : ∀ c xs, H c = some (.tup xs) → H' c = some (.tup xs)) : TT H' D n F := by
  obtain ⟨rows, h2, h3, h4⟩ := x
  exact ⟨rows, b _ _ h2, h3, fun i hi => let ⟨r, e1, e3⟩ := h4 i hi; ⟨r, e1, b _ _ e3⟩⟩
/-- [[e for b in range(n)] for a in range(n)] : the outer one -/
theorem lc_LL {a : Addr} {ao : HO} {n k : Nat} {te : TE} {vs : List Nat} {σ : L2.St} {H1 : Hp} {D : Addr} {Qd : Hp → Prop} (F : Nat → Nat → Int) (hD : H1 D = none) (ha : H1 a = some ao)
    (hn : n ≤ 100000) (hw : ∀ x, wipe ((wipe σ vs).set k (some x)) vs = wipe σ vs)
    (hs : ∀ (i : Nat) (H : Hp) (Kt : VK), i < n → Same H1 H → (∀ r H4, Same H H4 → H r = none → H4 r = some (.lst ((List.range n).map fun j => V.int (F i j))) → Kt (.ref r) H4) → te ((wipe σ vs).set k (some (.int (0 + i)))) H Kt)
    (hd : ∀ H, Same H1 H → LL a H D n F → Qd H) :
    ∃ W : Nat → Nat → Hp → Prop, (∃ m, W 0 m (upd H1 D (.lst []))) ∧ ∀ i m H, W i m H →
      ((Itr 0 n).stop i H ∧ Qd H) ∨ ((Itr 0 n).go i H ∧ ∃ Nx : Hp → Prop, (∀ H', Nx H' → ∃ m', m' < m ∧ W (i + 1) m' H') ∧ ∀ x H', (Itr 0 n).yld i H x H' → gName k x (wipe σ vs) H' fun σ2 H2 => wipe σ2 vs = wipe σ vs ∧ tYes σ2 H2 fun b H3 =>
        if b = true then te σ2 H3 fun y H4 => ∃ acc, H4 D = some (.lst acc) ∧ acc.length < sizeLine ∧ Nx (upd H4 D (.lst (acc ++ [y]))) else Nx H3) := by
  refine lc_rng (fun i v H => ∃ r, v = .ref r ∧ r ≠ D ∧ r ≠ a ∧ H r = some (.lst ((List.range n).map fun j => V.int (F i j)))) hD (fun i v H H' b ⟨r, e1, e2, e3, e4⟩ => ⟨r, e1, e2, e3, b _ _ e2 e4⟩) hn hw
    (fun i H acc Kt hi s e k => hs i H Kt hi s fun r H4 s4 hr h4 => k _ H4 s4 ⟨r, rfl, (fun z => by rw [z, e] at hr; cases hr), (fun z => by rw [z, s _ _ ha] at hr; cases hr), h4⟩) fun H rows s e l h => hd H s ⟨rows, (fun z => by rw [z, ha] at hD; cases hD), e, l, fun i hi => ?_⟩
  obtain ⟨v, hv⟩ : ∃ v, rows[i]? = some v := ⟨_, List.getElem?_eq_getElem (by omega)⟩
  obtain ⟨r, rfl, _, h1, h2⟩ := h i v hv
  exact ⟨r, hv, h1, h2⟩

/-- [[e for b in range(n)] for a in range(n)] as a reading -/
theorem tab_lc {a : Addr} {ao : HO} {n ns ka kb : Nat} {te : TE} {σ : L2.St} {H : Hp} {Q : VK} (F : Nat → Nat → Int) (ha : H a = some ao) (hn : n ≤ 100000)
    (hs : ∀ (i j : Nat) (H' : Hp) (Kt : VK), i < n → j < n → Same H H' → (∀ H4, Same H' H4 → Kt (.int (F i j)) H4) → te ((wipe ((wipe σ [ka]).set ka (some (.int (i : Int)))) [kb]).set kb (some (.int (j : Int)))) H' Kt)
    (hd : ∀ H' D, Same H H' → H D = none → LL a H' D n F → Q (.ref D) H')
    (h1 : σ[ns]? = some (some (.int (n : Int))) := by rfl) (h2 : ∀ x, ((wipe σ [ka]).set ka (some x))[ns]? = some (some (.int (n : Int))) := by intro _; rfl)
    (w1 : ∀ x, wipe ((wipe σ [ka]).set ka (some x)) [ka] = wipe σ [ka] := by intro _; rfl) (w2 : ∀ y x, wipe ((wipe ((wipe σ [ka]).set ka (some y)) [kb]).set kb (some x)) [kb] = wipe ((wipe σ [ka]).set ka (some y)) [kb] := by intro _ _; rfl) :
    tLc (iRng1 (tCons (tVar ns) tNil)) (gName ka) tYes (tLc (iRng1 (tCons (tVar ns) tNil)) (gName kb) tYes te [kb]) [ka] σ H Q := by
  refine ⟨_, h1, _, rfl, by omega, by omega, fun D hD => ?_⟩
  refine lc_LL (a := a) F hD ha hn w1 (fun i H' Kt hi s k => ?_) (fun H' s l => hd H' D s hD l)
  refine ⟨_, h2 _, _, rfl, by omega, by omega, fun D' hD' => ?_⟩
  refine lc_vals (fun j => V.int (F i j)) hD' hn (w2 _) (fun j H4 Kt4 hj s4 k4 => ?_) (fun H4 s4 e4 => k D' H4 s4 hD' e4)
  rw [Int.zero_add, Int.zero_add]
  exact hs i j H4 Kt4 hi hj (fun b o e => s4 b o (s b o e)) k4

/-- [e for x in l], l a list that the turns leave as it is -/
theorem lc_lst {K : PySem.W.Frag} {L : Addr} {xs : List V} {k : Nat} {te : TE} {vs : List Nat} {σ : L2.St} {H1 : Hp} {D : Addr} {Qd : Hp → Prop} (R : Nat → V → Hp → Prop) (hD : H1 D = none) (hL : SqL K H1 L xs) (hLs : ∀ H, Same H1 H → SqL K H L xs)
    (NR : ∀ i v H H', But D H H' → R i v H → R i v H') (hn : xs.length ≤ 100000) (hw : ∀ x, wipe ((wipe σ vs).set k (some x)) vs = wipe σ vs)
    (hs : ∀ (i : Nat) (x : V) (H : Hp) (acc : List V) (Kt : VK), xs[i]? = some x → Same H1 H → H D = some (.lst acc) → (∀ y H4, Same H H4 → R i y H4 → Kt y H4) → te ((wipe σ vs).set k (some x)) H Kt)
    (hd : ∀ H rows, Same H1 H → H D = some (.lst rows) → rows.length = xs.length → (∀ (i : Nat) v, rows[i]? = some v → R i v H) → Qd H) :
    ∃ W : Nat → Nat → Hp → Prop, (∃ m, W 0 m (upd H1 D (.lst []))) ∧ ∀ i m H, W i m H →
      ((Itl K L).stop i H ∧ Qd H) ∨ ((Itl K L).go i H ∧ ∃ Nx : Hp → Prop, (∀ H', Nx H' → ∃ m', m' < m ∧ W (i + 1) m' H') ∧ ∀ x H', (Itl K L).yld i H x H' → gName k x (wipe σ vs) H' fun σ2 H2 => wipe σ2 vs = wipe σ vs ∧ tYes σ2 H2 fun b H3 =>
        if b = true then te σ2 H3 fun y H4 => ∃ acc, H4 D = some (.lst acc) ∧ acc.length < sizeLine ∧ Nx (upd H4 D (.lst (acc ++ [y]))) else Nx H3) := by
  refine lc_list (fun i H => Same H1 H ∧ ∃ rows, H D = some (.lst rows) ∧ rows.length = i ∧ ∀ (j : Nat) v, rows[j]? = some v → R j v H) ⟨same_new (Same.refl _) hD, [], upd_same, rfl, fun j v e => by simp at e⟩ (fun i H _ ⟨s1, _⟩ => hLs H s1) (fun i x H hx ⟨s1, rows, e1, e2, e3⟩ => ?_) (fun H ⟨s1, rows, e1, e2, e3⟩ => hd H rows s1 e1 e2 e3)
  refine ⟨hw _, ?_⟩
  refine yes_then ?_
  refine iteT ?_
  have hi : i < xs.length := by
    rcases Nat.lt_or_ge i xs.length with h | h
    · exact h
    · rw [List.getElem?_eq_none h] at hx; cases hx
  refine hs i x H rows _ hx s1 e1 fun y H4 s4 r4 => ⟨rows, s4 _ _ e1, ?_, same_but hD (fun b o e => s4 b o (s1 b o e)) but_app, rows ++ [y], upd_same, by rw [List.length_append, e2]; rfl, fun j v e => ?_⟩
  · rw [e2]
    exact Nat.lt_of_lt_of_le hi (Nat.le_trans hn (by decide))
  · by_cases c : j < rows.length
    · rw [List.getElem?_append_left c] at e
      exact NR _ _ _ _ (But.trans (But.of s4) but_app) (e3 j v e)
    · rw [List.getElem?_append_right (by omega)] at e
      have hj : j = i := by
        have : j - rows.length < [y].length := by
          rcases Nat.lt_or_ge (j - rows.length) [y].length with h | h
          · exact h
          · rw [List.getElem?_eq_none h] at e; cases e
        have h1 : [y].length = 1 := rfl
        omega
      subst hj
      rw [e2, Nat.sub_self] at e
      have : y = v := by simpa using e
      subst this
      exact NR _ _ _ _ but_app r4
/-- [[e for b in l] for a in l], l a list of n things, as a reading: a list of n lists of n ints -/
theorem tab_lst {K : PySem.W.Frag} {a L : Addr} {ao : HO} {xs : List V} {n ns ka kb : Nat} {te : TE} {σ : L2.St} {H : Hp} {Q : VK} (F : Nat → Nat → Int) (ha : H a = some ao) (hL : H L = some (.lst xs)) (hxl : xs.length = n) (hn : n ≤ 100000)
    (hs : ∀ (i j : Nat) (x y : V) (H' : Hp) (Kt : VK), i < n → j < n → xs[i]? = some x → xs[j]? = some y → Same H H' → (∀ H4, Same H' H4 → Kt (.int (F i j)) H4) → te ((wipe ((wipe σ [ka]).set ka (some x)) [kb]).set kb (some y)) H' Kt)
    (hd : ∀ H' D, Same H H' → H D = none → LL a H' D n F → Q (.ref D) H')
    (h1 : σ[ns]? = some (some (.ref L)) := by rfl) (h2 : ∀ x, ((wipe σ [ka]).set ka (some x))[ns]? = some (some (.ref L)) := by intro _; rfl)
    (w1 : ∀ x, wipe ((wipe σ [ka]).set ka (some x)) [ka] = wipe σ [ka] := by intro _; rfl) (w2 : ∀ y x, wipe ((wipe ((wipe σ [ka]).set ka (some y)) [kb]).set kb (some x)) [kb] = wipe ((wipe σ [ka]).set ka (some y)) [kb] := by intro _ _; rfl) :
    tLc (iList K (tVar ns)) (gName ka) tYes (tLc (iList K (tVar ns)) (gName kb) tYes te [kb]) [ka] σ H Q := by
  have at_ : ∀ {i : Nat} {x : V}, xs[i]? = some x → i < n := fun {i x} h => by
    rcases Nat.lt_or_ge i xs.length with h' | h'
    · omega
    · rw [List.getElem?_eq_none h'] at h; cases h
  refine ⟨_, h1, L, rfl, ⟨xs, SqL.of hL⟩, fun D hD => ?_⟩
  refine lc_lst (K := K) (xs := xs) (fun i v H => ∃ r, v = .ref r ∧ r ≠ D ∧ r ≠ a ∧ H r = some (.lst ((List.range n).map fun j => V.int (F i j)))) hD (SqL.of hL) (fun H' s => SqL.of (s _ _ hL)) (fun i v H H' b ⟨r, e1, e2, e3, e4⟩ => ⟨r, e1, e2, e3, b _ _ e2 e4⟩) (by omega) w1 (fun i x H' acc Kt hx s e k => ?_) (fun H' rows s e l h => ?_)
  · refine ⟨_, h2 _, L, rfl, ⟨xs, SqL.of (s _ _ hL)⟩, fun D' hD' => ?_⟩
    refine lc_lst (K := K) (xs := xs) (fun j v _ => v = V.int (F i j)) hD' (SqL.of (s _ _ hL)) (fun H4 s4 => SqL.of (s4 _ _ (s _ _ hL))) (fun _ _ _ _ _ h => h) (by omega) (w2 _) (fun j y H4 acc' Kt4 hy s4 e4 k4 => ?_) (fun H4 rows s4 e4 l4 h4 => ?_)
    · exact hs i j x y H4 Kt4 (at_ hx) (at_ hy) hx hy (fun b o e => s4 b o (s b o e)) fun H5 s5 => k4 _ H5 s5 rfl
    · refine k _ H4 s4 ⟨D', rfl, (fun z => by rw [z, e] at hD'; cases hD'), (fun z => by rw [z, s _ _ ha] at hD'; cases hD'), ?_⟩
      rw [e4, ext_of (l4.trans hxl) h4]
  · refine hd H' D s hD ⟨rows, (fun z => by rw [z, ha] at hD; cases hD), e, l.trans hxl, fun i hi => ?_⟩
    obtain ⟨v, hv⟩ : ∃ v, rows[i]? = some v := ⟨_, List.getElem?_eq_getElem (by omega)⟩
    obtain ⟨r, rfl, _, h1, h2⟩ := h i v hv
    exact ⟨r, hv, h1, h2⟩
abbrev rTupOf (K : PySem.W.Frag) : List V → Hp → VK → Prop := fun xs H Q => ∃ p ys, xs = [.ref p] ∧ ((SqL K H p ys ∧ ∀ l, H l = none → Q (.ref l) (upd H l (.tup ys))) ∨ (SqT K H p ys ∧ Q (.ref p) H))
/-- tuple([tuple([e for b in range(n)]) for a in range(n)]) as a reading -/
theorem tab_tt {K : PySem.W.Frag} {n ns ka kb : Nat} {te : TE} {σ : L2.St} {H : Hp} {Q : VK} (F : Nat → Nat → Int) (hn : n ≤ 100000)
    (hs : ∀ (i j : Nat) (H' : Hp) (Kt : VK), i < n → j < n → Same H H' → (∀ H4, Same H' H4 → Kt (.int (F i j)) H4) → te ((wipe ((wipe σ [ka]).set ka (some (.int (i : Int)))) [kb]).set kb (some (.int (j : Int)))) H' Kt)
    (hd : ∀ H' D, Same H H' → TT H' D n F → Q (.ref D) H')
    (h1 : σ[ns]? = some (some (.int (n : Int))) := by rfl) (h2 : ∀ x, ((wipe σ [ka]).set ka (some x))[ns]? = some (some (.int (n : Int))) := by intro _; rfl)
    (w1 : ∀ x, wipe ((wipe σ [ka]).set ka (some x)) [ka] = wipe σ [ka] := by intro _; rfl) (w2 : ∀ y x, wipe ((wipe ((wipe σ [ka]).set ka (some y)) [kb]).set kb (some x)) [kb] = wipe ((wipe σ [ka]).set ka (some y)) [kb] := by intro _ _; rfl) :
    tCB (rTupOf K) (tCons (tLc (iRng1 (tCons (tVar ns) tNil)) (gName ka) tYes (tCB (rTupOf K) (tCons (tLc (iRng1 (tCons (tVar ns) tNil)) (gName kb) tYes te [kb]) tNil)) [ka]) tNil) σ H Q := by
  refine ⟨_, h1, _, rfl, by omega, by omega, fun D hD => ?_⟩
  rw [Int.toNat_natCast]
  refine lc_rng (lo := 0) (n := n) (fun i v H => ∃ r, v = .ref r ∧ r ≠ D ∧ H r = some (.tup ((List.range n).map fun j => V.int (F i j)))) hD (fun i v H H' b ⟨r, e1, e2, e3⟩ => ⟨r, e1, e2, b _ _ e2 e3⟩) hn w1 (fun i H' acc Kt hi s e k => ?_) (fun H' rows s e l h => ?_)
  · rw [Int.zero_add]
    refine ⟨_, h2 _, _, rfl, by omega, by omega, fun D' hD' => ?_⟩
    rw [Int.toNat_natCast]
    refine lc_vals (lo := 0) (n := n) (fun j => V.int (F i j)) hD' hn (w2 _) (fun j H4 Kt4 hj s4 k4 => ?_) (fun H4 s4 e4 => ?_)
    · rw [Int.zero_add]
      exact hs i j H4 Kt4 hi hj (fun b o e => s4 b o (s b o e)) k4
    · refine ⟨D', _, rfl, .inl ⟨SqL.of e4, fun r hr => ?_⟩⟩
      exact k _ _ (fun b o e => same_new (Same.refl _) hr b o (s4 b o e)) ⟨r, rfl, (fun z => by rw [z, s4 _ _ e] at hr; cases hr), upd_same⟩
  · refine ⟨D, rows, rfl, .inl ⟨SqL.of e, fun q hq => ?_⟩⟩
    have sq : Same H' (upd H' q (.tup rows)) := same_new (Same.refl _) hq
    refine hd _ q (fun b o e => sq b o (s b o e)) ⟨rows, upd_same, l, fun i hi => ?_⟩
    obtain ⟨v, hv⟩ : ∃ v, rows[i]? = some v := ⟨_, List.getElem?_eq_getElem (by omega)⟩
    obtain ⟨r, rfl, _, h2⟩ := h i v hv
    exact ⟨r, hv, sq _ _ h2⟩
section
variable {X : Cx} {o e : Expr} {es : List Expr} {to : TE} {t : TA} {name : Str} {apos cpos : Pos} {T id : String} {r : V → List V → Hp → VK → Prop}
theorem kpe_bm {K : PySem.W.Frag} (pa : PlainAttrs T) (slot : Slot T name id) (hty : typeOf (.builtin id) = pure (.type "method_descriptor")) (hm : MtR X id r) (ho : PE X o to) (ha : PA X (e :: es) t) (hK : X.K = K := by rfl)
    (hbase : attributeBase o name X.env (eval o X.env) = eval o X.env := by rfl)
    (hfew : ((backTo cpos (starEach (e :: es) X.env)).all (fun x => !x.1) && (backToKw cpos (keywordEach [] X.env)).all (fun x => x.1.isSome)
      && decide ((e :: es).length + ([] : List Keyword).length + (if ([] : List Keyword).isEmpty then 0 else 1) < 30)) = true := by rfl)
    (hline : (apos.endLine == cpos.line) = true := by rfl) (hs : starEach (e :: es) X.env = (false, eval e X.env) :: starEach es X.env := by rfl) (hplain : (backTo cpos (starEach es X.env)).any (·.1) = false := by rfl) :
    PE X (.Call (.Attribute o name apos) (e :: es) [] cpos) (tBM K T r to t) := hK ▸ pe_bm pa slot hty hm ho ha hbase hfew hline hs hplain
theorem kmt_index {K : PySem.W.Frag} (hK : X.K = K := by rfl) : MtR X "list.index" (rIndex K) := hK ▸ mt_index
theorem kcall_tuple_of {K : PySem.W.Frag} (hK : X.K = K := by rfl) : CallR X (.type "tuple") (rTupOf K) := hK ▸ call_tuple_of
end
theorem erase_perm {α : Type} : ∀ (l : List α) (i : Nat) (y : α), l[i]? = some y → (y :: l.eraseIdx i).Perm l
  | [], i, y, e => by simp at e
  | a :: l, 0, y, e => by
    have q : a = y := by simpa using e
    subst q
    exact List.Perm.refl _
  | a :: l, i + 1, y, e => by
    have q := erase_perm l i y (by simpa using e)
    show (y :: a :: l.eraseIdx i).Perm (a :: l)
    exact (List.Perm.swap a y _).trans (q.cons a)
/-- names: a renaming of 0 .. n - 1 that keeps 0, and its inverse -/
theorem ren_of {n : Nat} {ns : List Nat} (p : ns.Perm (List.range n)) (h0 : ns[0]? = some 0) :
    (∀ i, i < n → ns[i]? = some (ns.getD i 0)) ∧ (∀ i, i < n → ns.getD i 0 < n) ∧ (∀ k, k < n → ns.idxOf k < n) ∧ (∀ k, k < n → ns.getD (ns.idxOf k) 0 = k) ∧ (∀ i, i < n → ns.idxOf (ns.getD i 0) = i) ∧ ns.getD 0 0 = 0 := by
  have hl : ns.length = n := by rw [p.length_eq, List.length_range]
  have nd : ns.Nodup := p.nodup_iff.mpr List.nodup_range
  have at_ : ∀ i, i < n → ns[i]? = some (ns.getD i 0) := fun i hi => by
    rw [List.getD_eq_getElem?_getD, List.getElem?_eq_getElem (by omega)]
    rfl
  have mem : ∀ k, k < n → k ∈ ns := fun k hk => p.mem_iff.mpr (List.mem_range.mpr hk)
  have ix : ∀ k, k < n → ns.idxOf k < n := fun k hk => by
    have := List.idxOf_lt_length_iff.mpr (mem k hk)
    omega
  refine ⟨at_, fun i hi => List.mem_range.mp (p.mem_iff.mp (List.mem_of_getElem? (at_ i hi))), ix, fun k hk => ?_, fun i hi => ?_, ?_⟩
  · have h := ix k hk
    rw [← hl] at h
    rw [List.getD_eq_getElem?_getD, List.getElem?_eq_getElem h, List.getElem_idxOf h]
    rfl
  · have h : i < ns.length := by omega
    rw [List.getD_eq_getElem?_getD, List.getElem?_eq_getElem h]
    exact nd.idxOf_getElem i h
  · rw [List.getD_eq_getElem?_getD, h0]
    rfl
theorem idx_first {n : Nat} {ns : List Nat} (p : ns.Perm (List.range n)) {k m z : Nat} (h : m < ns.idxOf k) (e : ns[m]? = some z) : z ≠ k := fun q => by
  have nd : ns.Nodup := p.nodup_iff.mpr List.nodup_range
  obtain ⟨hm, e⟩ := List.getElem?_eq_some_iff.mp e
  have := nd.idxOf_getElem m hm
  rw [e, q] at this
  omega
theorem go_seq {te : TE} {g : TG} {u : TS} {D : Ends} {σ : L2.St} {H : Hp} (h : te σ H fun x H1 => g x σ H1 fun σ' H' => u D σ' H') : tSeq (tAsg te g) u D σ H := h
theorem go_next {f : L2.St → Hp → Prop} {rt : VK} {bk ct : L2.St → Hp → Prop} {σ : L2.St} {H : Hp} (h : f σ H) : tNext ⟨f, rt, bk, ct⟩ σ H := h
theorem go_nx {f : L2.St → Hp → Prop} {rt : VK} {bk ct : L2.St → Hp → Prop} {σ : L2.St} {H : Hp} (h : f σ H) : (Ends.mk f rt bk ct).nx σ H := h
theorem go_ret {te : TE} {D : Ends} {σ : L2.St} {H : Hp} (h : te σ H D.rt) : tRet te D σ H := h
theorem go_tup {t : TA} {σ : L2.St} {H : Hp} {Q : VK} (h : t σ H fun xs H1 => xs.length ≤ sizeLine ∧ ∀ p, H1 p = none → Q (.ref p) (upd H1 p (.tup xs))) : tTup t σ H Q := h
theorem go_lst {t : TA} {σ : L2.St} {H : Hp} {Q : VK} (h : t σ H fun xs H1 => xs.length ≤ sizeLine ∧ ∀ p, H1 p = none → Q (.ref p) (upd H1 p (.lst xs))) : tLst t σ H Q := h
theorem go_cons {t : TE} {u : TA} {σ : L2.St} {H : Hp} {Q : List V → Hp → Prop} (h : t σ H fun x H1 => u σ H1 fun xs H2 => Q (x :: xs) H2) : tCons t u σ H Q := h
theorem go_nil {σ : L2.St} {H : Hp} {Q : List V → Hp → Prop} (h : Q [] H) : tNil σ H Q := h
theorem go_var {i : Nat} {v : V} {σ : L2.St} {H : Hp} {Q : VK} (e : σ[i]? = some (some v)) (h : Q v H) : tVar i σ H Q := ⟨v, e, h⟩
theorem go_name {i : Nat} {v v' : V} {σ : L2.St} {H : Hp} {Q : L2.St → Hp → Prop} (e : v = v') (h : Q (σ.set i (some v')) H) : gName i v σ H Q := e ▸ h
end Tb

set_option Elab.async false
set_option linter.all false
set_option maxRecDepth 100000
set_option maxHeartbeats 4000000
/-! Defs that hold a generator expression; readings of all(..), any(..) where every turn goes on. -/
namespace Tb
open PySem PySem.Spec PyProof.Rows L2 Ew EwG GxR

/-- a def whose code object stands at c -/
structure FunC (K : PySem.W.Frag) (x qual : Str) (st : Stmt) (f : Addr) (fd : FuncData) (c : Addr) : Prop where
  ex : ∃ (oc : Value) (od : Option Addr) (kV doc pm : Value) (an : Option Addr) (ct : Value) (osl : Array (Option Value)),
    fd = PySem.W.fnOf x qual (defArgs st) (defBody st) (defScope st) .none kV doc pm an (.ref c) ct ∧ K.lookup f = some ⟨oc, od, .func fd, osl⟩ ∧ PySem.W.codeIn K (.ref c) qual = true
  kp : PySem.W.keepIn K (.ref f) = true
section
variable {P : Program} {w : World} {K : PySem.W.Frag} {mg : Str → Option Value} {base : Heap}
theorem FunC.okX {x qual : Str} {st : Stmt} {f c : Addr} {fd : FuncData} {N ps : List Str} {k : Nat} {sp : Sp} (F : FunC K x qual st f fd c) (S : FnScope N ps (defScope st)) (len : ∀ vs H Q E, sp vs H Q E → vs.length = ps.length)
    (hbody : ∀ (A : Around) (outer : List Env) (s : Shared) (H : Hp) (vs : List V) (Q : VK) (E : XK), Room k (A.deeper (envOfC qual (defScope st) s.heap.objs.size f (.ref c))) → sp vs H Q E →
      ∃ t, PSs (cxOf (L2.CX P w) P w K mg base N qual (defScope st) f (.ref c) A outer s H E) (defBody st) t ∧ t { nx := fun _ H' => Q .non H', rt := Q } (start N vs) H) : FnOk P w K mg base (L2.CX P w) (k + 1) f fd ps sp := by
  obtain ⟨oc, od, kV, doc, pm, an, ct, osl, rfl, lk, hcd⟩ := F.ex
  exact fn_of lk hcd S len fun A outer s H vs Q E hr hsp => hbody A outer s H vs Q E hr hsp
theorem FunC.fun_ {x qual : Str} {st : Stmt} {f c : Addr} {fd : FuncData} (F : FunC K x qual st f fd c) : Fun K x qual st f fd := by
  obtain ⟨oc, od, kV, doc, pm, an, ct, osl, rfl, lk, hcd⟩ := F.ex
  exact ⟨⟨oc, od, kV, doc, pm, an, .ref c, ct, osl, rfl, lk, hcd⟩, F.kp⟩
theorem func_mk {x qual : Str} {st : Stmt} {f c : Addr} {oc : Value} {od an : Option Addr} {osl : Array (Option Value)} {kV doc pm ct : Value} (l : K.lookup f = some ⟨oc, od, .func (PySem.W.fnOf x qual (defArgs st) (defBody st) (defScope st) .none kV doc pm an (.ref c) ct), osl⟩)
    (cc : PySem.W.codeIn K (.ref c) qual = true) (k : PySem.W.keepIn K (.ref f) = true) : FunC K x qual st f (PySem.W.fnOf x qual (defArgs st) (defBody st) (defScope st) .none kV doc pm an (.ref c) ct) c := ⟨⟨oc, od, kV, doc, pm, an, ct, osl, rfl, l, cc⟩, k⟩
end
def rAnyT (K : PySem.W.Frag) : List V → Hp → VK → Prop := fun vs H Q => ∃ (a : Addr) (ns : List Int), vs = [V.ref a] ∧ SqT K H a (ns.map V.int) ∧ Q (.bl (ns.any fun i => i != 0)) H
theorem cr_anyT {X : Cx} (hc : X.calm = true) : CallR X (.builtin "any") (rAnyT X.K) := by
  intro pins s σ H vs us Q I r h
  obtain ⟨a, ns, rfl, hs, q⟩ := h
  obtain ⟨its, rv, hl, _⟩ := I.tuple hs
  rw [Vals.ref1 r]
  have hlt : a < s.heap.objs.size := hl.lt
  refine call_any_walk ?_
  refine wpAny_pyIter_tuple (show s.heap.IsTuple a its.toArray from hl) ?_
  refine ⟨_, _, _, _, _, _, fun i => (ns.getD i 0) != 0, rfl, Walks.tuple (A := X.A.in1) (I.ok.hd hc) _ a (Nat.ne_of_lt hlt) its.toArray, ⟨⟨_, Heap.get?_push_size _ rfl, rfl, rfl⟩, (show s.heap.IsTuple a its.toArray from hl).push _⟩, fun i v s' Q' E' hv hq => ?_, fun h' tk hk => ?_⟩
  · have hv' : its[i]? = some v := by simpa using hv
    obtain ⟨n, hn⟩ : ∃ n, ns[i]? = some n := by
      have l := rv.length
      rw [List.length_map] at l
      have : i < its.length := by
        rcases Nat.lt_or_ge i its.length with h | h
        · exact h
        · rw [List.getElem?_eq_none h] at hv'; cases hv'
      exact ⟨_, List.getElem?_eq_getElem (by omega)⟩
    obtain ⟨u, e1, e2⟩ := rv.get (x := V.int n) (i := i) (by rw [List.getElem?_map, hn]; rfl)
    rw [hv'] at e1
    cases e1
    obtain ⟨t, rfl⟩ := e2
    have hq' : Q' ((ns.getD i 0) != 0) s' := hq
    rw [List.getD_eq_getElem?_getD, hn] at hq'
    first | exact PySem.truthy_int hq' | exact PySem.P.truthy_int hq' | exact truthy_int hq'
  · refine ⟨.bl _, H, I.kept fun b o eo => hk b o (fun hmem => ?_) (Heap.get?_push_of_some _ eo), ?_, q⟩
    · rcases List.mem_cons.mp hmem with e1 | hmem
      · exact absurd (e1 ▸ Heap.lt_size eo) (Nat.lt_irrefl _)
      · cases hmem
    · show Value.bool _ = Value.bool _
      have l := rv.length
      rw [List.length_map] at l
      rw [List.size_toArray, ← l]
      have key : ∀ ns : List Int, (List.range ns.length).any (fun i => ns.getD i 0 != 0) = ns.any fun i => i != 0 := fun ns => by
        induction ns with
        | nil => rfl
        | cons b bs ih =>
          rw [List.length_cons, List.range_succ_eq_map, List.any_cons, List.any_map, List.any_cons, ← ih]
          rfl
      rw [key]
/-- a statement that is never reached -/
def tNever : TS := fun _ _ _ => False
theorem ps_never {X : Cx} {st : Stmt} : PS X st tNever := ⟨fun _ _ _ _ _ _ h => h.elim⟩

/-- the heap has grown; tables too -/
structure FrT (H H' : Hp) : Prop where
  keep : ∀ b o, H b = some o → (∀ ps, o ≠ .tbl ps) → H' b = some o
  tabs : ∀ P, TabG H P → TabG H' P
theorem FrT.refl (H : Hp) : FrT H H := ⟨fun _ _ h _ => h, fun _ h => h⟩
theorem FrT.trans {H H' H'' : Hp} (x : FrT H H') (y : FrT H' H'') : FrT H H'' := ⟨fun b o h n => y.keep b o (x.keep b o h n) n, fun P h => y.tabs P (x.tabs P h)⟩
theorem FrT.of {H H' : Hp} (s : Same H H') : FrT H H' := ⟨fun b o h _ => s b o h, fun P h => let ⟨ps, e, t⟩ := h; ⟨ps, s _ _ e, t⟩⟩
theorem FrT.tab {P : Addr} {H H' : Hp} (t : TabG H P) (x : Tabbed P H H') : FrT H H' := by
  refine ⟨fun b o h n => ?_, fun P' h => ?_⟩
  · by_cases e : b = P
    · obtain ⟨ps, e2, _⟩ := t
      rw [e, e2] at h
      cases h
      exact absurd rfl (n ps)
    · rw [x.2 b e]; exact h
  · by_cases e : P' = P
    · rw [e]; exact x.1
    · obtain ⟨ps, e2, e3⟩ := h
      exact ⟨ps, by rw [x.2 P' e]; exact e2, e3⟩
theorem FrT.tup {H H' : Hp} (x : FrT H H') {b : Addr} {xs : List V} (h : H b = some (.tup xs)) : H' b = some (.tup xs) := x.keep b _ h fun ps z => by cases z
theorem FrT.lst {H H' : Hp} (x : FrT H H') {b : Addr} {xs : List V} (h : H b = some (.lst xs)) : H' b = some (.lst xs) := x.keep b _ h fun ps z => by cases z
theorem FrT.ins {H H' : Hp} (x : FrT H H') {b C d : Addr} {fs : List (Str × V)} (h : H b = some (.ins C d fs)) : H' b = some (.ins C d fs) := x.keep b _ h fun ps z => by cases z

theorem gw_rng {n k : Nat} {te : TE} {vs : List Nat} {σ : L2.St} {e : Bool} {Q : VK} {H2 : Hp} (hw : ∀ x, wipe ((wipe σ vs).set k (some x)) vs = wipe σ vs)
    (hs : ∀ (i : Nat) (Kt : VK), i < n → Kt (.bl e) H2 → te ((wipe σ vs).set k (some (.int (i : Int)))) H2 Kt) (hd : Q (.bl e) H2) :
    ∃ W : Nat → Nat → Hp → Prop, (∃ m, W 0 m H2) ∧ GW (Itr 0 n) (gName k) te vs σ e Q W := by
  refine ⟨fun i m H => m = n - i ∧ i ≤ n ∧ H = H2, ⟨n, by simp, Nat.zero_le _, rfl⟩, ?_⟩
  rintro i m H ⟨rfl, hi, rfl⟩
  by_cases hlt : i < n
  · refine .inr ⟨hlt, fun x H' y => ?_⟩
    obtain ⟨e1, y⟩ := y
    subst e1 y
    refine ⟨hw _, ?_⟩
    rw [Int.zero_add]
    exact hs i _ hlt ⟨e, rfl, fun _ => ⟨n - (i + 1), by omega, rfl, hlt, rfl⟩, fun z => absurd rfl z⟩
  · have e1 : i = n := by omega
    subst e1
    exact .inl ⟨Nat.le_refl _, hd⟩
theorem gw_lst {K : PySem.W.Frag} {L : Addr} {xs : List V} {k : Nat} {te : TE} {vs : List Nat} {σ : L2.St} {e : Bool} {Q : VK} {H2 : Hp} (hL : SqL K H2 L xs) (hw : ∀ x, wipe ((wipe σ vs).set k (some x)) vs = wipe σ vs)
    (hs : ∀ (i : Nat) (x : V) (Kt : VK), xs[i]? = some x → Kt (.bl e) H2 → te ((wipe σ vs).set k (some x)) H2 Kt) (hd : Q (.bl e) H2) :
    ∃ W : Nat → Nat → Hp → Prop, (∃ m, W 0 m H2) ∧ GW (Itl K L) (gName k) te vs σ e Q W := by
  refine ⟨fun i m H => m = xs.length - i ∧ i ≤ xs.length ∧ H = H2, ⟨xs.length, by simp, Nat.zero_le _, rfl⟩, ?_⟩
  rintro i m H ⟨rfl, hi, rfl⟩
  by_cases hlt : i < xs.length
  · refine .inr ⟨⟨xs, xs[i], hL, by simp [hlt]⟩, fun x H' y => ?_⟩
    obtain ⟨e1, y⟩ := y
    subst e1
    refine ⟨hw _, ?_⟩
    exact hs i x _ (y xs hL) ⟨e, rfl, fun _ => ⟨xs.length - (i + 1), by omega, rfl, hlt, rfl⟩, fun z => absurd rfl z⟩
  · have e1 : i = xs.length := by omega
    subst e1
    exact .inl ⟨⟨xs, hL, Nat.le_refl _⟩, hd⟩
theorem gw_tup {K : PySem.W.Frag} {L : Addr} {xs : List V} {k : Nat} {te : TE} {vs : List Nat} {σ : L2.St} {e : Bool} {Q : VK} {H2 : Hp} (hL : SqT K H2 L xs) (hw : ∀ x, wipe ((wipe σ vs).set k (some x)) vs = wipe σ vs)
    (hs : ∀ (i : Nat) (x : V) (Kt : VK), xs[i]? = some x → Kt (.bl e) H2 → te ((wipe σ vs).set k (some x)) H2 Kt) (hd : Q (.bl e) H2) :
    ∃ W : Nat → Nat → Hp → Prop, (∃ m, W 0 m H2) ∧ GW (Itt K L) (gName k) te vs σ e Q W := by
  refine ⟨fun i m H => m = xs.length - i ∧ i ≤ xs.length ∧ H = H2, ⟨xs.length, by simp, Nat.zero_le _, rfl⟩, ?_⟩
  rintro i m H ⟨rfl, hi, rfl⟩
  by_cases hlt : i < xs.length
  · refine .inr ⟨⟨xs, xs[i], hL, by simp [hlt]⟩, fun x H' y => ?_⟩
    obtain ⟨e1, y⟩ := y
    subst e1
    refine ⟨hw _, ?_⟩
    exact hs i x _ (y xs hL) ⟨e, rfl, fun _ => ⟨xs.length - (i + 1), by omega, rfl, hlt, rfl⟩, fun z => absurd rfl z⟩
  · have e1 : i = xs.length := by omega
    subst e1
    exact .inl ⟨⟨xs, hL, Nat.le_refl _⟩, hd⟩
/-- .. for a in range(n) for b in range(a) -/
theorem gw2_rng {n ka kb : Nat} {te : TE} {vs : List Nat} {σ : L2.St} {e : Bool} {Q : VK} {H2 : Hp} (hn : n ≤ 100000) (h2 : ∀ x, ((wipe σ vs).set ka (some x))[ka]? = some (some x)) (w1 : ∀ x, wipe ((wipe σ vs).set ka (some x)) vs = wipe σ vs)
    (w2 : ∀ y x, wipe ((wipe ((wipe σ vs).set ka (some y)) [kb]).set kb (some x)) [kb] = wipe ((wipe σ vs).set ka (some y)) [kb])
    (hs : ∀ (i j : Nat) (Kt : VK), i < n → j < i → Kt (.bl e) H2 → te ((wipe ((wipe σ vs).set ka (some (.int (i : Int)))) [kb]).set kb (some (.int (j : Int)))) H2 Kt) (hd : Q (.bl e) H2) :
    ∃ W : Nat → Nat → Hp → Prop, (∃ m, W 0 m H2) ∧ GW2 (Itr 0 n) (gName ka) (iRng1 (tCons (tVar ka) tNil)) (gName kb) te vs [kb] σ e Q W := by
  have step : ∀ i, i < n → (n - i) * (n + 1) = (n - (i + 1)) * (n + 1) + n + 1 := fun i hi => by
    have : n - i = (n - (i + 1)) + 1 := by omega
    rw [this, Nat.succ_mul]
    omega
  refine ⟨fun i m H => m = (n - i) * (n + 1) ∧ i ≤ n ∧ H = H2, ⟨_, rfl, Nat.zero_le _, rfl⟩, ?_⟩
  rintro i m H ⟨rfl, hi, rfl⟩
  by_cases hlt : i < n
  · have st := step i hlt
    refine .inr ⟨hlt, fun x HH y => ?_⟩
    obtain ⟨e1, y⟩ := y
    subst e1 y
    refine ⟨w1 _, ?_⟩
    rw [Int.zero_add]
    refine ⟨_, h2 _, _, rfl, by omega, by omega, ?_⟩
    rw [Int.toNat_natCast]
    refine ⟨fun j k H' => k = (n - i) * (n + 1) - 1 - j ∧ j ≤ i ∧ H' = HH, ⟨_, ?_, rfl, Nat.zero_le _, rfl⟩, ?_⟩
    · omega
    rintro j k H' ⟨rfl, hj, rfl⟩
    by_cases hlj : j < i
    · refine .inr ⟨hlj, fun x H4 y => ?_⟩
      obtain ⟨e1, y⟩ := y
      subst e1 y
      refine ⟨w2 _ _, ?_⟩
      rw [Int.zero_add]
      exact hs i j _ hlt hlj ⟨e, rfl, fun _ => ⟨(n - i) * (n + 1) - 1 - (j + 1), by omega, rfl, hlj, rfl⟩, fun z => absurd rfl z⟩
    · have e1 : j = i := by omega
      subst e1
      exact .inl ⟨Nat.le_refl _, (n - (j + 1)) * (n + 1), by omega, by omega, rfl, hlt, rfl⟩
  · have e1 : i = n := by omega
    subst e1
    exact .inl ⟨Nat.le_refl _, hd⟩
/-- [e for x in l], l a list that the turns leave as it is -/
theorem lc_tupR {K : PySem.W.Frag} {L : Addr} {xs : List V} {k : Nat} {te : TE} {vs : List Nat} {σ : L2.St} {H1 : Hp} {D : Addr} {Qd : Hp → Prop} (R : Nat → V → Hp → Prop) (hD : H1 D = none) (hL : SqT K H1 L xs) (hLs : ∀ H, Same H1 H → SqT K H L xs)
    (NR : ∀ i v H H', But D H H' → R i v H → R i v H') (hn : xs.length ≤ 100000) (hw : ∀ x, wipe ((wipe σ vs).set k (some x)) vs = wipe σ vs)
    (hs : ∀ (i : Nat) (x : V) (H : Hp) (acc : List V) (Kt : VK), xs[i]? = some x → Same H1 H → H D = some (.lst acc) → (∀ y H4, Same H H4 → R i y H4 → Kt y H4) → te ((wipe σ vs).set k (some x)) H Kt)
    (hd : ∀ H rows, Same H1 H → H D = some (.lst rows) → rows.length = xs.length → (∀ (i : Nat) v, rows[i]? = some v → R i v H) → Qd H) :
    ∃ W : Nat → Nat → Hp → Prop, (∃ m, W 0 m (upd H1 D (.lst []))) ∧ ∀ i m H, W i m H →
      ((Itt K L).stop i H ∧ Qd H) ∨ ((Itt K L).go i H ∧ ∃ Nx : Hp → Prop, (∀ H', Nx H' → ∃ m', m' < m ∧ W (i + 1) m' H') ∧ ∀ x H', (Itt K L).yld i H x H' → gName k x (wipe σ vs) H' fun σ2 H2 => wipe σ2 vs = wipe σ vs ∧ tYes σ2 H2 fun b H3 =>
        if b = true then te σ2 H3 fun y H4 => ∃ acc, H4 D = some (.lst acc) ∧ acc.length < sizeLine ∧ Nx (upd H4 D (.lst (acc ++ [y]))) else Nx H3) := by
  refine lc_tup (fun i H => Same H1 H ∧ ∃ rows, H D = some (.lst rows) ∧ rows.length = i ∧ ∀ (j : Nat) v, rows[j]? = some v → R j v H) ⟨same_new (Same.refl _) hD, [], upd_same, rfl, fun j v e => by simp at e⟩ (fun i H _ ⟨s1, _⟩ => hLs H s1) (fun i x H hx ⟨s1, rows, e1, e2, e3⟩ => ?_) (fun H ⟨s1, rows, e1, e2, e3⟩ => hd H rows s1 e1 e2 e3)
  refine ⟨hw _, ?_⟩
  refine yes_then ?_
  refine iteT ?_
  have hi : i < xs.length := by
    rcases Nat.lt_or_ge i xs.length with h | h
    · exact h
    · rw [List.getElem?_eq_none h] at hx; cases hx
  refine hs i x H rows _ hx s1 e1 fun y H4 s4 r4 => ⟨rows, s4 _ _ e1, ?_, same_but hD (fun b o e => s4 b o (s1 b o e)) but_app, rows ++ [y], upd_same, by rw [List.length_append, e2]; rfl, fun j v e => ?_⟩
  · rw [e2]
    exact Nat.lt_of_lt_of_le hi (Nat.le_trans hn (by decide))
  · by_cases c : j < rows.length
    · rw [List.getElem?_append_left c] at e
      exact NR _ _ _ _ (But.trans (But.of s4) but_app) (e3 j v e)
    · rw [List.getElem?_append_right (by omega)] at e
      have hj : j = i := by
        have : j - rows.length < [y].length := by
          rcases Nat.lt_or_ge (j - rows.length) [y].length with h | h
          · exact h
          · rw [List.getElem?_eq_none h] at e; cases e
        have h1 : [y].length = 1 := rfl
        omega
      subst hj
      rw [e2, Nat.sub_self] at e
      have : y = v := by simpa using e
      subst this
      exact NR _ _ _ _ but_app r4
end Tb

set_option Elab.async false
set_option linter.all false
set_option maxRecDepth 100000
set_option maxHeartbeats 4000000
/-! Monomials and polynomials as nested tuples of the heap: keys, data, their order. -/
namespace PK
open PySem L2 Ew Tb ND PM
/-! ### things as nested keys -/
def kQ (q : Nat × Nat) : NestedKey := .tup [.num (q.1 : Int), .num (q.2 : Int)]
def kM (m : Mono) : NestedKey := .tup (m.map kQ)
def kT (t : Mono × Nat) : NestedKey := .tup [kM t.1, .num (t.2 : Int)]
def kP (p : Terms) : NestedKey := .tup (p.map kT)
theorem kQ_inj {a b : Nat × Nat} (h : kQ a = kQ b) : a = b := by
  injection h with h
  injection h with h1 h2
  injection h1 with h1
  injection h2 with h2 _
  injection h2 with h2
  exact Prod.ext (by omega) (by omega)
theorem map_inj {α β : Type} {f : α → β} (hf : ∀ a b, f a = f b → a = b) : ∀ {l m : List α}, l.map f = m.map f → l = m
  | [], [], _ => rfl
  | [], _ :: _, h => by cases h
  | _ :: _, [], h => by cases h
  | a :: l, b :: m, h => by
    rw [List.map_cons, List.map_cons] at h
    injection h with h1 h2
    rw [hf _ _ h1, map_inj hf h2]
theorem kM_inj {a b : Mono} (h : kM a = kM b) : a = b := by
  injection h with h
  exact map_inj (fun _ _ => kQ_inj) h
theorem kT_inj {a b : Mono × Nat} (h : kT a = kT b) : a = b := by
  injection h with h
  injection h with h1 h2
  injection h2 with h2 _
  injection h2 with h2
  exact Prod.ext (kM_inj h1) (by omega)
theorem kP_inj {a b : Terms} (h : kP a = kP b) : a = b := by
  injection h with h
  exact map_inj (fun _ _ => kT_inj) h
theorem dep_all {α : Type} {f : α → NestedKey} {d : Nat} (h : ∀ x, (f x).depth ≤ d) : ∀ l : List α, NestedKey.depthAll (l.map f) ≤ d
  | [] => Nat.zero_le _
  | x :: l => by
    rw [List.map_cons, NestedKey.depthAll]
    exact Nat.max_le.mpr ⟨h x, dep_all h l⟩
theorem dep_kQ (q : Nat × Nat) : (kQ q).depth ≤ 1 := Nat.le_refl _
theorem dep_kM (m : Mono) : (kM m).depth ≤ 2 := by
  have := dep_all dep_kQ m
  show NestedKey.depthAll _ + 1 ≤ 2
  omega
theorem dep_kT (t : Mono × Nat) : (kT t).depth ≤ 3 := by
  have := dep_kM t.1
  show max (kM t.1).depth (max 0 0) + 1 ≤ 3
  omega
theorem dep_kP (p : Terms) : (kP p).depth ≤ 4 := by
  have := dep_all dep_kT p
  show NestedKey.depthAll _ + 1 ≤ 4
  omega
theorem kys_len {H : Hp} : ∀ {ks : List NestedKey} {xs : List V}, Kys H ks xs → ks.length = xs.length
  | _, _, .nil => rfl
  | _, _, .cons _ r => congrArg (· + 1) (kys_len r)
theorem kys_at {H : Hp} : ∀ {ks : List NestedKey} {xs : List V}, Kys H ks xs → ∀ (i : Nat) {k : NestedKey} {x : V}, ks[i]? = some k → xs[i]? = some x → Ky H k x
  | _, _, .cons a r, i, k, x, h1, h2 => by
    rcases i with _ | i
    · cases h1; cases h2; exact a
    · exact kys_at r i h1 h2
theorem kys_of {H : Hp} : ∀ {ks : List NestedKey} {xs : List V}, ks.length = xs.length → (∀ (i : Nat) k x, ks[i]? = some k → xs[i]? = some x → Ky H k x) → Kys H ks xs
  | [], [], _, _ => .nil
  | [], _ :: _, h, _ => by simp at h
  | _ :: _, [], h, _ => by simp at h
  | k :: ks, x :: xs, h, f => .cons (f 0 k x rfl rfl) (kys_of (by simpa using h) fun i k x a b => f (i + 1) k x a b)
theorem kys_app {H : Hp} : ∀ {ks ks' : List NestedKey} {xs xs' : List V}, Kys H ks xs → Kys H ks' xs' → Kys H (ks ++ ks') (xs ++ xs')
  | _, _, _, _, .nil, r => r
  | _, _, _, _, .cons a q, r => .cons a (kys_app q r)
theorem ky_tup {H : Hp} {ks : List NestedKey} {v : V} (h : Ky H (.tup ks) v) : ∃ a xs, v = .ref a ∧ H a = some (.tup xs) ∧ Kys H ks xs := by
  cases h with
  | tup e r => exact ⟨_, _, rfl, e, r⟩
theorem ky_num {H : Hp} {i : Int} {v : V} (h : Ky H (.num i) v) : v = .int i := by cases h; rfl
theorem Ky.sm {H H' : Hp} {k : NestedKey} {v : V} (s : Same H H') (h : Ky H k v) : Ky H' k v := h.keeps fun b ys e => s _ _ e
theorem Ky.frt {H H' : Hp} {k : NestedKey} {v : V} (f : FrT H H') (h : Ky H k v) : Ky H' k v := h.keeps fun b ys e => f.tup e
/-- a pair -/
theorem ky_pair {H : Hp} {k1 k2 : NestedKey} {v : V} (h : Ky H (.tup [k1, k2]) v) : ∃ a x y, v = .ref a ∧ H a = some (.tup [x, y]) ∧ Ky H k1 x ∧ Ky H k2 y := by
  obtain ⟨a, xs, rfl, e, r⟩ := ky_tup h
  cases r with
  | cons q r =>
    cases r with
    | cons q2 r2 =>
      cases r2
      exact ⟨a, _, _, rfl, e, q, q2⟩
/-! ### the same as data -/
mutual
def kD : NestedKey → PyData
  | .none => .none
  | .num i => .int i
  | .text x => .str x
  | .tup ks => .tuple (kDs ks)
def kDs : List NestedKey → List PyData
  | [] => []
  | k :: ks => kD k :: kDs ks
end
mutual
theorem Ky.dp {K : PySem.W.Frag} {H : Hp} : ∀ {k : NestedKey} {v : V}, Ky H k v → Dp K H v (kD k)
  | _, _, .non => .non
  | _, _, .int i => .int i
  | _, _, .str x => .str x
  | _, _, .tup e r => .tup (SqT.of e) (Kys.dp r)
theorem Kys.dp {K : PySem.W.Frag} {H : Hp} : ∀ {ks : List NestedKey} {xs : List V}, Kys H ks xs → DpAll K H xs (kDs ks)
  | _, _, .nil => .nil
  | _, _, .cons a r => .cons (Ky.dp a) (Kys.dp r)
end
mutual
theorem kD_dep : ∀ k : NestedKey, (kD k).depth = k.depth
  | .none => rfl
  | .num _ => rfl
  | .text _ => rfl
  | .tup ks => congrArg (· + 1) (kDs_dep ks)
theorem kDs_dep : ∀ ks : List NestedKey, PyData.depthAll (kDs ks) = NestedKey.depthAll ks
  | [] => rfl
  | k :: ks => by
    show max (kD k).depth (PyData.depthAll (kDs ks)) = max k.depth (NestedKey.depthAll ks)
    rw [kD_dep k, kDs_dep ks]
end
theorem kDs_map {α : Type} (f : α → NestedKey) : ∀ l : List α, kDs (l.map f) = l.map fun x => kD (f x)
  | [] => rfl
  | x :: l => by
    show kD (f x) :: kDs (l.map f) = _
    rw [kDs_map f l]
    rfl
theorem alike_maps {α : Type} {f : α → PyData} (h : ∀ x y, PySem.W.alike (f x) (f y) = true) : ∀ l m : List α, PySem.W.alikeAll (l.map f) (m.map f) = true
  | [], _ => by simp [PySem.W.alikeAll]
  | _ :: _, [] => by simp [PySem.W.alikeAll]
  | x :: l, y :: m => by
    show PySem.W.alikeAll (f x :: l.map f) (f y :: m.map f) = true
    rw [PySem.W.alikeAll, h x y, alike_maps h l m]
    rfl
def dM (m : Mono) : PyData := kD (kM m)
theorem dM_eq (m : Mono) : dM m = .tuple (m.map fun q => kD (kQ q)) := by
  show PyData.tuple (kDs (m.map kQ)) = _
  rw [kDs_map]
theorem alike_kQ (a b : Nat × Nat) : PySem.W.alike (kD (kQ a)) (kD (kQ b)) = true := by
  show PySem.W.alike (.tuple [.int (a.1 : Int), .int (a.2 : Int)]) (.tuple [.int (b.1 : Int), .int (b.2 : Int)]) = true
  simp [PySem.W.alike, PySem.W.alikeAll]
theorem alike_dM (a b : Mono) : PySem.W.alike (dM a) (dM b) = true := by
  rw [dM_eq, dM_eq, PySem.W.alike]
  exact alike_maps alike_kQ a b
mutual
theorem eqv_self : ∀ k : NestedKey, PyData.eqv (kD k) (kD k) = true
  | .none => rfl
  | .num i => by simp [kD, PyData.eqv]
  | .text x => by simp [kD, PyData.eqv]
  | .tup ks => by simpa [kD, PyData.eqv] using eqv_selfs ks
theorem eqv_selfs : ∀ ks : List NestedKey, PyData.eqvAll (kDs ks) (kDs ks) = true
  | [] => rfl
  | k :: ks => by
    show (PyData.eqv (kD k) (kD k) && PyData.eqvAll (kDs ks) (kDs ks)) = true
    rw [eqv_self k, eqv_selfs ks]; rfl
end
mutual
theorem eqv_kD : ∀ k k' : NestedKey, PyData.eqv (kD k) (kD k') = true → k = k'
  | .none, k', h => by cases k' <;> first | rfl | (exact absurd h (by simp [kD, PyData.eqv]))
  | .num i, k', h => by
    cases k' with
    | num j => exact congrArg _ (by simpa [kD, PyData.eqv] using h)
    | _ => exact absurd h (by simp [kD, PyData.eqv])
  | .text x, k', h => by
    cases k' with
    | text y => exact congrArg _ (by simpa [kD, PyData.eqv] using h)
    | _ => exact absurd h (by simp [kD, PyData.eqv])
  | .tup ks, k', h => by
    cases k' with
    | tup ks' => exact congrArg _ (eqv_kDs ks ks' (by simpa [kD, PyData.eqv] using h))
    | _ => exact absurd h (by simp [kD, PyData.eqv])
theorem eqv_kDs : ∀ ks ks' : List NestedKey, PyData.eqvAll (kDs ks) (kDs ks') = true → ks = ks'
  | [], [], _ => rfl
  | [], _ :: _, h => by simp [kDs, PyData.eqvAll] at h
  | _ :: _, [], h => by simp [kDs, PyData.eqvAll] at h
  | k :: ks, k' :: ks', h => by
    have h' : (PyData.eqv (kD k) (kD k') && PyData.eqvAll (kDs ks) (kDs ks')) = true := by simpa [kDs, PyData.eqvAll] using h
    rw [Bool.and_eq_true] at h'
    rw [eqv_kD k k' h'.1, eqv_kDs ks ks' h'.2]
end
/-- the order of monomials -/
def mlt (a b : Mono) : Prop := PySem.W.dataLt (dM a) (dM b) = true
theorem mlt_as (a b : Mono) (h : mlt a b) : ¬ mlt b a := fun z => by
  have := PyProof.Rows.lex_trans (O := PyProof.Rows.itemOrd) _ _ _ h z
  rw [PyProof.Rows.lex_irrefl] at this
  cases this
theorem mlt_of {a b : Mono} (h : PySem.W.dataLt (dM b) (dM a) = false) (ne : a ≠ b) : mlt a b := by
  rcases e : PySem.W.dataLt (dM a) (dM b) with _ | _
  · exact absurd (kM_inj (eqv_kD _ _ (data_tie (alike_dM a b) e h))) ne
  · exact e
theorem terms_lt {a b : Mono} {x y : Int} (h : PySem.W.dataLt (.tuple [dM b, .int y]) (.tuple [dM a, .int x]) = false) (ne : a ≠ b) : mlt a b := by
  rw [PySem.W.dataLt_pair (alike_dM b a) (by simp [PySem.W.alike])] at h
  by_cases c : PyData.eqv (dM b) (dM a) = true
  · exact absurd (kM_inj (eqv_kD _ _ c)).symm ne
  · rw [if_neg c] at h
    exact mlt_of h ne
theorem go_sq {t u : TS} {D : Ends} {σ : L2.St} {H : Hp} (h : t { D with nx := fun σ' H' => u D σ' H' } σ H) : tSeq t u D σ H := h
theorem snew {p : Addr} {H H1 : Hp} {o : HO} (x : Same H H1) (h : H p = none) : Same H (L2.upd H1 p o) := fun b u e => by rw [upd_ne (ne_of_none e h)]; exact x b u e
theorem catT {K : PySem.W.Frag} {H : Hp} {a b : Addr} {xs ys : List V} {Q : VK} (h1 : H a = some (.tup xs)) (h2 : H b = some (.tup ys)) (hl : xs.length + ys.length ≤ 100000) (q : ∀ x H', Same H H' → H' x = some (.tup (xs ++ ys)) → Q (.ref x) H') : rCatA K (.ref a) (.ref b) H Q :=
  ⟨a, b, xs, ys, rfl, rfl, SqT.of h1, SqT.of h2, Nat.le_trans hl (by decide), fun e => q b H (Same.refl _) (by rw [e]; exact h2), fun _ e => q a H (Same.refl _) (by rw [e, List.append_nil]; exact h1), fun _ _ x hx => q x _ (snew (Same.refl _) hx) upd_same⟩
theorem kpg_tup {X : Cx} {K : PySem.W.Frag} {es : List Expr} {k : Nat} {t : TGs} {pos : Pos} (hc : X.calm = true) (h : PGs X es t)
    (hn : (assignEach es X.env).length = es.length := by rfl) (hst : (assignEach es X.env).findIdx? (·.1) = none := by rfl) (hK : X.K = K := by rfl) : PG X (.Tuple es k pos) (gTup K es.length t) := hK ▸ pg_tup hc h hn hst
/-! ### == and != of nested numbers -/
mutual
def numK : NestedKey → Bool
  | .num _ => true
  | .tup ks => numKs ks
  | _ => false
def numKs : List NestedKey → Bool
  | [] => true
  | k :: ks => numK k && numKs ks
end
mutual
theorem lay_num : ∀ k : NestedKey, numK k = true → (kD k).canLay0 = true
  | .num _, _ => rfl
  | .tup ks, h => by
    show PyData.canLayAll0 (kDs ks) = true
    exact lay_nums ks (by simpa [numK] using h)
  | .none, h => by simp [numK] at h
  | .text _, h => by simp [numK] at h
theorem lay_nums : ∀ ks : List NestedKey, numKs ks = true → PyData.canLayAll0 (kDs ks) = true
  | [], _ => rfl
  | k :: ks, h => by
    have h' : (numK k && numKs ks) = true := by simpa [numKs] using h
    rw [Bool.and_eq_true] at h'
    show ((kD k).canLay0 && PyData.canLayAll0 (kDs ks)) = true
    rw [lay_num k h'.1, lay_nums ks h'.2]; rfl
end
theorem numKs_map {α : Type} {f : α → NestedKey} (h : ∀ x, numK (f x) = true) : ∀ l : List α, numKs (l.map f) = true
  | [] => by simp [numKs]
  | x :: l => by
    show numKs (f x :: l.map f) = true
    rw [numKs, h x, numKs_map h l]; rfl
theorem num_kQ (q : Nat × Nat) : numK (kQ q) = true := by simp [kQ, numK, numKs]
theorem num_kM (m : Mono) : numK (kM m) = true := by rw [kM, numK]; exact numKs_map num_kQ m
theorem num_kT (t : Mono × Nat) : numK (kT t) = true := by rw [kT, numK, numKs, num_kM, numKs, numK, numKs]; rfl
theorem num_kP (p : Terms) : numK (kP p) = true := by rw [kP, numK]; exact numKs_map num_kT p
def rNK (neg : Bool) : R2 := fun x y H Q => ∃ k k', Ky H k x ∧ Ky H k' y ∧ numK k = true ∧ numK k' = true ∧ k.depth ≤ 60 ∧ k'.depth ≤ 60 ∧ Q (.bl (if neg then !decide (k = k') else decide (k = k'))) H
theorem eqv_dec (k k' : NestedKey) : PyData.eqv (kD k) (kD k') = decide (k = k') := by
  rcases h : PyData.eqv (kD k) (kD k') with _ | _
  · exact (decide_eq_false fun e => by rw [e, eqv_self] at h; cases h).symm
  · exact (decide_eq_true (eqv_kD _ _ h)).symm
theorem sh_num {k : NestedKey} (h : numK k = true) (d : k.depth ≤ 60) : SeqAt.shaped (kD k) = true := by
  unfold SeqAt.shaped
  rw [lay_num k h, Bool.true_and, kD_dep]
  exact decide_eq_true (by omega)
theorem op_eqNK {X : Cx} (hu : X.A.units + 64 < cLine) : OpR X (compareOp .Eq) (rNK false) := by
  intro pins s σ H x y v u Q I rx ry h
  obtain ⟨k, k', h1, h2, n1, n2, d1, d2, q⟩ := h
  refine op_eqD hu pins s σ H _ _ v u Q I rx ry ⟨kD k, kD k', Ky.dp h1, Ky.dp h2, sh_num n1 d1, sh_num n2 d2, ?_⟩
  rw [eqv_dec]
  exact q
theorem op_neNK {X : Cx} (hu : X.A.units + 64 < cLine) : OpR X (compareOp .NotEq) (rNK true) := by
  intro pins s σ H x y v u Q I rx ry h
  obtain ⟨k, k', h1, h2, n1, n2, d1, d2, q⟩ := h
  refine op_neD hu pins s σ H _ _ v u Q I rx ry ⟨kD k, kD k', Ky.dp h1, Ky.dp h2, sh_num n1 d1, sh_num n2 d2, ?_⟩
  rw [eqv_dec]
  exact q
/-! ### dicts of exponents -/
/-- an int dict holds the exponents of these powers -/
structure ED (H : Hp) (d : Addr) (L : List (Nat × Nat)) : Prop where
  ex_ : ∃ kvs : List (L2.Key × V), H d = some (.dK kvs) ∧ (kvs.map (·.1)).Nodup ∧ kvs.length ≤ L.length ∧ (∀ kv ∈ kvs, ∃ f : Nat, kv.1 = .inl (f : Int)) ∧ ∀ f : Nat, valV kvs (.inl (f : Int)) = if ex L f = 0 then none else some (.int (ex L f : Nat))
theorem ex_app (f : Nat) : ∀ a b : List (Nat × Nat), ex (a ++ b) f = ex a f + ex b f
  | [], b => (Nat.zero_add _).symm
  | (g, d) :: a, b => by
    show (if g = f then d else 0) + ex (a ++ b) f = _
    rw [ex_app f a b, ex, Nat.add_assoc]
theorem val_not {κ : Type} [DecidableEq κ] {kvs : List (κ × V)} {k : κ} (h : valV kvs k = none) : ¬ k ∈ kvs.map (·.1) := by
  intro m
  obtain ⟨p, hp, e⟩ := List.mem_map.mp m
  have q : (kvs.any fun kv => decide (kv.1 = k)) = true := List.any_eq_true.mpr ⟨p, hp, decide_eq_true e⟩
  rw [valV_any, h] at q
  cases q
theorem keys_putK {κ : Type} [DecidableEq κ] (kvs : List (κ × V)) (k : κ) (v : V) : (putK kvs k v).map (·.1) = if (valV kvs k).isSome = true then kvs.map (·.1) else kvs.map (·.1) ++ [k] := by
  unfold putK
  rw [valV_any]
  split
  · rw [List.map_map]
    refine List.map_congr_left fun kv _ => ?_
    show (if kv.1 = k then (kv.1, v) else kv).1 = kv.1
    split <;> rfl
  · rw [List.map_append]; rfl
theorem nd_keys {κ : Type} [DecidableEq κ] {kvs : List (κ × V)} {k : κ} {v : V} (h : (kvs.map (·.1)).Nodup) : ((putK kvs k v).map (·.1)).Nodup := by
  rw [keys_putK]
  rcases e : valV kvs k with _ | w
  · rw [if_neg (by simp)]
    refine List.nodup_append.mpr ⟨h, by simp, fun a ha b hb => ?_⟩
    rw [List.mem_singleton.mp hb]
    exact fun z => val_not e (z ▸ ha)
  · rw [if_pos (by rfl)]; exact h
theorem mem_keys {κ : Type} [DecidableEq κ] {kvs : List (κ × V)} {k : κ} {v : V} {x : κ} (h : x ∈ (putK kvs k v).map (·.1)) : x ∈ kvs.map (·.1) ∨ x = k := by
  rw [keys_putK] at h
  split at h
  · exact .inl h
  · rcases List.mem_append.mp h with h | h
    · exact .inl h
    · exact .inr (List.mem_singleton.mp h)
/-- one power more -/
theorem ed_put {H' : Hp} {d : Addr} {L : List (Nat × Nat)} {kvs : List (L2.Key × V)} {f e : Nat} (he : 1 ≤ e) (n1 : (kvs.map (·.1)).Nodup) (n2 : kvs.length ≤ L.length) (n3 : ∀ kv ∈ kvs, ∃ f : Nat, kv.1 = .inl (f : Int)) (n4 : ∀ f : Nat, valV kvs (.inl (f : Int)) = if ex L f = 0 then none else some (.int (ex L f : Nat)))
    (hd : H' d = some (.dK (putK kvs (.inl (f : Int)) (.int ((ex L f + e : Nat) : Int))))) : ED H' d (L ++ [(f, e)]) := by
  refine ⟨_, hd, nd_keys n1, ?_, fun kv hk => ?_, fun g => ?_⟩
  · have := length_putK kvs (.inl (f : Int)) (.int ((ex L f + e : Nat) : Int))
    rw [List.length_append, List.length_singleton]; omega
  · rcases mem_keys (List.mem_map.mpr ⟨kv, hk, rfl⟩) with h | h
    · obtain ⟨kv', h1, h2⟩ := List.mem_map.mp h
      rw [← h2]
      exact n3 kv' h1
    · exact ⟨f, h⟩
  · rw [valV_put, ex_app, ex, ex]
    by_cases c : g = f
    · subst c
      rw [if_pos rfl, if_pos rfl, if_neg (by omega)]
      congr 3
    · have c' : ¬ f = g := fun z => c z.symm
      rw [if_neg (fun z => c (by injection z with z; omega)), n4 g, if_neg c', Nat.add_zero]
theorem ED.fr {H H' : Hp} {d : Addr} {L : List (Nat × Nat)} (x : ED H d L) (h : ∀ o, H d = some o → H' d = some o) : ED H' d L := let ⟨kvs, e, r⟩ := x.ex_; ⟨kvs, h _ e, r⟩
def kvD : L2.Key → PyData
  | .inl i => .int i
  | .inr x => .str x
def vD : V → PyData
  | .int i => .int i
  | _ => .none
def natK : L2.Key → Nat
  | .inl i => i.toNat
  | _ => 0
def natW : V → Nat
  | .int i => i.toNat
  | _ => 0
def mq (z : (V × V) × (PyData × PyData)) : Nat × Nat := (natW z.1.1, natW z.1.2)
theorem val_at {κ : Type} [DecidableEq κ] : ∀ {kvs : List (κ × V)} {kv : κ × V}, (kvs.map (·.1)).Nodup → kv ∈ kvs → valV kvs kv.1 = some kv.2
  | p :: kvs, kv, nd, h => by
    obtain ⟨n1, n2⟩ := List.nodup_cons.mp (show (p.1 :: kvs.map (·.1)).Nodup from nd)
    rcases List.mem_cons.mp h with rfl | h
    · exact valV_pos rfl
    · rw [valV_neg fun e => n1 (by rw [e]; exact List.mem_map.mpr ⟨kv, h, rfl⟩)]
      exact val_at n2 h
theorem val_mem {κ : Type} [DecidableEq κ] : ∀ {kvs : List (κ × V)} {k : κ} {v : V}, valV kvs k = some v → (k, v) ∈ kvs
  | [], _, _, h => by simp [valV_nil] at h
  | p :: kvs, k, v, h => by
    by_cases e : p.1 = k
    · rw [valV_pos e] at h
      cases h
      exact List.mem_cons.mpr (.inl (by rw [← e]))
    · rw [valV_neg e] at h
      exact List.mem_cons_of_mem _ (val_mem h)
theorem ex_at {f e : Nat} : ∀ {L : List (Nat × Nat)}, (L.map (·.1)).Nodup → (f, e) ∈ L → ex L f = e
  | (g, d) :: L, nd, h => by
    obtain ⟨n1, n2⟩ := List.nodup_cons.mp (show (g :: L.map (·.1)).Nodup from nd)
    rcases List.mem_cons.mp h with z | h
    · cases z
      rw [ex, if_pos rfl, ex_zero (fun x hx (e : x.1 = f) => n1 (by rw [← e]; exact List.mem_map.mpr ⟨x, hx, rfl⟩)), Nat.add_zero]
    · rw [ex, if_neg (fun (z : g = f) => n1 (by rw [z]; exact List.mem_map.mpr ⟨(f, e), h, rfl⟩)), Nat.zero_add, ex_at n2 h]
/-- sorted items of a dict of exponents: the monomial -/
theorem ed_sorted {P : Program} {w : World} {K : PySem.W.Frag} {H : Hp} {v d : Addr} {L : List (Nat × Nat)} {Q : VK} (hv : H v = some (L2.DX.itemsO v d)) (x : ED H d L) (q : ∀ H' l (ts : List Addr) (m : Mono), (∀ b o, H b = some o → H' b = some o) → H l = none → H' l = some (.lst (ts.map V.ref)) → Kys H' (m.map kQ) (ts.map V.ref) → MCan m → (∀ f, ex m f = ex L f) → m.length ≤ L.length → Q (.ref l) H') :
    rSortItems P w K [.ref v] H Q := by
  obtain ⟨kvs, e, nd, len, ks, vs⟩ := x.ex_
  have val : ∀ kv ∈ kvs, ∃ f e : Nat, kv = (.inl (f : Int), .int (e : Int)) ∧ 1 ≤ e ∧ ex L f = e := fun kv hk => by
    obtain ⟨f, hf⟩ := ks kv hk
    have h1 : valV kvs kv.1 = some kv.2 := val_at nd hk
    rw [hf, vs f] at h1
    split at h1
    · cases h1
    · rename_i c
      refine ⟨f, ex L f, Prod.ext hf (Option.some.inj h1).symm, by omega, rfl⟩
  refine ⟨v, d, kvs.map fun kv => ((kV kv.1, kv.2), (kvD kv.1, vD kv.2)), rfl, hv, .inr ⟨kvs, .inl e, by rw [List.map_map]; rfl⟩, fun z hz => ?_, ⟨fun x hx y hy => ?_, .inl fun x hx => ?_⟩, fun H' l ts fr pt st hl el et => ?_⟩
  · obtain ⟨kv, hk, rfl⟩ := List.mem_map.mp hz
    obtain ⟨f, e, rfl, _⟩ := val kv hk
    exact ⟨.int _, .int _, (show max 0 (max 0 0) + 1 ≤ 60 by decide)⟩
  · rw [List.map_map] at hx hy
    obtain ⟨kv, hk, rfl⟩ := List.mem_map.mp hx
    obtain ⟨kv', hk', rfl⟩ := List.mem_map.mp hy
    obtain ⟨f, e, rfl, _⟩ := val kv hk
    obtain ⟨f', e', rfl, _⟩ := val kv' hk'
    exact alike_kQ (f, e) (f', e')
  · rw [List.map_map] at hx
    obtain ⟨kv, hk, rfl⟩ := List.mem_map.mp hx
    exact ⟨_, rfl⟩
  · have src : ∀ z ∈ ts, ∃ f e : Nat, z.2 = ((.int (f : Int), .int (e : Int)), (.int (f : Int), .int (e : Int))) ∧ 1 ≤ e ∧ ex L f = e ∧ ((.inl (f : Int), .int (e : Int)) : L2.Key × V) ∈ kvs := fun z hz => by
      obtain ⟨kv, hk, ez⟩ := List.mem_map.mp (pt.mem_iff.mp (List.mem_map.mpr ⟨z, hz, rfl⟩))
      obtain ⟨f, e, rfl, h1, h2⟩ := val kv hk
      exact ⟨f, e, ez.symm, h1, h2, hk⟩
    have nat : ∀ z ∈ ts, ∃ f e : Nat, mq z.2 = (f, e) ∧ z.2.1 = (.int (f : Int), .int (e : Int)) ∧ z.2.2 = (.int (f : Int), .int (e : Int)) ∧ 1 ≤ e ∧ ex L f = e := fun z hz => by
      obtain ⟨f, e, h1, h2, h3, _⟩ := src z hz
      exact ⟨f, e, by rw [h1]; rfl, by rw [h1], by rw [h1], h2, h3⟩
    have zl : ts.length = kvs.length := by have := pt.length_eq; rw [List.length_map, List.length_map] at this; exact this
    have ndk : (ts.map fun z => (mq z.2).1).Nodup := by
      have h1 : (kvs.map fun kv => natK kv.1).Nodup := by
        refine List.Pairwise.map (R := fun a b => a.1 ≠ b.1 ∧ a ∈ kvs ∧ b ∈ kvs) _ (fun a b ⟨h, ha, hb⟩ e => ?_) ((List.Pairwise.and_mem.mp (List.pairwise_map.mp nd)).imp fun ⟨h1, h2, h3⟩ => ⟨h3, h1, h2⟩)
        obtain ⟨f, hf⟩ := ks a ha
        obtain ⟨g, hg⟩ := ks b hb
        rw [hf, hg] at e
        have : f = g := by
          have e' : ((f : Int)).toNat = ((g : Int)).toNat := e
          omega
        exact h (by rw [hf, hg, this])
      have h2 := pt.map fun z : (V × V) × (PyData × PyData) => (mq z).1
      rw [List.map_map, List.map_map] at h2
      have e3 : (kvs.map ((fun z : (V × V) × (PyData × PyData) => (mq z).1) ∘ fun kv : L2.Key × V => ((kV kv.1, kv.2), (kvD kv.1, vD kv.2)))) = kvs.map fun kv => natK kv.1 := List.map_congr_left fun kv hk => by
        obtain ⟨f, hf⟩ := ks kv hk
        show natW (kV kv.1) = natK kv.1
        rw [hf]
        rfl
      rw [e3] at h2
      exact h2.nodup_iff.mpr h1
    refine q H' l (ts.map (·.1)) (ts.map fun z => mq z.2) fr hl (by rw [el, List.map_map]; rfl) ?_ ⟨?_, fun x hx => ?_⟩ (fun f => ?_) ?_
    · rw [List.map_map, List.map_map]
      refine kys_of (by rw [List.length_map, List.length_map]) fun i k x hk hx => ?_
      rw [List.getElem?_map] at hk hx
      obtain ⟨z, hz, rfl⟩ := Option.map_eq_some_iff.mp hk
      rw [hz] at hx
      cases hx
      have zm := List.mem_of_getElem? hz
      obtain ⟨f, e, h1, h2, _⟩ := nat z zm
      have h5 := et z zm
      rw [h2] at h5
      show Ky H' (kQ (mq z.2)) (.ref z.1)
      rw [h1]
      exact .tup h5 (.cons (.int _) (.cons (.int _) .nil))
    · have hp := List.pairwise_map.mp ndk
      refine List.pairwise_map.mpr (List.Pairwise.imp_of_mem (fun {a b} ha hb h => ?_) (List.Pairwise.and st hp))
      obtain ⟨f, e, h1, _, h2, _⟩ := nat a ha
      obtain ⟨g, e', h3, _, h4, _⟩ := nat b hb
      obtain ⟨hs, hn⟩ := h
      rw [h1, h3] at hn ⊢
      rw [h2, h4, PySem.W.dataLt_ii] at hs
      have := of_decide_eq_false hs
      have hn' : f ≠ g := hn
      show f < g
      omega
    · obtain ⟨z, hz, rfl⟩ := List.mem_map.mp hx
      obtain ⟨f, e, h1, _, _, h2, _⟩ := nat z hz
      rw [h1]
      exact h2
    · by_cases c : ex L f = 0
      · rw [c]
        refine ex_zero fun x hx e => ?_
        obtain ⟨z, hz, rfl⟩ := List.mem_map.mp hx
        obtain ⟨g, e', h1, _, _, h2, h3⟩ := nat z hz
        rw [h1] at e
        have e : g = f := e
        subst e
        omega
      · have hv := vs f
        rw [if_neg c] at hv
        have hm : ((.inl (f : Int), .int ((ex L f : Nat) : Int)) : L2.Key × V) ∈ kvs := val_mem hv
        have : ((kV (.inl (f : Int)), V.int ((ex L f : Nat) : Int)), (kvD (.inl (f : Int)), vD (.int ((ex L f : Nat) : Int)))) ∈ ts.map (·.2) := pt.mem_iff.mpr (List.mem_map.mpr ⟨_, hm, rfl⟩)
        obtain ⟨z, hz, ez⟩ := List.mem_map.mp this
        exact ex_at (by rw [List.map_map]; exact ndk) (List.mem_map.mpr ⟨z, hz, by unfold mq; rw [ez]; rfl⟩)
    · rw [List.length_map, zl]; exact len

/-! ### dicts of terms -/
/-- a dict with monomials as keys holds the sums of the coefficients of these terms -/
structure PD (P : Program) (w : World) (H : Hp) (d : Addr) (L : Terms) : Prop where
  ex_ : ∃ kvs : List (NestedKey × V), ND.At P w H d kvs ∧ (kvs.map (·.1)).Nodup ∧ kvs.length ≤ L.length ∧ (∀ kv ∈ kvs, ∃ m : Mono, MCan m ∧ kv.1 = kM m) ∧ ∀ m : Mono, valV kvs (kM m) = if coef L m = 0 then none else some (.int (coef L m : Nat))
  mc : ∀ x ∈ L, MCan x.1
theorem PD.nil {P : Program} {w : World} {H : Hp} {d : Addr} (h : ND.At P w H d []) : PD P w H d [] := ⟨⟨[], h, List.nodup_nil, Nat.le_refl _, fun _ h => (nomatch h), fun m => rfl⟩, fun _ h => (nomatch h)⟩
theorem PD.keeps {P : Program} {w : World} {H H' : Hp} {d : Addr} {L : Terms} (x : PD P w H d L) (ha : ∀ u, H d = some u → H' d = some u) (ht : ∀ b ys, H b = some (.tup ys) → H' b = some (.tup ys)) : PD P w H' d L :=
  let ⟨kvs, e, r⟩ := x.ex_; ⟨⟨kvs, e.keeps ha ht, r⟩, x.mc⟩
theorem pd_put {P : Program} {w : World} {H' : Hp} {d : Addr} {L : Terms} {kvs : List (NestedKey × V)} {m : Mono} {c : Nat} (hc : 1 ≤ c) (hm : MCan m) (hL : ∀ x ∈ L, MCan x.1) (n1 : (kvs.map (·.1)).Nodup) (n2 : kvs.length ≤ L.length) (n3 : ∀ kv ∈ kvs, ∃ m : Mono, MCan m ∧ kv.1 = kM m)
    (n4 : ∀ m : Mono, valV kvs (kM m) = if coef L m = 0 then none else some (.int (coef L m : Nat))) (hd : ND.At P w H' d (putK kvs (kM m) (.int ((coef L m + c : Nat) : Int)))) : PD P w H' d (L ++ [(m, c)]) := by
  refine ⟨⟨_, hd, nd_keys n1, ?_, fun kv hk => ?_, fun n => ?_⟩, fun x hx => ?_⟩
  · have := length_putK kvs (kM m) (.int ((coef L m + c : Nat) : Int))
    rw [List.length_append, List.length_singleton]; omega
  · rcases mem_keys (List.mem_map.mpr ⟨kv, hk, rfl⟩) with h | h
    · obtain ⟨kv', h1, h2⟩ := List.mem_map.mp h
      rw [← h2]
      exact n3 kv' h1
    · exact ⟨m, hm, h⟩
  · rw [valV_put, coef_app, coef, coef]
    by_cases e : n = m
    · subst e
      rw [if_pos rfl, if_pos rfl, if_neg (by omega)]
      congr 3
    · have e' : ¬ m = n := fun z => e z.symm
      rw [if_neg (fun z => e (kM_inj z)), n4 n, if_neg e', Nat.add_zero]
  · rcases List.mem_append.mp hx with h | h
    · exact hL x h
    · rw [List.mem_singleton.mp h]; exact hm
theorem coef_tot (m : Mono) : ∀ L : Terms, coef L m ≤ (L.map (·.2)).sum
  | [] => Nat.le_refl _
  | (n, c) :: L => by
    have := coef_tot m L
    show (if n = m then c else 0) + coef L m ≤ c + (L.map (·.2)).sum
    split <;> omega
/-- the whole of the coefficients -/
def tot (L : Terms) : Nat := (L.map (·.2)).sum
theorem tot_sum : ∀ L : Terms, (tot L : Int) = sumL (fun _ => 1) L
  | [] => rfl
  | (m, c) :: L => by
    show ((c + tot L : Nat) : Int) = (c : Int) * 1 + sumL (fun _ => 1) L
    rw [← tot_sum L, Int.natCast_add, Int.mul_one]
theorem tot_of {L L' : Terms} (h : ∀ m, coef L m = coef L' m) : tot L = tot L' := by
  have := linear (fun _ => 1) h
  rw [← tot_sum, ← tot_sum] at this
  omega
theorem tot_app (a b : Terms) : tot (a ++ b) = tot a + tot b := by unfold tot; rw [List.map_append, List.sum_append]
theorem tot_tmul (a b : Terms) : tot (tmul a b) = tot a * tot b := by
  have e : ∀ m : Mono, ev (fun _ => 1) m = 1 := fun m => by
    induction m with
    | nil => rfl
    | cons x m ih => obtain ⟨f, e⟩ := x; rw [ev, ih, Int.one_pow, Int.one_mul]
  have h := val_tmul (fun _ => 1) a b
  have e2 : ev (fun _ => 1) = fun _ : Mono => (1 : Int) := funext e
  rw [e2, ← tot_sum, ← tot_sum, ← tot_sum] at h
  have : ((tot (tmul a b) : Nat) : Int) = ((tot a * tot b : Nat) : Int) := by rw [h, Int.natCast_mul]
  omega
theorem tot_mem {L : Terms} {x : Mono × Nat} (h : x ∈ L) : x.2 ≤ tot L := by
  unfold tot
  induction L with
  | nil => cases h
  | cons y L ih =>
    rw [List.map_cons, List.sum_cons]
    rcases List.mem_cons.mp h with rfl | h
    · omega
    · have := ih h; omega
theorem tmul_len (a b : Terms) : (tmul a b).length = a.length * b.length := by
  induction a with
  | nil => exact (Nat.zero_mul _).symm
  | cons x a ih =>
    show ((b.map fun y => (mmul x.1 y.1, x.2 * y.2)) ++ tmul a b).length = _
    rw [List.length_append, List.length_map, ih, List.length_cons, Nat.succ_mul, Nat.add_comm]
/-- terms whose monomials are canonical, with coefficients from 1 on -/
structure TOk (L : Terms) : Prop where
  mc : ∀ x ∈ L, MCan x.1
  pos : ∀ x ∈ L, 1 ≤ x.2
theorem TOk.app {a b : Terms} (ha : TOk a) (hb : TOk b) : TOk (a ++ b) := ⟨fun x h => (List.mem_append.mp h).elim (ha.mc x) (hb.mc x), fun x h => (List.mem_append.mp h).elim (ha.pos x) (hb.pos x)⟩
theorem TOk.mul {a b : Terms} (ha : TOk a) (hb : TOk b) : TOk (tmul a b) := by
  have src : ∀ x ∈ tmul a b, ∃ u ∈ a, ∃ v ∈ b, x = (mmul u.1 v.1, u.2 * v.2) := fun x h => by
    obtain ⟨u, h1, h2⟩ := List.mem_flatMap.mp h
    obtain ⟨v, h3, h4⟩ := List.mem_map.mp h2
    exact ⟨u, h1, v, h3, h4.symm⟩
  refine ⟨fun x h => ?_, fun x h => ?_⟩
  · obtain ⟨u, h1, v, h2, rfl⟩ := src x h
    exact mmul_can (ha.mc u h1) (hb.mc v h2)
  · obtain ⟨u, h1, v, h2, rfl⟩ := src x h
    exact Nat.mul_le_mul (ha.pos u h1) (hb.pos v h2)
abbrev PC (p : Terms) : Prop := PCan mlt p
theorem PM.PCan.ok {p : Terms} (h : PC p) : TOk p := ⟨h.mc, h.pos⟩
/-- sorted items of a dict of terms: the polynomial -/
theorem pd_sorted {P : Program} {w : World} {K : PySem.W.Frag} {H : Hp} {v d : Addr} {L : Terms} {Q : VK} (hv : H v = some (L2.DX.itemsO v d)) (x : PD P w H d L) (q : ∀ H' l (ts : List Addr) (p : Terms), (∀ b o, H b = some o → H' b = some o) → H l = none → H' l = some (.lst (ts.map V.ref)) → Kys H' (p.map kT) (ts.map V.ref) → PC p → (∀ m, coef p m = coef L m) → p.length ≤ L.length → Q (.ref l) H') :
    rSortItems P w K [.ref v] H Q := by
  obtain ⟨kvs, ⟨es, he, hk, ekv⟩, nd, len, ks, vs⟩ := x.ex_
  have val : ∀ e ∈ es, ∃ (m : Mono) (c : Nat), e = (kM m, e.2.1, .int (c : Int)) ∧ MCan m ∧ 1 ≤ c ∧ coef L m = c ∧ Ky H (kM m) (.ref e.2.1) ∧ (kM m, V.int (c : Int)) ∈ kvs := fun e hm => by
    have hkv : (e.1, e.2.2) ∈ kvs := by rw [ekv]; exact List.mem_map.mpr ⟨e, hm, rfl⟩
    obtain ⟨m, mc, ek⟩ := ks _ hkv
    have ek : e.1 = kM m := ek
    have h1 : valV kvs e.1 = some e.2.2 := val_at nd hkv
    rw [ek, vs m] at h1
    have hky := (hk e hm).1
    rw [ek] at hky
    split at h1
    · cases h1
    · rename_i c
      have ev := (Option.some.inj h1).symm
      rw [ev, ek] at hkv
      exact ⟨m, coef L m, Prod.ext ek (Prod.ext rfl ev), mc, by omega, rfl, hky, hkv⟩
  have memk : ∀ m, coef L m ≠ 0 → ∃ e ∈ es, e.1 = kM m ∧ e.2.2 = .int (coef L m : Nat) := fun m hm => by
    have hv := vs m
    rw [if_neg hm] at hv
    have := val_mem hv
    rw [ekv] at this
    obtain ⟨e, h1, h2⟩ := List.mem_map.mp this
    exact ⟨e, h1, congrArg Prod.fst h2, congrArg Prod.snd h2⟩
  have ndE : (es.map (·.1)).Nodup := by
    rw [ekv] at nd
    unfold ND.kvOf at nd
    rw [List.map_map] at nd
    exact nd
  have lenE : es.length ≤ L.length := by
    rw [ekv] at len
    unfold ND.kvOf at len
    rw [List.length_map] at len
    exact len
  generalize hg : (fun e : NestedKey × Addr × V => (((V.ref e.2.1, e.2.2), (kD e.1, vD e.2.2)) : (V × V) × (PyData × PyData))) = g
  have gE : ∀ e, g e = ((V.ref e.2.1, e.2.2), (kD e.1, vD e.2.2)) := fun e => by rw [← hg]
  refine ⟨v, d, es.map g, rfl, hv, .inl ⟨es, .inl he, by rw [List.map_map]; exact List.map_congr_left fun e _ => by show (g e).1 = _; rw [gE]⟩, fun z hz => ?_, ⟨fun x hx y hy => ?_, .inl fun x hx => ?_⟩, fun H' l ts fr pt st hl el et => ?_⟩
  · obtain ⟨e, hm, rfl⟩ := List.mem_map.mp hz
    obtain ⟨m, c, e1, _, _, _, hky, _⟩ := val e hm
    rw [gE, e1]
    refine ⟨Ky.dp hky, .int _, ?_⟩
    show max (kD (kM m)).depth (max 0 0) + 1 ≤ 60
    rw [kD_dep]
    have := dep_kM m
    omega
  · rw [List.map_map] at hx hy
    obtain ⟨e, hm, rfl⟩ := List.mem_map.mp hx
    obtain ⟨e', hm', rfl⟩ := List.mem_map.mp hy
    obtain ⟨m, c, e1, _⟩ := val e hm
    obtain ⟨m', c', e2, _⟩ := val e' hm'
    show PySem.W.alike (.tuple [(g e).2.1, (g e).2.2]) (.tuple [(g e').2.1, (g e').2.2]) = true
    rw [gE, gE, e1, e2]
    show PySem.W.alike (.tuple [dM m, .int (c : Int)]) (.tuple [dM m', .int (c' : Int)]) = true
    rw [PySem.W.alike, PySem.W.alikeAll, alike_dM, PySem.W.alikeAll, PySem.W.alikeAll]
    simp [PySem.W.alike]
  · rw [List.map_map] at hx
    obtain ⟨e, hm, rfl⟩ := List.mem_map.mp hx
    exact ⟨_, rfl⟩
  · have src : ∀ z ∈ ts, ∃ e ∈ es, z.2 = g e := fun z hz => by
      obtain ⟨e, hm, ez⟩ := List.mem_map.mp (pt.mem_iff.mp (List.mem_map.mpr ⟨z, hz, rfl⟩))
      exact ⟨e, hm, ez.symm⟩
    have pick : ∀ z : Addr × ((V × V) × (PyData × PyData)), ∃ t : Mono × Nat, z ∈ ts → ∃ e ∈ es, z.2 = g e ∧ e.1 = kM t.1 ∧ e.2.2 = .int (t.2 : Int) ∧ MCan t.1 ∧ 1 ≤ t.2 ∧ coef L t.1 = t.2 ∧ Ky H (kM t.1) (.ref e.2.1) := fun z => by
      by_cases hz : z ∈ ts
      · obtain ⟨e, hm, ez⟩ := src z hz
        obtain ⟨m, c, e1, h1, h2, h3, h4, _⟩ := val e hm
        exact ⟨(m, c), fun _ => ⟨e, hm, ez, congrArg Prod.fst e1, congrArg (fun x => x.2.2) e1, h1, h2, h3, h4⟩⟩
      · exact ⟨([], 0), fun h => absurd h hz⟩
    obtain ⟨tm, htm⟩ := Classical.axiomOfChoice pick
    have zl : ts.length = es.length := by have := pt.length_eq; rw [List.length_map, List.length_map] at this; exact this
    have ndk : (ts.map fun z => (tm z).1).Nodup := by
      have h2 := pt.map fun z : (V × V) × (PyData × PyData) => z.2.1
      rw [List.map_map, List.map_map] at h2
      have h1 : (es.map fun e => kD e.1).Nodup := by
        refine List.Pairwise.map (R := fun a b => a.1 ≠ b.1 ∧ a ∈ es ∧ b ∈ es) _ (fun a b ⟨h, ha, hb⟩ e => ?_) ((List.Pairwise.and_mem.mp (List.pairwise_map.mp ndE)).imp fun ⟨h1, h2, h3⟩ => ⟨h3, h1, h2⟩)
        obtain ⟨m, _, e1, _⟩ := val a ha
        obtain ⟨n, _, e2, _⟩ := val b hb
        have i1 : a.1 = kM m := congrArg Prod.fst e1
        have i2 : b.1 = kM n := congrArg Prod.fst e2
        have e : kD a.1 = kD b.1 := e
        have := eqv_kD a.1 b.1 (by rw [e]; exact eqv_self _)
        exact h this
      have e3 : (es.map ((fun z : (V × V) × (PyData × PyData) => z.2.1) ∘ g)) = es.map fun e => kD e.1 := List.map_congr_left fun e _ => by
        show (g e).2.1 = _
        rw [gE]
      rw [e3] at h2
      have h3 := h2.nodup_iff.mpr h1
      have h4 := List.pairwise_map.mp h3
      refine List.pairwise_map.mpr (List.Pairwise.imp_of_mem (fun {a b} ha hb h e => ?_) h4)
      obtain ⟨ea, _, za, ka, _⟩ := htm a ha
      obtain ⟨eb, _, zb, kb, _⟩ := htm b hb
      refine h ?_
      show a.2.2.1 = b.2.2.1
      rw [za, zb, gE, gE, ka, kb, e]
    refine q H' l (ts.map (·.1)) (ts.map tm) fr hl (by rw [el, List.map_map]; rfl) ?_ ⟨?_, fun x hx => ?_, fun x hx => ?_⟩ (fun m => ?_) ?_
    · rw [List.map_map, List.map_map]
      refine kys_of (by rw [List.length_map, List.length_map]) fun i k x hk hx => ?_
      rw [List.getElem?_map] at hk hx
      obtain ⟨z, hz, rfl⟩ := Option.map_eq_some_iff.mp hk
      rw [hz] at hx
      cases hx
      have zm := List.mem_of_getElem? hz
      obtain ⟨e, _, ze, ke, ve, _, _, _, hky⟩ := htm z zm
      have h5 := et z zm
      rw [ze, gE] at h5
      show Ky H' (kT (tm z)) (.ref z.1)
      refine .tup h5 (.cons (hky.keeps fun b ys h => fr _ _ h) (.cons ?_ .nil))
      show Ky H' (.num ((tm z).2 : Int)) e.2.2
      rw [ve]
      exact .int _
    · refine List.pairwise_map.mpr (List.Pairwise.imp_of_mem (fun {a b} ha hb h => ?_) (List.Pairwise.and st (List.pairwise_map.mp ndk)))
      obtain ⟨ea, _, za, ka, va, _⟩ := htm a ha
      obtain ⟨eb, _, zb, kb, vb, _⟩ := htm b hb
      obtain ⟨hs, hn⟩ := h
      rw [za, zb, gE, gE, ka, kb, va, vb] at hs
      exact terms_lt hs hn
    · obtain ⟨z, hz, rfl⟩ := List.mem_map.mp hx
      obtain ⟨_, _, _, _, _, h, _⟩ := htm z hz
      exact h
    · obtain ⟨z, hz, rfl⟩ := List.mem_map.mp hx
      obtain ⟨_, _, _, _, _, _, h, _⟩ := htm z hz
      exact h
    · have nd2 : ((ts.map tm).map (·.1)).Nodup := by rw [List.map_map]; exact ndk
      by_cases c : coef L m = 0
      · rw [c]
        refine coef_none fun x hx e => ?_
        obtain ⟨z, hz, rfl⟩ := List.mem_map.mp hx
        obtain ⟨_, _, _, _, _, _, h1, h2, _⟩ := htm z hz
        rw [e, c] at h2
        omega
      · obtain ⟨e, hm, ek, ev⟩ := memk m c
        obtain ⟨z, hz, ez⟩ := List.mem_map.mp (pt.mem_iff.mpr (List.mem_map.mpr ⟨e, hm, rfl⟩))
        obtain ⟨e', _, ze, ke, ve, _, _, h3, _⟩ := htm z hz
        have ez : z.2 = g e := ez
        have e1 : kD e.1 = kD e'.1 := by
          have : (g e).2.1 = (g e').2.1 := by rw [← ez, ← ze]
          rw [gE, gE] at this
          exact this
        have e2 := eqv_kD e.1 e'.1 (by rw [e1]; exact eqv_self _)
        have em : m = (tm z).1 := kM_inj (by rw [← ek, e2, ke])
        rw [em, h3]
        exact coef_at nd2 (List.mem_map.mpr ⟨z, hz, rfl⟩)
    · rw [List.length_map, zl]; exact lenE
end PK

set_option Elab.async false
set_option linter.all false
set_option maxRecDepth 100000
set_option maxHeartbeats 4000000
/-! sorted(d), d a dict of terms: its monomials. -/
namespace PK
open PySem L2 Ew Tb ND _root_.PM
theorem pd_keys {P : Program} {w : World} {K : PySem.W.Frag} {H : Hp} {d : Addr} {L : Terms} {Q : VK} (x : PD P w H d L) (q : ∀ H' l (xs : List V) (ms : List Mono), (∀ b o, H b = some o → H' b = some o) → H l = none → H' l = some (.lst xs) → Kys H' (ms.map kM) xs → ms.Pairwise mlt → (∀ m, m ∈ ms ↔ coef L m ≠ 0) → (∀ m ∈ ms, MCan m) → ms.length ≤ L.length → Q (.ref l) H') :
    rSortKeys P w K [.ref d] H Q := by
  obtain ⟨kvs, ⟨es, he, hk, ekv⟩, nd, len, ks, vs⟩ := x.ex_
  have val : ∀ e ∈ es, ∃ (m : Mono), e.1 = kM m ∧ MCan m ∧ coef L m ≠ 0 ∧ Ky H (kM m) (.ref e.2.1) := fun e hm => by
    have hkv : (e.1, e.2.2) ∈ kvs := by rw [ekv]; exact List.mem_map.mpr ⟨e, hm, rfl⟩
    obtain ⟨m, mc, ek⟩ := ks _ hkv
    have ek : e.1 = kM m := ek
    have h1 : valV kvs e.1 = some e.2.2 := val_at nd hkv
    rw [ek, vs m] at h1
    have hky := (hk e hm).1
    rw [ek] at hky
    split at h1
    · cases h1
    · rename_i c
      exact ⟨m, ek, mc, c, hky⟩
  have memk : ∀ m, coef L m ≠ 0 → ∃ e ∈ es, e.1 = kM m := fun m hm => by
    have hv := vs m
    rw [if_neg hm] at hv
    have := val_mem hv
    rw [ekv] at this
    obtain ⟨e, h1, h2⟩ := List.mem_map.mp this
    exact ⟨e, h1, congrArg Prod.fst h2⟩
  have ndE : (es.map (·.1)).Nodup := by
    rw [ekv] at nd
    unfold ND.kvOf at nd
    rw [List.map_map] at nd
    exact nd
  have lenE : es.length ≤ L.length := by
    rw [ekv] at len
    unfold ND.kvOf at len
    rw [List.length_map] at len
    exact len
  generalize hg : (fun e : NestedKey × Addr × V => ((V.ref e.2.1, kD e.1) : V × PyData)) = g
  have gE : ∀ e, g e = (V.ref e.2.1, kD e.1) := fun e => by rw [← hg]
  refine ⟨d, es.map fun e => (V.ref e.2.1, e.2.2), es.map g, rfl, .inl ⟨es, .inl he, rfl⟩, ?_, fun z hz => ?_, ⟨fun x hx y hy => ?_, .inl fun x hx => ?_⟩, fun ys l pt st hl => ?_⟩
  · rw [List.map_map, List.map_map]
    exact List.map_congr_left fun e _ => by show (g e).1 = _; rw [gE]; rfl
  · obtain ⟨e, hm, rfl⟩ := List.mem_map.mp hz
    obtain ⟨m, e1, _, _, hky⟩ := val e hm
    rw [gE, e1]
    refine ⟨Ky.dp hky, ?_⟩
    show (kD (kM m)).depth ≤ 60
    rw [kD_dep]
    have := dep_kM m
    omega
  · rw [List.map_map] at hx hy
    obtain ⟨e, hm, rfl⟩ := List.mem_map.mp hx
    obtain ⟨e', hm', rfl⟩ := List.mem_map.mp hy
    obtain ⟨m, e1, _⟩ := val e hm
    obtain ⟨m', e2, _⟩ := val e' hm'
    show PySem.W.alike (g e).2 (g e').2 = true
    rw [gE, gE, e1, e2]
    exact alike_dM m m'
  · rw [List.map_map] at hx
    obtain ⟨e, hm, rfl⟩ := List.mem_map.mp hx
    obtain ⟨m, e1, _⟩ := val e hm
    show ∃ t, (g e).2 = .tuple t
    rw [gE, e1]
    exact ⟨_, dM_eq m⟩
  · have pick : ∀ z : V × PyData, ∃ m : Mono, z ∈ ys → z.2 = dM m ∧ MCan m ∧ coef L m ≠ 0 ∧ Ky H (kM m) z.1 := fun z => by
      by_cases hz : z ∈ ys
      · obtain ⟨e, hm, rfl⟩ := List.mem_map.mp (pt.mem_iff.mp hz)
        obtain ⟨m, e1, h1, h2, h3⟩ := val e hm
        refine ⟨m, fun _ => ⟨?_, h1, h2, ?_⟩⟩
        · rw [gE, e1]; rfl
        · rw [gE]; exact h3
      · exact ⟨[], fun h => absurd h hz⟩
    obtain ⟨tm, htm⟩ := Classical.axiomOfChoice pick
    have zl : ys.length = es.length := by have := pt.length_eq; rw [List.length_map] at this; exact this
    have dinj : ∀ m n : Mono, dM m = dM n → m = n := fun m n e => kM_inj (eqv_kD _ _ (by show PyData.eqv (dM m) (dM n) = true; rw [e]; exact eqv_self _))
    have ndk : (ys.map fun z => tm z).Nodup := by
      have h2 := pt.map fun z : V × PyData => z.2
      rw [List.map_map] at h2
      have h1 : (es.map fun e => kD e.1).Nodup := by
        refine List.Pairwise.map (R := fun a b => a.1 ≠ b.1) _ (fun a b h e => ?_) (List.pairwise_map.mp ndE)
        have e : kD a.1 = kD b.1 := e
        exact h (eqv_kD a.1 b.1 (by rw [e]; exact eqv_self _))
      have e3 : (es.map ((fun z : V × PyData => z.2) ∘ g)) = es.map fun e => kD e.1 := List.map_congr_left fun e _ => by
        show (g e).2 = _
        rw [gE]
      rw [e3] at h2
      have h3 := h2.nodup_iff.mpr h1
      refine List.pairwise_map.mpr (List.Pairwise.imp_of_mem (fun {a b} ha hb h e => ?_) (List.pairwise_map.mp h3))
      refine h ?_
      rw [(htm a ha).1, (htm b hb).1, e]
    have s1 := snew (o := .lst (ys.map (·.1))) (fun b o z => z : Same H H) hl
    refine q _ l _ (ys.map fun z => tm z) s1 hl upd_same ?_ ?_ (fun m => ?_) (fun m hm => ?_) ?_
    · rw [List.map_map]
      refine kys_of (by rw [List.length_map, List.length_map]) fun i k x hk hx => ?_
      rw [List.getElem?_map] at hk hx
      obtain ⟨z, hz, rfl⟩ := Option.map_eq_some_iff.mp hx
      rw [hz] at hk
      cases hk
      exact ((htm z (List.mem_of_getElem? hz)).2.2.2).keeps fun b zs e => s1 _ _ e
    · refine List.pairwise_map.mpr (List.Pairwise.imp_of_mem (fun {a b} ha hb h => ?_) ((List.Pairwise.and st (List.pairwise_map.mp ndk))))
      have h1 := h.1
      rw [(htm a ha).1, (htm b hb).1] at h1
      exact mlt_of h1 h.2
    · rw [List.mem_map]
      constructor
      · rintro ⟨z, hz, rfl⟩
        exact (htm z hz).2.2.1
      · intro hm
        obtain ⟨e, h1, h2⟩ := memk m hm
        have hz : g e ∈ ys := pt.mem_iff.mpr (List.mem_map.mpr ⟨e, h1, rfl⟩)
        refine ⟨g e, hz, dinj _ _ ?_⟩
        rw [← (htm _ hz).1, gE, h2]
        rfl
    · obtain ⟨z, hz, rfl⟩ := List.mem_map.mp hm
      exact (htm z hz).2.1
    · rw [List.length_map, zl]; exact lenE
end PK

set_option Elab.async false
set_option linter.all false
set_option maxRecDepth 100000
set_option maxHeartbeats 4000000
/-! t.count(x), a tuple of ints -/
namespace L2
open PySem PySem.Spec PyProof.Rows
def rCntT (K : PySem.W.Frag) : V → List V → Hp → VK → Prop := fun x xs H Q => ∃ (p : Addr) (ns : List Int) (k : Int), x = .ref p ∧ xs = [.int k] ∧ SqT K H p (ns.map V.int) ∧ Q (.int (ns.count k : Nat)) H
section
variable {X : Cx}
theorem mt_tcount : MtR X "tuple.count" (rCntT X.K) := by
  intro pins s σ H x xs v us Q I rx rxs h
  obtain ⟨p, ns, k, rfl, rfl, hs, q⟩ := h
  cases rx
  obtain ⟨u, rfl, ru⟩ := rxs.one
  obtain ⟨t, rfl⟩ := ru
  obtain ⟨its, rv, pl, hlen⟩ := I.tuple hs
  obtain ⟨⟨cls, dd, data, sl⟩, ho, hc, n, hd⟩ := pl
  simp only at hc hd
  subst hc hd
  have hi := ints_of_vals rv
  refine call_meets PySem.F.slot_tuple_count ⟨_, ho, rfl⟩ PySem.F.entry_tuple_count (PySem.F.args_tuple_count_2 _ _)
    (SeqAt.tuple_countAt p its.toArray n dd sl (.int k t) (eqk k)) ⟨ho, fun y hy => (eqk_gives hi y (by simpa using hy)).at _ _, ?_⟩
  have ec : its.toArray.toList.countP (eqk k) = ns.count k := eqk_count hi
  refine ⟨.int (ns.count k : Nat), H, I.tok _, ⟨s.toks, ?_⟩, q⟩
  show Value.int ((its.toArray.toList.countP (eqk k) : Nat) : Int) s.toks = Value.int ((ns.count k : Nat) : Int) s.toks
  rw [ec]
end
end L2

set_option Elab.async false
set_option linter.all false
set_option maxRecDepth 100000
set_option maxHeartbeats 4000000
/-! Dicts whose keys are flat tuples of ints that are known exactly (no dict of their own): the object, its reads and writes; such tuples made; t.count(x). -/
namespace NF
open PySem PySem.W L2
open Sem (wp)
open ND (nD kvOf RE nD_ok re_kv putE kv_any kv_put putE_len re_any re_repl re_put n_empty mergeE mergeE_len re_merge kv_merge)
def kN (n : List Nat) : NestedKey := .tup (n.map fun (f : Nat) => NestedKey.num (f : Int))
def vN (n : List Nat) : List V := n.map fun (f : Nat) => V.int (f : Int)
def Ky (H : Hp) (k : NestedKey) (v : V) : Prop := ∃ (n : List Nat) (a : Addr) (o : Obj), k = kN n ∧ v = .ref a ∧ o.dict = none ∧ H a = some (.frz o (.tup (vN n)))
theorem Ky.keeps {H H' : Hp} (ht : ∀ b o ys, H b = some (.frz o (.tup ys)) → H' b = some (.frz o (.tup ys))) {k : NestedKey} {v : V} : Ky H k v → Ky H' k v := fun ⟨n, a, o, h1, h2, h3, h4⟩ => ⟨n, a, o, h1, h2, h3, ht _ _ _ h4⟩
theorem Ky.is {P : Program} {w : World} {H : Hp} {h : Heap} (ok : HOk P w H h) {k : NestedKey} {v : V} {u : Value} (x : Ky H k v) (r : RelV v u) : NestedIs h k u := by
  obtain ⟨n, a, o, rfl, rfl, h3, h4⟩ := x
  obtain rfl := (show _ = Value.ref a from r)
  obtain ⟨e, _, its, rv, o', h1, h2, m, hd⟩ := (show ObjOk P w H h a (.frz o (.tup (vN n))) from ok a _ h4)
  have ks : ND.Kys H (n.map fun (f : Nat) => NestedKey.num (f : Int)) (vN n) := by
    have := ND.Kys.ints (H := H) (n.map fun (f : Nat) => (f : Int))
    rw [List.map_map, List.map_map] at this
    exact this
  exact .tup h1 h2 hd (by simpa using ND.Kys.is ok ks rv)
theorem rd_of {P : Program} {w : World} {H : Hp} {h : Heap} {a : Addr} {u : HO} (ok : HOk P w H h) (r : Rd H a u) : ObjOk P w H h a u := Rd.ok r ok
def Keyed (H : Hp) (es : List (NestedKey × Addr × V)) : Prop := ∀ e ∈ es, Ky H e.1 (.ref e.2.1) ∧ e.1.depth ≤ 8
/-- a dict with nested keys, readable; changeable -/
def AtR (P : Program) (w : World) (H : Hp) (a : Addr) (kvs : List (NestedKey × V)) : Prop := ∃ es, Rd H a (nD P w a es) ∧ Keyed H es ∧ kvs = kvOf es
def At (P : Program) (w : World) (H : Hp) (a : Addr) (kvs : List (NestedKey × V)) : Prop := ∃ es, H a = some (nD P w a es) ∧ Keyed H es ∧ kvs = kvOf es
section
variable {P : Program} {w : World} {H H' : Hp} {h : Heap} {a : Addr} {kvs : List (NestedKey × V)} {es : List (NestedKey × Addr × V)}
theorem At.rd (x : At P w H a kvs) : AtR P w H a kvs := let ⟨es, e, k, r⟩ := x; ⟨es, .inl e, k, r⟩
theorem At.ext (x : At P w H a kvs) : ∃ φ, H a = some (.ext φ) := let ⟨_, e, _⟩ := x; ⟨_, e⟩
theorem Keyed.keeps (x : Keyed H es) (ht : ∀ b o ys, H b = some (.frz o (.tup ys)) → H' b = some (.frz o (.tup ys))) : Keyed H' es := fun e he => ⟨(x e he).1.keeps ht, (x e he).2⟩
/-- it stays while it and the tuples stay -/
theorem At.keeps (x : At P w H a kvs) (ha : ∀ u, H a = some u → H' a = some u) (ht : ∀ b o ys, H b = some (.frz o (.tup ys)) → H' b = some (.frz o (.tup ys))) : At P w H' a kvs :=
  let ⟨es, e, k, r⟩ := x; ⟨es, ha _ e, k.keeps ht, r⟩
theorem keyed_is (ok : HOk P w H h) : ∀ {es : List (NestedKey × Addr × V)} {xs : List (NestedKey × Addr × Value)}, RE es xs → Keyed H es → ∀ x ∈ xs, (nestedKind P w).is h x.1 x.2.1 := by
  intro es xs r
  induction r with
  | nil => intro _ x hx; exact nomatch hx
  | @cons p q ps qs hq t ih =>
    intro k x hx
    rcases List.mem_cons.mp hx with e | hx
    · subst e
      obtain ⟨k1, k2⟩ := k p (List.mem_cons_self ..)
      rw [← hq.1, ← hq.2.1]
      exact ⟨k1.is ok rfl, k2⟩
    · exact ih (fun e he => k e (List.mem_cons_of_mem _ he)) x hx
theorem rd_all (ok : HOk P w H h) (x : AtR P w H a kvs) : kvs.length ≤ sizeLine ∧ (a == sysModules) = false ∧ ∃ vs, KV kvs vs ∧ h.DictKeyed (nestedKind P w) a vs := by
  obtain ⟨es, e, k, rfl⟩ := x
  obtain ⟨⟨z, y, xs, r, o, ds, ep, h1, h2, h3, h4, h5⟩, _, _⟩ := (show ObjOk P w H h a (nD P w a es) from rd_of ok e)
  exact ⟨by unfold kvOf; rw [List.length_map]; exact z, y, pairsH xs, re_kv r, xs, ⟨o, ds, ep, h1, h2, h3, h4, keyed_is ok r k, h5⟩, rfl⟩
end

/-! ### reads -/
/-- what the dict at a holds at the key y -/
def NGet (P : Program) (w : World) (H : Hp) (a : Addr) (y : V) (r : Option V) : Prop := ∃ kvs k b, AtR P w H a kvs ∧ y = .ref b ∧ Ky H k y ∧ k.depth ≤ 8 ∧ r = valV kvs k
section
variable {X : Cx} {pins : List (Addr × Obj)} {σ : L2.St} {H : Hp} {s : Shared} {a : Addr} {y v d : V} {u r : Value} {o : Option V} {A : Around} {E : Value → Shared → Prop}
theorem n_getItem {Q : Value → Shared → Prop} (hu : A.units + 9 < cLine) (I : Inv X pins σ H s) (g : NGet X.prog X.w H a y (some v)) (ry : RelV y u) (h : ∀ w' s', Inv X pins σ H s' → RelV v w' → Q w' s') :
    wpAny (model X.prog X.w) A (getItem (.ref a) u) Q E s := by
  obtain ⟨kvs, k, b, e, rfl, ky, kd, l⟩ := g
  cases (show u = Value.ref b from ry)
  obtain ⟨z, hd, vs, rel, dd⟩ := rd_all I.hok e
  obtain ⟨w', hw, rw'⟩ := RelO.some_of (v := v) (o := valueAt vs k) (by rw [l]; exact rel.val k)
  exact getItem_keyed (knd := nestedKind X.prog X.w) (by show A.units + 1 + 8 < cLine; omega) ⟨ky.is I.hok rfl, kd⟩ dd hw (h w' _ (I.tok _) rw')
theorem n_in {Q : Value → Shared → Prop} (hu : A.units + 9 < cLine) (I : Inv X pins σ H s) (g : NGet X.prog X.w H a y o) (ry : RelV y u) (h : ∀ s', Inv X pins σ H s' → Q (.bool o.isSome) s') :
    wpAny (model X.prog X.w) A (compareOp .In u (.ref a)) Q E s := by
  obtain ⟨kvs, k, b, e, rfl, ky, kd, l⟩ := g
  cases (show u = Value.ref b from ry)
  obtain ⟨z, hd, vs, rel, dd⟩ := rd_all I.hok e
  refine in_keyed (knd := nestedKind X.prog X.w) (by show A.units + 1 + 8 < cLine; omega) ⟨ky.is I.hok rfl, kd⟩ hd dd ?_
  rw [← (rel.val k).isSome_eq, ← l]
  exact h _ (I.tok _)
theorem n_notIn {Q : Value → Shared → Prop} (hu : A.units + 9 < cLine) (I : Inv X pins σ H s) (g : NGet X.prog X.w H a y o) (ry : RelV y u) (h : ∀ s', Inv X pins σ H s' → Q (.bool (!o.isSome)) s') :
    wpAny (model X.prog X.w) A (compareOp .NotIn u (.ref a)) Q E s := by
  obtain ⟨kvs, k, b, e, rfl, ky, kd, l⟩ := g
  cases (show u = Value.ref b from ry)
  obtain ⟨z, hd, vs, rel, dd⟩ := rd_all I.hok e
  refine notIn_keyed (knd := nestedKind X.prog X.w) (by show A.units + 1 + 8 < cLine; omega) ⟨ky.is I.hok rfl, kd⟩ hd dd ?_
  rw [← (rel.val k).isSome_eq, ← l]
  exact h _ (I.tok _)
theorem n_get1 {Q : Value → Shared → Prop} (hu : A.units + 9 < cLine) (I : Inv X pins σ H s) (g : NGet X.prog X.w H a y o) (ry : RelV y u) (h : ∀ w' s', Inv X pins σ H s' → RelV (o.getD .non) w' → Q w' s') :
    wpAny (model X.prog X.w) A (call (.builtin "dict.get") [.ref a, u]) Q E s := by
  obtain ⟨kvs, k, b, e, rfl, ky, kd, l⟩ := g
  cases (show u = Value.ref b from ry)
  obtain ⟨z, hd, vs, rel, dd⟩ := rd_all I.hok e
  refine get_keyed (knd := nestedKind X.prog X.w) (by show A.units + 1 + 8 < cLine; omega) ⟨ky.is I.hok rfl, kd⟩ hd dd (h _ _ (I.tok _) ?_)
  rw [l]
  exact (rel.val k).getD rfl
theorem n_get2 {Q : Value → Shared → Prop} (hu : A.units + 9 < cLine) (I : Inv X pins σ H s) (g : NGet X.prog X.w H a y o) (ry : RelV y u) (rd : RelV d r) (h : ∀ w' s', Inv X pins σ H s' → RelV (o.getD d) w' → Q w' s') :
    wpAny (model X.prog X.w) A (call (.builtin "dict.get") [.ref a, u, r]) Q E s := by
  obtain ⟨kvs, k, b, e, rfl, ky, kd, l⟩ := g
  cases (show u = Value.ref b from ry)
  obtain ⟨z, hd, vs, rel, dd⟩ := rd_all I.hok e
  refine getOr_keyed (knd := nestedKind X.prog X.w) (by show A.units + 1 + 8 < cLine; omega) ⟨ky.is I.hok rfl, kd⟩ hd dd (h _ _ (I.tok _) ?_)
  rw [l]
  exact (rel.val k).getD rd
end

/-! ### d[k] = v -/
theorem keyed_put {H : Hp} {k : NestedKey} {b : Addr} {v : V} {es : List (NestedKey × Addr × V)} (x : Keyed H es) (ky : Ky H k (.ref b)) (kd : k.depth ≤ 8) : Keyed H (putE es k b v) := by
  unfold putE
  split
  · intro e he
    obtain ⟨e0, h0, rfl⟩ := List.mem_map.mp he
    have := x e0 h0
    by_cases q : e0.1 = k
    · rw [if_pos q]; exact this
    · rw [if_neg q]; exact this
  · intro e he
    rcases List.mem_append.mp he with h | h
    · exact x e h
    · rw [List.mem_singleton.mp h]
      exact ⟨ky, kd⟩
/-- the heap behind a[y] = v: any that holds the changed dict at a, and else what was -/
def NPut (P : Program) (w : World) (H : Hp) (a : Addr) (y v : V) (Q : Hp → Prop) : Prop :=
  ∃ kvs k b, At P w H a kvs ∧ y = .ref b ∧ Ky H k y ∧ k.depth ≤ 8 ∧ kvs.length < sizeLine ∧ ∀ φ, At P w (upd H a (.ext φ)) a (putK kvs k v) → Q (upd H a (.ext φ))
theorem upd_tup {H : Hp} {a : Addr} {u : HO} {φ : Heap → Prop} (e : H a = some (.ext φ)) : ∀ b o ys, H b = some (.frz o (.tup ys)) → upd H a u b = some (.frz o (.tup ys)) := fun b o ys eb => by
  rw [upd_ne (ne_of eb e (fun z => nomatch z))]
  exact eb
section
variable {X : Cx} {pins : List (Addr × Obj)} {σ : L2.St} {H : Hp} {s : Shared} {a : Addr} {y v d : V} {u r : Value} {A : Around} {E : Value → Shared → Prop}
theorem n_setItem {Qh : Hp → Prop} {Q : Unit → Shared → Prop} (hu : A.units + 9 < cLine) (I : Inv X pins σ H s) (g : NPut X.prog X.w H a y v Qh) (ry : RelV y u) (rv : RelV v r) (h : ∀ H' s', Inv X pins σ H' s' → Qh H' → Q () s') :
    wpAny (model X.prog X.w) A (setItem (.ref a) u r) Q E s := by
  obtain ⟨kvs, k, b, ⟨es, e, ke, rfl⟩, rfl, ky, kd, hl, q⟩ := g
  cases (show u = Value.ref b from ry)
  obtain ⟨⟨z, hd, xs, re, o, ds, ep, h1, h2, h3, h4, h5⟩, _, _⟩ := (show ObjOk X.prog X.w H s.heap a (nD X.prog X.w a es) from I.hok a _ e)
  have dd : s.heap.DictOfH (nestedKind X.prog X.w) a xs := ⟨o, ds, ep, h1, h2, h3, h4, keyed_is I.hok re ke, h5⟩
  have hel : (kvOf es).length = es.length := List.length_map ..
  have hz : xs.length ≤ sizeLine := by rw [← Paired.length re]; exact z
  refine wpAny_setItem_heap (knd := nestedKind X.prog X.w) (hsz := hz) (by show A.units + 1 + 8 < cLine; omega) ⟨ky.is I.hok rfl, kd⟩ dd fun h' dd' hs => ?_
  obtain ⟨o', ds', ep', g1, g2, g3, g4, _, g5⟩ := dd'
  have hzl : (putE es k b v).length ≤ sizeLine := by
    have := putE_len es k b v
    omega
  refine h _ _ (d_write (ob := nD X.prog X.w a (putE es k b v)) I (by rw [e]; exact True.intro) hs ⟨o', g1⟩ (nD_ok hzl hd (re_put rv re) ⟨o', ds', ep', g1, g2, g3, g4, g5⟩)) (q _ ⟨putE es k b v, upd_same, ?_, (kv_put es k b v).symm⟩)
  exact (keyed_put ke ky kd).keeps (upd_tup e)
end

/-! ### readings -/
section
variable (P : Program) (w : World)
def tNGet (td ty : TE) : TE := fun σ H Q => td σ H fun x H1 => ty σ H1 fun y H2 => ∃ a v, x = .ref a ∧ NGet P w H2 a y (some v) ∧ Q v H2
def tNIn (ty td : TE) : TE := fun σ H Q => ty σ H fun y H1 => td σ H1 fun x H2 => ∃ a o, x = .ref a ∧ NGet P w H2 a y o ∧ Q (.bl o.isSome) H2
def tNNotIn (ty td : TE) : TE := fun σ H Q => ty σ H fun y H1 => td σ H1 fun x H2 => ∃ a o, x = .ref a ∧ NGet P w H2 a y o ∧ Q (.bl (!o.isSome)) H2
def sNPut (td ty tv : TE) : TS := fun D σ H => tv σ H fun v H1 => td σ H1 fun x H2 => ty σ H2 fun y H3 => ∃ a, x = .ref a ∧ NPut P w H3 a y v (D.nx σ)
def tNGet1 (td ty : TE) : TE := fun σ H Q => td σ H fun x H1 => ∃ a kvs, x = .ref a ∧ AtR P w H1 a kvs ∧ ty σ H1 fun y H2 => ∃ o, NGet P w H2 a y o ∧ Q (o.getD .non) H2
def tNGet2 (td ty tx : TE) : TE := fun σ H Q => td σ H fun x H1 => ∃ a kvs, x = .ref a ∧ AtR P w H1 a kvs ∧ ty σ H1 fun y H2 => tx σ H2 fun z H3 => ∃ o, NGet P w H3 a y o ∧ Q (o.getD z) H3
def tNNew : TE := fun _ H Q => ∀ p φ, H p = none → At P w (upd H p (.ext φ)) p [] → Q (.ref p) (upd H p (.ext φ))
end
section
variable {X : Cx} {o i e f value : Expr} {pos pos' tpos apos cpos : Pos} {td ty tv tx : TE}
theorem typeIs_of {pins : List (Addr × Obj)} {σ : L2.St} {H : Hp} {s : Shared} {a : Addr} {kvs : List (NestedKey × V)} (I : Inv X pins σ H s) (g : AtR X.prog X.w H a kvs) : s.TypeIs (.ref a) "dict" := by
  obtain ⟨_, _, vs, _, dd⟩ := rd_all I.hok g
  exact dd.typeIs
theorem noDict_of {pins : List (Addr × Obj)} {σ : L2.St} {H : Hp} {s : Shared} {a : Addr} {kvs : List (NestedKey × V)} (I : Inv X pins σ H s) (g : AtR X.prog X.w H a kvs) :
    ∀ b, Value.ref a = .ref b → ∃ ob, s.heap.get? b = some ob ∧ ob.dict = none := fun b q => by
  cases q
  obtain ⟨_, _, vs, _, xs, ⟨ob, _, _, h1, h2, _⟩, _⟩ := rd_all I.hok g
  exact ⟨ob, h1, h2.2.1⟩
theorem pe_nget (hu : X.A.units + 9 < cLine) (ho : PE X o td) (hi : PE X i ty) (hs : NoSl i) : PE X (.Subscript o i pos) (tNGet X.prog X.w td ty) := by
  refine ⟨fun pins s σ H Q I h => ?_⟩
  refine subD_of PySem.F.slot_dict_getitem.lookup hs (thn (ho.run pins s σ H _ I h) fun u s1 ⟨x, H1, I1, rx, q1⟩ => thn (hi.run pins s1 σ H1 _ I1 q1) fun iv s2 ⟨y, H2, I2, ry, a, v, ex, g, q2⟩ => ?_)
  subst ex
  obtain rfl : u = Value.ref a := rx
  refine ⟨?_, n_getItem hu I2 g ry fun w' s3 I3 rw' => ⟨v, H2, I3, rw', q2⟩⟩
  obtain ⟨kvs, k, b, e, _⟩ := g
  exact typeIs_of I2 e
theorem pc_nin (hu : X.A.units + 9 < cLine) (hi : PE X i ty) (ho : PE X o td) : PC X .In i o (tNIn X.prog X.w ty td) := by
  refine ⟨fun pins s σ H Q I h => ?_⟩
  refine thn (hi.run pins s σ H _ I h) fun iv s1 ⟨y, H1, I1, ry, q1⟩ => thn (ho.run pins s1 σ H1 _ I1 q1) fun u s2 ⟨x, H2, I2, rx, a, ov, ex, g, q2⟩ => ?_
  subst ex
  obtain rfl : u = Value.ref a := rx
  exact n_in hu I2 g ry fun s3 I3 => ⟨.bl ov.isSome, H2, I3, rfl, q2⟩
theorem pc_nnotin (hu : X.A.units + 9 < cLine) (hi : PE X i ty) (ho : PE X o td) : PC X .NotIn i o (tNNotIn X.prog X.w ty td) := by
  refine ⟨fun pins s σ H Q I h => ?_⟩
  refine thn (hi.run pins s σ H _ I h) fun iv s1 ⟨y, H1, I1, ry, q1⟩ => thn (ho.run pins s1 σ H1 _ I1 q1) fun u s2 ⟨x, H2, I2, rx, a, ov, ex, g, q2⟩ => ?_
  subst ex
  obtain rfl : u = Value.ref a := rx
  exact n_notIn hu I2 g ry fun s3 I3 => ⟨.bl (!ov.isSome), H2, I3, rfl, q2⟩
theorem ps_nput (hu : X.A.units + 9 < cLine) (ho : PE X o td) (hi : PE X i ty) (hv : PE X value tv) (hs : swapsWith value (some (.Subscript o i pos')) pos.line X.env = pure false) :
    PS X (.Assign [.Subscript o i pos'] value pos) (sNPut X.prog X.w td ty tv) := by
  refine ⟨fun pins s σ H D I h => ?_⟩
  refine wpAny_Assign_Subscript (thn (hv.run pins s σ H _ I h) fun r s1 ⟨v, H1, I1, rv, q1⟩ => thn (ho.run pins s1 σ H1 _ I1 q1) fun u s2 ⟨x, H2, I2, rx, q2⟩ => thn (hi.run pins s2 σ H2 _ I2 q2) fun iv s3 ⟨y, H3, I3, ry, a, ex, g⟩ => ?_) hs
  subst ex
  obtain rfl : u = Value.ref a := rx
  exact n_setItem hu I3 g ry rv fun H4 s4 I4 q3 => ⟨σ, H4, I4, q3⟩
theorem pe_nget1 (hu : X.A.units + 9 < cLine) (ho : PE X o td) (he : PE X e ty) (m : M1 X o "get" apos e cpos) : PE X (.Call (.Attribute o "get" apos) [e] [] cpos) (tNGet1 X.prog X.w td ty) := by
  refine ⟨fun pins s σ H Q I h => ?_⟩
  refine wpAny_Call_method m.base m.few m.line PySem.F.plainAttrs_dict PySem.F.slot_dict_get PySem.F.type_dict_get (thn (ho.run pins s σ H _ I h) fun u s1 ⟨x, H1, I1, rx, a, kvs, ex, d, q1⟩ => ?_)
  subst ex
  obtain rfl : u = Value.ref a := rx
  refine ⟨typeIs_of I1 d, noDict_of I1 d, ?_⟩
  rw [m.trees]
  refine Calls.callWith_builtin rfl (Calls.evalArgs_plain (Calls.spliced_cons (thn (he.run pins s1 σ H1 _ I1 q1) fun iv s2 ⟨y, H2, I2, ry, ov, g, q2⟩ => Calls.spliced_nil ?_)))
  exact n_get1 hu I2 g ry fun w' s3 I3 rw' => ⟨_, H2, I3, rw', q2⟩
theorem pe_nget2 (hu : X.A.units + 9 < cLine) (ho : PE X o td) (he : PE X e ty) (hf : PE X f tx) (m : M2 X o "get" apos e f cpos) : PE X (.Call (.Attribute o "get" apos) [e, f] [] cpos) (tNGet2 X.prog X.w td ty tx) := by
  refine ⟨fun pins s σ H Q I h => ?_⟩
  refine wpAny_Call_method m.base m.few m.line PySem.F.plainAttrs_dict PySem.F.slot_dict_get PySem.F.type_dict_get (thn (ho.run pins s σ H _ I h) fun u s1 ⟨x, H1, I1, rx, a, kvs, ex, d, q1⟩ => ?_)
  subst ex
  obtain rfl : u = Value.ref a := rx
  refine ⟨typeIs_of I1 d, noDict_of I1 d, ?_⟩
  rw [m.trees]
  refine Calls.callWith_builtin rfl (Calls.evalArgs_plain (Calls.spliced_cons (thn (he.run pins s1 σ H1 _ I1 q1) fun iv s2 ⟨y, H2, I2, ry, q2⟩ =>
    Calls.spliced_cons (thn (hf.run pins s2 σ H2 _ I2 q2) fun fv s3 ⟨z, H3, I3, rz, ov, g, q3⟩ => Calls.spliced_nil ?_))))
  exact n_get2 hu I3 g ry rz fun w' s4 I4 rw' => ⟨_, H3, I4, rw', q3⟩
theorem pe_nnew : PE X (.Dict [] [] pos) (tNNew X.prog X.w) := ⟨fun pins s σ H Q I h =>
  wpAny_Dict_empty ⟨.ref s.heap.objs.size, _, I.laid (a := s.heap.objs.size) (o := nD X.prog X.w s.heap.objs.size []) (t' := s.toks) (fun _ _ q => Heap.get?_push_of_some _ q) (Nat.le_refl _) (n_empty s.heap I.big), rfl,
    h _ _ (I.hok.fresh (Nat.le_refl _)) ⟨[], upd_same, (fun _ h => nomatch h), rfl⟩⟩⟩
end

/-! ### displays -/
inductive CK (H : Hp) : List (V × V) → List (NestedKey × Addr × V) → Prop
  | nil : CK H [] []
  | cons {k : NestedKey} {b : Addr} {v : V} {ps : List (V × V)} {es : List (NestedKey × Addr × V)} : Ky H k (.ref b) → k.depth ≤ 8 → CK H ps es → CK H ((.ref b, v) :: ps) ((k, b, v) :: es)
theorem ck_carries {P : Program} {w : World} {H : Hp} {h : Heap} (ok : HOk P w H h) {ps : List (V × V)} {es : List (NestedKey × Addr × V)} (c : CK H ps es) :
    ∀ {ws : List (Value × Value)}, VV ps ws → ∃ xs, CarriesH (nestedKind P w) h ws xs ∧ RE es xs := by
  induction c with
  | nil => intro ws r; cases r; exact ⟨[], True.intro, .nil⟩
  | @cons k b v ps es ky kd c ih =>
    intro ws r
    cases r with
    | @cons _ q _ qs h1 t =>
      obtain ⟨xs, c', r'⟩ := ih t
      obtain ⟨q1, q2⟩ := q
      obtain rfl : q1 = Value.ref b := h1.1
      exact ⟨(k, b, q2) :: xs, ⟨rfl, rfl, ⟨ky.is ok rfl, kd⟩, c'⟩, .cons ⟨rfl, rfl, h1.2⟩ r'⟩
theorem keyed_merge {H : Hp} : ∀ {es acc : List (NestedKey × Addr × V)}, Keyed H es → Keyed H acc → Keyed H (mergeE acc es)
  | [], _, _, r => r
  | (k, b, v) :: es, acc, q, r => by
    have h1 := q (k, b, v) (List.mem_cons_self ..)
    exact keyed_merge (es := es) (fun e he => q e (List.mem_cons_of_mem _ he)) (keyed_put r h1.1 h1.2)
theorem CK.keyed {H : Hp} {ps : List (V × V)} {es : List (NestedKey × Addr × V)} (c : CK H ps es) : Keyed H es := by
  induction c with
  | nil => exact fun _ h => nomatch h
  | cons ky kd _ ih =>
    intro e he
    rcases List.mem_cons.mp he with h | h
    · rw [h]; exact ⟨ky, kd⟩
    · exact ih e h
def tNDisp (P : Program) (w : World) (trs : List (TE × TE)) : TE := fun σ H Q => ∀ p φ, H p = none → At P w (upd H p (.ext φ)) p [] → tPairs trs σ (upd H p (.ext φ)) fun ps H2 => H2 p = some (.ext φ) ∧ ∃ es, CK H2 ps es ∧ es.length ≤ 15 ∧
  ∀ φ', At P w (upd H2 p (.ext φ')) p (kvOf (mergeE [] es)) → Q (.ref p) (upd H2 p (.ext φ'))
theorem pe_ndisp {X : Cx} {pos : Pos} {keys : List (Option Expr)} {values : List Expr} {trs : List (TE × TE)} (hu : X.A.units + 9 < cLine) (h : PPs X pos keys values trs) (hall : keys.all (·.isSome) = true) (hl : keys.length = values.length) (h0 : keys ≠ [])
    (h15 : keys.length ≤ 15) : PE X (.Dict keys values pos) (tNDisp X.prog X.w trs) := by
  refine ⟨fun pins s σ H Q I q => ?_⟩
  have hn := I.hok.fresh (Nat.le_refl s.heap.objs.size)
  have I1 := I.laid (a := s.heap.objs.size) (o := nD X.prog X.w s.heap.objs.size []) (h' := s.heap.push { cls := .type "dict", data := .dict #[] }) (t' := s.toks) (fun _ _ q => Heap.get?_push_of_some _ q) (Nat.le_refl _) (n_empty s.heap I.big)
  have hlen := pairTrees_length keys values X.env pos hall hl
  have hne : pairTrees keys values X.env pos ≠ [] := fun e => by
    rw [e] at hlen
    exact h0 (List.length_eq_zero_iff.mp hlen.symm)
  rw [arm_eval_Dict, zip_pairTrees keys values X.env pos hall hl, dictDisplay_pairs _ hne (by omega)]
  refine wpAny_bind (wpAny_standAt (wpAny_bind (wpAny_subDictH (knd := nestedKind X.prog X.w) (by show X.A.units + 8 < cLine; omega) (by rw [hlen]; exact h15) ?_)))
  refine thn (h.run pins _ σ _ _ I1 (q _ _ hn ⟨[], upd_same, (fun _ h => nomatch h), rfl⟩)) fun ws s2 ⟨ps, H2, I2, rel, e, es, ck, lk, q2⟩ => ?_
  obtain ⟨xs, c, rk⟩ := ck_carries (P := X.prog) (w := X.w) I2.hok ck rel
  obtain ⟨⟨z, hd, xs0, re0, o, ds, ep, h1, h2, h3, h4, h5⟩, _, _⟩ := (show ObjOk X.prog X.w H2 s2.heap s.heap.objs.size (nD X.prog X.w s.heap.objs.size []) from I2.hok _ _ e)
  cases re0
  refine ⟨xs, c, ⟨o, ds, ep, h1, h2, h3, h4, (fun _ h => nomatch h), h5⟩, fun h' tk dd' hs => wpAny_pure ⟨.ref s.heap.objs.size, _, ?_, rfl, q2 _ ⟨mergeE [] es, upd_same, (keyed_merge (acc := []) ck.keyed (fun _ h => nomatch h)).keeps (upd_tup e), rfl⟩⟩⟩
  obtain ⟨o', ds', ep', g1, g2, g3, g4, _, g5⟩ := dd'
  have hz : (mergeE [] es).length ≤ sizeLine := by
    have h1 := mergeE_len es []
    rw [List.length_nil] at h1
    rw [sizeLine_eq]; omega
  exact d_write (ob := nD X.prog X.w s.heap.objs.size (mergeE [] es)) I2 (by rw [e]; exact True.intro) hs ⟨o', g1⟩ (nD_ok hz hd (re_merge rk .nil) ⟨o', ds', ep', g1, g2, g3, g4, g5⟩)
def rLenF (P : Program) (w : World) : List V → Hp → VK → Prop := fun vs H Q => ∃ a kvs, vs = [V.ref a] ∧ AtR P w H a kvs ∧ Q (.int (kvs.length : Nat)) H
section
variable {X : Cx}
theorem call_lenF : CallR X (.builtin "len") (rLenF X.prog X.w) := by
  intro pins s σ H xs us Q I r h
  obtain ⟨a, kvs, rfl, ⟨es, e, ke, rfl⟩, q⟩ := h
  obtain ⟨u, rfl, rx⟩ := r.one
  cases rx
  obtain ⟨⟨z, hd, xs, re, o, ds, ep, h1, h2, h3, h4, h5⟩, _, _⟩ := (show ObjOk X.prog X.w H s.heap a (ND.nD X.prog X.w a es) from rd_of I.hok e)
  have dd : s.heap.DictOfH (nestedKind X.prog X.w) a xs := ⟨o, ds, ep, h1, h2, h3, h4, keyed_is I.hok re ke, h5⟩
  have hl : es.length = xs.length := Paired.length re
  refine call_len_dictH hd dd (by rw [← hl]; rw [sizeLine_eq] at z; omega) ?_
  have hk : (ND.kvOf es).length = xs.length := by unfold ND.kvOf; rw [List.length_map, hl]
  rw [hk] at q
  exact ⟨.int (xs.length : Nat), H, I.tok _, ⟨_, rfl⟩, q⟩
end
/-! ### such tuples are made -/
section
variable {X : Cx} {es : List Expr} {pos : Pos} {t : TA}
def tTupF (t : TA) : TE := fun σ H Q => t σ H fun xs H1 => xs.length ≤ sizeLine ∧ ∀ p o, o.dict = none → H1 p = none → Q (.ref p) (upd H1 p (.frz o (.tup xs)))
theorem pe_tupF {x1} (h : PA X es t) : PE X (.Tuple es x1 pos) (tTupF t) := by
  refine ⟨fun pins s σ H Q I hq => ?_⟩
  refine wpAny_Tuple_spliced (thn (h.run pos pins s σ H _ I hq) fun us s1 ⟨xs, H1, I1, r, z, q⟩ => ⟨by rw [← r.length]; exact z, ?_⟩)
  have hf : H1 s1.heap.objs.size = none := I1.hok.fresh (Nat.le_refl _)
  refine ⟨.ref s1.heap.objs.size, upd H1 s1.heap.objs.size (.frz { cls := .type "tuple", data := .seq us.toArray } (.tup xs)), I1.laid (t' := s1.toks) (fun b u e => Heap.get?_push_of_some _ e) (Nat.le_refl _) ?_, rfl, q _ _ rfl hf⟩
  exact ⟨Heap.get?_push_size _ rfl, z, us, r, ⟨_, Heap.get?_push_size _ rfl, rfl, _, rfl⟩⟩
def rTupF (K : PySem.W.Frag) : List V → Hp → VK → Prop := fun xs H Q => ∃ p ys, xs = [.ref p] ∧ SqL K H p ys ∧ ∀ l o, o.dict = none → H l = none → Q (.ref l) (upd H l (.frz o (.tup ys)))
theorem call_tupleF : CallR X (.type "tuple") (rTupF X.K) := by
  intro pins s σ H xs us Q I r h
  obtain ⟨p, ys, rfl, hq, q⟩ := h
  obtain ⟨u, rfl, rx⟩ := r.one
  cases rx
  obtain ⟨its, r', pl, hz⟩ := I.list hq
  have hlen := r'.length
  refine call_tuple_list pl.isList (fun h' kp => ?_) (by simp only [List.size_toArray] <;> omega)
  have I1 : Inv X pins σ H { s with heap := h' } := I.kept (t' := s.toks) kp
  have I2 : Inv X pins σ (upd H h'.objs.size (.frz { cls := .type "tuple", data := .seq its.toArray } (.tup ys))) { s with heap := h'.push { cls := .type "tuple", data := .seq its.toArray } } :=
    I1.laid (t' := s.toks) (fun b o e => Heap.get?_push_of_some _ e) (Nat.le_refl _) ⟨Heap.get?_push_size _ rfl, hz, its, r', PyProof.Rows.IsTup.new _ _⟩
  exact ⟨.ref h'.objs.size, _, I2, rfl, q _ _ rfl (I1.hok.fresh (Nat.le_refl _))⟩
/-- a method of such a tuple -/
def tTM (r : V → List V → Hp → VK → Prop) (to : TE) (t : TA) : TE := fun σ H Q => to σ H fun x H1 => (∃ p o ys, x = .ref p ∧ o.dict = none ∧ H1 p = some (.frz o (.tup ys))) ∧ t σ H1 fun xs H2 => r x xs H2 Q
theorem pe_tm {o e : Expr} {es : List Expr} {to : TE} {name : Str} {apos cpos : Pos} {id : String} {r : V → List V → Hp → VK → Prop} (slot : Slot "tuple" name id) (pa : PlainAttrs "tuple") (hty : typeOf (.builtin id) = pure (.type "method_descriptor")) (hm : MtR X id r) (ho : PE X o to) (ha : PA X (e :: es) t)
    (hbase : attributeBase o name X.env (eval o X.env) = eval o X.env := by rfl)
    (hfew : ((backTo cpos (starEach (e :: es) X.env)).all (fun x => !x.1) && (backToKw cpos (keywordEach [] X.env)).all (fun x => x.1.isSome)
      && decide ((e :: es).length + ([] : List Keyword).length + (if ([] : List Keyword).isEmpty then 0 else 1) < 30)) = true := by rfl)
    (hline : (apos.endLine == cpos.line) = true := by rfl) (hs : starEach (e :: es) X.env = (false, eval e X.env) :: starEach es X.env := by rfl) (hplain : (backTo cpos (starEach es X.env)).any (·.1) = false := by rfl) :
    PE X (.Call (.Attribute o name apos) (e :: es) [] cpos) (tTM r to t) := by
  refine ⟨fun pins s σ H Q I h => ?_⟩
  refine wpAny_Call_method_late hbase hfew hline rfl (thn (ho.run pins s σ H _ I h) fun v s1 ⟨x, H1, I1, r1, ⟨p, ob, ys, ex, hdn, hp⟩, q1⟩ => ?_)
  subst ex
  cases r1
  obtain ⟨e1, _, its, rv, o', h1, h2, m, hd⟩ := (show ObjOk X.prog X.w H1 s1.heap p (.frz ob (.tup ys)) from I1.hok p _ hp)
  have heq : ob = o' := by rw [e1] at h1; exact Option.some.inj h1
  refine ⟨"tuple", id, pa, slot, hty, ⟨ob, e1, heq ▸ h2⟩, fun b eb => ?_, ?_⟩
  · cases eb
    exact ⟨ob, e1, hdn⟩
  have hA := ha.run cpos pins s1 σ H1 _ I1 q1
  rw [hs] at hA ⊢
  refine Calls.callWith_builtin (by show (false || (backTo cpos (starEach es X.env)).any (·.1)) = false; rw [hplain] <;> rfl) (Calls.evalArgs_plain ?_)
  exact thn hA fun us s2 ⟨vs, H2, I2, r2, q2⟩ => hm pins s2 σ H2 (.ref p) vs _ us Q I2 rfl r2 q2
end
end NF

set_option Elab.async false
set_option linter.all false
set_option maxRecDepth 100000
set_option maxHeartbeats 4000000
/-! Dicts whose keys are tuples of nested keys, the outer one known exactly (no dict of its own): the object, its reads and writes; dict(t), t such a tuple of pairs. -/
namespace NG
open PySem PySem.W L2
open Sem (wp)
open ND (nD kvOf RE nD_ok re_kv putE kv_any kv_put putE_len re_any re_repl re_put n_empty mergeE mergeE_len re_merge kv_merge)
/-- tuples stay -/
structure Kp (H H' : Hp) : Prop where
  t : ∀ b ys, H b = some (.tup ys) → H' b = some (.tup ys)
  f : ∀ b o ys, H b = some (.frz o (.tup ys)) → H' b = some (.frz o (.tup ys))
theorem Kp.of {H H' : Hp} (s : ∀ b o, H b = some o → H' b = some o) : Kp H H' := ⟨fun b ys e => s _ _ e, fun b o ys e => s _ _ e⟩
theorem Kp.trans {H H1 H2 : Hp} (x : Kp H H1) (y : Kp H1 H2) : Kp H H2 := ⟨fun b ys e => y.t _ _ (x.t _ _ e), fun b o ys e => y.f _ _ _ (x.f _ _ _ e)⟩
def Ky (H : Hp) (k : NestedKey) (v : V) : Prop := ∃ (ks : List NestedKey) (a : Addr) (o : Obj) (xs : List V), k = .tup ks ∧ v = .ref a ∧ o.dict = none ∧ H a = some (.frz o (.tup xs)) ∧ ND.Kys H ks xs
theorem Ky.keeps {H H' : Hp} (ht : Kp H H') {k : NestedKey} {v : V} : Ky H k v → Ky H' k v := fun ⟨ks, a, o, xs, h1, h2, h3, h4, h5⟩ => ⟨ks, a, o, xs, h1, h2, h3, ht.f _ _ _ h4, h5.keeps ht.t⟩
theorem Ky.is {P : Program} {w : World} {H : Hp} {h : Heap} (ok : HOk P w H h) {k : NestedKey} {v : V} {u : Value} (x : Ky H k v) (r : RelV v u) : NestedIs h k u := by
  obtain ⟨ks, a, o, xs, rfl, rfl, h3, h4, h5⟩ := x
  obtain rfl := (show _ = Value.ref a from r)
  obtain ⟨e, _, its, rv, o', h1, h2, m, hd⟩ := (show ObjOk P w H h a (.frz o (.tup xs)) from ok a _ h4)
  exact .tup h1 h2 hd (by simpa using ND.Kys.is ok h5 rv)
theorem Ky.dp {K : PySem.W.Frag} {H : Hp} {k : NestedKey} {v : V} (x : Ky H k v) : L2.Dp K H v (PK.kD k) := by
  obtain ⟨ks, a, o, xs, rfl, rfl, h3, h4, h5⟩ := x
  exact .tup (.inl (.inr ⟨o, h4⟩)) (PK.Kys.dp h5)
theorem rd_of {P : Program} {w : World} {H : Hp} {h : Heap} {a : Addr} {u : HO} (ok : HOk P w H h) (r : Rd H a u) : ObjOk P w H h a u := Rd.ok r ok
def Keyed (H : Hp) (es : List (NestedKey × Addr × V)) : Prop := ∀ e ∈ es, Ky H e.1 (.ref e.2.1) ∧ e.1.depth ≤ 8
/-- a dict with nested keys, readable; changeable -/
def AtR (P : Program) (w : World) (H : Hp) (a : Addr) (kvs : List (NestedKey × V)) : Prop := ∃ es, Rd H a (nD P w a es) ∧ Keyed H es ∧ kvs = kvOf es
def At (P : Program) (w : World) (H : Hp) (a : Addr) (kvs : List (NestedKey × V)) : Prop := ∃ es, H a = some (nD P w a es) ∧ Keyed H es ∧ kvs = kvOf es
section
variable {P : Program} {w : World} {H H' : Hp} {h : Heap} {a : Addr} {kvs : List (NestedKey × V)} {es : List (NestedKey × Addr × V)}
theorem At.rd (x : At P w H a kvs) : AtR P w H a kvs := let ⟨es, e, k, r⟩ := x; ⟨es, .inl e, k, r⟩
theorem At.ext (x : At P w H a kvs) : ∃ φ, H a = some (.ext φ) := let ⟨_, e, _⟩ := x; ⟨_, e⟩
theorem Keyed.keeps (x : Keyed H es) (ht : Kp H H') : Keyed H' es := fun e he => ⟨(x e he).1.keeps ht, (x e he).2⟩
/-- it stays while it and the tuples stay -/
theorem At.keeps (x : At P w H a kvs) (ha : ∀ u, H a = some u → H' a = some u) (ht : Kp H H') : At P w H' a kvs :=
  let ⟨es, e, k, r⟩ := x; ⟨es, ha _ e, k.keeps ht, r⟩
theorem keyed_is (ok : HOk P w H h) : ∀ {es : List (NestedKey × Addr × V)} {xs : List (NestedKey × Addr × Value)}, RE es xs → Keyed H es → ∀ x ∈ xs, (nestedKind P w).is h x.1 x.2.1 := by
  intro es xs r
  induction r with
  | nil => intro _ x hx; exact nomatch hx
  | @cons p q ps qs hq t ih =>
    intro k x hx
    rcases List.mem_cons.mp hx with e | hx
    · subst e
      obtain ⟨k1, k2⟩ := k p (List.mem_cons_self ..)
      rw [← hq.1, ← hq.2.1]
      exact ⟨k1.is ok rfl, k2⟩
    · exact ih (fun e he => k e (List.mem_cons_of_mem _ he)) x hx
theorem rd_all (ok : HOk P w H h) (x : AtR P w H a kvs) : kvs.length ≤ sizeLine ∧ (a == sysModules) = false ∧ ∃ vs, KV kvs vs ∧ h.DictKeyed (nestedKind P w) a vs := by
  obtain ⟨es, e, k, rfl⟩ := x
  obtain ⟨⟨z, y, xs, r, o, ds, ep, h1, h2, h3, h4, h5⟩, _, _⟩ := (show ObjOk P w H h a (nD P w a es) from rd_of ok e)
  exact ⟨by unfold kvOf; rw [List.length_map]; exact z, y, pairsH xs, re_kv r, xs, ⟨o, ds, ep, h1, h2, h3, h4, keyed_is ok r k, h5⟩, rfl⟩
end

/-! ### reads -/
/-- what the dict at a holds at the key y -/
def NGet (P : Program) (w : World) (H : Hp) (a : Addr) (y : V) (r : Option V) : Prop := ∃ kvs k b, AtR P w H a kvs ∧ y = .ref b ∧ Ky H k y ∧ k.depth ≤ 8 ∧ r = valV kvs k
section
variable {X : Cx} {pins : List (Addr × Obj)} {σ : L2.St} {H : Hp} {s : Shared} {a : Addr} {y v d : V} {u r : Value} {o : Option V} {A : Around} {E : Value → Shared → Prop}
theorem n_getItem {Q : Value → Shared → Prop} (hu : A.units + 9 < cLine) (I : Inv X pins σ H s) (g : NGet X.prog X.w H a y (some v)) (ry : RelV y u) (h : ∀ w' s', Inv X pins σ H s' → RelV v w' → Q w' s') :
    wpAny (model X.prog X.w) A (getItem (.ref a) u) Q E s := by
  obtain ⟨kvs, k, b, e, rfl, ky, kd, l⟩ := g
  cases (show u = Value.ref b from ry)
  obtain ⟨z, hd, vs, rel, dd⟩ := rd_all I.hok e
  obtain ⟨w', hw, rw'⟩ := RelO.some_of (v := v) (o := valueAt vs k) (by rw [l]; exact rel.val k)
  exact getItem_keyed (knd := nestedKind X.prog X.w) (by show A.units + 1 + 8 < cLine; omega) ⟨ky.is I.hok rfl, kd⟩ dd hw (h w' _ (I.tok _) rw')
theorem n_in {Q : Value → Shared → Prop} (hu : A.units + 9 < cLine) (I : Inv X pins σ H s) (g : NGet X.prog X.w H a y o) (ry : RelV y u) (h : ∀ s', Inv X pins σ H s' → Q (.bool o.isSome) s') :
    wpAny (model X.prog X.w) A (compareOp .In u (.ref a)) Q E s := by
  obtain ⟨kvs, k, b, e, rfl, ky, kd, l⟩ := g
  cases (show u = Value.ref b from ry)
  obtain ⟨z, hd, vs, rel, dd⟩ := rd_all I.hok e
  refine in_keyed (knd := nestedKind X.prog X.w) (by show A.units + 1 + 8 < cLine; omega) ⟨ky.is I.hok rfl, kd⟩ hd dd ?_
  rw [← (rel.val k).isSome_eq, ← l]
  exact h _ (I.tok _)
theorem n_notIn {Q : Value → Shared → Prop} (hu : A.units + 9 < cLine) (I : Inv X pins σ H s) (g : NGet X.prog X.w H a y o) (ry : RelV y u) (h : ∀ s', Inv X pins σ H s' → Q (.bool (!o.isSome)) s') :
    wpAny (model X.prog X.w) A (compareOp .NotIn u (.ref a)) Q E s := by
  obtain ⟨kvs, k, b, e, rfl, ky, kd, l⟩ := g
  cases (show u = Value.ref b from ry)
  obtain ⟨z, hd, vs, rel, dd⟩ := rd_all I.hok e
  refine notIn_keyed (knd := nestedKind X.prog X.w) (by show A.units + 1 + 8 < cLine; omega) ⟨ky.is I.hok rfl, kd⟩ hd dd ?_
  rw [← (rel.val k).isSome_eq, ← l]
  exact h _ (I.tok _)
theorem n_get1 {Q : Value → Shared → Prop} (hu : A.units + 9 < cLine) (I : Inv X pins σ H s) (g : NGet X.prog X.w H a y o) (ry : RelV y u) (h : ∀ w' s', Inv X pins σ H s' → RelV (o.getD .non) w' → Q w' s') :
    wpAny (model X.prog X.w) A (call (.builtin "dict.get") [.ref a, u]) Q E s := by
  obtain ⟨kvs, k, b, e, rfl, ky, kd, l⟩ := g
  cases (show u = Value.ref b from ry)
  obtain ⟨z, hd, vs, rel, dd⟩ := rd_all I.hok e
  refine get_keyed (knd := nestedKind X.prog X.w) (by show A.units + 1 + 8 < cLine; omega) ⟨ky.is I.hok rfl, kd⟩ hd dd (h _ _ (I.tok _) ?_)
  rw [l]
  exact (rel.val k).getD rfl
theorem n_get2 {Q : Value → Shared → Prop} (hu : A.units + 9 < cLine) (I : Inv X pins σ H s) (g : NGet X.prog X.w H a y o) (ry : RelV y u) (rd : RelV d r) (h : ∀ w' s', Inv X pins σ H s' → RelV (o.getD d) w' → Q w' s') :
    wpAny (model X.prog X.w) A (call (.builtin "dict.get") [.ref a, u, r]) Q E s := by
  obtain ⟨kvs, k, b, e, rfl, ky, kd, l⟩ := g
  cases (show u = Value.ref b from ry)
  obtain ⟨z, hd, vs, rel, dd⟩ := rd_all I.hok e
  refine getOr_keyed (knd := nestedKind X.prog X.w) (by show A.units + 1 + 8 < cLine; omega) ⟨ky.is I.hok rfl, kd⟩ hd dd (h _ _ (I.tok _) ?_)
  rw [l]
  exact (rel.val k).getD rd
end

/-! ### d[k] = v -/
theorem keyed_put {H : Hp} {k : NestedKey} {b : Addr} {v : V} {es : List (NestedKey × Addr × V)} (x : Keyed H es) (ky : Ky H k (.ref b)) (kd : k.depth ≤ 8) : Keyed H (putE es k b v) := by
  unfold putE
  split
  · intro e he
    obtain ⟨e0, h0, rfl⟩ := List.mem_map.mp he
    have := x e0 h0
    by_cases q : e0.1 = k
    · rw [if_pos q]; exact this
    · rw [if_neg q]; exact this
  · intro e he
    rcases List.mem_append.mp he with h | h
    · exact x e h
    · rw [List.mem_singleton.mp h]
      exact ⟨ky, kd⟩
/-- the heap behind a[y] = v: any that holds the changed dict at a, and else what was -/
def NPut (P : Program) (w : World) (H : Hp) (a : Addr) (y v : V) (Q : Hp → Prop) : Prop :=
  ∃ kvs k b, At P w H a kvs ∧ y = .ref b ∧ Ky H k y ∧ k.depth ≤ 8 ∧ kvs.length < sizeLine ∧ ∀ φ, At P w (upd H a (.ext φ)) a (putK kvs k v) → Q (upd H a (.ext φ))
theorem upd_tup {H : Hp} {a : Addr} {u : HO} {φ : Heap → Prop} (e : H a = some (.ext φ)) : Kp H (upd H a u) :=
  ⟨fun b ys eb => by rw [upd_ne (ne_of eb e (fun z => nomatch z))]; exact eb, fun b o ys eb => by rw [upd_ne (ne_of eb e (fun z => nomatch z))]; exact eb⟩
section
variable {X : Cx} {pins : List (Addr × Obj)} {σ : L2.St} {H : Hp} {s : Shared} {a : Addr} {y v d : V} {u r : Value} {A : Around} {E : Value → Shared → Prop}
theorem n_setItem {Qh : Hp → Prop} {Q : Unit → Shared → Prop} (hu : A.units + 9 < cLine) (I : Inv X pins σ H s) (g : NPut X.prog X.w H a y v Qh) (ry : RelV y u) (rv : RelV v r) (h : ∀ H' s', Inv X pins σ H' s' → Qh H' → Q () s') :
    wpAny (model X.prog X.w) A (setItem (.ref a) u r) Q E s := by
  obtain ⟨kvs, k, b, ⟨es, e, ke, rfl⟩, rfl, ky, kd, hl, q⟩ := g
  cases (show u = Value.ref b from ry)
  obtain ⟨⟨z, hd, xs, re, o, ds, ep, h1, h2, h3, h4, h5⟩, _, _⟩ := (show ObjOk X.prog X.w H s.heap a (nD X.prog X.w a es) from I.hok a _ e)
  have dd : s.heap.DictOfH (nestedKind X.prog X.w) a xs := ⟨o, ds, ep, h1, h2, h3, h4, keyed_is I.hok re ke, h5⟩
  have hel : (kvOf es).length = es.length := List.length_map ..
  have hz : xs.length ≤ sizeLine := by rw [← Paired.length re]; exact z
  refine wpAny_setItem_heap (knd := nestedKind X.prog X.w) (hsz := hz) (by show A.units + 1 + 8 < cLine; omega) ⟨ky.is I.hok rfl, kd⟩ dd fun h' dd' hs => ?_
  obtain ⟨o', ds', ep', g1, g2, g3, g4, _, g5⟩ := dd'
  have hzl : (putE es k b v).length ≤ sizeLine := by
    have := putE_len es k b v
    omega
  refine h _ _ (d_write (ob := nD X.prog X.w a (putE es k b v)) I (by rw [e]; exact True.intro) hs ⟨o', g1⟩ (nD_ok hzl hd (re_put rv re) ⟨o', ds', ep', g1, g2, g3, g4, g5⟩)) (q _ ⟨putE es k b v, upd_same, ?_, (kv_put es k b v).symm⟩)
  exact (keyed_put ke ky kd).keeps (upd_tup e)
end

/-! ### readings -/
section
variable (P : Program) (w : World)
def tNGet (td ty : TE) : TE := fun σ H Q => td σ H fun x H1 => ty σ H1 fun y H2 => ∃ a v, x = .ref a ∧ NGet P w H2 a y (some v) ∧ Q v H2
def tNIn (ty td : TE) : TE := fun σ H Q => ty σ H fun y H1 => td σ H1 fun x H2 => ∃ a o, x = .ref a ∧ NGet P w H2 a y o ∧ Q (.bl o.isSome) H2
def tNNotIn (ty td : TE) : TE := fun σ H Q => ty σ H fun y H1 => td σ H1 fun x H2 => ∃ a o, x = .ref a ∧ NGet P w H2 a y o ∧ Q (.bl (!o.isSome)) H2
def sNPut (td ty tv : TE) : TS := fun D σ H => tv σ H fun v H1 => td σ H1 fun x H2 => ty σ H2 fun y H3 => ∃ a, x = .ref a ∧ NPut P w H3 a y v (D.nx σ)
def tNGet1 (td ty : TE) : TE := fun σ H Q => td σ H fun x H1 => ∃ a kvs, x = .ref a ∧ AtR P w H1 a kvs ∧ ty σ H1 fun y H2 => ∃ o, NGet P w H2 a y o ∧ Q (o.getD .non) H2
def tNGet2 (td ty tx : TE) : TE := fun σ H Q => td σ H fun x H1 => ∃ a kvs, x = .ref a ∧ AtR P w H1 a kvs ∧ ty σ H1 fun y H2 => tx σ H2 fun z H3 => ∃ o, NGet P w H3 a y o ∧ Q (o.getD z) H3
def tNNew : TE := fun _ H Q => ∀ p φ, H p = none → At P w (upd H p (.ext φ)) p [] → Q (.ref p) (upd H p (.ext φ))
end
section
variable {X : Cx} {o i e f value : Expr} {pos pos' tpos apos cpos : Pos} {td ty tv tx : TE}
theorem typeIs_of {pins : List (Addr × Obj)} {σ : L2.St} {H : Hp} {s : Shared} {a : Addr} {kvs : List (NestedKey × V)} (I : Inv X pins σ H s) (g : AtR X.prog X.w H a kvs) : s.TypeIs (.ref a) "dict" := by
  obtain ⟨_, _, vs, _, dd⟩ := rd_all I.hok g
  exact dd.typeIs
theorem noDict_of {pins : List (Addr × Obj)} {σ : L2.St} {H : Hp} {s : Shared} {a : Addr} {kvs : List (NestedKey × V)} (I : Inv X pins σ H s) (g : AtR X.prog X.w H a kvs) :
    ∀ b, Value.ref a = .ref b → ∃ ob, s.heap.get? b = some ob ∧ ob.dict = none := fun b q => by
  cases q
  obtain ⟨_, _, vs, _, xs, ⟨ob, _, _, h1, h2, _⟩, _⟩ := rd_all I.hok g
  exact ⟨ob, h1, h2.2.1⟩
theorem pe_nget (hu : X.A.units + 9 < cLine) (ho : PE X o td) (hi : PE X i ty) (hs : NoSl i) : PE X (.Subscript o i pos) (tNGet X.prog X.w td ty) := by
  refine ⟨fun pins s σ H Q I h => ?_⟩
  refine subD_of PySem.F.slot_dict_getitem.lookup hs (thn (ho.run pins s σ H _ I h) fun u s1 ⟨x, H1, I1, rx, q1⟩ => thn (hi.run pins s1 σ H1 _ I1 q1) fun iv s2 ⟨y, H2, I2, ry, a, v, ex, g, q2⟩ => ?_)
  subst ex
  obtain rfl : u = Value.ref a := rx
  refine ⟨?_, n_getItem hu I2 g ry fun w' s3 I3 rw' => ⟨v, H2, I3, rw', q2⟩⟩
  obtain ⟨kvs, k, b, e, _⟩ := g
  exact typeIs_of I2 e
theorem pc_nin (hu : X.A.units + 9 < cLine) (hi : PE X i ty) (ho : PE X o td) : PC X .In i o (tNIn X.prog X.w ty td) := by
  refine ⟨fun pins s σ H Q I h => ?_⟩
  refine thn (hi.run pins s σ H _ I h) fun iv s1 ⟨y, H1, I1, ry, q1⟩ => thn (ho.run pins s1 σ H1 _ I1 q1) fun u s2 ⟨x, H2, I2, rx, a, ov, ex, g, q2⟩ => ?_
  subst ex
  obtain rfl : u = Value.ref a := rx
  exact n_in hu I2 g ry fun s3 I3 => ⟨.bl ov.isSome, H2, I3, rfl, q2⟩
theorem pc_nnotin (hu : X.A.units + 9 < cLine) (hi : PE X i ty) (ho : PE X o td) : PC X .NotIn i o (tNNotIn X.prog X.w ty td) := by
  refine ⟨fun pins s σ H Q I h => ?_⟩
  refine thn (hi.run pins s σ H _ I h) fun iv s1 ⟨y, H1, I1, ry, q1⟩ => thn (ho.run pins s1 σ H1 _ I1 q1) fun u s2 ⟨x, H2, I2, rx, a, ov, ex, g, q2⟩ => ?_
  subst ex
  obtain rfl : u = Value.ref a := rx
  exact n_notIn hu I2 g ry fun s3 I3 => ⟨.bl (!ov.isSome), H2, I3, rfl, q2⟩
theorem ps_nput (hu : X.A.units + 9 < cLine) (ho : PE X o td) (hi : PE X i ty) (hv : PE X value tv) (hs : swapsWith value (some (.Subscript o i pos')) pos.line X.env = pure false) :
    PS X (.Assign [.Subscript o i pos'] value pos) (sNPut X.prog X.w td ty tv) := by
  refine ⟨fun pins s σ H D I h => ?_⟩
  refine wpAny_Assign_Subscript (thn (hv.run pins s σ H _ I h) fun r s1 ⟨v, H1, I1, rv, q1⟩ => thn (ho.run pins s1 σ H1 _ I1 q1) fun u s2 ⟨x, H2, I2, rx, q2⟩ => thn (hi.run pins s2 σ H2 _ I2 q2) fun iv s3 ⟨y, H3, I3, ry, a, ex, g⟩ => ?_) hs
  subst ex
  obtain rfl : u = Value.ref a := rx
  exact n_setItem hu I3 g ry rv fun H4 s4 I4 q3 => ⟨σ, H4, I4, q3⟩
theorem pe_nget1 (hu : X.A.units + 9 < cLine) (ho : PE X o td) (he : PE X e ty) (m : M1 X o "get" apos e cpos) : PE X (.Call (.Attribute o "get" apos) [e] [] cpos) (tNGet1 X.prog X.w td ty) := by
  refine ⟨fun pins s σ H Q I h => ?_⟩
  refine wpAny_Call_method m.base m.few m.line PySem.F.plainAttrs_dict PySem.F.slot_dict_get PySem.F.type_dict_get (thn (ho.run pins s σ H _ I h) fun u s1 ⟨x, H1, I1, rx, a, kvs, ex, d, q1⟩ => ?_)
  subst ex
  obtain rfl : u = Value.ref a := rx
  refine ⟨typeIs_of I1 d, noDict_of I1 d, ?_⟩
  rw [m.trees]
  refine Calls.callWith_builtin rfl (Calls.evalArgs_plain (Calls.spliced_cons (thn (he.run pins s1 σ H1 _ I1 q1) fun iv s2 ⟨y, H2, I2, ry, ov, g, q2⟩ => Calls.spliced_nil ?_)))
  exact n_get1 hu I2 g ry fun w' s3 I3 rw' => ⟨_, H2, I3, rw', q2⟩
theorem pe_nget2 (hu : X.A.units + 9 < cLine) (ho : PE X o td) (he : PE X e ty) (hf : PE X f tx) (m : M2 X o "get" apos e f cpos) : PE X (.Call (.Attribute o "get" apos) [e, f] [] cpos) (tNGet2 X.prog X.w td ty tx) := by
  refine ⟨fun pins s σ H Q I h => ?_⟩
  refine wpAny_Call_method m.base m.few m.line PySem.F.plainAttrs_dict PySem.F.slot_dict_get PySem.F.type_dict_get (thn (ho.run pins s σ H _ I h) fun u s1 ⟨x, H1, I1, rx, a, kvs, ex, d, q1⟩ => ?_)
  subst ex
  obtain rfl : u = Value.ref a := rx
  refine ⟨typeIs_of I1 d, noDict_of I1 d, ?_⟩
  rw [m.trees]
  refine Calls.callWith_builtin rfl (Calls.evalArgs_plain (Calls.spliced_cons (thn (he.run pins s1 σ H1 _ I1 q1) fun iv s2 ⟨y, H2, I2, ry, q2⟩ =>
    Calls.spliced_cons (thn (hf.run pins s2 σ H2 _ I2 q2) fun fv s3 ⟨z, H3, I3, rz, ov, g, q3⟩ => Calls.spliced_nil ?_))))
  exact n_get2 hu I3 g ry rz fun w' s4 I4 rw' => ⟨_, H3, I4, rw', q3⟩
theorem pe_nnew : PE X (.Dict [] [] pos) (tNNew X.prog X.w) := ⟨fun pins s σ H Q I h =>
  wpAny_Dict_empty ⟨.ref s.heap.objs.size, _, I.laid (a := s.heap.objs.size) (o := nD X.prog X.w s.heap.objs.size []) (t' := s.toks) (fun _ _ q => Heap.get?_push_of_some _ q) (Nat.le_refl _) (n_empty s.heap I.big), rfl,
    h _ _ (I.hok.fresh (Nat.le_refl _)) ⟨[], upd_same, (fun _ h => nomatch h), rfl⟩⟩⟩
end

/-! ### displays -/
inductive CK (H : Hp) : List (V × V) → List (NestedKey × Addr × V) → Prop
  | nil : CK H [] []
  | cons {k : NestedKey} {b : Addr} {v : V} {ps : List (V × V)} {es : List (NestedKey × Addr × V)} : Ky H k (.ref b) → k.depth ≤ 8 → CK H ps es → CK H ((.ref b, v) :: ps) ((k, b, v) :: es)
theorem ck_carries {P : Program} {w : World} {H : Hp} {h : Heap} (ok : HOk P w H h) {ps : List (V × V)} {es : List (NestedKey × Addr × V)} (c : CK H ps es) :
    ∀ {ws : List (Value × Value)}, VV ps ws → ∃ xs, CarriesH (nestedKind P w) h ws xs ∧ RE es xs := by
  induction c with
  | nil => intro ws r; cases r; exact ⟨[], True.intro, .nil⟩
  | @cons k b v ps es ky kd c ih =>
    intro ws r
    cases r with
    | @cons _ q _ qs h1 t =>
      obtain ⟨xs, c', r'⟩ := ih t
      obtain ⟨q1, q2⟩ := q
      obtain rfl : q1 = Value.ref b := h1.1
      exact ⟨(k, b, q2) :: xs, ⟨rfl, rfl, ⟨ky.is ok rfl, kd⟩, c'⟩, .cons ⟨rfl, rfl, h1.2⟩ r'⟩
theorem keyed_merge {H : Hp} : ∀ {es acc : List (NestedKey × Addr × V)}, Keyed H es → Keyed H acc → Keyed H (mergeE acc es)
  | [], _, _, r => r
  | (k, b, v) :: es, acc, q, r => by
    have h1 := q (k, b, v) (List.mem_cons_self ..)
    exact keyed_merge (es := es) (fun e he => q e (List.mem_cons_of_mem _ he)) (keyed_put r h1.1 h1.2)
theorem CK.keyed {H : Hp} {ps : List (V × V)} {es : List (NestedKey × Addr × V)} (c : CK H ps es) : Keyed H es := by
  induction c with
  | nil => exact fun _ h => nomatch h
  | cons ky kd _ ih =>
    intro e he
    rcases List.mem_cons.mp he with h | h
    · rw [h]; exact ⟨ky, kd⟩
    · exact ih e h
def tNDisp (P : Program) (w : World) (trs : List (TE × TE)) : TE := fun σ H Q => ∀ p φ, H p = none → At P w (upd H p (.ext φ)) p [] → tPairs trs σ (upd H p (.ext φ)) fun ps H2 => H2 p = some (.ext φ) ∧ ∃ es, CK H2 ps es ∧ es.length ≤ 15 ∧
  ∀ φ', At P w (upd H2 p (.ext φ')) p (kvOf (mergeE [] es)) → Q (.ref p) (upd H2 p (.ext φ'))
theorem pe_ndisp {X : Cx} {pos : Pos} {keys : List (Option Expr)} {values : List Expr} {trs : List (TE × TE)} (hu : X.A.units + 9 < cLine) (h : PPs X pos keys values trs) (hall : keys.all (·.isSome) = true) (hl : keys.length = values.length) (h0 : keys ≠ [])
    (h15 : keys.length ≤ 15) : PE X (.Dict keys values pos) (tNDisp X.prog X.w trs) := by
  refine ⟨fun pins s σ H Q I q => ?_⟩
  have hn := I.hok.fresh (Nat.le_refl s.heap.objs.size)
  have I1 := I.laid (a := s.heap.objs.size) (o := nD X.prog X.w s.heap.objs.size []) (h' := s.heap.push { cls := .type "dict", data := .dict #[] }) (t' := s.toks) (fun _ _ q => Heap.get?_push_of_some _ q) (Nat.le_refl _) (n_empty s.heap I.big)
  have hlen := pairTrees_length keys values X.env pos hall hl
  have hne : pairTrees keys values X.env pos ≠ [] := fun e => by
    rw [e] at hlen
    exact h0 (List.length_eq_zero_iff.mp hlen.symm)
  rw [arm_eval_Dict, zip_pairTrees keys values X.env pos hall hl, dictDisplay_pairs _ hne (by omega)]
  refine wpAny_bind (wpAny_standAt (wpAny_bind (wpAny_subDictH (knd := nestedKind X.prog X.w) (by show X.A.units + 8 < cLine; omega) (by rw [hlen]; exact h15) ?_)))
  refine thn (h.run pins _ σ _ _ I1 (q _ _ hn ⟨[], upd_same, (fun _ h => nomatch h), rfl⟩)) fun ws s2 ⟨ps, H2, I2, rel, e, es, ck, lk, q2⟩ => ?_
  obtain ⟨xs, c, rk⟩ := ck_carries (P := X.prog) (w := X.w) I2.hok ck rel
  obtain ⟨⟨z, hd, xs0, re0, o, ds, ep, h1, h2, h3, h4, h5⟩, _, _⟩ := (show ObjOk X.prog X.w H2 s2.heap s.heap.objs.size (nD X.prog X.w s.heap.objs.size []) from I2.hok _ _ e)
  cases re0
  refine ⟨xs, c, ⟨o, ds, ep, h1, h2, h3, h4, (fun _ h => nomatch h), h5⟩, fun h' tk dd' hs => wpAny_pure ⟨.ref s.heap.objs.size, _, ?_, rfl, q2 _ ⟨mergeE [] es, upd_same, (keyed_merge (acc := []) ck.keyed (fun _ h => nomatch h)).keeps (upd_tup e), rfl⟩⟩⟩
  obtain ⟨o', ds', ep', g1, g2, g3, g4, _, g5⟩ := dd'
  have hz : (mergeE [] es).length ≤ sizeLine := by
    have h1 := mergeE_len es []
    rw [List.length_nil] at h1
    rw [sizeLine_eq]; omega
  exact d_write (ob := nD X.prog X.w s.heap.objs.size (mergeE [] es)) I2 (by rw [e]; exact True.intro) hs ⟨o', g1⟩ (nD_ok hz hd (re_merge rk .nil) ⟨o', ds', ep', g1, g2, g3, g4, g5⟩)
def rLenF (P : Program) (w : World) : List V → Hp → VK → Prop := fun vs H Q => ∃ a kvs, vs = [V.ref a] ∧ AtR P w H a kvs ∧ Q (.int (kvs.length : Nat)) H
section
variable {X : Cx}
theorem call_lenF : CallR X (.builtin "len") (rLenF X.prog X.w) := by
  intro pins s σ H xs us Q I r h
  obtain ⟨a, kvs, rfl, ⟨es, e, ke, rfl⟩, q⟩ := h
  obtain ⟨u, rfl, rx⟩ := r.one
  cases rx
  obtain ⟨⟨z, hd, xs, re, o, ds, ep, h1, h2, h3, h4, h5⟩, _, _⟩ := (show ObjOk X.prog X.w H s.heap a (ND.nD X.prog X.w a es) from rd_of I.hok e)
  have dd : s.heap.DictOfH (nestedKind X.prog X.w) a xs := ⟨o, ds, ep, h1, h2, h3, h4, keyed_is I.hok re ke, h5⟩
  have hl : es.length = xs.length := Paired.length re
  refine call_len_dictH hd dd (by rw [← hl]; rw [sizeLine_eq] at z; omega) ?_
  have hk : (ND.kvOf es).length = xs.length := by unfold ND.kvOf; rw [List.length_map, hl]
  rw [hk] at q
  exact ⟨.int (xs.length : Nat), H, I.tok _, ⟨_, rfl⟩, q⟩
end
end NG

set_option Elab.async false
set_option linter.all false
set_option maxRecDepth 100000
set_option maxHeartbeats 4000000
/-! Terms on the heap, their monomials known exactly: pairs, polynomials, dicts of terms. -/
namespace PKG
open PySem L2 Ew Tb ND _root_.PM PK
theorem ng_tup {H : Hp} {ks : List NestedKey} {v : V} (h : NG.Ky H (.tup ks) v) : ∃ a o xs, v = .ref a ∧ o.dict = none ∧ H a = some (.frz o (.tup xs)) ∧ Kys H ks xs := by
  obtain ⟨ks', a, o, xs, e, h1, h2, h3, h4⟩ := h
  cases e
  exact ⟨a, o, xs, h1, h2, h3, h4⟩
theorem fz {K : PySem.W.Frag} {H : Hp} {a : Addr} {o : Obj} {xs : List V} (h : H a = some (.frz o (.tup xs))) : SqT K H a xs := .inl (.inr ⟨o, h⟩)
theorem ng_mk {H : Hp} {ks : List NestedKey} {a : Addr} {o : Obj} {xs : List V} (h1 : o.dict = none) (h2 : H a = some (.frz o (.tup xs))) (h3 : Kys H ks xs) : NG.Ky H (.tup ks) (.ref a) := ⟨ks, a, o, xs, rfl, rfl, h1, h2, h3⟩
/-- a term: the pair of a monomial and its coefficient -/
def Kt (H : Hp) (t : Mono × Nat) (v : V) : Prop := ∃ a x, v = .ref a ∧ H a = some (.tup [x, .int (t.2 : Int)]) ∧ NG.Ky H (kM t.1) x
def KTs (H : Hp) (p : Terms) (xs : List V) : Prop := p.length = xs.length ∧ ∀ (i : Nat) t x, p[i]? = some t → xs[i]? = some x → Kt H t x
def KP (H : Hp) (p : Terms) (v : V) : Prop := ∃ a xs, v = .ref a ∧ H a = some (.tup xs) ∧ KTs H p xs
theorem Kt.keeps {H H' : Hp} {t : Mono × Nat} {v : V} (k : NG.Kp H H') (x : Kt H t v) : Kt H' t v := let ⟨a, x, h1, h2, h3⟩ := x; ⟨a, x, h1, k.t _ _ h2, h3.keeps k⟩
theorem KTs.keeps {H H' : Hp} {p : Terms} {xs : List V} (k : NG.Kp H H') (x : KTs H p xs) : KTs H' p xs := ⟨x.1, fun i t v h1 h2 => (x.2 i t v h1 h2).keeps k⟩
theorem KP.keeps {H H' : Hp} {p : Terms} {v : V} (k : NG.Kp H H') (x : KP H p v) : KP H' p v := let ⟨a, xs, h1, h2, h3⟩ := x; ⟨a, xs, h1, k.t _ _ h2, h3.keeps k⟩
theorem KTs.app {H : Hp} {p q : Terms} {xs ys : List V} (x : KTs H p xs) (y : KTs H q ys) : KTs H (p ++ q) (xs ++ ys) := by
  refine ⟨by rw [List.length_append, List.length_append, x.1, y.1], fun i t v h1 h2 => ?_⟩
  rcases Nat.lt_or_ge i p.length with h | h
  · rw [List.getElem?_append_left h] at h1
    rw [List.getElem?_append_left (by rw [← x.1]; exact h)] at h2
    exact x.2 i t v h1 h2
  · rw [List.getElem?_append_right h] at h1
    rw [List.getElem?_append_right (by rw [← x.1]; exact h), ← x.1] at h2
    exact y.2 _ t v h1 h2
theorem KTs.nil {H : Hp} : KTs H [] [] := ⟨rfl, fun i t v h => by simp at h⟩
/-- a dict with monomials as keys holds the sums of the coefficients of these terms -/
structure PD (P : Program) (w : World) (H : Hp) (d : Addr) (L : Terms) : Prop where
  ex_ : ∃ kvs : List (NestedKey × V), NG.At P w H d kvs ∧ (kvs.map (·.1)).Nodup ∧ kvs.length ≤ L.length ∧ (∀ kv ∈ kvs, ∃ m : Mono, MCan m ∧ kv.1 = kM m) ∧ ∀ m : Mono, valV kvs (kM m) = if coef L m = 0 then none else some (.int (coef L m : Nat))
  mc : ∀ x ∈ L, MCan x.1
theorem PD.nil {P : Program} {w : World} {H : Hp} {d : Addr} (h : NG.At P w H d []) : PD P w H d [] := ⟨⟨[], h, List.nodup_nil, Nat.le_refl _, fun _ h => (nomatch h), fun m => rfl⟩, fun _ h => (nomatch h)⟩
theorem PD.keeps {P : Program} {w : World} {H H' : Hp} {d : Addr} {L : Terms} (x : PD P w H d L) (ha : ∀ u, H d = some u → H' d = some u) (ht : NG.Kp H H') : PD P w H' d L :=
  let ⟨kvs, e, r⟩ := x.ex_; ⟨⟨kvs, e.keeps ha ht, r⟩, x.mc⟩
theorem pd_put {P : Program} {w : World} {H' : Hp} {d : Addr} {L : Terms} {kvs : List (NestedKey × V)} {m : Mono} {c : Nat} (hc : 1 ≤ c) (hm : MCan m) (hL : ∀ x ∈ L, MCan x.1) (n1 : (kvs.map (·.1)).Nodup) (n2 : kvs.length ≤ L.length) (n3 : ∀ kv ∈ kvs, ∃ m : Mono, MCan m ∧ kv.1 = kM m)
    (n4 : ∀ m : Mono, valV kvs (kM m) = if coef L m = 0 then none else some (.int (coef L m : Nat))) (hd : NG.At P w H' d (putK kvs (kM m) (.int ((coef L m + c : Nat) : Int)))) : PD P w H' d (L ++ [(m, c)]) := by
  refine ⟨⟨_, hd, nd_keys n1, ?_, fun kv hk => ?_, fun n => ?_⟩, fun x hx => ?_⟩
  · have := length_putK kvs (kM m) (.int ((coef L m + c : Nat) : Int))
    rw [List.length_append, List.length_singleton]; omega
  · rcases mem_keys (List.mem_map.mpr ⟨kv, hk, rfl⟩) with h | h
    · obtain ⟨kv', h1, h2⟩ := List.mem_map.mp h
      rw [← h2]
      exact n3 kv' h1
    · exact ⟨m, hm, h⟩
  · rw [valV_put, coef_app, coef, coef]
    by_cases e : n = m
    · subst e
      rw [if_pos rfl, if_pos rfl, if_neg (by omega)]
      congr 3
    · have e' : ¬ m = n := fun z => e z.symm
      rw [if_neg (fun z => e (kM_inj z)), n4 n, if_neg e', Nat.add_zero]
  · rcases List.mem_append.mp hx with h | h
    · exact hL x h
    · rw [List.mem_singleton.mp h]; exact hm
theorem pd_sorted {P : Program} {w : World} {K : PySem.W.Frag} {H : Hp} {v d : Addr} {L : Terms} {Q : VK} (hv : H v = some (L2.DX.itemsO v d)) (x : PD P w H d L) (q : ∀ H' l (ts : List Addr) (p : Terms), (∀ b o, H b = some o → H' b = some o) → H l = none → H' l = some (.lst (ts.map V.ref)) → KTs H' p (ts.map V.ref) → PC p → (∀ m, coef p m = coef L m) → p.length ≤ L.length → Q (.ref l) H') :
    rSortItems P w K [.ref v] H Q := by
  obtain ⟨kvs, ⟨es, he, hk, ekv⟩, nd, len, ks, vs⟩ := x.ex_
  have val : ∀ e ∈ es, ∃ (m : Mono) (c : Nat), e = (kM m, e.2.1, .int (c : Int)) ∧ MCan m ∧ 1 ≤ c ∧ coef L m = c ∧ NG.Ky H (kM m) (.ref e.2.1) ∧ (kM m, V.int (c : Int)) ∈ kvs := fun e hm => by
    have hkv : (e.1, e.2.2) ∈ kvs := by rw [ekv]; exact List.mem_map.mpr ⟨e, hm, rfl⟩
    obtain ⟨m, mc, ek⟩ := ks _ hkv
    have ek : e.1 = kM m := ek
    have h1 : valV kvs e.1 = some e.2.2 := val_at nd hkv
    rw [ek, vs m] at h1
    have hky := (hk e hm).1
    rw [ek] at hky
    split at h1
    · cases h1
    · rename_i c
      have ev := (Option.some.inj h1).symm
      rw [ev, ek] at hkv
      exact ⟨m, coef L m, Prod.ext ek (Prod.ext rfl ev), mc, by omega, rfl, hky, hkv⟩
  have memk : ∀ m, coef L m ≠ 0 → ∃ e ∈ es, e.1 = kM m ∧ e.2.2 = .int (coef L m : Nat) := fun m hm => by
    have hv := vs m
    rw [if_neg hm] at hv
    have := val_mem hv
    rw [ekv] at this
    obtain ⟨e, h1, h2⟩ := List.mem_map.mp this
    exact ⟨e, h1, congrArg Prod.fst h2, congrArg Prod.snd h2⟩
  have ndE : (es.map (·.1)).Nodup := by
    rw [ekv] at nd
    unfold ND.kvOf at nd
    rw [List.map_map] at nd
    exact nd
  have lenE : es.length ≤ L.length := by
    rw [ekv] at len
    unfold ND.kvOf at len
    rw [List.length_map] at len
    exact len
  generalize hg : (fun e : NestedKey × Addr × V => (((V.ref e.2.1, e.2.2), (kD e.1, vD e.2.2)) : (V × V) × (PyData × PyData))) = g
  have gE : ∀ e, g e = ((V.ref e.2.1, e.2.2), (kD e.1, vD e.2.2)) := fun e => by rw [← hg]
  refine ⟨v, d, es.map g, rfl, hv, .inl ⟨es, .inl he, by rw [List.map_map]; exact List.map_congr_left fun e _ => by show (g e).1 = _; rw [gE]⟩, fun z hz => ?_, ⟨fun x hx y hy => ?_, .inl fun x hx => ?_⟩, fun H' l ts fr pt st hl el et => ?_⟩
  · obtain ⟨e, hm, rfl⟩ := List.mem_map.mp hz
    obtain ⟨m, c, e1, _, _, _, hky, _⟩ := val e hm
    rw [gE, e1]
    refine ⟨NG.Ky.dp hky, .int _, ?_⟩
    show max (kD (kM m)).depth (max 0 0) + 1 ≤ 60
    rw [kD_dep]
    have := dep_kM m
    omega
  · rw [List.map_map] at hx hy
    obtain ⟨e, hm, rfl⟩ := List.mem_map.mp hx
    obtain ⟨e', hm', rfl⟩ := List.mem_map.mp hy
    obtain ⟨m, c, e1, _⟩ := val e hm
    obtain ⟨m', c', e2, _⟩ := val e' hm'
    show PySem.W.alike (.tuple [(g e).2.1, (g e).2.2]) (.tuple [(g e').2.1, (g e').2.2]) = true
    rw [gE, gE, e1, e2]
    show PySem.W.alike (.tuple [dM m, .int (c : Int)]) (.tuple [dM m', .int (c' : Int)]) = true
    rw [PySem.W.alike, PySem.W.alikeAll, alike_dM, PySem.W.alikeAll, PySem.W.alikeAll]
    simp [PySem.W.alike]
  · rw [List.map_map] at hx
    obtain ⟨e, hm, rfl⟩ := List.mem_map.mp hx
    exact ⟨_, rfl⟩
  · have src : ∀ z ∈ ts, ∃ e ∈ es, z.2 = g e := fun z hz => by
      obtain ⟨e, hm, ez⟩ := List.mem_map.mp (pt.mem_iff.mp (List.mem_map.mpr ⟨z, hz, rfl⟩))
      exact ⟨e, hm, ez.symm⟩
    have pick : ∀ z : Addr × ((V × V) × (PyData × PyData)), ∃ t : Mono × Nat, z ∈ ts → ∃ e ∈ es, z.2 = g e ∧ e.1 = kM t.1 ∧ e.2.2 = .int (t.2 : Int) ∧ MCan t.1 ∧ 1 ≤ t.2 ∧ coef L t.1 = t.2 ∧ NG.Ky H (kM t.1) (.ref e.2.1) := fun z => by
      by_cases hz : z ∈ ts
      · obtain ⟨e, hm, ez⟩ := src z hz
        obtain ⟨m, c, e1, h1, h2, h3, h4, _⟩ := val e hm
        exact ⟨(m, c), fun _ => ⟨e, hm, ez, congrArg Prod.fst e1, congrArg (fun x => x.2.2) e1, h1, h2, h3, h4⟩⟩
      · exact ⟨([], 0), fun h => absurd h hz⟩
    obtain ⟨tm, htm⟩ := Classical.axiomOfChoice pick
    have zl : ts.length = es.length := by have := pt.length_eq; rw [List.length_map, List.length_map] at this; exact this
    have ndk : (ts.map fun z => (tm z).1).Nodup := by
      have h2 := pt.map fun z : (V × V) × (PyData × PyData) => z.2.1
      rw [List.map_map, List.map_map] at h2
      have h1 : (es.map fun e => kD e.1).Nodup := by
        refine List.Pairwise.map (R := fun a b => a.1 ≠ b.1 ∧ a ∈ es ∧ b ∈ es) _ (fun a b ⟨h, ha, hb⟩ e => ?_) ((List.Pairwise.and_mem.mp (List.pairwise_map.mp ndE)).imp fun ⟨h1, h2, h3⟩ => ⟨h3, h1, h2⟩)
        obtain ⟨m, _, e1, _⟩ := val a ha
        obtain ⟨n, _, e2, _⟩ := val b hb
        have i1 : a.1 = kM m := congrArg Prod.fst e1
        have i2 : b.1 = kM n := congrArg Prod.fst e2
        have e : kD a.1 = kD b.1 := e
        have := eqv_kD a.1 b.1 (by rw [e]; exact eqv_self _)
        exact h this
      have e3 : (es.map ((fun z : (V × V) × (PyData × PyData) => z.2.1) ∘ g)) = es.map fun e => kD e.1 := List.map_congr_left fun e _ => by
        show (g e).2.1 = _
        rw [gE]
      rw [e3] at h2
      have h3 := h2.nodup_iff.mpr h1
      have h4 := List.pairwise_map.mp h3
      refine List.pairwise_map.mpr (List.Pairwise.imp_of_mem (fun {a b} ha hb h e => ?_) h4)
      obtain ⟨ea, _, za, ka, _⟩ := htm a ha
      obtain ⟨eb, _, zb, kb, _⟩ := htm b hb
      refine h ?_
      show a.2.2.1 = b.2.2.1
      rw [za, zb, gE, gE, ka, kb, e]
    refine q H' l (ts.map (·.1)) (ts.map tm) fr hl (by rw [el, List.map_map]; rfl) ?_ ⟨?_, fun x hx => ?_, fun x hx => ?_⟩ (fun m => ?_) ?_
    · refine ⟨by rw [List.length_map, List.length_map, List.length_map], fun i t x hk hx => ?_⟩
      rw [List.map_map, List.getElem?_map] at hx
      rw [List.getElem?_map] at hk
      obtain ⟨z, hz, rfl⟩ := Option.map_eq_some_iff.mp hk
      rw [hz] at hx
      cases hx
      have zm := List.mem_of_getElem? hz
      obtain ⟨e, _, ze, ke, ve, _, _, _, hky⟩ := htm z zm
      have h5 := et z zm
      rw [ze, gE, ve] at h5
      exact ⟨z.1, _, rfl, h5, hky.keeps (.of fr)⟩
    · refine List.pairwise_map.mpr (List.Pairwise.imp_of_mem (fun {a b} ha hb h => ?_) (List.Pairwise.and st (List.pairwise_map.mp ndk)))
      obtain ⟨ea, _, za, ka, va, _⟩ := htm a ha
      obtain ⟨eb, _, zb, kb, vb, _⟩ := htm b hb
      obtain ⟨hs, hn⟩ := h
      rw [za, zb, gE, gE, ka, kb, va, vb] at hs
      exact terms_lt hs hn
    · obtain ⟨z, hz, rfl⟩ := List.mem_map.mp hx
      obtain ⟨_, _, _, _, _, h, _⟩ := htm z hz
      exact h
    · obtain ⟨z, hz, rfl⟩ := List.mem_map.mp hx
      obtain ⟨_, _, _, _, _, _, h, _⟩ := htm z hz
      exact h
    · have nd2 : ((ts.map tm).map (·.1)).Nodup := by rw [List.map_map]; exact ndk
      by_cases c : coef L m = 0
      · rw [c]
        refine coef_none fun x hx e => ?_
        obtain ⟨z, hz, rfl⟩ := List.mem_map.mp hx
        obtain ⟨_, _, _, _, _, _, h1, h2, _⟩ := htm z hz
        rw [e, c] at h2
        omega
      · obtain ⟨e, hm, ek, ev⟩ := memk m c
        obtain ⟨z, hz, ez⟩ := List.mem_map.mp (pt.mem_iff.mpr (List.mem_map.mpr ⟨e, hm, rfl⟩))
        obtain ⟨e', _, ze, ke, ve, _, _, h3, _⟩ := htm z hz
        have ez : z.2 = g e := ez
        have e1 : kD e.1 = kD e'.1 := by
          have : (g e).2.1 = (g e').2.1 := by rw [← ez, ← ze]
          rw [gE, gE] at this
          exact this
        have e2 := eqv_kD e.1 e'.1 (by rw [e1]; exact eqv_self _)
        have em : m = (tm z).1 := kM_inj (by rw [← ek, e2, ke])
        rw [em, h3]
        exact coef_at nd2 (List.mem_map.mpr ⟨z, hz, rfl⟩)
    · rw [List.length_map, zl]; exact lenE
end PKG

set_option Elab.async false
set_option linter.all false
set_option maxRecDepth 100000
set_option maxHeartbeats 4000000
/-! dict(t), t a tuple of pairs that is known exactly -/
namespace L2
open PySem PySem.W PySem.Spec PyProof.Rows
def rDictT (K : PySem.W.Frag) : List V → Hp → VK → Prop := fun xs H Q => ∃ (a : Addr) (o : Obj) (ps : List Addr) (kvs : List (Key × V)), xs = [.ref a] ∧ o.dict = none ∧ H a = some (.frz o (.tup (ps.map V.ref))) ∧ Paired (fun p kv => SqT K H p [kV kv.1, kv.2]) ps kvs ∧
  ∀ p, H p = none → Q (.ref p) (upd H p (.dK (mergeK [] kvs)))
section
variable {X : Cx}
theorem call_dictT (hcalm : X.calm = true) : CallR X (.type "dict") (rDictT X.K) := by
  intro pins s σ H xs us Q I r q
  obtain ⟨a, o, ps, kvs, rfl, hdn, ha, hp, q⟩ := q
  obtain rfl := Vals.ref1 r
  obtain ⟨e1, hz, its, rv, o', h1, h2, n, hdat⟩ := (show ObjOk X.prog X.w H s.heap a (.frz o (.tup (ps.map V.ref))) from I.hok a _ ha)
  have ei := refs_at rv
  subst ei
  have heq : o = o' := by rw [e1] at h1; exact Option.some.inj h1
  subst heq
  rw [List.length_map] at hz
  obtain ⟨prs, rel, hl, hpr⟩ := pairs_of I hp
  have key : ∀ (j : Nat) (q : Key × Value), prs[j]? = some q → ∃ (b : Addr) (u : Value), ps[j]? = some b ∧ s.heap.IsTuple b #[u, q.2] ∧ (mixKind X.prog X.w).is q.1 u = true := fun j q' e => by
    obtain ⟨b, u, e2, e3, e4⟩ := hpr j q' e
    exact ⟨b, u, e2, e3, e4⟩
  have hu : ∃ ws : List (Value × Value), ws.length = prs.length ∧ ∀ (j : Nat) (q : Key × Value), prs[j]? = some q → ∃ b u, ps[j]? = some b ∧ ws[j]? = some (u, q.2) ∧ s.heap.IsTuple b #[u, q.2] ∧ (mixKind X.prog X.w).is q.1 u = true := by
    have : ∀ (l : List (Key × Value)) (m : Nat), (∀ (j : Nat) (q : Key × Value), l[j]? = some q → ∃ (b : Addr) (u : Value), ps[m + j]? = some b ∧ s.heap.IsTuple b #[u, q.2] ∧ (mixKind X.prog X.w).is q.1 u = true) →
        ∃ ws : List (Value × Value), ws.length = l.length ∧ ∀ (j : Nat) (q : Key × Value), l[j]? = some q → ∃ b u, ps[m + j]? = some b ∧ ws[j]? = some (u, q.2) ∧ s.heap.IsTuple b #[u, q.2] ∧ (mixKind X.prog X.w).is q.1 u = true := fun l => by
      induction l with
      | nil => exact fun _ _ => ⟨[], rfl, fun j q e => by simp at e⟩
      | cons x l ih =>
        intro m h
        obtain ⟨b, u, g1, g2, g3⟩ := h 0 x rfl
        obtain ⟨ws, hw, hr⟩ := ih (m + 1) fun j q e => by
          have := h (j + 1) q e
          rwa [show m + (j + 1) = m + 1 + j by omega] at this
        refine ⟨(u, x.2) :: ws, by rw [List.length_cons, List.length_cons, hw], fun j q e => ?_⟩
        cases j with
        | zero =>
          obtain rfl : x = q := Option.some.inj e
          exact ⟨b, u, g1, rfl, g2, g3⟩
        | succ j =>
          have := hr j q e
          rwa [show m + 1 + j = m + (j + 1) by omega] at this
    obtain ⟨ws, h1, h2⟩ := this prs 0 fun j q e => by rw [Nat.zero_add]; exact key j q e
    exact ⟨ws, h1, fun j q e => by have := h2 j q e; rwa [Nat.zero_add] at this⟩
  obtain ⟨ws, lw, hw⟩ := hu
  have pk : PlainSeq "tuple" s.heap a (ps.map Value.ref).toArray := ⟨o, n, e1, h2, hdn, hdat⟩
  have at_ : ∀ (j : Nat) (k v : Value), ws[j]? = some (k, v) → ∃ q, prs[j]? = some q ∧ v = q.2 ∧ (mixKind X.prog X.w).is q.1 k = true ∧ ∃ b, ps[j]? = some b ∧ s.heap.IsTuple b #[k, v] := fun j k v e => by
    have hj : j < prs.length := by rw [← lw]; exact (List.getElem?_eq_some_iff.mp e).1
    have hq := List.getElem?_eq_getElem hj
    obtain ⟨b, u, g1, g2, g3, g4⟩ := hw j _ hq
    rw [e] at g2
    injection g2 with g2
    injection g2 with g2 g5
    subst g2 g5
    exact ⟨_, hq, rfl, g4, b, g1, g3⟩
  have pi_ : PairItems s.heap (ps.map Value.ref).toArray (fun j => ps.getD j 0) ws := by
    refine ⟨by rw [List.size_toArray, List.length_map, lw, hl], fun j k v e => ?_⟩
    obtain ⟨q, _, _, _, b, hb, ht⟩ := at_ j k v e
    have eg : ps.getD j 0 = b := by rw [List.getD_eq_getElem?_getD, hb]; rfl
    refine ⟨?_, .inl ?_⟩
    · rw [List.getElem?_toArray, List.getElem?_map, hb]
      show some (Value.ref b) = some (Value.ref (ps.getD j 0))
      rw [eg]
    · show s.heap.IsTuple (ps.getD j 0) #[k, v]
      rw [eg]
      exact ht
  refine PySem.call_dict_pairs (knd := mixKind X.prog X.w) (kvs := prs) (PairArg.tuple a _ _ ws) (I.ok.hd hcalm) ⟨pk, pi_⟩ ⟨lw.symm, fun i k v e => ?_⟩ (by rw [lw, hl]; exact hz) fun h' tk hd' k => ?_
  · obtain ⟨q, hq, ev, hk, _⟩ := at_ i k v e
    exact ⟨q.1, by rw [hq, ev], hk⟩
  · have hm : (s.heap.objs.size == sysModules) = false := beq_eq_false_iff_ne.mpr (Nat.ne_of_gt I.big)
    have hlen : (mergeK [] kvs).length ≤ sizeLine := by
      refine Nat.le_trans (length_mergeK kvs []) ?_
      rw [List.length_nil, Nat.zero_add, rel.length, hl]
      exact hz
    exact ⟨.ref s.heap.objs.size, upd H s.heap.objs.size (.dK (mergeK [] kvs)), I.laid (t' := tk) (fun b o e => k b o (by simp) e) (Nat.le_refl _) (show ObjOk X.prog X.w _ _ _ (.dK (mergeK [] kvs)) from ⟨hlen, hm, merged [] prs, KV.merge rel .nil, hd'⟩), rfl, q _ (I.hok.fresh (Nat.le_refl _))⟩
end
end L2

set_option Elab.async false
set_option linter.all false
set_option maxRecDepth 100000
set_option maxHeartbeats 4000000
/-! {k: v for a in A for b in B}: two walks, no tests. -/
namespace DC2
open PySem PySem.Spec PyProof.Rows L2
section
variable {kx vx ta ia tb ib : Expr} {scope : Scope} {pos : Pos} {it acc : Value} {env : Env}
/-- the comprehension -/
abbrev two (kx vx ta ia tb ib : Expr) (scope : Scope) (pos : Pos) : Expr := .DictComp kx vx [⟨ta, ia, [], 0⟩, ⟨tb, ib, [], 0⟩] scope pos
theorem turnA : compTurn (two kx vx ta ia tb ib scope pos) 0 it acc env = (do
      standAt ia.pos
      match ← pyNext it with
      | none => pure (.done .next)
      | some u => do
        letOwnedTupleGo ta it u
        assign ta env u
        let y ← eval ib env
        standAt ib.pos
        let y' ← foldedSetIterable ib env y
        let _ ← runOwn (.compStart (two kx vx ta ia tb ib scope pos) 1 (← holding [y'] (pyIter y')) acc env) env
        again (.compLoop (two kx vx ta ia tb ib scope pos) 0 it acc env)) := by rfl
theorem turnB {D : Addr} : compTurn (two kx vx ta ia tb ib scope pos) 1 it (.ref D) env = (do
      standAt ib.pos
      match ← pyNext it with
      | none => pure (.done .next)
      | some u => do
        letOwnedTupleGo tb it u
        assign tb env u
        (do
          let k ← eval kx env
          let z ← holding [k] (eval vx env)
          standAt { kx.pos with endLine := vx.pos.endLine, endCol := vx.pos.endCol }
          holding [k, z] (dictSet D k z))
        again (.compLoop (two kx vx ta ia tb ib scope pos) 1 it (.ref D) env)) := by rfl
end
section
variable {P : Program} {w : World} {A : Around} {R : Result → Shared → Prop} {s : Shared} {kx vx ta ia tb ib : Expr} {scope : Scope} {pos : Pos} {it : Value} {D : Addr} {env : Env}
/-- what is wanted where an error leaves -/
abbrev Er (P : Program) (w : World) (A : Around) (env : Env) (R : Result → Shared → Prop) : Value → Shared → Prop := notedBy (model P w) A env fun x s' => R (.error x) s'
theorem loopA (hf : ∀ y, foldedSetIterable ib env y = pure y) (J : Nat → Shared → Prop)
    (go : ∀ n s, J n s → wpAny (model P w) A (pyNext it) (fun r s₁ => match r with
      | none => R (.ok .next) s₁
      | some u => wpAny (model P w) A (letOwnedTupleGo ta it u) (fun _ s₂ => wpAny (model P w) A (assign ta env u) (fun _ s₃ => wpAny (model P w) A (eval ib env) (fun y s₄ => wpAny (model P w) A (pyIter y) (fun it1 s₅ =>
              codeAny (model P w) A (.compStart (two kx vx ta ia tb ib scope pos) 1 it1 (.ref D) env) (fun r s' => match r with
                | .ok _ => ∃ m, m < n ∧ J m s'
                | .error _ => False) s₅) (Er P w A env R) s₄) (Er P w A env R) s₃) (Er P w A env R) s₂) (Er P w A env R) s₁) (Er P w A env R) s)
    (n : Nat) (h : J n s) : codeAny (model P w) A (.compLoop (two kx vx ta ia tb ib scope pos) 0 it (.ref D) env) R s := by
  refine codeAny_loop rfl J (fun n s hJ => ?_) n h
  show wpAny _ A ((compTurn (two kx vx ta ia tb ib scope pos) 0 it (.ref D) env).onRaise (fun x => do noteFrame x env; theTreesLotGoes x)) _ _ s
  refine wpAny_noted ?_
  rw [turnA]
  refine wpAny_bind (wpAny_standAt (wpAny_bind (wpAny_mono (go n s hJ) (fun r s₁ h₁ => ?_) fun _ _ z => z)))
  cases r with
  | none => exact wpAny_pure h₁
  | some u =>
    refine wpAny_bind (wpAny_mono h₁ (fun _ s₂ h₂ => wpAny_bind (wpAny_mono h₂ (fun _ s₃ h₃ => wpAny_bind (wpAny_mono h₃ (fun y s₄ h₄ => ?_) fun _ _ z => z)) fun _ _ z => z)) fun _ _ z => z)
    refine wpAny_bind (wpAny_standAt (wpAny_bind (wpAny_of_eq (hf y) (wpAny_bind (wpAny_holding (wpAny_mono h₄ (fun it1 s₅ h₅ => wpAny_bind (wpAny_runOwn ?_)) fun _ _ z => z))))))
    rw [Around.mark_none]
    refine codeAny_mono h₅ fun r s' hr => ?_
    cases r with
    | ok f => first | exact wpAny_pure ⟨rfl, hr⟩ | exact wpAny_bind (wpAny_pure (wpAny_pure ⟨rfl, hr⟩))
    | error e => exact hr.elim
theorem loopB (J : Nat → Shared → Prop)
    (go : ∀ n s, J n s → wpAny (model P w) A (pyNext it) (fun r s₁ => match r with
      | none => R (.ok .next) s₁
      | some u => wpAny (model P w) A (letOwnedTupleGo tb it u) (fun _ s₂ => wpAny (model P w) A (assign tb env u) (fun _ s₃ => wpAny (model P w) A (eval kx env) (fun k s₄ => wpAny (model P w) A (eval vx env) (fun z s₅ =>
              wpAny (model P w) A (dictSet D k z) (fun _ s₆ => ∃ m, m < n ∧ J m s₆) (Er P w A env R) s₅) (Er P w A env R) s₄) (Er P w A env R) s₃) (Er P w A env R) s₂) (Er P w A env R) s₁) (Er P w A env R) s)
    (n : Nat) (h : J n s) : codeAny (model P w) A (.compLoop (two kx vx ta ia tb ib scope pos) 1 it (.ref D) env) R s := by
  refine codeAny_loop rfl J (fun n s hJ => ?_) n h
  show wpAny _ A ((compTurn (two kx vx ta ia tb ib scope pos) 1 it (.ref D) env).onRaise (fun x => do noteFrame x env; theTreesLotGoes x)) _ _ s
  refine wpAny_noted ?_
  rw [turnB]
  refine wpAny_bind (wpAny_standAt (wpAny_bind (wpAny_mono (go n s hJ) (fun r s₁ h₁ => ?_) fun _ _ z => z)))
  cases r with
  | none => exact wpAny_pure h₁
  | some u =>
    refine wpAny_bind (wpAny_mono h₁ (fun _ s₂ h₂ => wpAny_bind (wpAny_mono h₂ (fun _ s₃ h₃ => wpAny_bind (wpAny_bind (wpAny_mono h₃ (fun k s₄ h₄ => ?_) fun _ _ z => z))) fun _ _ z => z)) fun _ _ z => z)
    exact wpAny_bind (wpAny_holding (wpAny_mono h₄ (fun z s₅ h₅ => wpAny_bind (wpAny_standAt (wpAny_holding (wpAny_mono h₅ (fun _ s₆ h₆ => wpAny_pure ⟨rfl, h₆⟩) fun _ _ z => z)))) fun _ _ z => z))
theorem startB (h0 : codeAny (model P w) A (.compLoop (two kx vx ta ia tb ib scope pos) 1 it (.ref D) env) R s)
    (h : wpAny (model P w) A (pyIter it) (fun it' s' => codeAny (model P w) A (.compLoop (two kx vx ta ia tb ib scope pos) 1 it' (.ref D) env) R s') (Er P w A env R) s) :
    codeAny (model P w) A (.compStart (two kx vx ta ia tb ib scope pos) 1 it (.ref D) env) R s := by
  refine codeAny_of_tree ?_
  show wpAny _ _ ((compStart (two kx vx ta ia tb ib scope pos) 1 it (.ref D) env).onRaise (fun x => do noteFrame x env; standAt theWindowsPlace)) _ _ s
  refine wpAny_notedAt ?_
  unfold compStart
  show wpAny _ _ (ask >>= _) _ _ s
  refine wpAny_bind (wpAny_askSetting (wpAny_ite ?_))
  split
  · first | exact wpAny_bind (wpAny_pure (wpAny_pure (And.intro rfl h0))) | exact wpAny_pure (And.intro rfl h0)
  · have hm := fun (x : Sem (Value × Unit)) => x
    refine wpAny_bind (wpAny_rule ?_)
    show wpAny _ _ (standAt ib.pos >>= _) _ _ s
    exact wpAny_bind (wpAny_standAt (wpAny_bind (wpAny_mono h (fun it' s' h' => wpAny_pure (And.intro rfl h')) fun _ _ x => x)))
end
section
variable {X : Cx}
/-- the reading: W for the outer walk, W1 for the inner one; vs all names of the comprehension, vs1 those of the second target -/
def tDc2 (wa : TI) (ga : TG) (wb : TI) (gb : TG) (tk tv : TE) (vs vs1 : List Nat) : TE := fun σ H Q => wa σ H fun Ja H1 => ∀ D, H1 D = none → ∃ W : Nat → Nat → Hp → Prop, (∃ m, W 0 m (upd H1 D (.dK []))) ∧ ∀ i m H, W i m H →
  (Ja.stop i H ∧ Q (.ref D) H) ∨ (Ja.go i H ∧ ∃ Nx : Hp → Prop, (∀ H', Nx H' → ∃ m', m' < m ∧ W (i + 1) m' H') ∧ ∀ x H', Ja.yld i H x H' → ga x (wipe σ vs) H' fun σ2 H2 => wipe σ2 vs = wipe σ vs ∧
    wb σ2 H2 fun Jb H4 => ∃ W1 : Nat → Nat → Hp → Prop, (∃ m, W1 0 m H4) ∧ ∀ j k H, W1 j k H →
      (Jb.stop j H ∧ Nx H) ∨ (Jb.go j H ∧ ∃ Nx1 : Hp → Prop, (∀ H', Nx1 H' → ∃ k', k' < k ∧ W1 (j + 1) k' H') ∧ ∀ x H', Jb.yld j H x H' → gb x (wipe σ2 vs1) H' fun σ3 H5 => wipe σ3 vs1 = wipe σ2 vs1 ∧
        tk σ3 H5 fun y H6 => tv σ3 H6 fun z H7 => ∃ kvs k, y = kV k ∧ H7 D = some (.dK kvs) ∧ kvs.length < sizeLine ∧ Nx1 (upd H7 D (.dK (putK kvs k z)))))
/-- a piece of the block serves wherever the block stands -/
abbrev InBlk (X : Cx) (scope : Scope) (p : Cx → Prop) : Prop := ∀ (s : Shared) (H : Hp) (C : Addr) (cl : List (Str × Addr)) (fp : List Addr), p (X.blk s H scope (compEnvC scope cl C X.env) fp)
theorem core {pins : List (Addr × Obj)} {s : Shared} {σ : L2.St} {H : Hp} {Q : VK} {kx vx ta ia tb ib : Expr} {scope : Scope} {own : List (Str × Nat)} {vs1 : List Nat} {pos pos' : Pos} {wa wb : TI} {ga gb : TG} {tk tv : TE} {use : Option (Value → Sem Unit)} {Qf : Value → Shared → Prop}
    (hc : X.calm = true) (hN : X.N.Nodup) (I : Inv X pins σ H s) (hi : PI X ta ia wa) (ok : BlkOk X.N X.env.scope scope own) (hv : ∀ i ∈ vs1, i ∈ own.map (·.2))
    (hga : InBlk X scope fun Y => PG Y ta ga) (hib : InBlk X scope fun Y => PI Y tb ib wb) (hgb : InBlk X scope fun Y => PG Y tb gb) (hk : InBlk X scope fun Y => PE Y kx tk) (hz : InBlk X scope fun Y => PE Y vx tv)
    (fa : ∀ x, foldedSetIterable ia X.env x = pure x) (fb : ∀ env x, foldedSetIterable ib env x = pure x) (h : tDc2 wa ga wb gb tk tv (own.map (·.2)) vs1 σ H Q)
    (fin : ∀ D C s' m H', Inv X pins σ H' s' → Q (.ref D) H' → s'.heap.Ns C m → FpOk X pins H' C → compPost (model X.prog X.w) X.A X.xe use Qf (.ref D) C (.ok .next) s') :
    wpAny (model X.prog X.w) X.A (comprehension (two kx vx ta ia tb ib scope pos) scope X.env pos' newDict false (eval ia X.env) use) Qf X.xe s := by
  have free : ∀ y ∈ scope.names, y.2 = .free → ∃ c, X.env.cells.lookup y.1 = some c := fun y hy e => (ok.free y hy e).elim (fun z => I.ok.has _ (.inl z)) fun z => I.ok.has _ (.inr z)
  refine wpAny_comprehension_free (use := use) rfl fa (closure_ok free) ok.kind (fun y hy e => by rw [ok.uniq y hy, e]) (thn (hi.run pins s σ H _ I h) fun xv s1 hx => thn hx fun itv s2 h2 => ?_)
  obtain ⟨it, fp, tn, Ja, H2, e, I2, T, st2, f2, q⟩ := h2
  subst e
  refine wpAny_newObj_type (newEnv_comp ?_)
  generalize hD : s2.heap.objs.size = D
  obtain ⟨W, ⟨m0, w0⟩, turn⟩ := q D (I2.hok.fresh (Nat.le_of_eq hD))
  generalize hs3 : ({ s2 with heap := s2.heap.push { cls := .type "dict", data := .dict #[] } } : Shared) = s3
  have h3 : s3.heap = s2.heap.push { cls := .type "dict", data := .dict #[] } := by rw [← hs3]
  have I3 : Inv X pins σ (upd H2 D (.dK [])) s3 := by
    rw [← hs3]
    exact I2.laid (t' := s2.toks) (fun b o e => Heap.get?_push_of_some _ e) (Nat.le_of_eq hD) (hD ▸ dk_empty s2.heap I2.big)
  have lt2 : ∀ b ∈ fp, b < s2.heap.objs.size := fun b hb => let ⟨_, e, _⟩ := T.obj _ _ st2 b hb; Heap.lt_size e
  have f3 : ∀ b ∈ fp, FpOk X pins (upd H2 D (.dK [])) b ∧ b < s3.heap.objs.size := fun b hb =>
    ⟨⟨by rw [upd_ne (by rw [← hD]; exact Nat.ne_of_lt (lt2 b hb))]; exact (f2 b hb).1, (f2 b hb).2⟩, by rw [h3, Heap.size_push]; exact Nat.lt_succ_of_lt (lt2 b hb)⟩
  have I4 := block_start I3 ok hN f3
  have pga := hga s3 (upd H2 D (.dK [])) s3.heap.objs.size (cellsFrom (s3.heap.objs.size + 1) scope.names (cloFrom X.env.cells scope.names [])) fp
  have pib := hib s3 (upd H2 D (.dK [])) s3.heap.objs.size (cellsFrom (s3.heap.objs.size + 1) scope.names (cloFrom X.env.cells scope.names [])) fp
  have pgb := hgb s3 (upd H2 D (.dK [])) s3.heap.objs.size (cellsFrom (s3.heap.objs.size + 1) scope.names (cloFrom X.env.cells scope.names [])) fp
  have pk := hk s3 (upd H2 D (.dK [])) s3.heap.objs.size (cellsFrom (s3.heap.objs.size + 1) scope.names (cloFrom X.env.cells scope.names [])) fp
  have pz := hz s3 (upd H2 D (.dK [])) s3.heap.objs.size (cellsFrom (s3.heap.objs.size + 1) scope.names (cloFrom X.env.cells scope.names [])) fp
  have st3 : tn 0 s3.heap := T.keep _ _ _ st2 fun b _ o e => by rw [h3]; exact Heap.get?_push_of_some _ e
  show codeAny _ _ (.compStart (two kx vx ta ia tb ib scope pos) 0 (.ref it) (.ref D) (compEnvC scope (cellsFrom (s3.heap.objs.size + 1) scope.names (cloFrom X.env.cells scope.names [])) s3.heap.objs.size X.env)) (compPost (model X.prog X.w) X.A X.xe use Qf (.ref D) s3.heap.objs.size) { s3 with heap := pushCells (s3.heap.push { cls := .type "dict", data := .dict #[] }) scope.names }
  have nfp : ∀ b ∈ fp, (upd H2 D (.dK [])) b = none := fun b hb => (f3 b hb).1.1
  generalize hce : compEnvC scope (cellsFrom (s3.heap.objs.size + 1) scope.names (cloFrom X.env.cells scope.names [])) s3.heap.objs.size X.env = ce at I4 pga pib pgb pk pz ⊢
  have cL : ce.locals = s3.heap.objs.size := hce ▸ rfl
  generalize hH3 : upd H2 D (.dK []) = H3 at I3 I4 pga pib pgb pk pz w0 nfp f3
  generalize hs4 : ({ s3 with heap := pushCells (s3.heap.push { cls := .type "dict", data := .dict #[] }) scope.names } : Shared) = s4 at I4 ⊢
  have st4 : tn 0 s4.heap := T.keep _ _ _ st3 fun b _ o e => hs4 ▸ pushCells_keeps _ _ _ _ (Heap.get?_push_of_some _ e)
  generalize hY : X.blk s3 H3 scope ce fp = Y at I4 pga pib pgb pk pz
  have yp : Y.prog = X.prog := hY ▸ rfl
  have yw : Y.w = X.w := hY ▸ rfl
  have yK : Y.K = X.K := hY ▸ rfl
  subst hY
  generalize hvs : own.map (·.2) = vs at hv h I4 turn
  have stat : ∀ {σ' : L2.St} {H' : Hp} {s' : Shared}, Inv (X.blk s3 H3 scope ce fp) [] σ' H' s' → (∀ b ∈ fp, H' b = none) → ∀ b ∈ fp, FpOk (X.blk s3 H3 scope ce fp) [] H' b := fun {σ' H' s'} I' hn b hb =>
    ⟨hn b hb, (I'.ok.exf b hb).1, I'.ok.exfs b hb, .inl hb, (I'.ok.exf b hb).2, fun p hp => by cases hp⟩
  have loop : codeAny (model X.prog X.w) X.A (.compLoop (two kx vx ta ia tb ib scope pos) 0 (.ref it) (.ref D) ce) (compPost (model X.prog X.w) X.A X.xe use Qf (.ref D) s3.heap.objs.size) s4 := by
    refine loopA (fb ce) (fun n s' => ∃ i H', Inv (X.blk s3 H3 scope ce fp) [] (wipe σ vs) H' s' ∧ tn i s'.heap ∧ (∀ b ∈ fp, H' b = none) ∧ W i n H') ?_ m0 ⟨0, H3, I4, st4, nfp, w0⟩
    rintro n s5 ⟨i, H5, I5, st5, n5, w5⟩
    rcases turn i n H5 w5 with ⟨stop, qq⟩ | ⟨go, Nx, hNx, step⟩
    · refine thnF (T.done (X.blk s3 H3 scope ce fp) rfl rfl rfl hc i [] s5 _ H5 (fun _ _ => False) I5 (stat I5 n5) st5 stop) fun r s6 ⟨hr, I6⟩ => ?_
      subst hr
      have I7 : Inv X pins σ H5 s6 := I3.call' (ch := fp) I6.os I6.base I6.hok I6.bare fun b hb => let z := (f3 b hb).1.2; ⟨z.2.2.1, z.1, z.2.2.2.1, z.2.2.2.2⟩
      have nC : H5 s3.heap.objs.size = none := cL ▸ I6.free
      obtain ⟨m, hn, _⟩ := I6.loc
      have hn : s6.heap.Ns ce.locals m := hn
      exact fin D s3.heap.objs.size s6 m H5 I7 qq (cL ▸ hn) (I3.fpOk (Nat.le_refl _) nC)
    · refine thnF (T.item (X.blk s3 H3 scope ce fp) rfl rfl rfl hc i [] s5 _ H5 (fun _ _ => False) I5 (stat I5 n5) st5 go) fun r s6 ⟨u, hr, h6⟩ => ?_
      subst hr
      refine thnF h6 fun _ s7 ⟨x, H7, I7, r7, y7, st7, n7⟩ => ?_
      refine thnF (pga.run _ s7 _ H7 x u _ (I7.pinned (stat I7 n7) (T.obj _ _ st7)) r7 (step x H7 y7)) fun _ s8 ⟨σ8, H8, I8, hw8, q8⟩ => ?_
      have k8 : ∀ (j : Nat) v, (wipe σ vs)[j]? = some (some v) → (wipe σ8 vs1)[j]? = some (some v) := fun j v e => by
        rw [← hw8] at e
        obtain ⟨e1, e2⟩ := wipe_some e
        rw [wipe_out fun z => e2 (hv j z)]
        exact e1
      have l8 : (wipe σ vs).length = (wipe σ8 vs1).length := by rw [wipe_length σ8, ← hw8, wipe_length]
      -- the outer turn ends
      have close : ∀ {s' : Shared} {H' : Hp}, Inv (X.blk s3 H3 scope ce fp) ([] ++ pinsAt fp s7.heap) (wipe σ8 vs1) H' s' → Nx H' →
          ∃ m, m < n ∧ ∃ i H', Inv (X.blk s3 H3 scope ce fp) [] (wipe σ vs) H' s' ∧ tn i s'.heap ∧ (∀ b ∈ fp, H' b = none) ∧ W i m H' := fun {s' H'} I' nx => by
        obtain ⟨m', hm, w'⟩ := hNx H' nx
        have pin' : ∀ b ∈ fp, ∀ o, s7.heap.get? b = some o → s'.heap.get? b = some o ∧ H' b = none := fun b hb o e =>
          let z := I'.pin (b, o) (List.mem_append_right _ (List.mem_append_right _ (mem_pinsAt hb e))); ⟨z.1, z.2.1⟩
        exact ⟨m', hm, i + 1, H', (I'.unpinned (pins := [])).weak l8 k8, T.keep _ _ _ st7 fun b hb o e => (pin' b hb o e).1, fun b hb => let ⟨o, e, _⟩ := T.obj _ _ st7 b hb; (pin' b hb o e).2, w'⟩
      refine thnF (pib.run _ s8 σ8 H8 _ I8 q8) fun xv s10 hx => thnF hx fun itv s11 h11 => ?_
      obtain ⟨it1, fp1, tn1, Jb, H11, e1, I11, T1, st11, f11, W1, ⟨m1, w1⟩, turn1⟩ := h11
      subst e1
      have stat1 : ∀ {H' : Hp}, (∀ b ∈ fp1, H' b = none) → ∀ b ∈ fp1, FpOk (X.blk s3 H3 scope ce fp) ([] ++ pinsAt fp s7.heap) H' b := fun hn b hb => ⟨hn b hb, (f11 b hb).2⟩
      have inner : codeAny (model X.prog X.w) X.A (.compLoop (two kx vx ta ia tb ib scope pos) 1 (.ref it1) (.ref D) ce)
          (fun r s' => match r with
            | .ok _ => ∃ m, m < n ∧ ∃ i H', Inv (X.blk s3 H3 scope ce fp) [] (wipe σ vs) H' s' ∧ tn i s'.heap ∧ (∀ b ∈ fp, H' b = none) ∧ W i m H'
            | .error _ => False) s11 := by
        refine loopB (fun k s' => ∃ j H', Inv (X.blk s3 H3 scope ce fp) ([] ++ pinsAt fp s7.heap) (wipe σ8 vs1) H' s' ∧ tn1 j s'.heap ∧ (∀ b ∈ fp1, H' b = none) ∧ W1 j k H') ?_ m1 ⟨0, H11, I11.weak (wipe_length _ _) (fun j v e => (wipe_some e).1), st11, fun b hb => (f11 b hb).1, w1⟩
        rintro k s12 ⟨j, H12, I12, st12, n12, w12⟩
        rcases turn1 j k H12 w12 with ⟨stop1, nx1⟩ | ⟨go1, Nx1, hNx1, step1⟩
        · refine thnF (T1.done (X.blk s3 H3 scope ce fp) rfl rfl rfl hc j _ s12 (wipe σ8 vs1) H12 (fun _ _ => False) I12 (stat1 n12) st12 stop1) fun r s13 ⟨hr, I13⟩ => ?_
          subst hr
          exact close I13 nx1
        · refine thnF (T1.item (X.blk s3 H3 scope ce fp) rfl rfl rfl hc j _ s12 (wipe σ8 vs1) H12 (fun _ _ => False) I12 (stat1 n12) st12 go1) fun r s13 ⟨u1, hr, h13⟩ => ?_
          subst hr
          refine thnF h13 fun _ s14 ⟨x1, H14, I14, r14, y14, st14, n14⟩ => ?_
          refine thnF (pgb.run _ s14 (wipe σ8 vs1) H14 x1 u1 _ (I14.pinned (stat1 n14) (T1.obj _ _ st14)) r14 (step1 x1 H14 y14)) fun _ s15 ⟨σ15, H15, I15, hw15, q15⟩ => ?_
          refine thnF (pk.run _ s15 σ15 H15 _ I15 q15) fun kv s16 ⟨yk, H16, I16, r16, q16⟩ => ?_
          refine thnF (pz.run _ s16 σ15 H16 _ I16 q16) fun zv s17 ⟨yz, H17, I17, r17, kvs, ke, ek, hD17, hz17, nx⟩ => ?_
          subst ek
          refine d_dictSet (X := X.blk s3 H3 scope ce fp) I17 hD17 hz17 r16 r17 fun s18 I18 => ?_
          obtain ⟨m', hm, w'⟩ := hNx1 _ nx
          have pin' : ∀ b ∈ fp1, ∀ o, s14.heap.get? b = some o → s18.heap.get? b = some o ∧ (upd H17 D (.dK (putK kvs ke yz))) b = none := fun b hb o e =>
            let z := I18.pin (b, o) (List.mem_append_right _ (List.mem_append_right _ (mem_pinsAt hb e))); ⟨z.1, z.2.1⟩
          exact ⟨m', hm, j + 1, _, I18.unpinned.weak (by rw [← hw15, wipe_length]) (fun j v e => by rw [← hw15] at e; exact (wipe_some e).1), T1.keep _ _ _ st14 fun b hb o e => (pin' b hb o e).1, fun b hb => let ⟨o, e, _⟩ := T1.obj _ _ st14 b hb; (pin' b hb o e).2, w'⟩
      exact startB inner (T1.self X.A 0 _ _ _ st11 inner)
  exact codeAny_compStart_dict loop (T.self X.A 0 _ _ _ st4 loop)
theorem pe_dc2 {kx vx ta ia tb ib : Expr} {scope : Scope} {own : List (Str × Nat)} {vs1 : List Nat} {pos : Pos} {wa wb : TI} {ga gb : TG} {tk tv : TE} (hc : X.calm = true) (hN : X.N.Nodup) (hi : PI X ta ia wa) (ok : BlkOk X.N X.env.scope scope own) (hv : ∀ i ∈ vs1, i ∈ own.map (·.2))
    (hga : InBlk X scope fun Y => PG Y ta ga) (hib : InBlk X scope fun Y => PI Y tb ib wb) (hgb : InBlk X scope fun Y => PG Y tb gb) (hk : InBlk X scope fun Y => PE Y kx tk) (hz : InBlk X scope fun Y => PE Y vx tv)
    (fa : ∀ x, foldedSetIterable ia X.env x = pure x := by intro _; rfl) (fb : ∀ env x, foldedSetIterable ib env x = pure x := by intro _ _; rfl) :
    PE X (.DictComp kx vx [⟨ta, ia, [], 0⟩, ⟨tb, ib, [], 0⟩] scope pos) (tDc2 wa ga wb gb tk tv (own.map (·.2)) vs1) := by
  refine ⟨fun pins s σ H Q I h => ?_⟩
  rw [arm_eval_DictComp]
  refine core hc hN I hi ok hv hga hib hgb hk hz fa fb h fun D C s' m H' I' q hn f => ⟨m, hn, fun h'' sb => ?_⟩
  exact ⟨.ref D, H', I'.turned (t' := s'.toks) (fun b o hb e => (sb.2 b hb).trans e) f.1 f.2.1 f.2.2.2.1 f.2.2.2.2.1 f.2.2.2.2.2, rfl, q⟩
/-! ### a walk of a tuple, of a list, of a range: T x H Nx is one turn -/
theorem walk_t {K : PySem.W.Frag} {a : Addr} {xs : List V} {T : V → Hp → (Hp → Prop) → Prop} {H0 : Hp} {Qd : Hp → Prop} (Pv : Nat → Hp → Prop) (h0 : Pv 0 H0) (hl : ∀ i H, i ≤ xs.length → Pv i H → SqT K H a xs)
    (hs : ∀ i x H, xs[i]? = some x → Pv i H → T x H (Pv (i + 1))) (hd : ∀ H, Pv xs.length H → Qd H) :
    ∃ W : Nat → Nat → Hp → Prop, (∃ m, W 0 m H0) ∧ ∀ i m H, W i m H →
      ((Itt K a).stop i H ∧ Qd H) ∨ ((Itt K a).go i H ∧ ∃ Nx : Hp → Prop, (∀ H', Nx H' → ∃ m', m' < m ∧ W (i + 1) m' H') ∧ ∀ x H', (Itt K a).yld i H x H' → T x H' Nx) := by
  refine ⟨fun i m H => m = xs.length - i ∧ i ≤ xs.length ∧ Pv i H, ⟨xs.length, (Nat.sub_zero _).symm, Nat.zero_le _, h0⟩, ?_⟩
  rintro i m H ⟨rfl, hi, p⟩
  have q := hl i H hi p
  rcases Nat.lt_or_ge i xs.length with c | c
  · refine .inr ⟨⟨xs, xs[i], q, List.getElem?_eq_getElem c⟩, Pv (i + 1), fun H' p' => ⟨xs.length - (i + 1), by omega, rfl, c, p'⟩, ?_⟩
    rintro x H' ⟨e, y⟩
    subst e
    exact hs i x _ (y xs q) p
  · have e : i = xs.length := by omega
    subst e
    exact .inl ⟨⟨xs, q, Nat.le_refl _⟩, hd H p⟩
theorem walk_l {K : PySem.W.Frag} {a : Addr} {xs : List V} {T : V → Hp → (Hp → Prop) → Prop} {H0 : Hp} {Qd : Hp → Prop} (Pv : Nat → Hp → Prop) (h0 : Pv 0 H0) (hl : ∀ i H, i ≤ xs.length → Pv i H → SqL K H a xs)
    (hs : ∀ i x H, xs[i]? = some x → Pv i H → T x H (Pv (i + 1))) (hd : ∀ H, Pv xs.length H → Qd H) :
    ∃ W : Nat → Nat → Hp → Prop, (∃ m, W 0 m H0) ∧ ∀ i m H, W i m H →
      ((Itl K a).stop i H ∧ Qd H) ∨ ((Itl K a).go i H ∧ ∃ Nx : Hp → Prop, (∀ H', Nx H' → ∃ m', m' < m ∧ W (i + 1) m' H') ∧ ∀ x H', (Itl K a).yld i H x H' → T x H' Nx) := by
  refine ⟨fun i m H => m = xs.length - i ∧ i ≤ xs.length ∧ Pv i H, ⟨xs.length, (Nat.sub_zero _).symm, Nat.zero_le _, h0⟩, ?_⟩
  rintro i m H ⟨rfl, hi, p⟩
  have q := hl i H hi p
  rcases Nat.lt_or_ge i xs.length with c | c
  · refine .inr ⟨⟨xs, xs[i], q, List.getElem?_eq_getElem c⟩, Pv (i + 1), fun H' p' => ⟨xs.length - (i + 1), by omega, rfl, c, p'⟩, ?_⟩
    rintro x H' ⟨e, y⟩
    subst e
    exact hs i x _ (y xs q) p
  · have e : i = xs.length := by omega
    subst e
    exact .inl ⟨⟨xs, q, Nat.le_refl _⟩, hd H p⟩
end
end DC2

set_option Elab.async false
set_option linter.all false
set_option maxRecDepth 100000
set_option maxHeartbeats 4000000
/-! tuple * 1: the tuple itself. -/
namespace Ew
open PySem PySem.Spec PyProof.Rows L2
theorem tuple_mulW1 (l : Addr) (items : Array Value) (n : Nat) (dd : Option Addr) (sl : Array (Option Value)) (u : Tok) :
    Meets (Builtin.«tuple.__mul__» ⟨[.ref l, .int 1 u], []⟩) (fun _ R s => s.heap.get? l = some { cls := .type "tuple", dict := dd, data := .seq items n, slots := sl } ∧ R (.ok (.ret (Value.ref l))) s) :=
  .of_wp fun prog w A R s h => by
    obtain ⟨hp, g, d, tk, os⟩ := s
    obtain ⟨hl, h⟩ := h
    have f1 := AutoSeq1.idx_int
    have c1 : (items.isEmpty || (1 : Int) == 1) = true := by simp
    wp_walk using wpAny_loadPart' hl
    repeat (first
      | (refine wpAny_ite_false (decide_eq_false (by decide)) ?_; wp_walk using wpAny_loadPart' hl)
      | (refine wpAny_ite_true (decide_eq_true (by simp)) ?_; wp_walk using wpAny_loadPart' hl))
    exact ⟨_, rfl, h⟩
def rRepT1 (K : PySem.W.Frag) : R2 := fun x y H Q => ∃ l xs, x = .ref l ∧ y = .int 1 ∧ SqT K H l xs ∧ Q (.ref l) H
theorem op_repT1 {X : Cx} : OpR X (binaryOp .Mult) (rRepT1 X.K) := by
  intro pins s σ H x y v u Q I rx ry h
  obtain ⟨l, xs, rfl, rfl, hT, q⟩ := h
  cases rx
  obtain ⟨t, rfl⟩ := ry
  obtain ⟨its, r, ⟨⟨cls, dd, data, sl⟩, ho, hc, n, hd⟩, hs⟩ := I.tuple hT
  simp only at hc hd
  subst hc hd
  refine wpAny_binaryOp_repeat_ref (T := "tuple") (U := "int") (by decide) ⟨_, ho, rfl⟩ (fun s' => typeIs_int s' 1 t) noFill_tuple_mul F.fills_int_mul F.slot_int_rmul repeat_tuple F.slot_int_index.lookup
    (call_meets F.slot_int_rmul (typeIs_int s 1 t) F.entry_int_rmul (F.args_int_rmul_2 _ _) (int_rmul_tuple 1 t l its.toArray n dd sl)
      ⟨ho, rfl, ⟨_, ho, rfl⟩, call_meets F.slot_tuple_mul ⟨_, ho, rfl⟩ F.entry_tuple_mul (F.args_tuple_mul_2 _ _) (tuple_mulW1 l its.toArray n dd sl t) ⟨ho, ?_⟩⟩)
  exact ⟨.ref l, H, I, rfl, q⟩
end Ew

set_option Elab.async false
set_option linter.all false
set_option maxRecDepth 100000
set_option maxHeartbeats 4000000
/-! sorted(t) of a tuple of ints. -/
namespace STx
open PySem PySem.W L2 PySem.Spec PyProof.Rows
open Sem (wp)
section
variable {prog : Program} {w : World} {A : Around} {E : Value → Shared → Prop} {s : Shared}
/-- what a tuple holds is collected -/
theorem gathered {t : Addr} {us : List Value} {Q : List Value → Shared → Prop} (ht : s.heap.IsTuple t us.toArray) (hz : us.length ≤ sizeLine)
    (q : Q us { s with heap := (s.heap.push (seqObj "list" #[] 0)).update s.heap.objs.size (Obj.mapSeq (· ++ us.toArray)) }) : wpAny (model prog w) A (collect (.ref t)) Q E s := by
  obtain ⟨ob, h1, h2, m, h3⟩ := id ht
  unfold collect
  refine wpAny_bind (wpAny_runValue (codeAny_builtin entry_proto_collect' ?_)); show wpAny _ _ (do again (.builtin "list.__iadd__" ⟨[← newList [], .ref t], []⟩)) _ _ s
  refine wpAny_bind (wpAny_newList (wpAny_pure ⟨Code.quiet_builtin _ (by decide +kernel), codeAny_builtin entry_list_iadd' ?_⟩)); show wpAny _ _ (Builtin.List.listExtendWith (.ref s.heap.objs.size) (.ref t) (.ref s.heap.objs.size)) _ _ { s with heap := s.heap.push (seqObj "list" #[] 0) }
  unfold Builtin.List.listExtendWith
  have h1' : (s.heap.push (seqObj "list" #[] 0)).get? t = some ob := Heap.get?_push_of_some _ h1
  refine wpAny_bind (wpAny_typeOf (T := "tuple") ⟨ob, h1', h2⟩ ?_); have e : (Value.type "tuple" == Value.type "tuple") = true := by rfl
  rw [if_pos (by rw [e]; simp)]; refine wpAny_bind (listItems_at h1' h3 ?_); refine wpAny_bind (listItems_at (xs := #[]) (n := 0) (Heap.get?_push_size _ rfl) rfl ?_); rw [if_neg (by simp)]
  refine wpAny_bind (listUpdate_at (xs := #[]) (n := 0) (Heap.get?_push_size _ rfl) rfl ?_ (Nat.zero_le _) (by show (#[] ++ us.toArray).size ≤ sizeLine + 1; simp only [Array.size_append, List.size_toArray, List.length_nil]; omega)); refine wpAny_pure ?_
  show wpAny (model prog w) A (do let o ← load s.heap.objs.size; match o.data with | .seq xs _ => pure xs.toList | _ => unsupported "internal:collect") Q E { s with heap := (s.heap.push (seqObj "list" #[] 0)).update s.heap.objs.size (Obj.mapSeq (· ++ us.toArray)) }
  refine wpAny_bind (wpAny_load (get?_update_seq (Heap.get?_push_size _ rfl) _) ?_); show wpAny _ _ (pure ((#[] : Array Value) ++ us.toArray).toList) Q E _
  rw [show ((#[] : Array Value) ++ us.toArray).toList = us by simp]; exact wpAny_pure q
theorem sorted_tup {t : Addr} {us : List Value} {lt : Value → Value → Bool} {Q : Value → Shared → Prop} (O : SrtO.Swo lt) (ht : s.heap.IsTuple t us.toArray) (hz : us.length ≤ sizeLine)
    (hS : 2 ≤ us.length → ∀ (g : Heap) (a : Addr), g.get? a = some (seqObj "list" us.toArray 0) → (∀ b o, s.heap.get? b = some o → b ≠ a ∧ g.get? b = some o) → SrtO.SortableO prog w A.in1.in1 { s with heap := g } a us lt)
    (q : ∀ out : List Value, SrtO.Srtd lt out → SrtO.Stb lt out us → Q (.ref (s.heap.objs.size + 1)) { s with heap := sortedAll s.heap us out.toArray }) :
    wpAny (model prog w) A (call (.builtin "sorted") [.ref t]) Q E s := by
  refine Calls.call_function_entry kind_sorted plain_sorted entry_sorted (args_sorted1 _) ?_; unfold Builtin.«sorted»
  refine wpAny_bind (m := checkCount "sorted" 1 1 _) (wpAny_pure ?_); refine wpAny_bind (gathered ht hz ?_); refine wpAny_bind (wpAny_newList ?_ hz)
  have e1 : ((s.heap.push (seqObj "list" #[] 0)).update s.heap.objs.size (Obj.mapSeq (· ++ us.toArray))).objs.size = s.heap.objs.size + 1 := by
    rw [Heap.size_update, size_push']
  have e2 : (((s.heap.push (seqObj "list" #[] 0)).update s.heap.objs.size (Obj.mapSeq (· ++ us.toArray))).push (seqObj "list" us.toArray 0)).get? (s.heap.objs.size + 1) = some (seqObj "list" us.toArray 0) := by
    rw [← e1]; exact Heap.get?_push_size _ rfl
  have e3 : ∀ b o, s.heap.get? b = some o → b ≠ s.heap.objs.size + 1 ∧ (((s.heap.push (seqObj "list" #[] 0)).update s.heap.objs.size (Obj.mapSeq (· ++ us.toArray))).push (seqObj "list" us.toArray 0)).get? b = some o := fun b o g => by
    have hb : b < s.heap.objs.size := Heap.lt_size g
    refine ⟨Nat.ne_of_lt (Nat.lt_succ_of_lt hb), Heap.get?_push_of_some _ ?_⟩
    rw [Heap.get?_update_ne _ _ _ _ (Nat.ne_of_lt hb)]; exact Heap.get?_push_of_some _ g
  show wpAny _ _ _ _ _ { s with heap := ((s.heap.push (seqObj "list" #[] 0)).update s.heap.objs.size (Obj.mapSeq (· ++ us.toArray))).push (seqObj "list" us.toArray 0) }
  rw [e1]; refine wpAny_bind (wpAny_holding (wpAny_call_entry slot_list_sort ⟨_, e2, rfl⟩ entry_list_sort (SrtO.list_sort_ord O e2 hz (fun h2 => hS h2 _ _ e2 e3) fun out hs hb => ⟨_, rfl, ?_⟩) (args_list_sort _)))
  exact wpAny_pure ⟨_, rfl, q out hs hb⟩
end
section
variable {X : Cx}
/-- sorted(xs), xs a list or a tuple of ints -/
def rSortA (K : PySem.W.Frag) : List V → Hp → VK → Prop := fun vs H Q => ∃ (a : Addr) (ns : List Int), vs = [V.ref a] ∧ (SqL K H a (ns.map V.int) ∨ SqT K H a (ns.map V.int)) ∧
  ∀ (ms : List Int) (p : Addr), ms.Perm ns → ms.Pairwise (· ≤ ·) → H p = none → Q (.ref p) (upd H p (.lst (ms.map V.int)))
theorem cr_sortedA : CallR X (.builtin "sorted") (rSortA X.K) := by
  intro pins s σ H vs us Q I r h
  obtain ⟨a, ns, rfl, hs | hs, q⟩ := h
  · exact cr_sortedI pins s σ H _ us Q I r ⟨a, ns, rfl, hs, q⟩
  · obtain ⟨its, rv, ht, hz⟩ := I.tuple hs
    rw [Vals.ref1 r]
    have rin := rv.ints
    refine sorted_tup SrtO.swo_int (show s.heap.IsTuple a its.toArray from ht) (by rw [← rv.length]; exact hz) (fun h2 g a' _ _ => SrtO.ints_sortable rin h2) fun out h1 h2 => ?_
    obtain ⟨k1, k2, k3⟩ := SrtO.ints_out rin h1 h2
    obtain ⟨ep, at_⟩ := PyProof.Rows.sortedAll_at s.heap its out.toArray
    have len : ((out.map SrtO.iv).map V.int).length ≤ sizeLine := by
      rw [List.length_map, k2.length_eq]; rw [List.length_map] at hz; exact hz
    exact ⟨.ref _, upd H (s.heap.objs.size + 1) (.lst ((out.map SrtO.iv).map V.int)), I.laid (t' := s.toks) (fun _ _ => PyProof.Rows.sortedAll_old) (Nat.le_succ _) ⟨len, out, ep, vals_of_ints k1, at_⟩, rfl, q _ _ k2 k3 (I.hok.fresh (Nat.le_succ _))⟩
end
end STx

set_option Elab.async false
set_option linter.all false
set_option maxRecDepth 100000
set_option maxHeartbeats 4000000
/-! Lists of whole numbers: sorted, the least k, the sums. -/
namespace KM
open PySem L2 Ew
abbrev nV (ns : List Nat) : List V := ns.map fun (n : Nat) => V.int (n : Int)
def sortN (ns : List Nat) : List Nat := (PySem.W.sortI (ns.map fun (n : Nat) => (n : Int))).map Int.toNat
theorem sortN_of {ns : List Nat} {ns' : List Int} (hp : ns'.Perm (ns.map fun (n : Nat) => (n : Int))) (hs : ns'.Pairwise (· ≤ ·)) : ns' = (sortN ns).map fun (n : Nat) => (n : Int) := by
  have e := PySem.W.eq_sortI hp hs
  unfold sortN
  rw [← e, List.map_map]
  refine (List.map_id _).symm.trans (List.map_congr_left fun x hx => ?_)
  obtain ⟨n, _, rfl⟩ := List.mem_map.mp (hp.mem_iff.mp hx)
  show (n : Int) = ((n : Int).toNat : Int)
  rw [Int.toNat_natCast]
theorem int_map (ns : List Nat) : (ns.map fun (n : Nat) => (n : Int)).map V.int = nV ns := by
  rw [List.map_map]; rfl
theorem id_nat (ns : List Nat) : (ns.map fun (n : Nat) => (n : Int)).map Int.toNat = ns := by
  rw [List.map_map]
  exact (List.map_congr_left fun n _ => Int.toNat_natCast n).trans (List.map_id _)
theorem sortN_perm (ns : List Nat) : (sortN ns).Perm ns := by
  have h := (PySem.W.sortI_perm (ns.map fun (n : Nat) => (n : Int))).map Int.toNat
  rw [id_nat] at h
  exact h
theorem sortN_rises (ns : List Nat) : (sortN ns).Pairwise (· ≤ ·) :=
  (PySem.W.sortI_rises (ns.map fun (n : Nat) => (n : Int))).map Int.toNat fun a b hab => by omega
/-- what rises and holds the same is the sorted list -/
theorem sortN_eq {ns ms : List Nat} (hp : ms.Perm ns) (hs : ms.Pairwise (· ≤ ·)) : ms = sortN ns := by
  have e := sortN_of (ns := ns) (ns' := ms.map fun (n : Nat) => (n : Int)) (hp.map _) (hs.map (S := fun (a b : Int) => a ≤ b) _ fun a b hab => by omega)
  have e3 := congrArg (List.map Int.toNat) e
  rwa [id_nat, id_nat] at e3
theorem sortN_congr {ns ms : List Nat} (hp : ms.Perm ns) : sortN ms = sortN ns := sortN_eq ((sortN_perm ms).trans hp) (sortN_rises ms)
theorem sortN_self {ns : List Nat} (hs : ns.Pairwise (· ≤ ·)) : sortN ns = ns := (sortN_eq (.refl _) hs).symm
theorem sortN_len (ns : List Nat) : (sortN ns).length = ns.length := (sortN_perm ns).length_eq
def topN (k : Nat) (ns : List Nat) : List Nat := (sortN ns).take k
theorem topN_congr {k : Nat} {ns ms : List Nat} (hp : ms.Perm ns) : topN k ms = topN k ns := by unfold topN; rw [sortN_congr hp]
theorem topN_rises (k : Nat) (ns : List Nat) : (topN k ns).Pairwise (· ≤ ·) := (sortN_rises ns).sublist (List.take_sublist _ _)
theorem topN_len (k : Nat) (ns : List Nat) : (topN k ns).length ≤ k := List.length_take_le _ _
theorem topN_self {k : Nat} {ns : List Nat} (hs : ns.Pairwise (· ≤ ·)) (hl : ns.length ≤ k) : topN k ns = ns := by
  unfold topN; rw [sortN_self hs, List.take_of_length_le hl]
/-- what many lesser ones stand ahead of does not matter -/
theorem topN_drop {k : Nat} {Y Z : List Nat} (h : ∀ z ∈ Z, k ≤ Y.countP fun y => decide (y ≤ z)) : topN k (Y ++ Z) = topN k Y := by
  rcases Nat.lt_or_ge Y.length k with hk | hk
  · have hz : Z = [] := by
      rcases Z with _ | ⟨z, Z⟩
      · rfl
      · have h1 := h z (List.mem_cons_self ..)
        have h2 := List.countP_le_length (p := fun y => decide (y ≤ z)) (l := Y)
        omega
    rw [hz, List.append_nil]
  · have hS := sortN_rises Y
    have hP := sortN_perm Y
    have hl : (sortN Y).length = Y.length := hP.length_eq
    have split_ : (sortN Y).take k ++ (sortN Y).drop k = sortN Y := List.take_append_drop k _
    have low : ∀ z ∈ Z, ∀ p ∈ (sortN Y).take k, p ≤ z := fun z hz p hp => by
      refine Nat.not_lt.mp fun hlt => ?_
      have hc := h z hz
      rw [← hP.countP_eq, ← split_, List.countP_append] at hc
      obtain ⟨i, hi⟩ := List.mem_iff_getElem?.mp hp
      have hik : i < ((sortN Y).take k).length := (List.getElem?_eq_some_iff.mp hi).1
      have hi' : (sortN Y)[i]? = some p := by
        rw [List.getElem?_take] at hi
        split at hi
        · exact hi
        · cases hi
      have hin : i < (sortN Y).length := (List.getElem?_eq_some_iff.mp hi').1
      have hk2 : i < k := by
        have := List.length_take_le k (sortN Y)
        omega
      have c1 : (sortN Y).countP (fun y => decide (y ≤ z)) ≤ i := by
        rw [← List.take_append_drop i (sortN Y), List.countP_append]
        have a1 := List.countP_le_length (p := fun y => decide (y ≤ z)) (l := (sortN Y).take i)
        have a2 : ((sortN Y).drop i).countP (fun y => decide (y ≤ z)) = 0 := by
          refine List.countP_eq_zero.mpr fun y hy => ?_
          have hd : (sortN Y).drop i = p :: (sortN Y).drop (i + 1) := by
            rw [List.drop_eq_getElem_cons hin]
            congr 1
            rw [List.getElem?_eq_getElem hin] at hi'
            exact Option.some.inj hi'
          have hpw := hS.sublist (List.drop_sublist i (sortN Y))
          rw [hd] at hy hpw
          rcases List.mem_cons.mp hy with rfl | hy
          · simp; omega
          · have := (List.pairwise_cons.mp hpw).1 y hy
            simp; omega
        have a3 := List.length_take_le i (sortN Y)
        omega
      have c2 := hP.countP_eq (p := fun y => decide (y ≤ z))
      rw [← List.countP_append, split_] at hc
      omega
    have e : sortN (Y ++ Z) = (sortN Y).take k ++ sortN ((sortN Y).drop k ++ Z) := by
      refine (sortN_eq ?_ ?_).symm
      · have p1 := (sortN_perm ((sortN Y).drop k ++ Z)).append_left ((sortN Y).take k)
        rw [← List.append_assoc, split_] at p1
        exact p1.trans (hP.append_right Z)
      · refine List.pairwise_append.mpr ⟨hS.sublist (List.take_sublist _ _), sortN_rises _, fun a ha b hb => ?_⟩
        rcases List.mem_append.mp ((sortN_perm _).mem_iff.mp hb) with h1 | h1
        · rw [← split_] at hS
          exact (List.pairwise_append.mp hS).2.2 a ha b h1
        · exact low b h1 a ha
    unfold topN
    rw [e, List.take_append_of_le_length (by rw [List.length_take, hl]; omega), List.take_take, Nat.min_self]
/-- the least k and the rest -/
theorem topN_split (k : Nat) (ns : List Nat) : ∃ R, ns.Perm (topN k ns ++ R) ∧ ∀ r ∈ R, (topN k ns).length = k ∧ ∀ p ∈ topN k ns, p ≤ r := by
  refine ⟨(sortN ns).drop k, ?_, fun r hr => ⟨?_, fun p hp => ?_⟩⟩
  · unfold topN
    rw [List.take_append_drop]
    exact (sortN_perm ns).symm
  · have := List.length_pos_of_mem hr
    rw [List.length_drop] at this
    unfold topN
    rw [List.length_take]
    omega
  · have h := sortN_rises ns
    rw [← List.take_append_drop k (sortN ns)] at h
    exact (List.pairwise_append.mp h).2.2 p hp r hr
theorem topN_app (k : Nat) (a b : List Nat) : topN k (topN k a ++ b) = topN k (a ++ b) := by
  obtain ⟨R, hp, hr⟩ := topN_split k a
  have p2 : (a ++ b).Perm ((topN k a ++ b) ++ R) := by
    refine (hp.append_right b).trans ?_
    rw [List.append_assoc, List.append_assoc]
    exact List.Perm.append_left _ List.perm_append_comm
  rw [topN_congr p2]
  refine (topN_drop fun z hz => ?_).symm
  obtain ⟨h1, h2⟩ := hr z hz
  rw [List.countP_append, List.countP_eq_length.mpr (fun p hp => by simpa using h2 p hp), h1]
  omega
theorem topN_app_r (k : Nat) (a b : List Nat) : topN k (a ++ topN k b) = topN k (a ++ b) := by
  rw [topN_congr (List.perm_append_comm (l₁ := a)), topN_app, topN_congr List.perm_append_comm]
def sumsN (a b : List Nat) : List Nat := a.flatMap fun x => b.map fun y => x + y
theorem sums_nil (b : List Nat) : sumsN [] b = [] := rfl
theorem sums_cons (x : Nat) (a b : List Nat) : sumsN (x :: a) b = (b.map fun y => x + y) ++ sumsN a b := rfl
theorem sums_app (a a' b : List Nat) : sumsN (a ++ a') b = sumsN a b ++ sumsN a' b := List.flatMap_append
theorem sums_perm {a a' : List Nat} (b : List Nat) (h : a.Perm a') : (sumsN a b).Perm (sumsN a' b) := h.flatMap_right _
theorem sums_nil_r : ∀ a : List Nat, sumsN a [] = []
  | [] => rfl
  | x :: a => by rw [sums_cons, sums_nil_r a]; rfl
theorem sums_cons_r (y : Nat) (b : List Nat) : ∀ a : List Nat, (sumsN a (y :: b)).Perm ((a.map fun x => x + y) ++ sumsN a b)
  | [] => .refl _
  | x :: a => by
    rw [sums_cons, sums_cons, List.map_cons, List.map_cons, List.cons_append, List.cons_append]
    refine List.Perm.cons _ ((List.Perm.append_left _ (sums_cons_r y b a)).trans ?_)
    rw [← List.append_assoc, ← List.append_assoc]
    exact List.Perm.append_right _ List.perm_append_comm
theorem sums_comm : ∀ a b : List Nat, (sumsN a b).Perm (sumsN b a)
  | [], b => by rw [sums_nil_r]; exact .refl _
  | x :: a, b => by
    have h := sums_cons_r x a b
    rw [show (b.map fun y => y + x) = b.map fun y => x + y from List.map_congr_left fun y _ => Nat.add_comm y x] at h
    exact (List.Perm.append_left _ (sums_comm a b)).trans h.symm
theorem sums_app_r (a b c : List Nat) : (sumsN a (b ++ c)).Perm (sumsN a b ++ sumsN a c) :=
  (sums_comm _ _).trans ((by rw [sums_app]; exact (sums_comm b a).append (sums_comm c a) : (sumsN (b ++ c) a).Perm _))
theorem sums_map (x : Nat) (c : List Nat) : ∀ b : List Nat, sumsN (b.map fun y => x + y) c = (sumsN b c).map fun z => x + z
  | [] => rfl
  | y :: b => by
    rw [List.map_cons, sums_cons, sums_cons, List.map_append, sums_map x c b, List.map_map]
    congr 1
    exact List.map_congr_left fun z _ => Nat.add_assoc x y z
theorem sums_assoc (b c : List Nat) : ∀ a : List Nat, sumsN (sumsN a b) c = sumsN a (sumsN b c)
  | [] => rfl
  | x :: a => by rw [sums_cons, sums_app, sums_map, sums_cons, sums_assoc b c a]
theorem sums_count {q : Nat → Bool} {y : Nat} {b : List Nat} (hy : y ∈ b) : ∀ {P : List Nat}, (∀ p ∈ P, q (p + y) = true) → P.length ≤ (sumsN P b).countP q
  | [], _ => Nat.zero_le _
  | p :: P, h => by
    have ih := sums_count hy (P := P) fun p' hp' => h p' (List.mem_cons_of_mem _ hp')
    rw [sums_cons, List.countP_append, List.length_cons]
    have : 0 < (b.map fun y => p + y).countP q := List.countP_pos_iff.mpr ⟨p + y, List.mem_map.mpr ⟨y, hy, rfl⟩, h p (List.mem_cons_self ..)⟩
    omega
theorem topN_sums (k : Nat) (a b : List Nat) : topN k (sumsN (topN k a) b) = topN k (sumsN a b) := by
  obtain ⟨R, hp, hr⟩ := topN_split k a
  have p2 : (sumsN a b).Perm (sumsN (topN k a) b ++ sumsN R b) := by
    rw [← sums_app]
    exact sums_perm b hp
  rw [topN_congr p2]
  refine (topN_drop fun z hz => ?_).symm
  obtain ⟨r, hrR, hz2⟩ := List.mem_flatMap.mp hz
  obtain ⟨y, hy, rfl⟩ := List.mem_map.mp hz2
  obtain ⟨h1, h2⟩ := hr r hrR
  have := sums_count (q := fun s => decide (s ≤ r + y)) hy (P := topN k a) fun p hp => by
    have := h2 p hp
    simp
    omega
  omega
theorem topN_sums_r (k : Nat) (a b : List Nat) : topN k (sumsN a (topN k b)) = topN k (sumsN a b) := by
  rw [topN_congr (sums_comm a _), topN_sums, topN_congr (sums_comm b a)]
/-! ### the semiring -/
def plN (k : Nat) (a b : List Nat) : List Nat := topN k (a ++ b)
def tmN (k : Nat) (a b : List Nat) : List Nat := topN k (sumsN a b)
theorem tm_pl (k : Nat) (a b c : List Nat) : tmN k a (plN k b c) = plN k (tmN k a b) (tmN k a c) := by
  unfold tmN plN
  rw [topN_sums_r, topN_app, topN_app_r]
  exact topN_congr (sums_app_r a b c)
theorem tm_tm (k : Nat) (a b c : List Nat) : tmN k a (tmN k b c) = tmN k (tmN k a b) c := by
  unfold tmN
  rw [topN_sums_r, topN_sums, sums_assoc]
theorem pl_pl (k : Nat) (a b c : List Nat) : plN k a (plN k b c) = plN k (plN k a b) c := by
  unfold plN
  rw [topN_app_r, topN_app, List.append_assoc]
structure ElN (k : Nat) (a : List Nat) : Prop where
  up : a.Pairwise (· ≤ ·)
  len : a.length ≤ k
theorem el_top (k : Nat) (ns : List Nat) : ElN k (topN k ns) := ⟨topN_rises _ _, topN_len _ _⟩
theorem tm_one {k : Nat} {a : List Nat} (h : ElN k a) : tmN k a [0] = a := by
  unfold tmN
  have e : sumsN [0] a = a := by
    rw [sums_cons, sums_nil, List.append_nil]
    exact (List.map_congr_left fun y _ => Nat.zero_add y).trans (List.map_id _)
  have p := sums_comm a [0]
  rw [e] at p
  rw [topN_congr p]
  exact topN_self h.up h.len
theorem tm_zero (k : Nat) (a : List Nat) : tmN k a [] = [] := by
  unfold tmN
  rw [sums_nil_r]
  exact topN_self .nil (Nat.zero_le _)
theorem pl_zero {k : Nat} {a : List Nat} (h : ElN k a) : plN k a [] = a := by
  unfold plN
  rw [List.append_nil]
  exact topN_self h.up h.len
/-! ### the star -/
def stepN (k : Nat) (a t : List Nat) : List Nat := plN k [0] (tmN k a t)
def iterN (k : Nat) (a : List Nat) : Nat → List Nat
  | 0 => [0]
  | i + 1 => stepN k a (iterN k a i)
def starN (k : Nat) (a : List Nat) : List Nat := if 0 ∈ a then List.replicate k 0 else iterN k a k
theorem step_eq (k : Nat) (a t : List Nat) : stepN k a t = topN k (0 :: sumsN a t) := topN_app_r k [0] _
theorem sort_zero (ns : List Nat) : sortN (0 :: ns) = 0 :: sortN ns :=
  (sortN_eq (List.Perm.cons 0 (sortN_perm ns)) (List.pairwise_cons.mpr ⟨fun _ _ => Nat.zero_le _, sortN_rises ns⟩)).symm
theorem step_take {k m : Nat} {a u v : List Nat} (hu : u.Pairwise (· ≤ ·)) (hv : v.Pairwise (· ≤ ·)) (h : u.take m = v.take m) : (stepN k a u).take (m + 1) = (stepN k a v).take (m + 1) := by
  have key : ∀ w : List Nat, w.Pairwise (· ≤ ·) → (stepN k a w).take (m + 1) = (0 :: topN m (sumsN a (w.take m))).take k := fun w hw => by
    rw [step_eq]
    show ((sortN (0 :: sumsN a w)).take k).take (m + 1) = _
    rw [sort_zero, List.take_take, Nat.min_comm, ← List.take_take, List.take_succ_cons]
    have : (sortN (sumsN a w)).take m = topN m (sumsN a (w.take m)) := by
      show topN m (sumsN a w) = _
      rw [← topN_sums_r m a w, show topN m w = w.take m by unfold topN; rw [sortN_self hw]]
    rw [this]
  rw [key u hu, key v hv, h]
theorem iter_el {k : Nat} (hk : 1 ≤ k) (a : List Nat) : ∀ i, ElN k (iterN k a i)
  | 0 => ⟨List.pairwise_singleton _ _, hk⟩
  | _ + 1 => el_top _ _
theorem iter_take {k : Nat} (hk : 1 ≤ k) (a : List Nat) : ∀ i, (iterN k a i).take (i + 1) = (iterN k a (i + 1)).take (i + 1)
  | 0 => by
    show _ = (stepN k a [0]).take 1
    rw [step_eq]
    show _ = ((sortN (0 :: sumsN a [0])).take k).take 1
    rw [sort_zero, List.take_take, show min 1 k = 1 by omega]
    rfl
  | i + 1 => step_take (iter_el hk a i).up (iter_el hk a (i + 1)).up (iter_take hk a i)
theorem iter_fix {k : Nat} (hk : 1 ≤ k) (a : List Nat) : stepN k a (iterN k a k) = iterN k a k := by
  have h := iter_take hk a k
  rw [List.take_of_length_le (by have := (iter_el hk a k).len; omega), List.take_of_length_le (by have := (iter_el hk a (k + 1)).len; omega)] at h
  exact h.symm
theorem zeros_fix {k : Nat} {a : List Nat} (h0 : 0 ∈ a) : stepN k a (List.replicate k 0) = List.replicate k 0 := by
  rw [step_eq]
  obtain ⟨s, t, rfl⟩ := List.append_of_mem h0
  have p : (0 :: sumsN (s ++ 0 :: t) (List.replicate k 0)).Perm (List.replicate k 0 ++ (0 :: sumsN (s ++ t) (List.replicate k 0))) := by
    have p1 : (s ++ 0 :: t).Perm (0 :: (s ++ t)) := List.perm_middle
    have p2 := sums_perm (List.replicate k 0) p1
    rw [sums_cons, show ((List.replicate k 0).map fun y => 0 + y) = List.replicate k 0 by rw [List.map_replicate]] at p2
    exact (List.Perm.cons 0 p2).trans List.perm_middle.symm
  rw [topN_congr p, topN_drop fun z _ => by rw [List.countP_eq_length.mpr fun y hy => by rw [List.eq_of_mem_replicate hy]; simp]; rw [List.length_replicate]; exact Nat.le_refl _]
  exact topN_self (List.pairwise_replicate.mpr (.inr (Nat.le_refl _))) (by rw [List.length_replicate]; exact Nat.le_refl _)
theorem star_fix {k : Nat} (hk : 1 ≤ k) (a : List Nat) : plN k [0] (tmN k a (starN k a)) = starN k a := by
  unfold starN
  split
  · rename_i h; exact zeros_fix h
  · exact iter_fix hk a
theorem star_el {k : Nat} (hk : 1 ≤ k) (a : List Nat) : ElN k (starN k a) := by
  unfold starN
  split
  · exact ⟨List.pairwise_replicate.mpr (.inr (Nat.le_refl _)), by rw [List.length_replicate]; exact Nat.le_refl _⟩
  · exact iter_el hk a k
end KM

set_option Elab.async false
set_option linter.all false
set_option maxRecDepth 100000
set_option maxHeartbeats 4000000
/-! tuple * n from 1 on; == and != of lists, tuples of whole numbers; walks that do anything. -/
namespace KM
open PySem PySem.W L2 Ew
section
variable {X : Cx}
def rRepA (K : PySem.W.Frag) : R2 := fun x y H Q => ∃ l k xs, x = .ref l ∧ y = .int k ∧ SqT K H l xs ∧ xs ≠ [] ∧ 1 ≤ k ∧ k ≤ 1000 ∧ xs.length ≤ 1000 ∧ (k = 1 → Q (.ref l) H) ∧ (2 ≤ k → ∀ p, H p = none → Q (.ref p) (upd H p (.tup (List.replicate k.toNat xs).flatten)))
theorem op_repA : OpR X (binaryOp .Mult) (rRepA X.K) := by
  intro pins s σ H x y v u Q I rx ry h
  obtain ⟨l, k, xs, rfl, rfl, hT, hne, h1, h2, hz, q1, q2⟩ := h
  by_cases c : k = 1
  · subst c
    exact op_repT1 pins s σ H _ _ v u Q I rx ry ⟨l, xs, rfl, rfl, hT, q1 rfl⟩
  · exact op_repT pins s σ H _ _ v u Q I rx ry ⟨l, k, xs, rfl, rfl, hT, hne, by omega, h2, hz, q2 (by omega)⟩
abbrev dN (ns : List Nat) : List PyData := ns.map fun (n : Nat) => .int (n : Int)
theorem dp_nums {K : PySem.W.Frag} {H : Hp} : ∀ ns : List Nat, DpAll K H (nV ns) (dN ns)
  | [] => .nil
  | n :: ns => .cons (.int _) (dp_nums ns)
theorem eqv_nums : ∀ ns ms : List Nat, PyData.eqvAll (dN ns) (dN ms) = decide (ns = ms)
  | [], [] => rfl
  | [], _ :: _ => rfl
  | _ :: _, [] => rfl
  | n :: ns, m :: ms => by
    show (((n : Int) == (m : Int)) && PyData.eqvAll (dN ns) (dN ms)) = _
    rw [eqv_nums ns ms]
    by_cases a : n = m
    · subst a
      by_cases b : ns = ms
      · subst b; simp
      · simp [b]
    · have : ((n : Int) == (m : Int)) = false := beq_eq_false_iff_ne.mpr (by omega)
      rw [this]
      simp [a]
theorem lay_nums : ∀ ns : List Nat, PyData.canLayAll0 (dN ns) = true
  | [] => rfl
  | n :: ns => by
    show (true && PyData.canLayAll0 (dN ns)) = true
    rw [lay_nums ns]; rfl
theorem dep_nums : ∀ ns : List Nat, PyData.depthAll (dN ns) = 0
  | [] => rfl
  | n :: ns => by
    show max 0 (PyData.depthAll (dN ns)) = 0
    rw [dep_nums ns]; rfl
theorem shT (ns : List Nat) : SeqAt.shaped (.tuple (dN ns)) = true := by
  unfold SeqAt.shaped
  rw [show PyData.canLay0 (.tuple (dN ns)) = PyData.canLayAll0 (dN ns) from rfl, lay_nums, show PyData.depth (.tuple (dN ns)) = PyData.depthAll (dN ns) + 1 from rfl, dep_nums]
  rfl
theorem shL (ns : List Nat) : SeqAt.shaped (.list (dN ns)) = true := by
  unfold SeqAt.shaped
  rw [show PyData.canLay0 (.list (dN ns)) = PyData.canLayAll0 (dN ns) from rfl, lay_nums, show PyData.depth (.list (dN ns)) = PyData.depthAll (dN ns) + 1 from rfl, dep_nums]
  rfl
/-- two tuples, or two lists, of whole numbers -/
def rNums (K : PySem.W.Frag) (neg : Bool) : R2 := fun x y H Q => ∃ a b ns ms, x = .ref a ∧ y = .ref b ∧ ((SqT K H a (nV ns) ∧ SqT K H b (nV ms)) ∨ (SqL K H a (nV ns) ∧ SqL K H b (nV ms))) ∧ Q (.bl (if neg then !decide (ns = ms) else decide (ns = ms))) H
theorem op_eqNums (hu : X.A.units + 64 < cLine) : OpR X (compareOp .Eq) (rNums X.K false) := by
  intro pins s σ H x y v u Q I rx ry h
  obtain ⟨a, b, ns, ms, rfl, rfl, ⟨h1, h2⟩ | ⟨h1, h2⟩, q⟩ := h
  · refine op_eqD hu pins s σ H _ _ v u Q I rx ry ⟨.tuple (dN ns), .tuple (dN ms), .tup h1 (dp_nums _), .tup h2 (dp_nums _), shT _, shT _, ?_⟩
    rw [show PyData.eqv (.tuple (dN ns)) (.tuple (dN ms)) = PyData.eqvAll (dN ns) (dN ms) from rfl, eqv_nums]
    exact q
  · refine op_eqD hu pins s σ H _ _ v u Q I rx ry ⟨.list (dN ns), .list (dN ms), .lst h1 (dp_nums _), .lst h2 (dp_nums _), shL _, shL _, ?_⟩
    rw [show PyData.eqv (.list (dN ns)) (.list (dN ms)) = PyData.eqvAll (dN ns) (dN ms) from rfl, eqv_nums]
    exact q
theorem op_neNums (hu : X.A.units + 64 < cLine) : OpR X (compareOp .NotEq) (rNums X.K true) := by
  intro pins s σ H x y v u Q I rx ry h
  obtain ⟨a, b, ns, ms, rfl, rfl, ⟨h1, h2⟩ | ⟨h1, h2⟩, q⟩ := h
  · refine op_neD hu pins s σ H _ _ v u Q I rx ry ⟨.tuple (dN ns), .tuple (dN ms), .tup h1 (dp_nums _), .tup h2 (dp_nums _), shT _, shT _, ?_⟩
    rw [show PyData.eqv (.tuple (dN ns)) (.tuple (dN ms)) = PyData.eqvAll (dN ns) (dN ms) from rfl, eqv_nums]
    exact q
  · refine op_neD hu pins s σ H _ _ v u Q I rx ry ⟨.list (dN ns), .list (dN ms), .lst h1 (dp_nums _), .lst h2 (dp_nums _), shL _, shL _, ?_⟩
    rw [show PyData.eqv (.list (dN ns)) (.list (dN ms)) = PyData.eqvAll (dN ns) (dN ms) from rfl, eqv_nums]
    exact q
end
/-- a walk through a tuple, whatever a turn does -/
theorem wk_tup {K : PySem.W.Frag} {a : Addr} {xs : List V} {Qd : Hp → Prop} {H0 : Hp} {B : V → Hp → (Hp → Prop) → Prop} (Pv : Nat → Hp → Prop) (h0 : Pv 0 H0) (hl : ∀ i H, i ≤ xs.length → Pv i H → SqT K H a xs) (hs : ∀ i x H, xs[i]? = some x → Pv i H → B x H (Pv (i + 1))) (hd : ∀ H, Pv xs.length H → Qd H) :
    ∃ W : Nat → Nat → Hp → Prop, (∃ m, W 0 m H0) ∧ ∀ i m H, W i m H → ((Itt K a).stop i H ∧ Qd H) ∨ ((Itt K a).go i H ∧ ∃ Nx : Hp → Prop, (∀ H', Nx H' → ∃ m', m' < m ∧ W (i + 1) m' H') ∧ ∀ x H', (Itt K a).yld i H x H' → B x H' Nx) := by
  refine ⟨fun i m H => m = xs.length - i ∧ i ≤ xs.length ∧ Pv i H, ⟨xs.length, by simp, Nat.zero_le _, h0⟩, ?_⟩
  rintro i m H ⟨rfl, hi, p⟩
  have q := hl i H hi p
  by_cases c : i < xs.length
  · refine .inr ⟨⟨xs, xs[i], q, by simp [c]⟩, Pv (i + 1), fun H' p' => ⟨xs.length - (i + 1), by omega, rfl, c, p'⟩, fun x H' y => ?_⟩
    obtain ⟨rfl, y⟩ := y
    exact hs i x _ (y xs q) p
  · obtain rfl : i = xs.length := by omega
    exact .inl ⟨⟨xs, q, Nat.le_refl _⟩, hd H p⟩
theorem nV_flat : ∀ ps : List Nat, (nV ps).all flatV = true
  | [] => rfl
  | p :: ps => nV_flat ps
theorem inV_nV (m : Nat) : ∀ ps : List Nat, inV (.int (m : Int)) (nV ps) = decide (m ∈ ps)
  | [] => rfl
  | p :: ps => by
    have ih := inV_nV m ps
    have e : inV (.int (m : Int)) (nV (p :: ps)) = (eqV (.int (p : Int)) (.int (m : Int)) || inV (.int (m : Int)) (nV ps)) := rfl
    rw [e, ih]
    by_cases c : p = m
    · subst c; simp [eqV]
    · have c' : ¬ m = p := fun z => c z.symm
      have e2 : eqV (.int (p : Int)) (.int (m : Int)) = false := by simp [eqV]; omega
      rw [e2]
      simp [c']
theorem nV_app (a b : List Nat) : nV a ++ nV b = nV (a ++ b) := List.map_append.symm
theorem nV_len (a : List Nat) : (nV a).length = a.length := List.length_map _
theorem nV_at {a : List Nat} {i : Nat} {x : V} (h : (nV a)[i]? = some x) : ∃ n : Nat, a[i]? = some n ∧ x = .int (n : Int) := by
  rw [List.getElem?_map] at h
  obtain ⟨n, h1, h2⟩ := Option.map_eq_some_iff.mp h
  exact ⟨n, h1, h2.symm⟩
theorem cut_to (ns : List Nat) (k : Nat) : cutV (nV ns) none (some (k : Int)) = nV (ns.take k) := by
  unfold cutV
  rw [HT.sIx_none, HT.sIx_nat, List.drop_zero, Nat.sub_zero, nV_len, ← List.map_take]
  rcases Nat.le_total k ns.length with h | h
  · rw [Nat.min_eq_left h]
  · rw [Nat.min_eq_right h, List.take_length, List.take_of_length_le h]
end KM

set_option Elab.async false
set_option linter.all false
set_option maxRecDepth 100000
set_option maxHeartbeats 4000000
/-! all(..), any(..) whose turns may end it; tables of any form. -/
namespace Tb
open PySem PySem.Spec PyProof.Rows L2 Ew EwG GxR
theorem ne_not {a e : Bool} (h : a ≠ e) : a = !e := by cases a <;> cases e <;> simp_all
theorem gwb_rng {n k : Nat} {te : TE} {vs : List Nat} {σ : L2.St} {e : Bool} {Q : VK} {H2 : Hp} (b : Nat → Bool) (hw : ∀ x, wipe ((wipe σ vs).set k (some x)) vs = wipe σ vs)
    (hs : ∀ (i : Nat) (Kt : VK), i < n → Kt (.bl (b i)) H2 → te ((wipe σ vs).set k (some (.int (i : Int)))) H2 Kt) (hd : (∀ i, i < n → b i = e) → Q (.bl e) H2) (hx : ∀ i, i < n → b i = (!e) → Q (.bl (!e)) H2) :
    ∃ W : Nat → Nat → Hp → Prop, (∃ m, W 0 m H2) ∧ GW (Itr 0 n) (gName k) te vs σ e Q W := by
  refine ⟨fun i m H => m = n - i ∧ i ≤ n ∧ H = H2 ∧ ∀ j, j < i → b j = e, ⟨n, by simp, Nat.zero_le _, rfl, fun j h => absurd h (Nat.not_lt_zero _)⟩, ?_⟩
  rintro i m H ⟨rfl, hi, rfl, ha⟩
  by_cases hlt : i < n
  · refine .inr ⟨hlt, fun x H' y => ?_⟩
    obtain ⟨e1, y⟩ := y
    subst e1 y
    refine ⟨hw _, ?_⟩
    rw [Int.zero_add]
    refine hs i _ hlt ⟨b i, rfl, fun z => ⟨n - (i + 1), by omega, rfl, hlt, rfl, fun j hj => ?_⟩, fun z => ?_⟩
    · by_cases h : j < i
      · exact ha j h
      · rw [show j = i by omega]; exact z
    · have z' := ne_not z
      rw [z']
      exact hx i hlt z'
  · have e1 : i = n := by omega
    subst e1
    exact .inl ⟨Nat.le_refl _, hd ha⟩
theorem gwb_tup {K : PySem.W.Frag} {L : Addr} {xs : List V} {k : Nat} {te : TE} {vs : List Nat} {σ : L2.St} {e : Bool} {Q : VK} {H2 : Hp} (b : Nat → Bool) (hL : SqT K H2 L xs) (hw : ∀ x, wipe ((wipe σ vs).set k (some x)) vs = wipe σ vs)
    (hs : ∀ (i : Nat) (x : V) (Kt : VK), xs[i]? = some x → Kt (.bl (b i)) H2 → te ((wipe σ vs).set k (some x)) H2 Kt) (hd : (∀ i, i < xs.length → b i = e) → Q (.bl e) H2) (hx : ∀ i, i < xs.length → b i = (!e) → Q (.bl (!e)) H2) :
    ∃ W : Nat → Nat → Hp → Prop, (∃ m, W 0 m H2) ∧ GW (Itt K L) (gName k) te vs σ e Q W := by
  refine ⟨fun i m H => m = xs.length - i ∧ i ≤ xs.length ∧ H = H2 ∧ ∀ j, j < i → b j = e, ⟨xs.length, by simp, Nat.zero_le _, rfl, fun j h => absurd h (Nat.not_lt_zero _)⟩, ?_⟩
  rintro i m H ⟨rfl, hi, rfl, ha⟩
  by_cases hlt : i < xs.length
  · refine .inr ⟨⟨xs, xs[i], hL, by simp [hlt]⟩, fun x H' y => ?_⟩
    obtain ⟨e1, y⟩ := y
    subst e1
    refine ⟨hw _, ?_⟩
    refine hs i x _ (y xs hL) ⟨b i, rfl, fun z => ⟨xs.length - (i + 1), by omega, rfl, hlt, rfl, fun j hj => ?_⟩, fun z => ?_⟩
    · by_cases h : j < i
      · exact ha j h
      · rw [show j = i by omega]; exact z
    · have z' := ne_not z
      rw [z']
      exact hx i hlt z'
  · have e1 : i = xs.length := by omega
    subst e1
    exact .inl ⟨⟨xs, hL, Nat.le_refl _⟩, hd ha⟩
theorem gwb_lst {K : PySem.W.Frag} {L : Addr} {xs : List V} {k : Nat} {te : TE} {vs : List Nat} {σ : L2.St} {e : Bool} {Q : VK} {H2 : Hp} (b : Nat → Bool) (hL : SqL K H2 L xs) (hw : ∀ x, wipe ((wipe σ vs).set k (some x)) vs = wipe σ vs)
    (hs : ∀ (i : Nat) (x : V) (Kt : VK), xs[i]? = some x → Kt (.bl (b i)) H2 → te ((wipe σ vs).set k (some x)) H2 Kt) (hd : (∀ i, i < xs.length → b i = e) → Q (.bl e) H2) (hx : ∀ i, i < xs.length → b i = (!e) → Q (.bl (!e)) H2) :
    ∃ W : Nat → Nat → Hp → Prop, (∃ m, W 0 m H2) ∧ GW (Itl K L) (gName k) te vs σ e Q W := by
  refine ⟨fun i m H => m = xs.length - i ∧ i ≤ xs.length ∧ H = H2 ∧ ∀ j, j < i → b j = e, ⟨xs.length, by simp, Nat.zero_le _, rfl, fun j h => absurd h (Nat.not_lt_zero _)⟩, ?_⟩
  rintro i m H ⟨rfl, hi, rfl, ha⟩
  by_cases hlt : i < xs.length
  · refine .inr ⟨⟨xs, xs[i], hL, by simp [hlt]⟩, fun x H' y => ?_⟩
    obtain ⟨e1, y⟩ := y
    subst e1
    refine ⟨hw _, ?_⟩
    refine hs i x _ (y xs hL) ⟨b i, rfl, fun z => ⟨xs.length - (i + 1), by omega, rfl, hlt, rfl, fun j hj => ?_⟩, fun z => ?_⟩
    · by_cases h : j < i
      · exact ha j h
      · rw [show j = i by omega]; exact z
    · have z' := ne_not z
      rw [z']
      exact hx i hlt z'
  · have e1 : i = xs.length := by omega
    subst e1
    exact .inl ⟨⟨xs, hL, Nat.le_refl _⟩, hd ha⟩
/-- .. for a in range(n) for b in range(a) -/
theorem gwb2_rng {n ka kb : Nat} {te : TE} {vs : List Nat} {σ : L2.St} {e : Bool} {Q : VK} {H2 : Hp} (c : Nat → Nat → Bool) (hn : n ≤ 100000) (h2 : ∀ x, ((wipe σ vs).set ka (some x))[ka]? = some (some x)) (w1 : ∀ x, wipe ((wipe σ vs).set ka (some x)) vs = wipe σ vs)
    (w2 : ∀ y x, wipe ((wipe ((wipe σ vs).set ka (some y)) [kb]).set kb (some x)) [kb] = wipe ((wipe σ vs).set ka (some y)) [kb])
    (hs : ∀ (i j : Nat) (Kt : VK), i < n → j < i → Kt (.bl (c i j)) H2 → te ((wipe ((wipe σ vs).set ka (some (.int (i : Int)))) [kb]).set kb (some (.int (j : Int)))) H2 Kt) (hd : (∀ i j, i < n → j < i → c i j = e) → Q (.bl e) H2) (hx : ∀ i j, i < n → j < i → c i j = (!e) → Q (.bl (!e)) H2) :
    ∃ W : Nat → Nat → Hp → Prop, (∃ m, W 0 m H2) ∧ GW2 (Itr 0 n) (gName ka) (iRng1 (tCons (tVar ka) tNil)) (gName kb) te vs [kb] σ e Q W := by
  have step : ∀ i, i < n → (n - i) * (n + 1) = (n - (i + 1)) * (n + 1) + n + 1 := fun i hi => by
    have : n - i = (n - (i + 1)) + 1 := by omega
    rw [this, Nat.succ_mul]
    omega
  refine ⟨fun i m H => m = (n - i) * (n + 1) ∧ i ≤ n ∧ H = H2 ∧ ∀ a b, a < i → b < a → c a b = e, ⟨_, rfl, Nat.zero_le _, rfl, fun a b h => absurd h (Nat.not_lt_zero _)⟩, ?_⟩
  rintro i m H ⟨rfl, hi, rfl, ha⟩
  by_cases hlt : i < n
  · have st := step i hlt
    refine .inr ⟨hlt, fun x HH y => ?_⟩
    obtain ⟨e1, y⟩ := y
    subst e1 y
    refine ⟨w1 _, ?_⟩
    rw [Int.zero_add]
    refine ⟨_, h2 _, _, rfl, by omega, by omega, ?_⟩
    rw [Int.toNat_natCast]
    refine ⟨fun j k H' => k = (n - i) * (n + 1) - 1 - j ∧ j ≤ i ∧ H' = HH ∧ ∀ b, b < j → c i b = e, ⟨_, ?_, rfl, Nat.zero_le _, rfl, fun b h => absurd h (Nat.not_lt_zero _)⟩, ?_⟩
    · omega
    rintro j k H' ⟨rfl, hj, rfl, hb⟩
    by_cases hlj : j < i
    · refine .inr ⟨hlj, fun x H4 y => ?_⟩
      obtain ⟨e1, y⟩ := y
      subst e1 y
      refine ⟨w2 _ _, ?_⟩
      rw [Int.zero_add]
      refine hs i j _ hlt hlj ⟨c i j, rfl, fun z => ⟨(n - i) * (n + 1) - 1 - (j + 1), by omega, rfl, hlj, rfl, fun b hb' => ?_⟩, fun z => ?_⟩
      · by_cases h : b < j
        · exact hb b h
        · rw [show b = j by omega]; exact z
      · have z' := ne_not z
        rw [z']
        exact hx i j hlt hlj z'
    · have e1 : j = i := by omega
      subst e1
      refine .inl ⟨Nat.le_refl _, (n - (j + 1)) * (n + 1), by omega, by omega, rfl, hlt, rfl, fun a b h1 h2 => ?_⟩
      by_cases h : a < j
      · exact ha a b h h2
      · rw [show a = j by omega] at h2 ⊢
        exact hb b h2
  · have e1 : i = n := by omega
    subst e1
    exact .inl ⟨Nat.le_refl _, hd fun a b h1 h2 => ha a b h1 h2⟩
/-- a tuple of tuples of ints -/
def RR (H : Hp) (p : Addr) (P : List (List Int)) : Prop := ∃ rows : List V, H p = some (.tup rows) ∧ rows.length = P.length ∧ ∀ (i : Nat) row, P[i]? = some row → ∃ r, rows[i]? = some (.ref r) ∧ H r = some (.tup (row.map V.int))
theorem RR.same {H H' : Hp} {p : Addr} {P : List (List Int)} (x : RR H p P) (s : ∀ b xs, H b = some (.tup xs) → H' b = some (.tup xs)) : RR H' p P := by
  obtain ⟨rows, e1, e2, e3⟩ := x
  refine ⟨rows, s _ _ e1, e2, fun i row h => ?_⟩
  obtain ⟨r, h1, h2⟩ := e3 i row h
  exact ⟨r, h1, s _ _ h2⟩
theorem RR.len {H : Hp} {p : Addr} {P : List (List Int)} (x : RR H p P) : ∃ rows, H p = some (.tup rows) ∧ rows.length = P.length := by
  obtain ⟨rows, e1, e2, e3⟩ := x
  exact ⟨rows, e1, e2⟩
theorem RR.at {H : Hp} {p : Addr} {P : List (List Int)} {rows : List V} {i : Nat} {v : V} (x : RR H p P) (e : H p = some (.tup rows)) (h : rows[i]? = some v) : ∃ r row, v = .ref r ∧ P[i]? = some row ∧ H r = some (.tup (row.map V.int)) := by
  obtain ⟨rows', e1, e2, e3⟩ := x
  rw [e] at e1
  cases e1
  have hi : i < P.length := by
    rcases Nat.lt_or_ge i rows.length with h' | h'
    · omega
    · rw [List.getElem?_eq_none h'] at h; cases h
  obtain ⟨r, h1, h2⟩ := e3 i P[i] (List.getElem?_eq_getElem hi)
  rw [h] at h1
  cases h1
  exact ⟨r, _, rfl, List.getElem?_eq_getElem hi, h2⟩
/-- both tables' rows, one behind the other -/
theorem RR.app {H : Hp} {p m q : Addr} {P T : List (List Int)} {rp rm : List V} (x : RR H p P) (y : RR H m T) (ep : H p = some (.tup rp)) (em : H m = some (.tup rm)) (eq : H q = some (.tup (rp ++ rm))) : RR H q (P ++ T) := by
  obtain ⟨rp', a1, a2, a3⟩ := x
  obtain ⟨rm', b1, b2, b3⟩ := y
  rw [ep] at a1
  cases a1
  rw [em] at b1
  cases b1
  refine ⟨_, eq, by rw [List.length_append, List.length_append, a2, b2], fun i row h => ?_⟩
  by_cases c : i < P.length
  · rw [List.getElem?_append_left c] at h
    rw [List.getElem?_append_left (by omega)]
    exact a3 i row h
  · rw [List.getElem?_append_right (by omega)] at h
    rw [List.getElem?_append_right (by omega), a2]
    exact b3 _ row h
/-- the entry at a, b -/
def fnI (P : List (List Int)) (a b : Nat) : Int := (P.getD a []).getD b 0
def fnN (P : List (List Int)) (a b : Nat) : Nat := (fnI P a b).toNat
theorem RR.tt {H : Hp} {p : Addr} {P : List (List Int)} (x : RR H p P) (hl : ∀ row ∈ P, row.length = P.length) : TT H p P.length (fnI P) := by
  obtain ⟨rows, e1, e2, e3⟩ := x
  refine ⟨rows, e1, e2, fun i hi => ?_⟩
  obtain ⟨r, h1, h2⟩ := e3 i P[i] (List.getElem?_eq_getElem hi)
  refine ⟨r, h1, ?_⟩
  have hrow := hl P[i] (List.getElem_mem hi)
  have : P[i].map V.int = (List.range P.length).map fun j => V.int (fnI P i j) := by
    refine ext_of (by rw [List.length_map, hrow]) fun j v hv => ?_
    rw [List.getElem?_map] at hv
    cases hj : P[i][j]? with
    | none => rw [hj] at hv; cases hv
    | some z =>
      rw [hj] at hv
      have hv' : V.int z = v := Option.some.inj hv
      rw [← hv']
      unfold fnI
      rw [List.getD_eq_getElem?_getD, List.getD_eq_getElem?_getD, List.getElem?_eq_getElem hi]
      show V.int z = V.int (P[i][j]?.getD 0)
      rw [hj]
      rfl
  rw [this] at h2
  exact h2
theorem TT.congr {H : Hp} {p : Addr} {n : Nat} {F G : Nat → Nat → Int} (x : TT H p n F) (h : ∀ i j, i < n → j < n → F i j = G i j) : TT H p n G := by
  obtain ⟨rows, e1, e2, e3⟩ := x
  refine ⟨rows, e1, e2, fun i hi => ?_⟩
  obtain ⟨r, h1, h2⟩ := e3 i hi
  refine ⟨r, h1, h2.trans (congrArg (fun l => some (HO.tup l)) (List.map_congr_left fun j hj => ?_))⟩
  rw [h i j hi (List.mem_range.mp hj)]
theorem fn_mem {P : List (List Int)} {n i j : Nat} (hP : P.length = n) (hl : ∀ row ∈ P, row.length = n) (hi : i < n) (hj : j < n) : ∃ row, row ∈ P ∧ fnI P i j ∈ row := by
  have h1 : i < P.length := by omega
  have hr := hl P[i] (List.getElem_mem h1)
  refine ⟨P[i], List.getElem_mem h1, ?_⟩
  unfold fnI
  rw [List.getD_eq_getElem?_getD, List.getD_eq_getElem?_getD, List.getElem?_eq_getElem h1]
  show (P[i][j]?).getD 0 ∈ P[i]
  rw [List.getElem?_eq_getElem (by omega)]
  exact List.getElem_mem _
end Tb

set_option Elab.async false
set_option linter.all false
set_option maxRecDepth 100000
set_option maxHeartbeats 4000000
/-! name = {k: v for ..}: the block is run with the store. -/
namespace DCx
open PySem PySem.W L2
open Sem (wp)
section
variable {X : Cx}
theorem swd_true {kx vx : Expr} {gs : List Comprehension} {scope : Scope} {pos py : Pos} {y : Str} {l : Nat} {env : Env} (hk : env.scope.kind = .function) (hy : env.scope.names.lookup y = some .local) (hl : (py.line == pos.line) = true)
    (ha : (scope.names.any fun (n, k) => n == y && (k == .local || k == .cell)) = false) : swapsWith (.DictComp kx vx gs scope pos) (some (.Name y py)) l env = pure true := by
  have ky : env.kindOf y = some .local := hy
  have hb : env.blockKind = .function := by unfold Env.blockKind; rw [hk]; rfl
  unfold swapsWith
  simp only [hb, ky, ha, Expr.pos, hl]
  rfl
theorem ps_setDc {i : Nat} {y : Str} {py : Pos} {kx vx tg iter : Expr} {ifs : List Expr} {scope : Scope} {own : List (Str × Nat)} {pos spos : Pos} {wi : TI} {g : TG} {tt : TT} {tk tv : TE} (hc : X.calm = true) (hN : X.N.Nodup) (hy : X.N[i]? = some y) (hyl : X.env.scope.names.lookup y = some .local)
    (hsw : swapsWith (.DictComp kx vx [⟨tg, iter, ifs, 0⟩] scope pos) (some (.Name y py)) spos.line X.env = pure true) (hi : PI X tg iter wi) (ok : BlkOk X.N X.env.scope scope own)
    (hg : ∀ (s : Shared) (H : Hp) (C : Addr) (cl : List (Str × Addr)) (fp : List Addr), PG (X.blk s H scope (compEnvC scope cl C X.env) fp) tg g) (ht : ∀ (s : Shared) (H : Hp) (C : Addr) (cl : List (Str × Addr)) (fp : List Addr), PTs (X.blk s H scope (compEnvC scope cl C X.env) fp) ifs tt)
    (hk : ∀ (s : Shared) (H : Hp) (C : Addr) (cl : List (Str × Addr)) (fp : List Addr), PE (X.blk s H scope (compEnvC scope cl C X.env) fp) kx tk)
    (he : ∀ (s : Shared) (H : Hp) (C : Addr) (cl : List (Str × Addr)) (fp : List Addr), PE (X.blk s H scope (compEnvC scope cl C X.env) fp) vx tv) (hs : ∀ x, foldedSetIterable iter X.env x = pure x := by intro _; rfl) :
    PS X (.Assign [.Name y py] (.DictComp kx vx [⟨tg, iter, ifs, 0⟩] scope pos) spos) (tAsg (tDc wi g tt tk tv (own.map (·.2))) (gName i)) := by
  refine ⟨fun pins s σ H D I h => ?_⟩
  rw [exec_Assign_Name_used _ _ _ _ hsw]
  refine wpAny_bind (wpAny_standAt (wpAny_bind ?_))
  show wpAny _ X.A (do let _ ← comprehension (.DictComp kx vx [⟨tg, iter, ifs, 0⟩] scope pos) scope X.env (firstIterPos [⟨tg, iter, ifs, 0⟩] pos) newDict false (eval iter X.env) (some (assign (.Name y py) X.env))) _ _ s
  have h : tDc wi g tt tk tv (own.map (·.2)) σ H (fun x H1 => gName i x σ H1 D.nx) := h
  refine wpAny_bind (thn (dc_core (Qf := fun _ s' => SP X pins D .next s') hc hN I hi ok hg ht hk he hs h fun L C s' m H' I' q hn f => ?_) fun _ s' hq => wpAny_pure (wpAny_pure hq))
  show wpAny _ _ (assign (.Name y py) X.env (.ref L)) _ _ _
  refine wpAny_assign_Name (store_ok2 (v := V.ref L) I' hN hy (.inl hyl) rfl (fun s2 I2 ⟨a, sb, ha⟩ => ?_) (.inr hyl))
  obtain ⟨f0, f1, f2, f3, f4, f5⟩ := f
  have haC : C ≠ a := by
    rcases ha with z | z
    · rw [z]; exact f1
    · exact fun e => f4 y a z e.symm
  refine ⟨m, hn.sameBut sb haC, fun h3 sb3 => ?_⟩
  exact ⟨_, H', I2.turned (t' := s2.toks) (fun b o hb e => (sb3.2 b hb).trans e) f0 f1 f3 f4 f5, q⟩
end
end DCx

set_option Elab.async false
set_option linter.all false
set_option maxRecDepth 100000
set_option maxHeartbeats 4000000
namespace K34
open PySem L2 Ew Tb ND GxR
def topS (i : Nat) : Stmt := PySem.Challenge.pw_everyworth_k34_slopes.main.body.getD i (.Pass ⟨0, 0, 0, 0⟩)
abbrev s_Circuits_init : Stmt := (inClass (topS 10) 0)
theorem sc_Circuits_init : FnScope ["self"] ["self"] (defScope s_Circuits_init) := ⟨rfl, rfl, rfl, by decide +kernel, rfl, by decide +kernel, by decide +kernel⟩
abbrev s_Circuits_fact : Stmt := (inClass (topS 10) 1)
theorem sc_Circuits_fact : FnScope ["self", "k"] ["self", "k"] (defScope s_Circuits_fact) := ⟨rfl, rfl, rfl, by decide +kernel, rfl, by decide +kernel, by decide +kernel⟩
abbrev s_Circuits_plus : Stmt := (inClass (topS 10) 2)
theorem sc_Circuits_plus : FnScope ["self", "nodes", "node"] ["self", "nodes"] (defScope s_Circuits_plus) := ⟨rfl, rfl, rfl, by decide +kernel, rfl, by decide +kernel, by decide +kernel⟩
abbrev s_Circuits_times : Stmt := (inClass (topS 10) 3)
theorem sc_Circuits_times : FnScope ["self", "nodes", "node"] ["self", "nodes"] (defScope s_Circuits_times) := ⟨rfl, rfl, rfl, by decide +kernel, rfl, by decide +kernel, by decide +kernel⟩
abbrev s_Circuits_star : Stmt := (inClass (topS 10) 4)
theorem sc_Circuits_star : FnScope ["self", "node"] ["self", "node"] (defScope s_Circuits_star) := ⟨rfl, rfl, rfl, by decide +kernel, rfl, by decide +kernel, by decide +kernel⟩
abbrev s_Circuits_shown : Stmt := (inClass (topS 10) 5)
theorem sc_Circuits_shown : FnScope ["self", "node"] ["self", "node"] (defScope s_Circuits_shown) := ⟨rfl, rfl, rfl, by decide +kernel, rfl, by decide +kernel, by decide +kernel⟩
abbrev s_Circuits_count : Stmt := (inClass (topS 10) 6)
theorem sc_Circuits_count : FnScope ["self"] ["self"] (defScope s_Circuits_count) := ⟨rfl, rfl, rfl, by decide +kernel, rfl, by decide +kernel, by decide +kernel⟩
abbrev s_Circuits_facts_in : Stmt := (inClass (topS 10) 7)
theorem sc_Circuits_facts_in : FnScope ["self", "node", "shown", "part", "one"] ["self", "node"] (defScope s_Circuits_facts_in) := ⟨rfl, rfl, rfl, by decide +kernel, rfl, by decide +kernel, by decide +kernel⟩
abbrev s_Circuits_several : Stmt := (inClass (topS 10) 9)
theorem sc_Circuits_several : FnScope ["self", "word", "nodes", "neutral"] ["self", "word", "nodes", "neutral"] (defScope s_Circuits_several) := ⟨rfl, rfl, rfl, by decide +kernel, rfl, by decide +kernel, by decide +kernel⟩
abbrev s_Circuits_node : Stmt := (inClass (topS 10) 10)
theorem sc_Circuits_node : FnScope ["self", "shown"] ["self", "shown"] (defScope s_Circuits_node) := ⟨rfl, rfl, rfl, by decide +kernel, rfl, by decide +kernel, by decide +kernel⟩
abbrev s_Reckoner_init : Stmt := (inClass (topS 11) 0)
theorem sc_Reckoner_init : FnScope ["self", "semiring", "worths"] ["self", "semiring", "worths"] (defScope s_Reckoner_init) := ⟨rfl, rfl, rfl, by decide +kernel, rfl, by decide +kernel, by decide +kernel⟩
abbrev s_Reckoner_fact : Stmt := (inClass (topS 11) 1)
theorem sc_Reckoner_fact : FnScope ["self", "k"] ["self", "k"] (defScope s_Reckoner_fact) := ⟨rfl, rfl, rfl, by decide +kernel, rfl, by decide +kernel, by decide +kernel⟩
abbrev s_Reckoner_plus : Stmt := (inClass (topS 11) 2)
theorem sc_Reckoner_plus : FnScope ["self", "parts", "total", "part"] ["self", "parts"] (defScope s_Reckoner_plus) := ⟨rfl, rfl, rfl, by decide +kernel, rfl, by decide +kernel, by decide +kernel⟩
abbrev s_Reckoner_times : Stmt := (inClass (topS 11) 3)
theorem sc_Reckoner_times : FnScope ["self", "parts", "total", "part"] ["self", "parts"] (defScope s_Reckoner_times) := ⟨rfl, rfl, rfl, by decide +kernel, rfl, by decide +kernel, by decide +kernel⟩
abbrev s_Reckoner_star : Stmt := (inClass (topS 11) 4)
theorem sc_Reckoner_star : FnScope ["self", "part"] ["self", "part"] (defScope s_Reckoner_star) := ⟨rfl, rfl, rfl, by decide +kernel, rfl, by decide +kernel, by decide +kernel⟩
abbrev s_nodes_within : Stmt := (topS 12)
theorem sc_nodes_within : FnScope ["circuits", "nodes", "found", "waiting", "node", "part"] ["circuits", "nodes"] (defScope s_nodes_within) := ⟨rfl, rfl, rfl, by decide +kernel, rfl, by decide +kernel, by decide +kernel⟩
abbrev s_parts : Stmt := (topS 13)
theorem sc_parts : FnScope ["shown"] ["shown"] (defScope s_parts) := ⟨rfl, rfl, rfl, by decide +kernel, rfl, by decide +kernel, by decide +kernel⟩
abbrev s_all_made : Stmt := (topS 14)
theorem sc_all_made : FnScope ["circuits", "nodes", "maker", "made", "node"] ["circuits", "nodes", "maker"] (defScope s_all_made) := ⟨rfl, rfl, rfl, by decide +kernel, rfl, by decide +kernel, by decide +kernel⟩
abbrev s_made : Stmt := (topS 15)
theorem sc_made : FnScope ["shown", "made", "maker", "word", "parts", "part"] ["shown", "made", "maker"] (defScope s_made) := ⟨rfl, rfl, rfl, by decide +kernel, rfl, by decide +kernel, by decide +kernel⟩
abbrev s_worth : Stmt := (topS 16)
theorem sc_worth : FnScope ["circuits", "node", "semiring", "worths"] ["circuits", "node", "semiring", "worths"] (defScope s_worth) := ⟨rfl, rfl, rfl, by decide +kernel, rfl, by decide +kernel, by decide +kernel⟩
abbrev s_is_integer : Stmt := (topS 18)
theorem sc_is_integer : FnScope ["thing"] ["thing"] (defScope s_is_integer) := ⟨rfl, rfl, rfl, by decide +kernel, rfl, by decide +kernel, by decide +kernel⟩
abbrev s_is_pair : Stmt := (topS 20)
theorem sc_is_pair : FnScope ["thing"] ["thing"] (defScope s_is_pair) := ⟨rfl, rfl, rfl, by decide +kernel, rfl, by decide +kernel, by decide +kernel⟩
abbrev s_Polynomials_zero : Stmt := (inClass (topS 24) 0)
theorem sc_Polynomials_zero : FnScope ["self"] ["self"] (defScope s_Polynomials_zero) := ⟨rfl, rfl, rfl, by decide +kernel, rfl, by decide +kernel, by decide +kernel⟩
abbrev s_Polynomials_one : Stmt := (inClass (topS 24) 1)
theorem sc_Polynomials_one : FnScope ["self"] ["self"] (defScope s_Polynomials_one) := ⟨rfl, rfl, rfl, by decide +kernel, rfl, by decide +kernel, by decide +kernel⟩
abbrev s_Polynomials_plus : Stmt := (inClass (topS 24) 2)
theorem sc_Polynomials_plus : FnScope ["self", "a", "b", "found", "monomial", "coefficient"] ["self", "a", "b"] (defScope s_Polynomials_plus) := ⟨rfl, rfl, rfl, by decide +kernel, rfl, by decide +kernel, by decide +kernel⟩
abbrev s_Polynomials_times : Stmt := (inClass (topS 24) 3)
theorem sc_Polynomials_times : FnScope ["self", "a", "b", "found", "first", "many", "second", "more"] ["self", "a", "b"] (defScope s_Polynomials_times) := ⟨rfl, rfl, rfl, by decide +kernel, rfl, by decide +kernel, by decide +kernel⟩
abbrev s_Polynomials_star : Stmt := (inClass (topS 24) 4)
theorem sc_Polynomials_star : FnScope ["self", "a"] ["self", "a"] (defScope s_Polynomials_star) := ⟨rfl, rfl, rfl, by decide +kernel, rfl, by decide +kernel, by decide +kernel⟩
abbrev s_put : Stmt := (topS 29)
theorem sc_put : FnScope ["found", "monomial", "coefficient"] ["found", "monomial", "coefficient"] (defScope s_put) := ⟨rfl, rfl, rfl, by decide +kernel, rfl, by decide +kernel, by decide +kernel⟩
abbrev s_polynomial_of : Stmt := (topS 30)
theorem sc_polynomial_of : FnScope ["found"] ["found"] (defScope s_polynomial_of) := ⟨rfl, rfl, rfl, by decide +kernel, rfl, by decide +kernel, by decide +kernel⟩
abbrev s_product_of : Stmt := (topS 31)
theorem sc_product_of : FnScope ["first", "second", "exponents", "fact", "exponent"] ["first", "second"] (defScope s_product_of) := ⟨rfl, rfl, rfl, by decide +kernel, rfl, by decide +kernel, by decide +kernel⟩
abbrev s_variable : Stmt := (topS 32)
theorem sc_variable : FnScope ["fact"] ["fact"] (defScope s_variable) := ⟨rfl, rfl, rfl, by decide +kernel, rfl, by decide +kernel, by decide +kernel⟩
abbrev s_normal : Stmt := (topS 34)
theorem sc_normal : FnScope ["circuits", "node", "own", "fact"] ["circuits", "node"] (defScope s_normal) := ⟨rfl, rfl, rfl, by decide +kernel, rfl, by decide +kernel, by decide +kernel⟩
abbrev s_need_no_star : Stmt := (topS 35)
theorem sc_need_no_star : FnScope ["circuits", "node", "part"] ["circuits", "node"] (defScope s_need_no_star) := ⟨rfl, rfl, rfl, by decide +kernel, rfl, by decide +kernel, by decide +kernel⟩
abbrev s_Slopes_zero : Stmt := (inClass (topS 37) 0)
theorem sc_Slopes_zero : FnScope ["self"] ["self"] (defScope s_Slopes_zero) := ⟨rfl, rfl, rfl, by decide +kernel, rfl, by decide +kernel, by decide +kernel⟩
abbrev s_Slopes_one : Stmt := (inClass (topS 37) 1)
theorem sc_Slopes_one : FnScope ["self"] ["self"] (defScope s_Slopes_one) := ⟨rfl, rfl, rfl, by decide +kernel, rfl, by decide +kernel, by decide +kernel⟩
abbrev s_Slopes_plus : Stmt := (inClass (topS 37) 2)
theorem sc_Slopes_plus : FnScope ["self", "a", "b"] ["self", "a", "b"] (defScope s_Slopes_plus) := ⟨rfl, rfl, rfl, by decide +kernel, rfl, by decide +kernel, by decide +kernel⟩
abbrev s_Slopes_times : Stmt := (inClass (topS 37) 3)
theorem sc_Slopes_times : FnScope ["self", "a", "b"] ["self", "a", "b"] (defScope s_Slopes_times) := ⟨rfl, rfl, rfl, by decide +kernel, rfl, by decide +kernel, by decide +kernel⟩
abbrev s_Slopes_star : Stmt := (inClass (topS 37) 4)
theorem sc_Slopes_star : FnScope ["self", "a"] ["self", "a"] (defScope s_Slopes_star) := ⟨rfl, rfl, rfl, by decide +kernel, rfl, by decide +kernel, by decide +kernel⟩
abbrev s_Slopes_is_element : Stmt := (inClass (topS 37) 5)
theorem sc_Slopes_is_element : FnScope ["self", "a"] ["self", "a"] (defScope s_Slopes_is_element) := ⟨rfl, rfl, rfl, by decide +kernel, rfl, by decide +kernel, by decide +kernel⟩
abbrev s_slope : Stmt := (topS 38)
theorem sc_slope : FnScope ["circuits", "node", "fact", "numbers", "pairs", "k"] ["circuits", "node", "fact", "numbers"] (defScope s_slope) := ⟨rfl, rfl, rfl, by decide +kernel, rfl, by decide +kernel, by decide +kernel⟩
abbrev s_law_pot : Stmt := (topS 40)
theorem sc_law_pot : FnScope ["script", "seed", "cell"] ["script"] (defScope s_law_pot) := ⟨rfl, rfl, rfl, by decide +kernel, rfl, by decide +kernel, by decide +kernel⟩
abbrev s_law_next : Stmt := (topS 41)
theorem sc_law_next : FnScope ["pot", "limit", "cell", "found", "mixed"] ["pot", "limit"] (defScope s_law_next) := ⟨rfl, rfl, rfl, by decide +kernel, rfl, by decide +kernel, by decide +kernel⟩
abbrev s_law_is_int : Stmt := (topS 42)
theorem sc_law_is_int : FnScope ["value"] ["value"] (defScope s_law_is_int) := ⟨rfl, rfl, rfl, by decide +kernel, rfl, by decide +kernel, by decide +kernel⟩
abbrev s_law_grown : Stmt := (topS 43)
theorem sc_law_grown : FnScope ["pot", "circuits", "facts", "stars", "nodes", "k", "kind", "drawn", "j"] ["pot", "circuits", "facts", "stars"] (defScope s_law_grown) := ⟨rfl, rfl, rfl, by decide +kernel, rfl, by decide +kernel, by decide +kernel⟩
abbrev s_law_form : Stmt := (topS 44)
theorem sc_law_form : FnScope ["circuits", "node", "e"] ["circuits", "node"] (defScope s_law_form) := ⟨rfl, rfl, rfl, by decide +kernel, rfl, by decide +kernel, by decide +kernel⟩
abbrev s_law_power : Stmt := (topS 45)
theorem sc_law_power : FnScope ["number", "exponent", "found", "k"] ["number", "exponent"] (defScope s_law_power) := ⟨rfl, rfl, rfl, by decide +kernel, rfl, by decide +kernel, by decide +kernel⟩
abbrev s_law_due : Stmt := (topS 46)
theorem sc_law_due : FnScope ["form", "fact", "numbers", "total", "pair", "own", "part", "power"] ["form", "fact", "numbers"] (defScope s_law_due) := ⟨rfl, rfl, rfl, by decide +kernel, rfl, by decide +kernel, by decide +kernel⟩
abbrev s_law_refused : Stmt := (topS 47)
theorem sc_law_refused : FnScope ["circuits", "node", "e"] ["circuits", "node"] (defScope s_law_refused) := ⟨rfl, rfl, rfl, by decide +kernel, rfl, by decide +kernel, by decide +kernel⟩
abbrev s_law : Stmt := (topS 48)
theorem sc_law : FnScope ["script", "pot", "circuits", "nodes", "numbers", "k", "node", "form", "fact", "found", "ring", "a", "b", "c", "x"] ["script"] (defScope s_law) := ⟨rfl, rfl, rfl, by decide +kernel, rfl, by decide +kernel, by decide +kernel⟩
local macro_rules | `(tactic| walk_at "len") => `(tactic| first | (intro h; obtain ⟨_, e, _⟩ := h; rw [e]; rfl) | (intro h; obtain ⟨_, _, e, _⟩ := h; rw [e]; rfl) | (intro h; obtain ⟨_, _, _, e, _⟩ := h; rw [e]; rfl) | (intro h; obtain ⟨_, _, _, _, e, _⟩ := h; rw [e]; rfl) | (intro h; obtain ⟨_, _, _, _, _, e, _⟩ := h; rw [e]; rfl) | (intro h; obtain ⟨_, _, _, _, _, _, e, _⟩ := h; rw [e]; rfl) | (intro h; obtain ⟨_, _, _, _, _, _, _, e, _⟩ := h; rw [e]; rfl) | (intro h; obtain ⟨_, _, _, _, _, _, _, _, e, _⟩ := h; rw [e]; rfl) | (intro h; obtain ⟨_, _, _, _, _, _, _, _, _, e, _⟩ := h; rw [e]; rfl) | (intro h; exact h.elim))
structure Ad where
  WorthError : Addr
  NoStar : Addr
  TooLarge : Addr
  Circuits : Addr
  Reckoner : Addr
  Polynomials : Addr
  Slopes : Addr
structure Txt (K : PySem.W.Frag) (mg : Str → Option Value) (ad : Ad) : Prop where
  z_isinstance : mg "isinstance" = none
  z_int : mg "int" = none
  z_bool : mg "bool" = none
  z_list : mg "list" = none
  z_tuple : mg "tuple" = none
  z_dict : mg "dict" = none
  z_min : mg "min" = none
  z_abs : mg "abs" = none
  z_len : mg "len" = none
  z_range : mg "range" = none
  z_all : mg "all" = none
  z_any : mg "any" = none
  z_sorted : mg "sorted" = none
  z_sum : mg "sum" = none
  g_MOST_NODES : ∃ t, mg "MOST_NODES" = some (.int 20000 t)
  g_MOST_IN_ONE : ∃ t, mg "MOST_IN_ONE" = some (.int 2000 t)
  g_MOST_MONOMIALS : ∃ t, mg "MOST_MONOMIALS" = some (.int 400 t)
  g_ZERO : ∃ t, mg "ZERO" = some (.int 0 t)
  g_ONE : ∃ t, mg "ONE" = some (.int 1 t)
  g_WorthError : mg "WorthError" = some (.ref ad.WorthError)
  g_TooLarge : mg "TooLarge" = some (.ref ad.TooLarge)
  x_TooLarge : PySem.W.excIn K ad.TooLarge [.type "ValueError", .type "Exception", .type "BaseException", .type "object"] "ValueError.__new__" = true
  k_TooLarge : PySem.W.keepIn K (.ref ad.TooLarge) = true
  b_TooLarge : PySem.W.subIn K (.ref ad.TooLarge) (.type "BaseException") = some true
  t_TooLarge : PySem.W.typeIn K (.ref ad.TooLarge) = some (.type "type")
  g_NoStar : mg "NoStar" = some (.ref ad.NoStar)
  x_NoStar : PySem.W.excIn K ad.NoStar [.type "ValueError", .type "Exception", .type "BaseException", .type "object"] "ValueError.__new__" = true
  k_NoStar : PySem.W.keepIn K (.ref ad.NoStar) = true
  b_NoStar : PySem.W.subIn K (.ref ad.NoStar) (.type "BaseException") = some true
  t_NoStar : PySem.W.typeIn K (.ref ad.NoStar) = some (.type "type")
  ec_NoStar : ExcC K ad.NoStar
  em_NoStar : PySem.W.exmOne K (.ref ad.NoStar) (.ref ad.WorthError) = some true
  ki_NoStar : PySem.W.kitOne K (.ref ad.NoStar) (.ref ad.NoStar) = some true
  c_Circuits : Cls K ad.Circuits
  c_Reckoner : Cls K ad.Reckoner
  c_Polynomials : Cls K ad.Polynomials
  c_Slopes : Cls K ad.Slopes
  ki_TooLarge : PySem.W.kitOne K (.ref ad.TooLarge) (.ref ad.TooLarge) = some true
  em_TooLarge : PySem.W.exmOne K (.ref ad.TooLarge) (.ref ad.WorthError) = some true
  ec_TooLarge : ExcC K ad.TooLarge
  n_shown : NoAttr K ad.Circuits "_shown"
  n_numbers : NoAttr K ad.Circuits "_numbers"
  n_semiring : NoAttr K ad.Reckoner "_semiring"
  n_worths : NoAttr K ad.Reckoner "_worths"
/-! ### the law's own draws -/
/-- all but what stands at a is as it was -/
def Fr1 (a : Addr) (H H' : Hp) : Prop := ∀ b o, b ≠ a → H b = some o → H' b = some o
theorem Fr1.refl (a : Addr) (H : Hp) : Fr1 a H H := fun _ _ _ h => h
theorem Fr1.trans {a : Addr} {H H1 H2 : Hp} (x : Fr1 a H H1) (y : Fr1 a H1 H2) : Fr1 a H H2 := fun b o n h => y b o n (x b o n h)
theorem Fr1.upd {a : Addr} {H H1 : Hp} {o : HO} (x : Fr1 a H H1) : Fr1 a H (upd H1 a o) := fun b u n h => by rw [upd_ne n]; exact x b u n h
theorem Fr1.of {a : Addr} {H H1 : Hp} (x : Same H H1) : Fr1 a H H1 := fun b o _ h => x b o h
theorem Fr1.new {a p : Addr} {H H1 : Hp} {o : HO} (x : Fr1 a H H1) (h : H p = none) : Fr1 a H (L2.upd H1 p o) := fun b u n e => by rw [upd_ne (ne_of_none e h)]; exact x b u n e
theorem same_new {p : Addr} {H H1 : Hp} {o : HO} (x : Same H H1) (h : H p = none) : Same H (L2.upd H1 p o) := fun b u e => by rw [upd_ne (ne_of_none e h)]; exact x b u e
/-- the pot: what is drawn from -/
def PotAt (H : Hp) (a : Addr) : Prop := ∃ (b : Addr) (ns : List Int) (i c sd : Int), H a = some (.lst [.ref b, .int i, .int c, .int sd]) ∧ H b = some (.lst (ns.map V.int)) ∧ b ≠ a ∧ 0 ≤ i ∧ 0 ≤ c ∧ 0 ≤ sd
theorem PotAt.same {H H' : Hp} {a : Addr} (p : PotAt H a) (s : Same H H') : PotAt H' a := by
  obtain ⟨b, ns, i, c, sd, h1, h2, h3, h4⟩ := p
  exact ⟨b, ns, i, c, sd, s _ _ h1, s _ _ h2, h3, h4⟩
/-- the same, its list at b -/
def PotB (H : Hp) (a b : Addr) : Prop := ∃ (ns : List Int) (i c sd : Int), H a = some (.lst [.ref b, .int i, .int c, .int sd]) ∧ H b = some (.lst (ns.map V.int)) ∧ b ≠ a ∧ 0 ≤ i ∧ 0 ≤ c ∧ 0 ≤ sd
theorem PotB.at_ {H : Hp} {a b : Addr} (p : PotB H a b) : PotAt H a := let ⟨ns, i, c, sd, h⟩ := p; ⟨b, ns, i, c, sd, h⟩
theorem PotAt.b_ {H : Hp} {a : Addr} (p : PotAt H a) : ∃ b, PotB H a b := let ⟨b, ns, i, c, sd, h⟩ := p; ⟨b, ns, i, c, sd, h⟩
theorem PotB.same {H H' : Hp} {a b : Addr} (p : PotB H a b) (s : Same H H') : PotB H' a b := by
  obtain ⟨ns, i, c, sd, h1, h2, h3⟩ := p
  exact ⟨ns, i, c, sd, s _ _ h1, s _ _ h2, h3⟩
theorem PotB.but {H H' : Hp} {a b : Addr} (p : PotB H a b) (h1 : H' a = H a) (h2 : H' b = H b) : PotB H' a b := by
  obtain ⟨ns, i, c, sd, e1, e2, h3⟩ := p
  exact ⟨ns, i, c, sd, h1.trans e1, h2.trans e2, h3⟩
theorem PotAt.some {H : Hp} {a : Addr} (p : PotAt H a) : ∃ o, H a = some o := by
  obtain ⟨b, ns, i, c, sd, h1, _⟩ := p
  exact ⟨_, h1⟩
def spPot (K : PySem.W.Frag) : Sp := fun vs H Q _ => ∃ (a : Addr) (ns : List Int), vs = [.ref a] ∧ SqL K H a (ns.map V.int) ∧ ns.length ≤ 63 ∧ ∀ H' p, Same H H' → H p = none → PotAt H' p → Q (.ref p) H'
def spNext : Sp := fun vs H Q _ => ∃ a lim, vs = [.ref a, .int lim] ∧ PotAt H a ∧ 0 < lim ∧ lim.natAbs < 2 ^ 250 ∧ ∀ H' r, Fr1 a H H' → PotAt H' a → 0 ≤ r → r < lim → (∀ b, PotB H a b → PotB H' a b) → Q (.int r) H'
section
variable {P : Program} {w : World} {K : PySem.W.Frag} {mg : Str → Option Value} {base : Heap} {ad : Ad}
theorem ok_law_pot  {f : Addr} {fd : FuncData} (F : Fun K "_law_pot" "_law_pot" s_law_pot f fd) (T : Txt K mg ad) : FnOk P w K mg base (L2.CX P w) 1 f fd ["script"] (spPot K) := by
  refine F.okX sc_law_pot (fun vs H Q E => ?_) (fun cdv A outer s H vs Q E hr h => ?_)
  · walk_at "len"
  ·
    obtain ⟨a, ns, rfl, hS, hl, k⟩ := h
    refine ⟨_, (pss_cons (ps_set (i := 1) sc_law_pot.nd rfl (by first | exact Or.inl rfl | exact Or.inr rfl) pe_int)
      (pss_cons (ps_for (passes_of rfl) rfl (pi_list (pv 0)) (pg_name (i := 2) sc_law_pot.nd rfl (by first | exact Or.inl rfl | exact Or.inr rfl)) (pss_one (ps_set (i := 1) sc_law_pot.nd rfl (by first | exact Or.inl rfl | exact Or.inr rfl) (pe_op op_mod (pe_callTy call_int1 (by rfl) T.z_int (by decide +kernel) (pa_cons (pe_op op_add (pe_op op_mul (pv 1) pe_int) (pv 2)) pa_nil)) pe_int))))
      (pss_one (ps_ret (pe_lst (pa_cons (pe_callTy call_list_of (by rfl) T.z_list (by decide +kernel) (pa_cons (pv 0) pa_nil)) (pa_cons pe_int (pa_cons pe_int (pa_cons (pv 1) pa_nil))))))))), ?_⟩
    refine ⟨_, rfl, a, rfl, ⟨_, hS⟩, for_list (K := K) (a := a) (xs := ns.map V.int) (fun i σ H2 => ∃ (sd : Int) (v : Option V), σ = [some (.ref a), some (.int sd), v] ∧ 0 ≤ sd ∧ H2 = H)
      ⟨1, none, rfl, by decide, rfl⟩ (fun i σ H2 _ ⟨_, _, _, _, e⟩ => by rw [e]; exact hS) ?_ ?_⟩
    · rintro i y σ H2 hi ⟨sd, v, rfl, hsd, rfl⟩
      obtain ⟨z, rfl⟩ : ∃ z, y = V.int z := by
        rw [List.getElem?_map] at hi
        cases e : ns[i]? with
        | none =>
          rw [e] at hi
          cases hi
        | some z =>
          rw [e] at hi
          exact ⟨z, (Option.some.inj hi).symm⟩
      refine ⟨_, rfl, _, _, rfl, rfl, .inr ⟨by decide, by decide⟩, _, rfl, _, _, rfl, rfl, .inl ⟨_, rfl, _, _, rfl, rfl, (by show (0 : Int) < 2147483647; decide), ?_⟩⟩
      exact ⟨_, _, rfl, Int.emod_nonneg _ (by decide), rfl⟩
    · rintro σ H2 ⟨sd, v, rfl, hsd, rfl⟩
      refine ⟨_, rfl, a, _, rfl, .inl hS, fun l hl1 => ⟨_, rfl, (by show 4 ≤ sizeLine; decide), fun p hp => ?_⟩⟩
      have npl : p ≠ l := by
        intro z
        subst z
        rw [upd_same] at hp
        cases hp
      have hp0 : H2 p = none := by rw [upd_ne npl] at hp; exact hp
      exact k _ p (same_new (same_new (Same.refl _) hl1) hp0) hp0 ⟨l, ns, 0, 0, sd, upd_same, by rw [upd_ne (Ne.symm npl), upd_same], Ne.symm npl, by decide, by decide, hsd⟩
theorem ok_law_next  {f : Addr} {fd : FuncData} (F : Fun K "_law_next" "_law_next" s_law_next f fd) (T : Txt K mg ad) : FnOk P w K mg base (L2.CX P w) 1 f fd ["pot", "limit"] (spNext) := by
  refine F.okX sc_law_next (fun vs H Q E => ?_) (fun cdv A outer s H vs Q E hr h => ?_)
  · walk_at "len"
  ·
    obtain ⟨a, lim, rfl, ⟨b, ns, i, c, sd, h1, h2, h3, h4, h5, h6⟩, hl0, hl1, k⟩ := h
    have k2 : ∀ H' r, Fr1 a H H' → PotB H' a b → 0 ≤ r → r < lim → Q (.int r) H' := fun H' r fr hpb r0 r1 => k H' r fr hpb.at_ r0 r1 fun b' hb' => by
      obtain ⟨ns', i', c', sd', e1, _⟩ := hb'
      rw [h1] at e1
      injection e1 with e1
      injection e1 with e1
      injection e1 with e1 _
      injection e1 with e1
      subst e1
      exact hpb
    have hr1 : ∀ x : Int, 0 ≤ x % lim ∧ x % lim < lim := fun x => ⟨Int.emod_nonneg _ (by omega), Int.emod_lt_of_pos _ hl0⟩
    refine ⟨_, (C8.pss_cut (ps_if (PW.pt (pw_and (pt_cmpR op_eq (pe_ix ix_list (pv 0) pe_int (fun _ _ => rfl)) pe_int (nomark _)) (pw_and1 (pt_cmpR op_lt (pe_ix ix_list (pv 0) pe_int (fun _ _ => rfl)) (pe_callB call_len (by rfl) T.z_len (by decide +kernel) (pa_cons (pe_ix ix_list (pv 0) pe_int (fun _ _ => rfl)) pa_nil)) (nomark _))))) (pss_cons (ps_set (i := 2) sc_law_next.nd rfl (by first | exact Or.inl rfl | exact Or.inr rfl) (pe_callB call_abs (by rfl) T.z_abs (by decide +kernel) (pa_cons (pe_callTy call_int1 (by rfl) T.z_int (by decide +kernel) (pa_cons (pe_ix ix_list (pe_ix ix_list (pv 0) pe_int (fun _ _ => rfl)) (pe_ix ix_list (pv 0) pe_int (fun _ _ => rfl)) (fun _ _ => rfl)) pa_nil)) pa_nil)))
      (pss_cons (ps_asg (pe_op op_add (pe_ix ix_list (pv 0) pe_int (fun _ _ => rfl)) pe_int) (pg_sub (pv 0) pe_int set_list))
      (pss_cons (ps_if (pt_cmpR op_lt (pv 2) (pe_op op_pow pe_int pe_int) (nomark _)) (pss_one (ps_ret (pe_op op_mod (pe_callTy call_int1 (by rfl) T.z_int (by decide +kernel) (pa_cons (pv 2) pa_nil)) (pv 1)))) pss_nil)
      (pss_one (ps_asg (pv 2) (pg_sub (pv 0) pe_int set_list)))))) pss_nil)
      (C8.pss_cut (ps_if (pt_cmpR op_gt (pe_ix ix_list (pv 0) pe_int (fun _ _ => rfl)) pe_int (nomark _)) (pss_cons (ps_set (i := 3) sc_law_next.nd rfl (by first | exact Or.inl rfl | exact Or.inr rfl) (pe_op op_mod (pe_callTy call_int1 (by rfl) T.z_int (by decide +kernel) (pa_cons (pe_ix ix_list (pv 0) pe_int (fun _ _ => rfl)) pa_nil)) (pv 1)))
      (pss_cons (ps_asg (pe_op op_fdivW (pe_ix ix_list (pv 0) pe_int (fun _ _ => rfl)) (pv 1)) (pg_sub (pv 0) pe_int set_list))
      (pss_one (ps_ret (pv 3))))) pss_nil)
      (pss_cons (ps_asg (pe_op op_mod (pe_callTy call_int1 (by rfl) T.z_int (by decide +kernel) (pa_cons (pe_op op_add (pe_op op_mul (pe_ix ix_list (pv 0) pe_int (fun _ _ => rfl)) pe_int) pe_int) pa_nil)) pe_int) (pg_sub (pv 0) pe_int set_list))
      (pss_cons (ps_set (i := 4) sc_law_next.nd rfl (by first | exact Or.inl rfl | exact Or.inr rfl) (pe_op op_mod (pe_callTy call_int1 (by rfl) T.z_int (by decide +kernel) (pa_cons (pe_op op_add (pe_op op_mul (pe_ix ix_list (pv 0) pe_int (fun _ _ => rfl)) pe_int) (pe_op op_fdiv (pe_ix ix_list (pv 0) pe_int (fun _ _ => rfl)) pe_int)) pa_nil)) pe_int))
      (pss_one (ps_ret (pe_op op_mod (pe_callTy call_int1 (by rfl) T.z_int (by decide +kernel) (pa_cons (pv 4) pa_nil)) (pv 1)))))))), ?_⟩
    refine ⟨fun σ H' => ∃ (i' c' : Int) (v : Option V), σ = [some (.ref a), some (.int lim), v, none, none] ∧ H' a = some (.lst [.ref b, .int i', .int c', .int sd]) ∧ Fr1 a H H' ∧ 0 ≤ i' ∧ 0 ≤ c', ?_, ?_⟩
    · -- if pot[2] == 0 and pot[1] < len(pot[0])
      refine ⟨_, rfl, a, _, _, _, rfl, rfl, SqL.of h1, (by rfl), rfl, _, rfl, ?_⟩
      by_cases c0 : ¬ c = 0
      · have e : decide (V.int c = V.int 0) = false := by simp [c0]
        rw [e]
        refine iteF (iteF ?_)
        exact ⟨i, c, none, rfl, h1, Fr1.refl _ _, h4, h5⟩
      · have c0' : c = 0 := by omega
        subst c0'
        refine iteT ?_
        refine ⟨_, rfl, a, _, _, _, rfl, rfl, SqL.of h1, (by rfl), _, rfl, a, _, _, _, rfl, rfl, SqL.of h1, (by rfl), .ref b, ns.length, rfl, Or.inl ⟨_, SqL.of h2, by rw [List.length_map]⟩, _, _, rfl, rfl, _, rfl, ?_⟩
        by_cases c1 : ¬ i < (ns.length : Int)
        · rw [decide_eq_false c1]
          exact iteF ⟨i, 0, none, rfl, h1, Fr1.refl _ _, h4, h5⟩
        · have c1 : i < (ns.length : Int) := by omega
          rw [decide_eq_true c1]
          refine iteT ?_
          -- cell
          obtain ⟨z, hz⟩ : ∃ z, ns[i.toNat]? = some z := ⟨ns[i.toNat]'(by omega), List.getElem?_eq_getElem _⟩
          have hz' : (ns.map V.int)[i.toNat]? = some (.int z) := by rw [List.getElem?_map, hz]; rfl
          refine ⟨_, rfl, a, _, _, _, rfl, rfl, SqL.of h1, (by rfl), _, rfl, a, _, _, _, rfl, rfl, SqL.of h1, (by rfl), b, _, _, _, rfl, rfl, SqL.of h2, at_of (by omega) hz', .inl ⟨_, rfl, _, rfl, ?_⟩⟩
          have hcell : 0 ≤ (if z < 0 then -z else z) := by split <;> omega
          generalize (if z < 0 then -z else z) = cell at hcell ⊢
          -- pot[1] = pot[1] + 1
          refine ⟨_, rfl, a, _, _, _, rfl, rfl, SqL.of h1, (by rfl), _, _, rfl, rfl, _, rfl, a, _, _, 1, rfl, rfl, h1, (by rfl), ?_⟩
          -- if cell < 10 ** 18
          refine ⟨_, rfl, _, _, rfl, rfl, ⟨by decide, by decide, by decide⟩, _, _, rfl, rfl, _, rfl, ?_⟩
          refine ite2 (fun _ => ?_) (fun _ => ?_)
          · refine ⟨_, rfl, .inl ⟨_, rfl, _, rfl, _, _, rfl, rfl, hl0, ?_⟩⟩
            exact k2 _ _ (Fr1.refl _ _).upd ⟨ns, i + 1, 0, sd, upd_same, by rw [upd_ne h3]; exact h2, h3, by omega, by decide, h6⟩ (hr1 _).1 (hr1 _).2
          · refine ⟨_, rfl, _, rfl, a, _, _, 2, rfl, rfl, upd_same, (by rfl), ?_⟩
            exact ⟨i + 1, cell, _, rfl, upd_same, (Fr1.refl _ _).upd.upd, by omega, hcell⟩
    · rintro σ H1 ⟨i', c', v, rfl, g1, fr, hi', hc'⟩
      have g2 : H1 b = some (.lst (ns.map V.int)) := fr b _ h3 h2
      refine ⟨fun σ H' => ∃ (v v' : Option V), σ = [some (.ref a), some (.int lim), v, v', none] ∧ H' = H1, ?_, ?_⟩
      · -- if pot[2] > 0
        refine ⟨_, rfl, a, _, _, _, rfl, rfl, SqL.of g1, (by rfl), _, _, rfl, rfl, _, rfl, ?_⟩
        refine ite2 (fun _ => ?_) (fun _ => ?_)
        · refine ⟨_, rfl, a, _, _, _, rfl, rfl, SqL.of g1, (by rfl), .inl ⟨_, rfl, _, rfl, _, _, rfl, rfl, hl0, ?_⟩⟩
          refine ⟨_, rfl, a, _, _, _, rfl, rfl, SqL.of g1, (by rfl), _, rfl, _, _, rfl, rfl, wide_div hl0 hl1 (by decide) (by decide), _, rfl, a, _, _, 2, rfl, rfl, g1, (by rfl), _, rfl, ?_⟩
          exact k2 _ _ fr.upd ⟨ns, i', c' / lim, sd, upd_same, by rw [upd_ne h3]; exact g2, h3, hi', Int.ediv_nonneg hc' (by omega), h6⟩ (hr1 _).1 (hr1 _).2
        · exact ⟨v, none, rfl, rfl⟩
      · rintro σ H2 ⟨v, v', rfl, rfl⟩
        refine ⟨_, rfl, a, _, _, _, rfl, rfl, SqL.of g1, (by rfl), _, _, rfl, rfl, .inr ⟨by decide, by decide⟩, _, _, rfl, rfl, .inl ⟨_, rfl, _, _, rfl, rfl, (by show (0 : Int) < 2147483647; decide), _, rfl, a, _, _, 3, rfl, rfl, g1, (by rfl), ?_⟩⟩
        refine ⟨_, rfl, a, _, _, _, rfl, rfl, SqL.of upd_same, (by rfl), _, _, rfl, rfl, .inr ⟨by decide, by decide⟩, _, rfl, a, _, _, _, rfl, rfl, SqL.of upd_same, (by rfl), _, _, rfl, rfl, ⟨by decide, by decide⟩, _, _, rfl, rfl, .inl ⟨_, rfl, _, _, rfl, rfl, (by show (0 : Int) < 2147483629; decide), ?_⟩⟩
        refine ⟨_, rfl, .inl ⟨_, rfl, _, rfl, _, _, rfl, rfl, hl0, ?_⟩⟩
        exact k2 _ _ fr.upd ⟨ns, i', c', _, upd_same, by rw [upd_ne h3]; exact g2, h3, hi', hc', Int.emod_nonneg _ (by decide)⟩ (hr1 _).1 (hr1 _).2
end
end K34

set_option Elab.async false
set_option linter.all false
set_option maxRecDepth 100000
set_option maxHeartbeats 4000000
namespace K34
open PySem L2 Ew Tb GxR ND
local macro_rules | `(tactic| walk_at "len") => `(tactic| first | (intro h; obtain ⟨_, e, _⟩ := h; rw [e]; rfl) | (intro h; obtain ⟨_, _, e, _⟩ := h; rw [e]; rfl) | (intro h; obtain ⟨_, _, _, e, _⟩ := h; rw [e]; rfl) | (intro h; obtain ⟨_, _, _, _, e, _⟩ := h; rw [e]; rfl) | (intro h; obtain ⟨_, _, _, _, _, e, _⟩ := h; rw [e]; rfl) | (intro h; obtain ⟨_, _, _, _, _, _, e, _⟩ := h; rw [e]; rfl) | (intro h; obtain ⟨_, _, _, _, _, _, _, e, _⟩ := h; rw [e]; rfl) | (intro h; obtain ⟨_, _, _, _, _, _, _, _, e, _⟩ := h; rw [e]; rfl) | (intro h; obtain ⟨_, _, _, _, _, _, _, _, _, e, _⟩ := h; rw [e]; rfl) | (intro h; obtain ⟨_, _, _, _, _, _, _, _, _, _, e, _⟩ := h; rw [e]; rfl) | (intro h; obtain ⟨_, _, _, _, _, _, _, _, _, _, _, e, _⟩ := h; rw [e]; rfl) | (intro h; obtain ⟨_, _, _, _, _, _, _, _, _, _, _, _, e, _⟩ := h; rw [e]; rfl) | (intro h; obtain ⟨_, _, _, _, _, _, _, _, _, _, _, _, _, e, _⟩ := h; rw [e]; rfl))
/-! ### nodes -/
inductive Nd where
  | zero | one | fact (k : Nat) | star (n : Nat) | plus (ps : List Nat) | times (ps : List Nat)
  deriving DecidableEq
def nums (ps : List Nat) : List NestedKey := ps.map fun (n : Nat) => .num (n : Int)
def Nd.key : Nd → List NestedKey
  | .zero => [.text "zero"]
  | .one => [.text "one"]
  | .fact k => [.text "fact", .num (k : Int)]
  | .star n => [.text "star", .num (n : Int)]
  | .plus ps => [.text "plus", .tup (nums ps)]
  | .times ps => [.text "times", .tup (nums ps)]
theorem nums_inj : ∀ {ps qs : List Nat}, nums ps = nums qs → ps = qs
  | [], [], _ => rfl
  | [], _ :: _, h => nomatch h
  | _ :: _, [], h => nomatch h
  | p :: ps, q :: qs, h => by
    have h' : NestedKey.num (p : Int) :: nums ps = NestedKey.num (q : Int) :: nums qs := h
    injection h' with h1 h2
    injection h1 with h1
    rw [nums_inj h2, show p = q by omega]
theorem Nd.key_inj {a b : Nd} (h : a.key = b.key) : a = b := by
  cases a <;> cases b <;> simp [Nd.key] at h <;> first | rfl | (rw [nums_inj h]) | exact absurd h (by decide +kernel) | exact absurd h.1 (by decide +kernel) | exact congrArg Nd.fact (by omega) | exact congrArg Nd.star (by omega)
theorem nums_depth : ∀ ps : List Nat, NestedKey.depthAll (nums ps) ≤ 0
  | [] => Nat.le_refl _
  | p :: ps => by
    have := nums_depth ps
    show NestedKey.depthAll (NestedKey.num (p : Int) :: nums ps) ≤ 0
    rw [NestedKey.depthAll]
    simp only [NestedKey.depth]
    omega
theorem Nd.depth (a : Nd) : NestedKey.depthAll a.key ≤ 2 := by
  cases a <;> simp [Nd.key, NestedKey.depthAll, NestedKey.depth]
  all_goals (have := nums_depth ‹List Nat›; omega)
theorem Nd.depth8 (a : Nd) : (NestedKey.tup a.key).depth ≤ 8 := by
  have := a.depth
  rw [NestedKey.depth]
  omega
abbrev tK (a : Nd) : NestedKey := .tup a.key
theorem tK_inj {a b : Nd} (h : tK a = tK b) : a = b := Nd.key_inj (by injection h)
def kvT (n : Nat) (tbl : List Nd) : List (NestedKey × V) := (tbl.zipIdx n).map fun z => (tK z.1, V.int (z.2 : Int))
theorem valV_tbl (nd : Nd) : ∀ (tbl : List Nd) (n : Nat), valV (kvT n tbl) (tK nd) = if nd ∈ tbl then some (.int ((n + tbl.idxOf nd : Nat) : Int)) else none
  | [], n => rfl
  | a :: tbl, n => by
    have ih := valV_tbl nd tbl (n + 1)
    have e : kvT n (a :: tbl) = (tK a, V.int (n : Int)) :: kvT (n + 1) tbl := rfl
    rw [e]
    by_cases c : a = nd
    · subst c
      rw [valV_pos rfl, if_pos (List.mem_cons_self ..), List.idxOf_cons_self]
      rfl
    · rw [valV_neg (fun z => c (tK_inj z)), ih, show (a :: tbl).idxOf nd = tbl.idxOf nd + 1 by rw [List.idxOf_cons, show (a == nd) = false from beq_eq_false_iff_ne.mpr c]; rfl]
      by_cases m : nd ∈ tbl
      · rw [if_pos m, if_pos (List.mem_cons_of_mem _ m), show n + 1 + tbl.idxOf nd = n + (tbl.idxOf nd + 1) by omega]
      · rw [if_neg m, if_neg (fun z => by
          rcases List.mem_cons.mp z with z | z
          · exact c z.symm
          · exact m z)]
/-- a node is put into a table -/
def insN (tbl : List Nd) (nd : Nd) : List Nd := if nd ∈ tbl then tbl else tbl ++ [nd]
theorem kvT_app (tbl : List Nd) (nd : Nd) : kvT 0 (tbl ++ [nd]) = kvT 0 tbl ++ [(tK nd, V.int (tbl.length : Int))] := by
  unfold kvT
  rw [List.zipIdx_append, List.map_append, Nat.zero_add]
  rfl
theorem insN_mem (tbl : List Nd) (nd : Nd) : nd ∈ insN tbl nd := by
  unfold insN
  split
  · assumption
  · simp
/-- a node's tuple stands at a -/
abbrev NdAt (H : Hp) (a : Addr) (nd : Nd) : Prop := Ky H (tK nd) (.ref a)
abbrev fC (S D : Addr) : List (Str × V) := putF "_numbers" (.ref D) (putF "_shown" (.ref S) [])
theorem fC_s (S D : Addr) : (fC S D).lookup ("_shown" : Str) = some (.ref S) := by
  rw [lookup_putF, if_neg (by decide), lookup_putF, if_pos rfl]
theorem fC_n (S D : Addr) : (fC S D).lookup ("_numbers" : Str) = some (.ref D) := by
  rw [lookup_putF, if_pos rfl]
theorem fC_no (S D : Addr) {m : Str} (h1 : ¬ m = "_shown") (h2 : ¬ m = "_numbers") : (fC S D).lookup m = none := by
  rw [lookup_putF, if_neg h2, lookup_putF, if_neg h1]; rfl
/-- a store of circuits with the nodes tbl -/
structure Circ (P : Program) (w : World) (C : Addr) (H : Hp) (c S D : Addr) (tbl : List Nd) : Prop where
  ins : ∃ dx, H c = some (.ins C dx (fC S D))
  shown : ∃ as : List Addr, H S = some (.lst (as.map V.ref)) ∧ Kys H (tbl.map tK) (as.map V.ref)
  nums : At P w H D (kvT 0 tbl)
/-- all but the store's list and dict is as it was -/
def FrC (S D : Addr) (H H' : Hp) : Prop := ∀ b o, b ≠ S → b ≠ D → H b = some o → H' b = some o
theorem FrC.refl (S D : Addr) (H : Hp) : FrC S D H H := fun _ _ _ _ h => h
theorem FrC.trans {S D : Addr} {H H1 H2 : Hp} (x : FrC S D H H1) (y : FrC S D H1 H2) : FrC S D H H2 := fun b o n m h => y b o n m (x b o n m h)
theorem FrC.of {S D : Addr} {H H1 : Hp} (x : Same H H1) : FrC S D H H1 := fun b o _ _ h => x b o h
theorem FrC.tup {S D : Addr} {H H1 : Hp} (x : FrC S D H H1) {xs ys : List V} {φ : Heap → Prop} (hS : H S = some (.lst xs)) (hD : H D = some (.ext φ)) : ∀ b zs, H b = some (.tup zs) → H1 b = some (.tup zs) := fun b zs e =>
  x b _ (ne_of e hS (fun z => nomatch z)) (ne_of e hD (fun z => nomatch z)) e
theorem Kys.length {H : Hp} : ∀ {ks : List NestedKey} {xs : List V}, Kys H ks xs → ks.length = xs.length
  | _, _, .nil => rfl
  | _, _, .cons _ r => by rw [List.length_cons, List.length_cons, Kys.length r]
theorem Kys.snoc {H : Hp} {k : NestedKey} {x : V} (a : Ky H k x) : ∀ {ks : List NestedKey} {xs : List V}, Kys H ks xs → Kys H (ks ++ [k]) (xs ++ [x])
  | _, _, .nil => .cons a .nil
  | _, _, .cons b r => .cons b (Kys.snoc a r)
theorem Kys.at {H : Hp} : ∀ {ks : List NestedKey} {xs : List V} {i : Nat} {k : NestedKey}, Kys H ks xs → ks[i]? = some k → ∃ x, xs[i]? = some x ∧ Ky H k x
  | _, _, 0, _, .cons a _, e => by
    cases (show some _ = some _ from e)
    exact ⟨_, rfl, a⟩
  | _, _, i + 1, k, .cons _ r, e => Kys.at (i := i) r (by simpa using e)
theorem Circ.same {P : Program} {w : World} {C : Addr} {H H' : Hp} {c S D : Addr} {tbl : List Nd} (x : Circ P w C H c S D tbl) (s : Same H H') : Circ P w C H' c S D tbl where
  ins := let ⟨dx, e⟩ := x.ins; ⟨dx, s _ _ e⟩
  shown := let ⟨as, e, k⟩ := x.shown; ⟨as, s _ _ e, k.keeps fun b ys e => s _ _ e⟩
  nums := x.nums.keeps (fun u e => s _ _ e) fun b ys e => s _ _ e
section
variable {P : Program} {w : World} {K : PySem.W.Frag} {mg : Str → Option Value} {base : Heap} {ad : Ad}
def spCount (C : Addr) : Sp := fun vs H Q _ => ∃ c dx S D xs, vs = [.ref c] ∧ H c = some (.ins C dx (fC S D)) ∧ H S = some (.lst xs) ∧ Q (.int xs.length) H
theorem ok_Circuits_count  {f : Addr} {fd : FuncData} (F : Fun K "count" "Circuits.count" s_Circuits_count f fd) (T : Txt K mg ad) : FnOk P w K mg base (L2.CX P w) 1 f fd ["self"] (spCount ad.Circuits) := by
  refine F.okX sc_Circuits_count (fun vs H Q E => ?_) (fun cdv A outer s H vs Q E hr h => ?_)
  · walk_at "len"
  ·
    obtain ⟨c, dx, S, D, xs, rfl, hc, hS, k⟩ := h
    refine ⟨_, (pss_one (ps_ret (pe_callB call_len (by rfl) T.z_len (by decide +kernel) (pa_cons (pe_fld (pv 0) rfl) pa_nil)))), ?_⟩
    exact ⟨_, rfl, c, _, dx, _, _, rfl, hc, T.c_Circuits, T.n_shown, fC_s _ _, .ref S, _, rfl, .inl ⟨_, SqL.of hS, rfl⟩, k⟩
def spShown (P : Program) (w : World) (C : Addr) : Sp := fun vs H Q _ => ∃ c S D tbl i nd, vs = [.ref c, .int (i : Nat)] ∧ Circ P w C H c S D tbl ∧ tbl[i]? = some nd ∧ ∀ a, NdAt H a nd → Q (.ref a) H
theorem ok_Circuits_shown  {f : Addr} {fd : FuncData} (F : Fun K "shown" "Circuits.shown" s_Circuits_shown f fd) (T : Txt K mg ad) : FnOk P w K mg base (L2.CX P w) 1 f fd ["self", "node"] (spShown P w ad.Circuits) := by
  refine F.okX sc_Circuits_shown (fun vs H Q E => ?_) (fun cdv A outer s H vs Q E hr h => ?_)
  · walk_at "len"
  ·
    obtain ⟨c, S, D, tbl, i, nd, rfl, cc, hi, k⟩ := h
    refine ⟨_, (pss_one (ps_ret (pe_ix ix_list (pe_fld (pv 0) rfl) (pv 1) (fun _ _ => rfl)))), ?_⟩
    obtain ⟨dx, hc⟩ := cc.ins
    obtain ⟨as, hS, hk⟩ := cc.shown
    obtain ⟨x, e, ky⟩ := Kys.at (i := i) hk (by rw [List.getElem?_map, hi]; rfl)
    cases ky with
    | tup e1 e2 =>
      exact ⟨_, rfl, c, _, dx, _, _, rfl, hc, T.c_Circuits, T.n_shown, fC_s _ _, _, rfl, S, _, _, _, rfl, rfl, SqL.of hS, at_of rfl e, k _ (.tup e1 e2)⟩
def spNode (P : Program) (w : World) (C : Addr) : Sp := fun vs H Q _ => ∃ c S D tbl a nd, vs = [.ref c, .ref a] ∧ Circ P w C H c S D tbl ∧ NdAt H a nd ∧ tbl.length < 1000 ∧
  ∀ H', FrC S D H H' → Circ P w C H' c S D (insN tbl nd) → Q (.int ((insN tbl nd).idxOf nd : Nat)) H'
theorem ok_Circuits_node (m_count : MetX P w K mg base 1 ad.Circuits "count" (spCount ad.Circuits)) {f : Addr} {fd : FuncData} (F : Fun K "_node" "Circuits._node" s_Circuits_node f fd) (T : Txt K mg ad) : FnOk P w K mg base (L2.CX P w) 2 f fd ["self", "shown"] (spNode P w ad.Circuits) := by
  refine F.okX sc_Circuits_node (fun vs H Q E => ?_) (fun cdv A outer s H vs Q E hr h => ?_)
  · walk_at "len"
  ·
    obtain ⟨c, S, D, tbl, a, nd, rfl, cc, ha, hl, k⟩ := h
    refine ⟨_, (pss_cons (ps_if (pt_cmpR (ND.op_notInN (ND.hu9 hr)) (pv 1) (pe_fld (pv 0) rfl) (by rfl)) (pss_cons (ps_if (pt_cmpR op_eq (pd_meth0 hr (takes_of rfl rfl rfl rfl) (pv 0)) (pe_gint (by rfl) T.g_MOST_NODES) (nomark _)) (pss_one (ps_raise rfl (takes_of rfl rfl rfl rfl) (pmk_own PySem.F.excBase_ValueError T.x_TooLarge T.g_TooLarge T.k_TooLarge (raises_own T.b_TooLarge T.t_TooLarge) (by rfl)))) pss_nil)
      (pss_cons (ND.ps_nput (ND.hu9 hr) (pe_fld (pv 0) rfl) (pv 1) (pd_meth0 hr (takes_of rfl rfl rfl rfl) (pv 0)) rfl)
      (pss_one (ps_expr (pe_bm PySem.F.plainAttrs_list PySem.F.slot_list_append PySem.F.type_list_append mt_append (pe_fld (pv 0) rfl) (pa_cons (pv 1) pa_nil)))))) pss_nil)
      (pss_one (ps_ret (ND.pe_nget (ND.hu9 hr) (pe_fld (pv 0) rfl) (pv 1) (fun _ _ => rfl))))), ?_⟩
    obtain ⟨dx, hc⟩ := cc.ins
    obtain ⟨as, hS, hk⟩ := cc.shown
    have hlen : as.length = tbl.length := by
      have := Kys.length hk
      rw [List.length_map, List.length_map] at this
      exact this.symm
    obtain ⟨φ, hφ⟩ := cc.nums.ext
    have nSD : S ≠ D := ne_of hS hφ (fun z => nomatch z)
    have ncS : c ≠ S := ne_of hc hS (fun z => nomatch z)
    have ncD : c ≠ D := ne_of hc hφ (fun z => nomatch z)
    refine ⟨_, rfl, _, rfl, c, _, dx, _, _, rfl, hc, T.c_Circuits, T.n_numbers, fC_n _ _, D, _, rfl, ⟨_, _, _, cc.nums.rd, rfl, ha, nd.depth8, rfl⟩, ?_⟩
    rw [valV_tbl]
    by_cases m : nd ∈ tbl
    · rw [if_pos m]
      refine ⟨_, rfl, iteF ?_⟩
      refine ⟨_, rfl, c, _, dx, _, _, rfl, hc, T.c_Circuits, T.n_numbers, fC_n _ _, _, rfl, D, _, rfl, ⟨_, _, _, cc.nums.rd, rfl, ha, nd.depth8, by rw [valV_tbl, if_pos m]⟩, ?_⟩
      rw [Nat.zero_add]
      have := k H (FrC.refl _ _ _) (by unfold insN; rw [if_pos m]; exact cc)
      unfold insN at this
      rw [if_pos m] at this
      exact this
    · rw [if_neg m]
      refine ⟨_, rfl, iteT ?_⟩
      refine ⟨_, rfl, c, _, dx, _, 1, _, rfl, hc, fC_no _ _ (by decide) (by decide), by decide, m_count, c, dx, S, D, _, rfl, hc, hS, ?_⟩
      refine ⟨rfl, _, rfl, ?_⟩
      rw [List.length_map, hlen]
      rw [decide_eq_false (show ¬ V.int (tbl.length : Int) = V.int 20000 from fun z => by injection z with z; omega)]
      refine iteF ?_
      refine go_next ?_
      refine ⟨_, rfl, c, _, dx, _, 1, _, rfl, hc, fC_no _ _ (by decide) (by decide), by decide, m_count, c, dx, S, D, _, rfl, hc, hS, ?_⟩
      refine ⟨_, rfl, c, _, dx, _, _, rfl, hc, T.c_Circuits, T.n_numbers, fC_n _ _, _, rfl, D, rfl, ⟨_, _, _, cc.nums, rfl, ha, nd.depth8, by (unfold kvT; rw [List.length_map, List.length_zipIdx]; exact Nat.lt_trans hl (by decide)), fun φ' hA => ?_⟩⟩
      refine go_nx ?_
      have hc1 : upd H D (.ext φ') c = some (.ins ad.Circuits dx (fC S D)) := by rw [upd_ne ncD]; exact hc
      have hS1 : upd H D (.ext φ') S = some (.lst (as.map V.ref)) := by rw [upd_ne nSD]; exact hS
      refine ⟨_, rfl, c, _, dx, _, _, rfl, hc1, T.c_Circuits, T.n_shown, fC_s _ _, .inl ⟨rfl, _, SqL.of hS1⟩, _, rfl, S, _, _, rfl, rfl, hS1, by (rw [List.length_map, hlen]; exact Nat.lt_trans hl (by decide)), ?_⟩
      have hc2 : upd (upd H D (.ext φ')) S (.lst (as.map V.ref ++ [.ref a])) c = some (.ins ad.Circuits dx (fC S D)) := by rw [upd_ne ncS]; exact hc1
      have tups : ∀ b ys, H b = some (.tup ys) → upd (upd H D (.ext φ')) S (.lst (as.map V.ref ++ [.ref a])) b = some (.tup ys) := fun b ys e => by
        rw [upd_ne (ne_of e hS (fun z => nomatch z)), upd_ne (ne_of e hφ (fun z => nomatch z))]
        exact e
      have ekv : putK (kvT 0 tbl) (tK nd) (V.int ((as.map V.ref).length : Int)) = kvT 0 (tbl ++ [nd]) := by
        rw [putK_new _ (by rw [valV_tbl, if_neg m]), kvT_app, List.length_map, hlen]
      have hA2 : At P w (upd (upd H D (.ext φ')) S (.lst (as.map V.ref ++ [.ref a]))) D (kvT 0 (tbl ++ [nd])) := by
        rw [← ekv]
        refine hA.keeps (fun u e => by rw [upd_ne (Ne.symm nSD)]; exact e) fun b ys e => ?_
        rw [upd_ne (ne_of e hS1 (fun z => nomatch z))]
        exact e
      have hins : insN tbl nd = tbl ++ [nd] := by unfold insN; rw [if_neg m]
      have cc2 : Circ P w ad.Circuits (upd (upd H D (.ext φ')) S (.lst (as.map V.ref ++ [.ref a]))) c S D (insN tbl nd) := by
        rw [hins]
        refine ⟨⟨dx, hc2⟩, ⟨as ++ [a], by rw [upd_same, List.map_append]; rfl, ?_⟩, hA2⟩
        rw [List.map_append, List.map_append]
        exact Kys.snoc (ha.keeps tups) (hk.keeps tups)
      refine go_nx ?_
      refine ⟨_, rfl, c, _, dx, _, _, rfl, hc2, T.c_Circuits, T.n_numbers, fC_n _ _, _, rfl, D, _, rfl, ⟨_, _, _, hA2.rd, rfl, ha.keeps tups, nd.depth8, by rw [valV_tbl, if_pos (by simp)]⟩, ?_⟩
      rw [Nat.zero_add]
      have := k _ (fun b o n1 n2 e => by rw [upd_ne n1, upd_ne n2]; exact e) cc2
      rw [hins] at this
      exact this
/-! ### lists of numbers, filtered; sorted -/
abbrev nV (ns : List Nat) : List V := ns.map fun (n : Nat) => V.int (n : Int)
theorem take_fil {p : Nat → Bool} {ns : List Nat} {i x : Nat} (h : ns[i]? = some x) : (ns.take (i + 1)).filter p = (ns.take i).filter p ++ (if p x = true then [x] else []) := by
  rw [List.take_add_one, h, List.filter_append]
  congr 1
  by_cases c : p x = true
  · rw [if_pos c]; simp [c]
  · rw [if_neg c]; simp [c]
theorem lc_filL {K : PySem.W.Frag} {a : Addr} {ns : List Nat} {k : Nat} {tt : TT} {te : TE} {vs : List Nat} {σ : L2.St} {H1 : Hp} {D : Addr} {Qd : Hp → Prop} (p : Nat → Bool) (hD : H1 D = none) (hL : H1 a = some (.lst (nV ns)))
    (hn : ns.length ≤ 100000) (hw : ∀ x, wipe ((wipe σ vs).set k (some x)) vs = wipe σ vs)
    (ht : ∀ (x : Nat) (H : Hp) (Kt : Bool → Hp → Prop), Same H1 H → Kt (p x) H → tt ((wipe σ vs).set k (some (.int (x : Int)))) H Kt)
    (he : ∀ (x : Nat) (H : Hp) (Kt : VK), Kt (.int (x : Int)) H → te ((wipe σ vs).set k (some (.int (x : Int)))) H Kt)
    (hd : ∀ H, Same H1 H → H D = some (.lst (nV (ns.filter p))) → Qd H) :
    ∃ W : Nat → Nat → Hp → Prop, (∃ m, W 0 m (upd H1 D (.lst []))) ∧ ∀ i m H, W i m H →
      ((Itl K a).stop i H ∧ Qd H) ∨ ((Itl K a).go i H ∧ ∃ Nx : Hp → Prop, (∀ H', Nx H' → ∃ m', m' < m ∧ W (i + 1) m' H') ∧ ∀ x H', (Itl K a).yld i H x H' → gName k x (wipe σ vs) H' fun σ2 H2 => wipe σ2 vs = wipe σ vs ∧ tt σ2 H2 fun b H3 =>
        if b = true then te σ2 H3 fun y H4 => ∃ acc, H4 D = some (.lst acc) ∧ acc.length < sizeLine ∧ Nx (upd H4 D (.lst (acc ++ [y]))) else Nx H3) := by
  refine lc_list (xs := nV ns) (fun i H => Same H1 H ∧ H D = some (.lst (nV ((ns.take i).filter p)))) ⟨same_new (Same.refl _) hD, upd_same⟩ (fun i H _ ⟨s1, _⟩ => SqL.of (s1 _ _ hL)) (fun i x H hx ⟨s1, e1⟩ => ?_) (fun H ⟨s1, e1⟩ => hd H s1 ?_)
  · rw [List.getElem?_map] at hx
    obtain ⟨n, hn1, rfl⟩ := Option.map_eq_some_iff.mp hx
    have hi : i < ns.length := by
      rcases Nat.lt_or_ge i ns.length with h | h
      · exact h
      · rw [List.getElem?_eq_none h] at hn1; cases hn1
    refine ⟨hw _, ht n H _ s1 ?_⟩
    by_cases c : p n = true
    · rw [if_pos c]
      refine he n H _ ⟨_, e1, ?_, same_but hD s1 but_app, ?_⟩
      · have h1 := List.length_filter_le p (ns.take i)
        have h2 := List.length_take_le i ns
        rw [List.length_map]
        exact Nat.lt_of_le_of_lt (by omega : _ ≤ 100000) (by decide)
      · rw [upd_same, take_fil hn1, if_pos c]
        have e2 : nV (List.filter p (List.take i ns) ++ [n]) = nV (List.filter p (List.take i ns)) ++ [V.int (n : Int)] := by
          unfold nV
          rw [List.map_append]
          rfl
        rw [e2]
    · rw [if_neg c]
      refine ⟨s1, ?_⟩
      rw [take_fil hn1, if_neg c, List.append_nil]
      exact e1
  · rw [e1, List.length_map, List.take_length]
theorem lc_filT {K : PySem.W.Frag} {a : Addr} {ns : List Nat} {k : Nat} {tt : TT} {te : TE} {vs : List Nat} {σ : L2.St} {H1 : Hp} {D : Addr} {Qd : Hp → Prop} (p : Nat → Bool) (hD : H1 D = none) (hL : H1 a = some (.tup (nV ns)))
    (hn : ns.length ≤ 100000) (hw : ∀ x, wipe ((wipe σ vs).set k (some x)) vs = wipe σ vs)
    (ht : ∀ (x : Nat) (H : Hp) (Kt : Bool → Hp → Prop), Same H1 H → Kt (p x) H → tt ((wipe σ vs).set k (some (.int (x : Int)))) H Kt)
    (he : ∀ (x : Nat) (H : Hp) (Kt : VK), Kt (.int (x : Int)) H → te ((wipe σ vs).set k (some (.int (x : Int)))) H Kt)
    (hd : ∀ H, Same H1 H → H D = some (.lst (nV (ns.filter p))) → Qd H) :
    ∃ W : Nat → Nat → Hp → Prop, (∃ m, W 0 m (upd H1 D (.lst []))) ∧ ∀ i m H, W i m H →
      ((Itt K a).stop i H ∧ Qd H) ∨ ((Itt K a).go i H ∧ ∃ Nx : Hp → Prop, (∀ H', Nx H' → ∃ m', m' < m ∧ W (i + 1) m' H') ∧ ∀ x H', (Itt K a).yld i H x H' → gName k x (wipe σ vs) H' fun σ2 H2 => wipe σ2 vs = wipe σ vs ∧ tt σ2 H2 fun b H3 =>
        if b = true then te σ2 H3 fun y H4 => ∃ acc, H4 D = some (.lst acc) ∧ acc.length < sizeLine ∧ Nx (upd H4 D (.lst (acc ++ [y]))) else Nx H3) := by
  refine lc_tup (xs := nV ns) (fun i H => Same H1 H ∧ H D = some (.lst (nV ((ns.take i).filter p)))) ⟨same_new (Same.refl _) hD, upd_same⟩ (fun i H _ ⟨s1, _⟩ => SqT.of (s1 _ _ hL)) (fun i x H hx ⟨s1, e1⟩ => ?_) (fun H ⟨s1, e1⟩ => hd H s1 ?_)
  · rw [List.getElem?_map] at hx
    obtain ⟨n, hn1, rfl⟩ := Option.map_eq_some_iff.mp hx
    have hi : i < ns.length := by
      rcases Nat.lt_or_ge i ns.length with h | h
      · exact h
      · rw [List.getElem?_eq_none h] at hn1; cases hn1
    refine ⟨hw _, ht n H _ s1 ?_⟩
    by_cases c : p n = true
    · rw [if_pos c]
      refine he n H _ ⟨_, e1, ?_, same_but hD s1 but_app, ?_⟩
      · have h1 := List.length_filter_le p (ns.take i)
        have h2 := List.length_take_le i ns
        rw [List.length_map]
        exact Nat.lt_of_le_of_lt (by omega : _ ≤ 100000) (by decide)
      · rw [upd_same, take_fil hn1, if_pos c]
        have e2 : nV (List.filter p (List.take i ns) ++ [n]) = nV (List.filter p (List.take i ns)) ++ [V.int (n : Int)] := by
          unfold nV
          rw [List.map_append]
          rfl
        rw [e2]
    · rw [if_neg c]
      refine ⟨s1, ?_⟩
      rw [take_fil hn1, if_neg c, List.append_nil]
      exact e1
  · rw [e1, List.length_map, List.take_length]
/-- numbers in ascending order -/
def sortN (ns : List Nat) : List Nat := (PySem.W.sortI (ns.map fun (n : Nat) => (n : Int))).map Int.toNat
theorem sortN_of {ns : List Nat} {ns' : List Int} (hp : ns'.Perm (ns.map fun (n : Nat) => (n : Int))) (hs : ns'.Pairwise (· ≤ ·)) : ns' = (sortN ns).map fun (n : Nat) => (n : Int) := by
  have e := PySem.W.eq_sortI hp hs
  unfold sortN
  rw [← e, List.map_map]
  refine (List.map_id _).symm.trans (List.map_congr_left fun x hx => ?_)
  obtain ⟨n, _, rfl⟩ := List.mem_map.mp (hp.mem_iff.mp hx)
  show (n : Int) = ((n : Int).toNat : Int)
  rw [Int.toNat_natCast]
theorem nV_kys {H : Hp} : ∀ ns : List Nat, Kys H (nums ns) (nV ns)
  | [] => .nil
  | n :: ns => .cons (.int (n : Int)) (nV_kys ns)
theorem int_map (ns : List Nat) : (ns.map fun (n : Nat) => (n : Int)).map V.int = nV ns := by
  rw [List.map_map]; rfl
def spFact (P : Program) (w : World) (C : Addr) : Sp := fun vs H Q _ => ∃ c S D tbl, ∃ k : Nat, vs = [.ref c, .int (k : Int)] ∧ Circ P w C H c S D tbl ∧ tbl.length < 1000 ∧
  ∀ H', FrC S D H H' → Circ P w C H' c S D (insN tbl (.fact k)) → Q (.int ((insN tbl (.fact k)).idxOf (.fact k) : Nat)) H'
theorem ok_Circuits_fact (m_node : MetX P w K mg base 2 ad.Circuits "_node" (spNode P w ad.Circuits)) {f : Addr} {fd : FuncData} (F : Fun K "fact" "Circuits.fact" s_Circuits_fact f fd) (T : Txt K mg ad) : FnOk P w K mg base (L2.CX P w) 3 f fd ["self", "k"] (spFact P w ad.Circuits) := by
  refine F.okX sc_Circuits_fact (fun vs H Q E => ?_) (fun cdv A outer s H vs Q E hr h => ?_)
  · walk_at "len"
  ·
    obtain ⟨c, S, D, tbl, n, rfl, cc, hl, k⟩ := h
    refine ⟨_, (pss_one (ps_ret (pd_meth hr (takes_of rfl rfl rfl rfl) (pv 0) (pa_cons (pe_tup (pa_cons pe_str (pa_cons (pv 1) pa_nil))) pa_nil)))), ?_⟩
    obtain ⟨dx, hc⟩ := cc.ins
    refine ⟨_, rfl, c, _, dx, _, 2, _, rfl, hc, fC_no _ _ (by decide) (by decide), by decide, m_node, _, rfl, (show 2 ≤ sizeLine by decide), fun p hp => ?_⟩
    have s1 : Same H (upd H p (.tup [.str "fact", .int (n : Int)])) := same_new (Same.refl _) hp
    exact ⟨c, S, D, tbl, p, .fact n, rfl, cc.same s1, .tup upd_same (.cons (.str _) (.cons (.int _) .nil)), hl, fun H' fr c' => k H' ((FrC.of s1).trans fr) c'⟩
def spStar (P : Program) (w : World) (C : Addr) : Sp := fun vs H Q _ => ∃ c S D tbl, ∃ n : Nat, vs = [.ref c, .int (n : Int)] ∧ Circ P w C H c S D tbl ∧ tbl.length < 1000 ∧ (n = 0 → Q (.int 1) H) ∧
  (n ≠ 0 → ∀ H', FrC S D H H' → Circ P w C H' c S D (insN tbl (.star n)) → Q (.int ((insN tbl (.star n)).idxOf (.star n) : Nat)) H')
theorem ok_Circuits_star (m_node : MetX P w K mg base 2 ad.Circuits "_node" (spNode P w ad.Circuits)) {f : Addr} {fd : FuncData} (F : Fun K "star" "Circuits.star" s_Circuits_star f fd) (T : Txt K mg ad) : FnOk P w K mg base (L2.CX P w) 3 f fd ["self", "node"] (spStar P w ad.Circuits) := by
  refine F.okX sc_Circuits_star (fun vs H Q E => ?_) (fun cdv A outer s H vs Q E hr h => ?_)
  · walk_at "len"
  ·
    obtain ⟨c, S, D, tbl, n, rfl, cc, hl, k0, k⟩ := h
    refine ⟨_, (pss_cons (ps_if (pt_cmpR op_eq (pv 1) (pe_gint (by rfl) T.g_ZERO) (nomark _)) (pss_one (ps_ret (pe_gint (by rfl) T.g_ONE))) pss_nil)
      (pss_one (ps_ret (pd_meth hr (takes_of rfl rfl rfl rfl) (pv 0) (pa_cons (pe_tup (pa_cons pe_str (pa_cons (pv 1) pa_nil))) pa_nil))))), ?_⟩
    obtain ⟨dx, hc⟩ := cc.ins
    refine ⟨_, rfl, rfl, _, rfl, ?_⟩
    by_cases z : n = 0
    · subst z
      exact iteT (k0 rfl)
    · rw [decide_eq_false (show ¬ V.int (n : Int) = V.int 0 from fun y => z (by injection y with y; omega))]
      refine iteF ?_
      refine ⟨_, rfl, c, _, dx, _, 2, _, rfl, hc, fC_no _ _ (by decide) (by decide), by decide, m_node, _, rfl, (show 2 ≤ sizeLine by decide), fun p hp => ?_⟩
      have s1 : Same H (upd H p (.tup [.str "star", .int (n : Int)])) := same_new (Same.refl _) hp
      exact ⟨c, S, D, tbl, p, .star n, rfl, cc.same s1, .tup upd_same (.cons (.str _) (.cons (.int _) .nil)), hl, fun H' fr c' => k z H' ((FrC.of s1).trans fr) c'⟩
end
end K34

set_option Elab.async false
set_option linter.all false
set_option maxRecDepth 100000
set_option maxHeartbeats 4000000
namespace K34
open PySem L2 Ew Tb GxR ND
local macro_rules | `(tactic| walk_at "len") => `(tactic| first | (intro h; obtain ⟨_, e, _⟩ := h; rw [e]; rfl) | (intro h; obtain ⟨_, _, e, _⟩ := h; rw [e]; rfl) | (intro h; obtain ⟨_, _, _, e, _⟩ := h; rw [e]; rfl) | (intro h; obtain ⟨_, _, _, _, e, _⟩ := h; rw [e]; rfl) | (intro h; obtain ⟨_, _, _, _, _, e, _⟩ := h; rw [e]; rfl) | (intro h; obtain ⟨_, _, _, _, _, _, e, _⟩ := h; rw [e]; rfl) | (intro h; obtain ⟨_, _, _, _, _, _, _, e, _⟩ := h; rw [e]; rfl) | (intro h; obtain ⟨_, _, _, _, _, _, _, _, e, _⟩ := h; rw [e]; rfl) | (intro h; obtain ⟨_, _, _, _, _, _, _, _, _, e, _⟩ := h; rw [e]; rfl) | (intro h; obtain ⟨_, _, _, _, _, _, _, _, _, _, e, _⟩ := h; rw [e]; rfl) | (intro h; obtain ⟨_, _, _, _, _, _, _, _, _, _, _, e, _⟩ := h; rw [e]; rfl) | (intro h; obtain ⟨_, _, _, _, _, _, _, _, _, _, _, _, e, _⟩ := h; rw [e]; rfl) | (intro h; obtain ⟨_, _, _, _, _, _, _, _, _, _, _, _, _, e, _⟩ := h; rw [e]; rfl))
section
variable {P : Program} {w : World} {K : PySem.W.Frag} {mg : Str → Option Value} {base : Heap} {ad : Ad}
theorem new2 {p : Addr} {H H1 : Hp} {o : HO} (x : Same H H1) (h : H1 p = none) : Same H (L2.upd H1 p o) := fun b u e => by
  rw [upd_ne (ne_of_none (x b u e) h)]
  exact x b u e
/-- plus or times -/
inductive Kd where
  | plus | times
def Kd.word : Kd → Str
  | .plus => "plus"
  | .times => "times"
def Kd.neu : Kd → Nat
  | .plus => 0
  | .times => 1
def Kd.mk : Kd → List Nat → Nd
  | .plus, ps => .plus ps
  | .times, ps => .times ps
theorem Kd.key (d : Kd) (ps : List Nat) : (d.mk ps).key = [.text d.word, .tup (nums ps)] := by cases d <;> rfl
/-- what several parts give: the table behind, the node -/
def sevN (tbl : List Nd) (d : Kd) (ps : List Nat) : List Nd × Nat := match ps with
  | [] => (tbl, d.neu)
  | [p] => (tbl, p)
  | _ => let nd := d.mk (sortN ps); (insN tbl nd, (insN tbl nd).idxOf nd)
def spSev (P : Program) (w : World) (C : Addr) : Sp := fun vs H Q _ => ∃ c S D tbl, ∃ (d : Kd) (L : Addr) (ps : List Nat), vs = [.ref c, .str d.word, .ref L, .int (d.neu : Int)] ∧ Circ P w C H c S D tbl ∧ tbl.length < 1000 ∧ H L = some (.lst (nV ps)) ∧ ps.length ≤ 1000 ∧
  ∀ H', FrC S D H H' → Circ P w C H' c S D (sevN tbl d ps).1 → Q (.int ((sevN tbl d ps).2 : Nat)) H'
theorem ok_Circuits_several (m_node : MetX P w K mg base 2 ad.Circuits "_node" (spNode P w ad.Circuits)) {f : Addr} {fd : FuncData} (F : Fun K "_several" "Circuits._several" s_Circuits_several f fd) (T : Txt K mg ad) : FnOk P w K mg base (L2.CX P w) 3 f fd ["self", "word", "nodes", "neutral"] (spSev P w ad.Circuits) := by
  refine F.okX sc_Circuits_several (fun vs H Q E => ?_) (fun cdv A outer s H vs Q E hr h => ?_)
  · walk_at "len"
  ·
    obtain ⟨c, S, D, tbl, d, L, ps, rfl, cc, hl, hL, hps, k⟩ := h
    refine ⟨_, (pss_cons (ps_if (pt_cmpR op_eq (pe_callB call_len (by rfl) T.z_len (by decide +kernel) (pa_cons (pv 2) pa_nil)) pe_int (nomark _)) (pss_one (ps_ret (pv 3))) pss_nil)
      (pss_cons (ps_if (pt_cmpR op_eq (pe_callB call_len (by rfl) T.z_len (by decide +kernel) (pa_cons (pv 2) pa_nil)) pe_int (nomark _)) (pss_one (ps_ret (pe_ix ix_list (pv 2) pe_int (fun _ _ => rfl)))) pss_nil)
      (pss_cons (ps_if (pt_cmpR op_gt (pe_callB call_len (by rfl) T.z_len (by decide +kernel) (pa_cons (pv 2) pa_nil)) (pe_gint (by rfl) T.g_MOST_IN_ONE) (nomark _)) (pss_one (ps_raise rfl (takes_of rfl rfl rfl rfl) (pmk_own PySem.F.excBase_ValueError T.x_TooLarge T.g_TooLarge T.k_TooLarge (raises_own T.b_TooLarge T.t_TooLarge) (by rfl)))) pss_nil)
      (pss_one (ps_ret (pd_meth hr (takes_of rfl rfl rfl rfl) (pv 0) (pa_cons (pe_tup (pa_cons (pv 1) (pa_cons (pe_callTy call_tuple_of (by rfl) T.z_tuple (by decide +kernel) (pa_cons (pe_callB cr_sortedI (by rfl) T.z_sorted (by decide +kernel) (pa_cons (pv 2) pa_nil)) pa_nil)) pa_nil))) pa_nil))))))), ?_⟩
    obtain ⟨dx, hc⟩ := cc.ins
    refine ⟨_, rfl, .ref L, _, rfl, .inl ⟨_, SqL.of hL, rfl⟩, rfl, _, rfl, ?_⟩
    rw [List.length_map]
    cases ps with
    | nil => exact iteT ⟨_, rfl, k H (FrC.refl _ _ _) cc⟩
    | cons p0 ps =>
      refine iteF (go_next ?_)
      refine ⟨_, rfl, .ref L, _, rfl, .inl ⟨_, SqL.of hL, rfl⟩, rfl, _, rfl, ?_⟩
      rw [List.length_map]
      cases ps with
      | nil =>
        refine iteT ⟨_, rfl, L, _, _, _, rfl, rfl, SqL.of hL, at_of (j := 0) rfl rfl, ?_⟩
        exact k H (FrC.refl _ _ _) cc
      | cons p1 ps =>
        rw [decide_eq_false (show ¬ V.int ((p0 :: p1 :: ps).length : Int) = V.int 1 from fun y => by injection y with y; rw [List.length_cons, List.length_cons] at y; omega)]
        refine iteF (go_next ?_)
        refine ⟨_, rfl, .ref L, _, rfl, .inl ⟨_, SqL.of hL, rfl⟩, ?_⟩
        rw [List.length_map]
        refine ⟨_, _, rfl, rfl, _, rfl, ?_⟩
        rw [decide_eq_false (show ¬ (2000 : Int) < ((p0 :: p1 :: ps).length : Int) by omega)]
        refine iteF (go_next ?_)
        refine ⟨_, rfl, c, _, dx, _, 2, _, rfl, hc, fC_no _ _ (by decide) (by decide), by decide, m_node, ?_⟩
        refine ⟨_, rfl, _, rfl, L, (p0 :: p1 :: ps).map (fun (n : Nat) => (n : Int)), rfl, SqL.of (by rw [int_map]; exact hL), fun ns' q hp hs hq => ?_⟩
        rw [sortN_of hp hs, int_map]
        have s1 : Same H (upd H q (.lst (nV (sortN (p0 :: p1 :: ps))))) := same_new (Same.refl _) hq
        refine ⟨q, _, rfl, .inl ⟨SqL.of upd_same, fun l hl => ?_⟩⟩
        have s2 := new2 (o := .tup (nV (sortN (p0 :: p1 :: ps)))) s1 hl
        refine ⟨(show 2 ≤ sizeLine by decide), fun a ha => ?_⟩
        have s3 := new2 (o := .tup [.str d.word, .ref l]) s2 ha
        refine ⟨c, S, D, tbl, a, d.mk (sortN (p0 :: p1 :: ps)), rfl, cc.same s3, ?_, by assumption, fun H' fr c' => k H' ((FrC.of s3).trans fr) c'⟩
        show Ky _ (.tup (d.mk (sortN (p0 :: p1 :: ps))).key) _
        rw [Kd.key]
        refine .tup upd_same (.cons (.str _) (.cons (.tup ?_ (nV_kys _)) .nil))
        rw [upd_ne (ne_of_none upd_same ha)]
        exact upd_same
theorem nV_flat : ∀ ps : List Nat, (nV ps).all flatV = true
  | [] => rfl
  | p :: ps => nV_flat ps
theorem inV_nV (m : Nat) : ∀ ps : List Nat, inV (.int (m : Int)) (nV ps) = decide (m ∈ ps)
  | [] => rfl
  | p :: ps => by
    have ih := inV_nV m ps
    have e : inV (.int (m : Int)) (nV (p :: ps)) = (eqV (.int (p : Int)) (.int (m : Int)) || inV (.int (m : Int)) (nV ps)) := rfl
    rw [e, ih]
    by_cases c : p = m
    · subst c; simp [eqV]
    · have c' : ¬ m = p := fun z => c z.symm
      have e2 : eqV (.int (p : Int)) (.int (m : Int)) = false := by simp [eqV]; omega
      rw [e2]
      simp [c']
theorem ne_tst {m : Int} {p : Nat → Bool} (hp : ∀ x : Nat, p x = !decide (V.int (x : Int) = V.int m)) {i : Nat} {σ : L2.St} (x : Nat) (H : Hp) (Kt : Bool → Hp → Prop) (e : σ[i]? = some (some (.int (x : Int)))) (h : Kt (p x) H) : tTest (tOp rNe (tVar i) (tC (V.int m))) σ H Kt := by
  refine ⟨_, e, rfl, _, rfl, ?_⟩
  rw [hp x] at h
  exact h
theorem ne_dec (m x : Nat) : decide (x ≠ m) = !decide (V.int (x : Int) = V.int (m : Int)) := by
  by_cases c : x = m
  · subst c; simp
  · rw [decide_eq_true c, decide_eq_false (fun y => c (by injection y with y; omega))]; rfl
def spPlus (P : Program) (w : World) (C : Addr) (d : Kd) (out : Nat) : Sp := fun vs H Q _ => ∃ c S D tbl, ∃ (L : Addr) (ps : List Nat), vs = [.ref c, .ref L] ∧ Circ P w C H c S D tbl ∧ tbl.length < 1000 ∧ (H L = some (.lst (nV ps)) ∨ H L = some (.tup (nV ps))) ∧ ps.length ≤ 1000 ∧
  (out = 1 → 0 ∈ ps → Q (.int 0) H) ∧
  ((out = 1 → ¬ 0 ∈ ps) → ∀ H', FrC S D H H' → Circ P w C H' c S D (sevN tbl d (ps.filter fun n => decide (n ≠ out))).1 → Q (.int ((sevN tbl d (ps.filter fun n => decide (n ≠ out))).2 : Nat)) H')
theorem ok_Circuits_plus (m_several : MetX P w K mg base 3 ad.Circuits "_several" (spSev P w ad.Circuits)) {f : Addr} {fd : FuncData} (F : Fun K "plus" "Circuits.plus" s_Circuits_plus f fd) (T : Txt K mg ad) : FnOk P w K mg base (L2.CX P w) 4 f fd ["self", "nodes"] (spPlus P w ad.Circuits .plus 0) := by
  refine F.okX sc_Circuits_plus (fun vs H Q E => ?_) (fun cdv A outer s H vs Q E hr h => ?_)
  · walk_at "len"
  ·
    obtain ⟨c, S, D, tbl, L, ps, rfl, cc, hl, hL, hps, _, k⟩ := h
    refine ⟨_, (pss_one (ps_ret (pd_meth hr (takes_of rfl rfl rfl rfl) (pv 0) (pa_cons pe_str (pa_cons (pe_lc (own := [("node", 2)]) rfl sc_Circuits_plus.nd (ND.pi_seq (pv 1)) (blkOk_by (by kernel_rfl)) (fun _ _ _ _ _ => (pg_name (i := 2) sc_Circuits_plus.nd rfl (by first | exact Or.inl rfl | exact Or.inr rfl))) (fun _ _ _ _ _ => (pts_one (pt_cmpR op_ne (pv 2) (pe_gint (by rfl) T.g_ZERO) (nomark _)))) (fun _ _ _ _ _ => (pv 2))) (pa_cons (pe_gint (by rfl) T.g_ZERO) pa_nil)))))), ?_⟩
    obtain ⟨dx, hc⟩ := cc.ins
    refine ⟨_, rfl, c, _, dx, _, 3, _, rfl, hc, fC_no _ _ (by decide) (by decide), by decide, m_several, ?_⟩
    have fin : ∀ D' H', Same H H' → H' D' = some (.lst (nV (ps.filter fun n => decide (n ≠ 0)))) →
        spSev P w ad.Circuits [.ref c, .str "plus", .ref D', .int 0] H' Q (WE (fun cls d x H => E cls d H) (L2.start ["self", "nodes", "node"] [.ref c, .ref L])) := fun D' H' s' e =>
      ⟨c, S, D, tbl, .plus, D', _, rfl, cc.same s', hl, e, Nat.le_trans (List.length_filter_le _ _) hps, fun H2 fr c' => k (fun z => nomatch z) H2 ((FrC.of s').trans fr) c'⟩
    rcases hL with hL | hL
    · refine ⟨_, rfl, L, _, rfl, .inl ⟨SqL.of hL, fun D' hD => ?_⟩⟩
      exact lc_filL (fun n => decide (n ≠ 0)) hD hL (by omega) (fun _ => rfl) (fun x H Kt _ h => ne_tst (m := 0) (ne_dec 0) x H Kt rfl h) (fun x H Kt h => ⟨_, rfl, h⟩) (fun H' s' e => fin D' H' s' e)
    · refine ⟨_, rfl, L, _, rfl, .inr ⟨SqT.of hL, fun D' hD => ?_⟩⟩
      exact lc_filT (fun n => decide (n ≠ 0)) hD hL (by omega) (fun _ => rfl) (fun x H Kt _ h => ne_tst (m := 0) (ne_dec 0) x H Kt rfl h) (fun x H Kt h => ⟨_, rfl, h⟩) (fun H' s' e => fin D' H' s' e)
theorem ok_Circuits_times (m_several : MetX P w K mg base 3 ad.Circuits "_several" (spSev P w ad.Circuits)) {f : Addr} {fd : FuncData} (F : Fun K "times" "Circuits.times" s_Circuits_times f fd) (T : Txt K mg ad) : FnOk P w K mg base (L2.CX P w) 4 f fd ["self", "nodes"] (spPlus P w ad.Circuits .times 1) := by
  refine F.okX sc_Circuits_times (fun vs H Q E => ?_) (fun cdv A outer s H vs Q E hr h => ?_)
  · walk_at "len"
  ·
    obtain ⟨c, S, D, tbl, L, ps, rfl, cc, hl, hL, hps, k0, k⟩ := h
    refine ⟨_, (pss_cons (ps_if (pt_cmpR op_in_seq (pe_gint (by rfl) T.g_ZERO) (pv 1) (by rfl)) (pss_one (ps_ret (pe_gint (by rfl) T.g_ZERO))) pss_nil)
      (pss_one (ps_ret (pd_meth hr (takes_of rfl rfl rfl rfl) (pv 0) (pa_cons pe_str (pa_cons (pe_lc (own := [("node", 2)]) rfl sc_Circuits_times.nd (ND.pi_seq (pv 1)) (blkOk_by (by kernel_rfl)) (fun _ _ _ _ _ => (pg_name (i := 2) sc_Circuits_times.nd rfl (by first | exact Or.inl rfl | exact Or.inr rfl))) (fun _ _ _ _ _ => (pts_one (pt_cmpR op_ne (pv 2) (pe_gint (by rfl) T.g_ONE) (nomark _)))) (fun _ _ _ _ _ => (pv 2))) (pa_cons (pe_gint (by rfl) T.g_ONE) pa_nil))))))), ?_⟩
    obtain ⟨dx, hc⟩ := cc.ins
    refine ⟨.ref L, rfl, L, nV ps, rfl, ?_, rfl, nV_flat ps, _, rfl, ?_⟩
    · rcases hL with hL | hL
      · exact .inl (SqL.of hL)
      · exact .inr (SqT.of hL)
    have hin : (if false = true then !inV (.int 0) (nV ps) else inV (.int 0) (nV ps)) = decide (0 ∈ ps) := inV_nV 0 ps
    rw [hin]
    by_cases z : 0 ∈ ps
    · rw [decide_eq_true z]
      exact iteT (k0 rfl z)
    rw [decide_eq_false z]
    refine iteF ?_
    refine ⟨_, rfl, c, _, dx, _, 3, _, rfl, hc, fC_no _ _ (by decide) (by decide), by decide, m_several, ?_⟩
    have fin : ∀ D' H', Same H H' → H' D' = some (.lst (nV (ps.filter fun n => decide (n ≠ 1)))) →
        spSev P w ad.Circuits [.ref c, .str "times", .ref D', .int 1] H' Q (WE (fun cls d x H => E cls d H) (L2.start ["self", "nodes", "node"] [.ref c, .ref L])) := fun D' H' s' e =>
      ⟨c, S, D, tbl, .times, D', _, rfl, cc.same s', hl, e, Nat.le_trans (List.length_filter_le _ _) hps, fun H2 fr c' => k (fun _ => z) H2 ((FrC.of s').trans fr) c'⟩
    rcases hL with hL | hL
    · refine ⟨_, rfl, L, _, rfl, .inl ⟨SqL.of hL, fun D' hD => ?_⟩⟩
      exact lc_filL (fun n => decide (n ≠ 1)) hD hL (by omega) (fun _ => rfl) (fun x H Kt _ h => ne_tst (m := 1) (ne_dec 1) x H Kt rfl h) (fun x H Kt h => ⟨_, rfl, h⟩) (fun H' s' e => fin D' H' s' e)
    · refine ⟨_, rfl, L, _, rfl, .inr ⟨SqT.of hL, fun D' hD => ?_⟩⟩
      exact lc_filT (fun n => decide (n ≠ 1)) hD hL (by omega) (fun _ => rfl) (fun x H Kt _ h => ne_tst (m := 1) (ne_dec 1) x H Kt rfl h) (fun x H Kt h => ⟨_, rfl, h⟩) (fun H' s' e => fin D' H' s' e)
end
end K34

set_option Elab.async false
set_option linter.all false
set_option maxRecDepth 100000
set_option maxHeartbeats 4000000
namespace K34
open PySem L2 Ew Tb GxR ND
local macro_rules | `(tactic| walk_at "len") => `(tactic| first | (intro h; obtain ⟨_, e, _⟩ := h; rw [e]; rfl) | (intro h; obtain ⟨_, _, e, _⟩ := h; rw [e]; rfl) | (intro h; obtain ⟨_, _, _, e, _⟩ := h; rw [e]; rfl) | (intro h; obtain ⟨_, _, _, _, e, _⟩ := h; rw [e]; rfl) | (intro h; obtain ⟨_, _, _, _, _, e, _⟩ := h; rw [e]; rfl) | (intro h; obtain ⟨_, _, _, _, _, _, e, _⟩ := h; rw [e]; rfl) | (intro h; obtain ⟨_, _, _, _, _, _, _, e, _⟩ := h; rw [e]; rfl) | (intro h; obtain ⟨_, _, _, _, _, _, _, _, e, _⟩ := h; rw [e]; rfl) | (intro h; obtain ⟨_, _, _, _, _, _, _, _, _, e, _⟩ := h; rw [e]; rfl) | (intro h; obtain ⟨_, _, _, _, _, _, _, _, _, _, e, _⟩ := h; rw [e]; rfl) | (intro h; obtain ⟨_, _, _, _, _, _, _, _, _, _, _, e, _⟩ := h; rw [e]; rfl) | (intro h; obtain ⟨_, _, _, _, _, _, _, _, _, _, _, _, e, _⟩ := h; rw [e]; rfl) | (intro h; obtain ⟨_, _, _, _, _, _, _, _, _, _, _, _, _, e, _⟩ := h; rw [e]; rfl))
section
variable {P : Program} {w : World} {K : PySem.W.Frag} {mg : Str → Option Value} {base : Heap} {ad : Ad}
/-! ### a node's tuple, its parts -/
def Nd.parts : Nd → List Nat
  | .star n => [n]
  | .plus ps => ps
  | .times ps => ps
  | _ => []
def Nd.vals (l : Addr) : Nd → List V
  | .zero => [.str "zero"]
  | .one => [.str "one"]
  | .fact k => [.str "fact", .int (k : Int)]
  | .star n => [.str "star", .int (n : Int)]
  | .plus _ => [.str "plus", .ref l]
  | .times _ => [.str "times", .ref l]
def Nd.inner (H : Hp) (l : Addr) : Nd → Prop
  | .plus ps => H l = some (.tup (nV ps))
  | .times ps => H l = some (.tup (nV ps))
  | _ => True
theorem kys_nums {H : Hp} : ∀ {ns : List Nat} {xs : List V}, Kys H (nums ns) xs → xs = nV ns
  | [], _, h => by cases h; rfl
  | n :: ns, _, h => by
    cases h with
    | cons a r =>
      cases a
      rw [kys_nums (ns := ns) r]
      rfl
theorem kys_in {H : Hp} {z : Str} {ps : List Nat} {xs : List V} (h : Kys H [.text z, .tup (nums ps)] xs) : ∃ l, xs = [.str z, .ref l] ∧ H l = some (.tup (nV ps)) := by
  cases h with
  | cons a r =>
    cases a
    cases r with
    | cons b r2 =>
      cases r2
      cases b with
      | tup e q => exact ⟨_, rfl, by rw [e, kys_nums q]⟩
theorem kys_num {H : Hp} {z : Str} {n : Int} {xs : List V} (h : Kys H [.text z, .num n] xs) : xs = [.str z, .int n] := by
  cases h with
  | cons a r =>
    cases a
    cases r with
    | cons b r2 =>
      cases r2
      cases b
      rfl
theorem kys_one {H : Hp} {z : Str} {xs : List V} (h : Kys H [.text z] xs) : xs = [.str z] := by
  cases h with
  | cons a r =>
    cases a
    cases r
    rfl
theorem NdAt.inv {H : Hp} {a : Addr} {nd : Nd} (h : NdAt H a nd) : ∃ l, H a = some (.tup (nd.vals l)) ∧ nd.inner H l := by
  cases h with
  | tup e q =>
    cases nd with
    | zero => exact ⟨0, by rw [e, kys_one q]; rfl, True.intro⟩
    | one => exact ⟨0, by rw [e, kys_one q]; rfl, True.intro⟩
    | fact k => exact ⟨0, by rw [e, kys_num q]; rfl, True.intro⟩
    | star n => exact ⟨0, by rw [e, kys_num q]; rfl, True.intro⟩
    | plus ps =>
      obtain ⟨l, rfl, e2⟩ := kys_in q
      exact ⟨l, e, e2⟩
    | times ps =>
      obtain ⟨l, rfl, e2⟩ := kys_in q
      exact ⟨l, e, e2⟩
def spParts : Sp := fun vs H Q _ => ∃ a nd, vs = [.ref a] ∧ NdAt H a nd ∧ ∀ H' l, Same H H' → H' l = some (.tup (nV nd.parts)) → Q (.ref l) H'
theorem ok_parts  {f : Addr} {fd : FuncData} (F : Fun K "_parts" "_parts" s_parts f fd) (T : Txt K mg ad) : FnOk P w K mg base (L2.CX P w) 1 f fd ["shown"] (spParts) := by
  refine F.okX sc_parts (fun vs H Q E => ?_) (fun cdv A outer s H vs Q E hr h => ?_)
  · walk_at "len"
  ·
    obtain ⟨a, nd, rfl, ha, k⟩ := h
    refine ⟨_, (pss_cons (ps_if (pt_cmpR op_eq (pe_ix ix_tup (pv 0) pe_int (fun _ _ => rfl)) pe_str (nomark _)) (pss_one (ps_ret (pe_tup (pa_cons (pe_ix ix_tup (pv 0) pe_int (fun _ _ => rfl)) pa_nil)))) pss_nil)
      (pss_cons (ps_if (pt_cmpR op_in_seq (pe_ix ix_tup (pv 0) pe_int (fun _ _ => rfl)) (pe_tup (pa_cons pe_str (pa_cons pe_str pa_nil))) (by rfl)) (pss_one (ps_ret (pe_ix ix_tup (pv 0) pe_int (fun _ _ => rfl)))) pss_nil)
      (pss_one (ps_ret (pe_tup pa_nil))))), ?_⟩
    obtain ⟨l, e, hin⟩ := ha.inv
    have h0 : (nd.vals l)[0]? = some (.str (match nd with | .zero => "zero" | .one => "one" | .fact _ => "fact" | .star _ => "star" | .plus _ => "plus" | .times _ => "times" : Str)) := by cases nd <;> rfl
    refine ⟨_, rfl, a, _, _, _, rfl, rfl, SqT.of e, at_of (j := 0) rfl h0, rfl, _, rfl, ?_⟩
    cases nd with
    | star n =>
      refine iteT ⟨_, rfl, a, _, _, _, rfl, rfl, SqT.of e, at_of (j := 1) rfl rfl, (show 1 ≤ sizeLine by decide), fun p hp => ?_⟩
      exact k _ p (same_new (Same.refl _) hp) upd_same
    | plus ps =>
      refine iteF (go_next ⟨_, rfl, a, _, _, _, rfl, rfl, SqT.of e, at_of (j := 0) rfl h0, (show 2 ≤ sizeLine by decide), fun p hp => ?_⟩)
      have s1 := same_new (o := .tup [.str "plus", .str "times"]) (Same.refl H) hp
      refine ⟨p, _, rfl, .inr (SqT.of upd_same), rfl, rfl, _, rfl, iteT ?_⟩
      exact ⟨_, rfl, a, _, _, _, rfl, rfl, SqT.of (s1 _ _ e), at_of (j := 1) rfl rfl, k _ l s1 (s1 _ _ hin)⟩
    | times ps =>
      refine iteF (go_next ⟨_, rfl, a, _, _, _, rfl, rfl, SqT.of e, at_of (j := 0) rfl h0, (show 2 ≤ sizeLine by decide), fun p hp => ?_⟩)
      have s1 := same_new (o := .tup [.str "plus", .str "times"]) (Same.refl H) hp
      refine ⟨p, _, rfl, .inr (SqT.of upd_same), rfl, rfl, _, rfl, iteT ?_⟩
      exact ⟨_, rfl, a, _, _, _, rfl, rfl, SqT.of (s1 _ _ e), at_of (j := 1) rfl rfl, k _ l s1 (s1 _ _ hin)⟩
    | _ =>
      refine iteF (go_next ⟨_, rfl, a, _, _, _, rfl, rfl, SqT.of e, at_of (j := 0) rfl h0, (show 2 ≤ sizeLine by decide), fun p hp => ?_⟩)
      have s1 := same_new (o := .tup [.str "plus", .str "times"]) (Same.refl H) hp
      refine ⟨p, _, rfl, .inr (SqT.of upd_same), rfl, rfl, _, rfl, iteF (go_next ?_)⟩
      refine ⟨(show 0 ≤ sizeLine by decide), fun p2 hp2 => ?_⟩
      exact k _ p2 (new2 s1 hp2) upd_same
end
end K34

set_option Elab.async false
set_option linter.all false
set_option maxRecDepth 100000
set_option maxHeartbeats 4000000
namespace K34
open PySem L2 Ew Tb GxR ND
local macro_rules | `(tactic| walk_at "len") => `(tactic| first | (intro h; obtain ⟨_, e, _⟩ := h; rw [e]; rfl) | (intro h; obtain ⟨_, _, e, _⟩ := h; rw [e]; rfl) | (intro h; obtain ⟨_, _, _, e, _⟩ := h; rw [e]; rfl) | (intro h; obtain ⟨_, _, _, _, e, _⟩ := h; rw [e]; rfl) | (intro h; obtain ⟨_, _, _, _, _, e, _⟩ := h; rw [e]; rfl) | (intro h; obtain ⟨_, _, _, _, _, _, e, _⟩ := h; rw [e]; rfl) | (intro h; obtain ⟨_, _, _, _, _, _, _, e, _⟩ := h; rw [e]; rfl) | (intro h; obtain ⟨_, _, _, _, _, _, _, _, e, _⟩ := h; rw [e]; rfl) | (intro h; obtain ⟨_, _, _, _, _, _, _, _, _, e, _⟩ := h; rw [e]; rfl) | (intro h; obtain ⟨_, _, _, _, _, _, _, _, _, _, e, _⟩ := h; rw [e]; rfl) | (intro h; obtain ⟨_, _, _, _, _, _, _, _, _, _, _, e, _⟩ := h; rw [e]; rfl) | (intro h; obtain ⟨_, _, _, _, _, _, _, _, _, _, _, _, e, _⟩ := h; rw [e]; rfl) | (intro h; obtain ⟨_, _, _, _, _, _, _, _, _, _, _, _, _, e, _⟩ := h; rw [e]; rfl))
section
variable {P : Program} {w : World} {K : PySem.W.Frag} {mg : Str → Option Value} {base : Heap} {ad : Ad}
/-! ### what is reached -/
def Wf (tbl : List Nd) : Prop := ∀ (i : Nat) nd, tbl[i]? = some nd → ∀ p ∈ nd.parts, p < i
inductive Rch (tbl : List Nd) (n : Nat) : Nat → Prop
  | refl : Rch tbl n n
  | step {m p : Nat} {nd : Nd} : Rch tbl n m → tbl[m]? = some nd → p ∈ nd.parts → Rch tbl n p
theorem Rch.le {tbl : List Nd} {n m : Nat} (wf : Wf tbl) (h : Rch tbl n m) : m ≤ n := by
  induction h with
  | refl => exact Nat.le_refl _
  | step _ e hp ih => have := wf _ _ e _ hp; omega
theorem Rch.in_ {tbl : List Nd} {n : Nat} {fs : List Nat} (h0 : n ∈ fs) (hc : ∀ m ∈ fs, ∀ nd, tbl[m]? = some nd → ∀ p ∈ nd.parts, p ∈ fs) : ∀ m, Rch tbl n m → m ∈ fs := fun m h => by
  induction h with
  | refl => exact h0
  | step _ e hp ih => exact hc _ ih _ e _ hp
def dlen : Option HO → Nat
  | some (.dK kvs) => kvs.length
  | _ => 0
def llen : Option HO → Nat
  | some (.lst xs) => xs.length
  | _ => 0
abbrev kvF (fs : List Nat) : List (Key × V) := fs.map fun (m : Nat) => (.inl (m : Int), .bl true)
theorem valV_F (m : Nat) : ∀ fs : List Nat, valV (kvF fs) (.inl (m : Int)) = if m ∈ fs then some (.bl true) else none
  | [] => rfl
  | f :: fs => by
    have ih := valV_F m fs
    show valV ((Sum.inl (f : Int), V.bl true) :: kvF fs) (.inl (m : Int)) = _
    by_cases c : f = m
    · subst c
      rw [valV_pos rfl, if_pos (List.mem_cons_self ..)]
    · rw [valV_neg (fun z => c (by injection z with z; omega)), ih]
      by_cases d : m ∈ fs
      · rw [if_pos d, if_pos (List.mem_cons_of_mem _ d)]
      · rw [if_neg d, if_neg (fun z => by
          rcases List.mem_cons.mp z with z | z
          · exact c z.symm
          · exact d z)]
theorem put_F {m : Nat} {fs : List Nat} (h : ¬ m ∈ fs) : putK (kvF fs) (.inl (m : Int)) (.bl true) = kvF (fs ++ [m]) := by
  rw [putK_new _ (by rw [valV_F, if_neg h]), kvF, kvF, List.map_append]
  rfl
theorem go_sq {a u : TS} {D : Ends} {σ : L2.St} {H : Hp} (h : a { D with nx := fun σ' H' => u D σ' H' } σ H) : tSeq a u D σ H := h
def Cl (tbl : List Nd) (fs : List Nat) (x : Nat) : Prop := ∀ nd, tbl[x]? = some nd → ∀ p ∈ nd.parts, p ∈ fs
structure Dfs (tbl : List Nd) (n : Nat) (F Wd : Addr) (H : Hp) (fs ws : List Nat) (H' : Hp) : Prop where
  same : Same H H'
  f : H' F = some (.dK (kvF fs))
  w : H' Wd = some (.lst (nV ws))
  nd : fs.Nodup
  n_ : n ∈ fs
  r : ∀ m ∈ fs, Rch tbl n m
  ws_ : ∀ m ∈ ws, m ∈ fs
  cl : ∀ m ∈ fs, ¬ m ∈ ws → Cl tbl fs m
  wl : ws.length ≤ fs.length
theorem sortN_perm (ns : List Nat) : (sortN ns).Perm ns := by
  have h := (PySem.W.sortI_perm (ns.map fun (n : Nat) => (n : Int))).map Int.toNat
  rw [List.map_map] at h
  have e : ns.map (Int.toNat ∘ fun (n : Nat) => (n : Int)) = ns := (List.map_congr_left fun n _ => Int.toNat_natCast n).trans (List.map_id _)
  rw [e] at h
  exact h
theorem sortN_rises (ns : List Nat) : (sortN ns).Pairwise (· ≤ ·) := by
  have h := PySem.W.sortI_rises (ns.map fun (n : Nat) => (n : Int))
  exact h.map Int.toNat fun a b hab => by omega
section
variable {X : Cx}
def rNotD : R2 := fun y x H Q => ∃ a o, x = .ref a ∧ DGet H a y o ∧ Q (.bl (!o.isSome)) H
theorem op_notD (hu : X.A.units + 1 < cLine) : OpR X (compareOp .NotIn) rNotD := by
  intro pins s σ H y x u v Q I ry rx h
  obtain ⟨a, o, rfl, g, q⟩ := h
  cases rx
  exact d_notIn hu I g ry fun s3 I3 => ⟨.bl (!o.isSome), H, I3, rfl, q⟩
end
theorem dc_list {K : PySem.W.Frag} {a : Addr} {xs : List V} {g : TG} {tt : TT} {tk tv : TE} {vs : List Nat} {σ : L2.St} {H1 : Hp} {D : Addr} {Qd : Hp → Prop} (Pv : Nat → Hp → Prop) (h0 : Pv 0 (upd H1 D (.dK []))) (hl : ∀ i H, i ≤ xs.length → Pv i H → SqL K H a xs)
    (hs : ∀ i x H, xs[i]? = some x → Pv i H → g x (wipe σ vs) H fun σ2 H2 => wipe σ2 vs = wipe σ vs ∧ tt σ2 H2 fun b H3 =>
      if b = true then tk σ2 H3 fun y H4 => tv σ2 H4 fun z H5 => ∃ kvs k, y = kV k ∧ H5 D = some (.dK kvs) ∧ kvs.length < sizeLine ∧ Pv (i + 1) (upd H5 D (.dK (putK kvs k z))) else Pv (i + 1) H3) (hd : ∀ H, Pv xs.length H → Qd H) :
    ∃ W : Nat → Nat → Hp → Prop, (∃ m, W 0 m (upd H1 D (.dK []))) ∧ ∀ i m H, W i m H →
      ((Itl K a).stop i H ∧ Qd H) ∨ ((Itl K a).go i H ∧ ∃ Nx : Hp → Prop, (∀ H', Nx H' → ∃ m', m' < m ∧ W (i + 1) m' H') ∧ ∀ x H', (Itl K a).yld i H x H' → g x (wipe σ vs) H' fun σ2 H2 => wipe σ2 vs = wipe σ vs ∧ tt σ2 H2 fun b H3 =>
        if b = true then tk σ2 H3 fun y H4 => tv σ2 H4 fun z H5 => ∃ kvs k, y = kV k ∧ H5 D = some (.dK kvs) ∧ kvs.length < sizeLine ∧ Nx (upd H5 D (.dK (putK kvs k z))) else Nx H3) := by
  refine ⟨fun i m H => m = xs.length - i ∧ i ≤ xs.length ∧ Pv i H, ⟨xs.length, by simp, Nat.zero_le _, h0⟩, ?_⟩
  rintro i m H ⟨rfl, hi, p⟩
  have q := hl i H hi p
  by_cases hlt : i < xs.length
  · refine .inr ⟨⟨xs, xs[i], q, by simp [hlt]⟩, Pv (i + 1), fun H' p' => ⟨xs.length - (i + 1), by omega, rfl, hlt, p'⟩, fun x H' y => ?_⟩
    obtain ⟨e, y⟩ := y
    subst e
    exact hs i x _ (y xs q) p
  · have e : i = xs.length := by omega
    subst e
    exact .inl ⟨⟨xs, q, Nat.le_refl _⟩, hd H p⟩
def spWithin (P : Program) (w : World) (C : Addr) : Sp := fun vs H Q _ => ∃ c S D tbl, ∃ (L : Addr) (n : Nat), vs = [.ref c, .ref L] ∧ Circ P w C H c S D tbl ∧ Wf tbl ∧ tbl.length < 64 ∧ n < tbl.length ∧ H L = some (.lst [.int (n : Int)]) ∧
  ∀ H' l ys, Same H H' → H' l = some (.lst (nV ys)) → ys.Nodup → ys.Pairwise (· ≤ ·) → (∀ m, m ∈ ys ↔ Rch tbl n m) → Q (.ref l) H'
theorem ok_nodes_within (c_parts : CalX P w K mg base 1 "_parts" spParts) (m_shown : MetX P w K mg base 1 ad.Circuits "shown" (spShown P w ad.Circuits)) {f : Addr} {fd : FuncData} (F : Fun K "nodes_within" "nodes_within" s_nodes_within f fd) (T : Txt K mg ad) : FnOk P w K mg base (L2.CX P w) 2 f fd ["circuits", "nodes"] (spWithin P w ad.Circuits) := by
  refine F.okX sc_nodes_within (fun vs H Q E => ?_) (fun cdv A outer s H vs Q E hr h => ?_)
  · walk_at "len"
  ·
    obtain ⟨c, S, D, tbl, L, n, rfl, cc, wf, hl, hn, hL, k⟩ := h
    refine ⟨_, (pss_cons (DCx.ps_setDc (i := 2) (own := [("node", 4)]) (tt := tYes) rfl sc_nodes_within.nd rfl rfl (DCx.swd_true rfl rfl rfl (by decide +kernel)) (pi_list (pv 1)) (blkOk_by (by kernel_rfl)) (fun _ _ _ _ _ => (pg_name (i := 4) sc_nodes_within.nd rfl (by first | exact Or.inl rfl | exact Or.inr rfl))) (fun _ _ _ _ _ => pts_nil) (fun _ _ _ _ _ => (pv 4)) (fun _ _ _ _ _ => pe_bl))
      (pss_cons (ps_set (i := 3) sc_nodes_within.nd rfl (by first | exact Or.inl rfl | exact Or.inr rfl) (pe_callTy (call_listD rfl) (by rfl) T.z_list (by decide +kernel) (pa_cons (pv 2) pa_nil)))
      (pss_cons (ps_while (passes_of rfl) (pt_truth (pv 3) (by intro _; rfl)) (pss_cons (ps_set (i := 4) sc_nodes_within.nd rfl (by first | exact Or.inl rfl | exact Or.inr rfl) (pe_bm0 PySem.F.plainAttrs_list PySem.F.slot_list_pop PySem.F.type_list_pop mt_pop (pv 3)))
      (pss_one (ps_for (passes_of rfl) rfl (pi_tup (pc_call c_parts hr (by first | decide | omega) (takes_of rfl rfl rfl rfl) (by rfl) (pa_cons (pd_meth hr (takes_of rfl rfl rfl rfl) (pv 0) (pa_cons (pv 4) pa_nil)) pa_nil))) (pg_name (i := 5) sc_nodes_within.nd rfl (by first | exact Or.inl rfl | exact Or.inr rfl)) (pss_one (ps_if (pt_cmpR (op_notD (hu_of hr)) (pv 5) (pv 2) (by rfl)) (pss_cons (ps_dput (hu_of hr) (pv 2) (pv 5) pe_bl rfl)
      (pss_one (ps_expr (pe_bm PySem.F.plainAttrs_list PySem.F.slot_list_append PySem.F.type_list_append mt_append (pv 3) (pa_cons (pv 5) pa_nil))))) pss_nil))))))
      (pss_one (ps_ret (pe_callB (call_sortedDI rfl) (by rfl) T.z_sorted (by decide +kernel) (pa_cons (pv 2) pa_nil))))))), ?_⟩
    obtain ⟨dx, hc⟩ := cc.ins
    have lenB : ∀ {fs : List Nat}, fs.Nodup → (∀ m ∈ fs, Rch tbl n m) → fs.length ≤ tbl.length := fun hnd hr => by
      have h1 := hnd.length_le_of_subset (l₂ := List.range tbl.length) fun m hm => List.mem_range.mpr (Nat.lt_of_le_of_lt ((hr m hm).le wf) hn)
      rwa [List.length_range] at h1
    refine ⟨_, rfl, L, rfl, ⟨_, SqL.of hL⟩, fun F hF => ?_⟩
    refine dc_list (xs := [.int (n : Int)]) (fun i H' => Same H H' ∧ H' F = some (.dK (kvF (([n] : List Nat).take i)))) ⟨same_new (Same.refl _) hF, upd_same⟩ (fun i H' _ ⟨s', _⟩ => SqL.of (s' _ _ hL)) (fun i x H' hx ⟨s', e⟩ => ?_) (fun H1 ⟨s1, e1⟩ => ?_)
    · obtain rfl : i = 0 := by
        rcases i with _ | i
        · rfl
        · simp at hx
      obtain rfl : V.int (n : Int) = x := by simpa using hx
      refine ⟨rfl, yes_then (iteT ⟨_, rfl, [], .inl (n : Int), rfl, e, (show 0 < sizeLine by decide), ?_, ?_⟩)⟩
      · exact same_but hF s' fun b o nb e => by rw [upd_ne nb]; exact e
      · rw [upd_same]; rfl
    · refine go_name rfl (go_nx (go_seq ⟨_, rfl, F, _, rfl, .inl e1, fun Wd hW => go_name rfl ?_⟩))
      have nFW : F ≠ Wd := ne_of_none e1 hW
      have hWH : H Wd = none := by
        cases h : H Wd with
        | none => rfl
        | some u => have := s1 _ _ h; rw [hW] at this; cases this
      refine go_sq ?_
      refine while_by (fun σ H' => ∃ (fs ws : List Nat) (vn vp : Option V), σ = [some (.ref c), some (.ref L), some (.ref F), some (.ref Wd), vn, vp] ∧ Dfs tbl n F Wd H fs ws H')
        (fun _ H' => 2 * (tbl.length - dlen (H' F)) + llen (H' Wd)) ⟨[n], [n], none, none, rfl, ?_⟩ ?_ (fun σ H Q Q' hq ⟨v, e, k, t, q⟩ => ⟨v, e, k, t, hq _ _ q⟩)
      · refine ⟨new2 s1 hW, by (rw [upd_ne nFW]; exact e1), upd_same, by simp, by simp, ?_, fun m h => h, fun m h h' => absurd h h', Nat.le_refl _⟩
        intro m h
        rw [List.mem_singleton.mp h]
        exact .refl
      · rintro σ H' ⟨fs, ws, vn, vp, rfl, dd⟩
        refine ⟨_, rfl, _, .inl ⟨_, SqL.of dd.w, rfl⟩, ?_⟩
        rcases List.eq_nil_or_concat ws with rfl | ⟨ws0, m, rfl⟩
        · refine iteF (go_nx ?_)
          refine ⟨_, rfl, F, kvF fs, fs.map (fun (m : Nat) => (m : Int)), rfl, .inl dd.f, by (rw [List.map_map, List.map_map]; rfl), ?_, fun ys q hp hs hq => ?_⟩
          · rw [List.length_map]
            exact Nat.lt_of_le_of_lt (lenB dd.nd dd.r) hl
          · rw [sortN_of hp hs, int_map]
            exact k _ q (sortN fs) (new2 dd.same hq) upd_same ((sortN_perm fs).nodup_iff.mpr dd.nd) (sortN_rises fs) fun m => ((sortN_perm fs).mem_iff).trans ⟨dd.r m, Rch.in_ dd.n_ (fun x hx => dd.cl x hx (fun z => nomatch z)) m⟩
        · have hm : m ∈ fs := dd.ws_ m (by simp)
          have wl := dd.wl
          rw [List.concat_eq_append, List.length_append, List.length_singleton] at wl
          have hml : m < tbl.length := Nat.lt_of_le_of_lt ((dd.r m hm).le wf) hn
          have hnd : tbl[m]? = some tbl[m] := List.getElem?_eq_getElem hml
          have e0 : nV (ws0.concat m) = nV ws0 ++ [V.int (m : Int)] := by
            rw [List.concat_eq_append]
            unfold nV
            rw [List.map_append]
            rfl
          rw [show (!(nV (ws0.concat m)).isEmpty) = true by rw [e0]; simp]
          refine iteT ?_
          refine go_seq ⟨_, rfl, .inl ⟨rfl, _, SqL.of dd.w⟩, Wd, _, .int (m : Int), rfl, rfl, dd.w, (by rw [e0]; simp), go_name rfl ?_⟩
          rw [e0, List.dropLast_concat]
          have s1 : Same H (upd H' Wd (.lst (nV ws0))) := same_but hWH dd.same fun b o nb e => by rw [upd_ne nb]; exact e
          have cc1 := cc.same s1
          have hc1 := s1 _ _ hc
          refine ⟨_, rfl, c, _, dx, _, 1, _, rfl, hc1, fC_no _ _ (by decide) (by decide), by decide, m_shown, _, rfl, c, S, D, tbl, m, _, rfl, cc1, hnd, fun a ha => ⟨a, _, rfl, ha, fun H2 l s2 e2 => ?_⟩⟩
          refine ⟨l, rfl, ⟨_, SqT.of e2⟩, ?_⟩
          refine for_tup (xs := nV tbl[m].parts) (fun i σ H3 => ∃ (fs' ws' : List Nat) (vp : Option V), σ = [some (.ref c), some (.ref L), some (.ref F), some (.ref Wd), some (.int (m : Int)), vp] ∧ Same H H3 ∧ H3 l = some (.tup (nV tbl[m].parts)) ∧
              H3 F = some (.dK (kvF fs')) ∧ H3 Wd = some (.lst (nV ws')) ∧ fs'.Nodup ∧ n ∈ fs' ∧ (∀ m ∈ fs', Rch tbl n m) ∧ (∀ m ∈ ws', m ∈ fs') ∧ (∀ x ∈ fs', ¬ x ∈ ws' → x = m ∨ Cl tbl fs' x) ∧ m ∈ fs' ∧
              (∀ (j p : Nat), j < i → tbl[m].parts[j]? = some p → p ∈ fs') ∧ ws'.length + fs.length = ws0.length + fs'.length ∧ fs.length ≤ fs'.length)
            ⟨fs, ws0, vp, rfl, ?_⟩ (fun i σ H3 _ ⟨_, _, _, _, _, e, _⟩ => SqT.of e) ?_ ?_
          · refine ⟨fun b u e => s2 _ _ (s1 _ _ e), e2, s2 _ _ (by rw [upd_ne nFW]; exact dd.f), s2 _ _ upd_same, dd.nd, dd.n_, dd.r, fun x hx => dd.ws_ x (by simp [hx]), fun x hx nx => ?_, hm, fun j p hj => by omega, by omega, Nat.le_refl _⟩
            by_cases z : x = m
            · exact .inl z
            · exact .inr (dd.cl x hx (by simp [nx, z]))
          · rintro i x σ H3 hx ⟨fs', ws', vp', rfl, s3, e3, f3, w3, nd3, n3, r3, ws3, cl3, m3, p3, l3, le3⟩
            rw [List.getElem?_map] at hx
            obtain ⟨q, hq, rfl⟩ := Option.map_eq_some_iff.mp hx
            refine go_name rfl ?_
            refine ⟨_, rfl, _, rfl, F, _, rfl, DGet.k (k := .inl (q : Int)) f3, ?_⟩
            rw [valV_F]
            by_cases hin : q ∈ fs'
            · rw [if_pos hin]
              refine ⟨_, rfl, iteF ?_⟩
              refine go_nx ⟨fs', ws', _, rfl, s3, e3, f3, w3, nd3, n3, r3, ws3, cl3, m3, fun j p hj hp => ?_, l3, le3⟩
              by_cases z : j = i
              · subst z
                rw [hq] at hp
                cases hp
                exact hin
              · exact p3 j p (by omega) hp
            · rw [if_neg hin]
              refine ⟨_, rfl, iteT ?_⟩
              have lb3 := lenB nd3 r3
              refine ⟨_, rfl, _, rfl, F, _, rfl, DPut.k (k := .inl (q : Int)) f3 (by (show (kvF fs').length < sizeLine); rw [List.length_map]; exact Nat.lt_of_le_of_lt (by omega : fs'.length ≤ 64) (by decide)), ?_⟩
              rw [put_F hin]
              have wA : upd H3 F (.dK (kvF (fs' ++ [q]))) Wd = some (.lst (nV ws')) := by rw [upd_ne (Ne.symm nFW)]; exact w3
              have llb : ws'.length ≤ 200 := by
                have := lenB dd.nd dd.r
                omega
              have eW : nV ws' ++ [V.int (q : Int)] = nV (ws' ++ [q]) := by
                unfold nV
                rw [List.map_append]
                rfl
              have sF : Same H (upd H3 F (.dK (kvF (fs' ++ [q])))) := same_but hF s3 fun b o nb e => by rw [upd_ne nb]; exact e
              refine go_nx ⟨_, rfl, .inl ⟨rfl, _, SqL.of wA⟩, _, rfl, Wd, _, _, rfl, rfl, wA, (by rw [List.length_map]; exact Nat.lt_of_le_of_lt llb (by decide)), ?_⟩
              rw [eW]
              have nlF : l ≠ F := ne_of e3 f3 (fun z => nomatch z)
              have nlW : l ≠ Wd := ne_of e3 w3 (fun z => nomatch z)
              refine go_nx ⟨fs' ++ [q], ws' ++ [q], _, rfl, ?_, ?_, ?_, upd_same, ?_, List.mem_append_left _ n3, ?_, ?_, ?_, List.mem_append_left _ m3, ?_, ?_, ?_⟩
              · exact same_but hWH sF fun b o nb e => by rw [upd_ne nb]; exact e
              · rw [upd_ne nlW, upd_ne nlF]; exact e3
              · rw [upd_ne nFW, upd_same]
              · exact List.nodup_append.mpr ⟨nd3, by simp, fun a ha b hb z => hin (by rw [List.mem_singleton.mp hb] at z; rw [← z]; exact ha)⟩
              · intro x hx
                rcases List.mem_append.mp hx with h | h
                · exact r3 x h
                · rw [List.mem_singleton.mp h]
                  exact .step (dd.r m hm) hnd (List.mem_of_getElem? hq)
              · intro x hx
                rcases List.mem_append.mp hx with h | h
                · exact List.mem_append_left _ (ws3 x h)
                · exact List.mem_append_right _ h
              · intro x hx nx
                rcases List.mem_append.mp hx with h | h
                · rcases cl3 x h (fun z => nx (List.mem_append_left _ z)) with z | z
                  · exact .inl z
                  · exact .inr fun nd e p hp => List.mem_append_left _ (z nd e p hp)
                · exact absurd (List.mem_append_right _ h) nx
              · intro j p hj hp
                by_cases z : j = i
                · subst z
                  rw [hq] at hp
                  cases hp
                  simp
                · exact List.mem_append_left _ (p3 j p (by omega) hp)
              · rw [List.length_append, List.length_append, List.length_singleton]
                omega
              · rw [List.length_append]
                omega
          · rintro σ H3 ⟨fs', ws', vp', rfl, s3, e3, f3, w3, nd3, n3, r3, ws3, cl3, m3, p3, l3, le3⟩
            refine ⟨⟨fs', ws', _, _, rfl, ⟨s3, f3, w3, nd3, n3, r3, ws3, fun x hx nx => ?_, by omega⟩⟩, ?_⟩
            · rcases cl3 x hx nx with z | z
              · subst z
                intro nd e p hp
                rw [hnd] at e
                cases e
                obtain ⟨j, hj⟩ := List.mem_iff_getElem?.mp hp
                have hjl : j < tbl[x].parts.length := by
                  rcases Nat.lt_or_ge j tbl[x].parts.length with h | h
                  · exact h
                  · rw [List.getElem?_eq_none h] at hj; cases hj
                exact p3 j p (by rw [List.length_map]; exact hjl) hj
              · exact z
            · have lb3 := lenB nd3 r3
              have lb := lenB dd.nd dd.r
              show 2 * (tbl.length - dlen (H3 F)) + llen (H3 Wd) < 2 * (tbl.length - dlen (H' F)) + llen (H' Wd)
              rw [f3, w3, dd.f, dd.w, e0]
              simp only [dlen, llen, List.length_map, List.length_append, List.length_singleton]
              omega
end
end K34

set_option Elab.async false
set_option linter.all false
set_option maxRecDepth 100000
set_option maxHeartbeats 4000000
namespace K34
open PySem L2 Ew Tb GxR ND
local macro_rules | `(tactic| walk_at "len") => `(tactic| first | (intro h; obtain ⟨_, e, _⟩ := h; rw [e]; rfl) | (intro h; obtain ⟨_, _, e, _⟩ := h; rw [e]; rfl) | (intro h; obtain ⟨_, _, _, e, _⟩ := h; rw [e]; rfl) | (intro h; obtain ⟨_, _, _, _, e, _⟩ := h; rw [e]; rfl) | (intro h; obtain ⟨_, _, _, _, _, e, _⟩ := h; rw [e]; rfl) | (intro h; obtain ⟨_, _, _, _, _, _, e, _⟩ := h; rw [e]; rfl) | (intro h; obtain ⟨_, _, _, _, _, _, _, e, _⟩ := h; rw [e]; rfl) | (intro h; obtain ⟨_, _, _, _, _, _, _, _, e, _⟩ := h; rw [e]; rfl) | (intro h; obtain ⟨_, _, _, _, _, _, _, _, _, e, _⟩ := h; rw [e]; rfl) | (intro h; obtain ⟨_, _, _, _, _, _, _, _, _, _, e, _⟩ := h; rw [e]; rfl) | (intro h; obtain ⟨_, _, _, _, _, _, _, _, _, _, _, e, _⟩ := h; rw [e]; rfl) | (intro h; obtain ⟨_, _, _, _, _, _, _, _, _, _, _, _, e, _⟩ := h; rw [e]; rfl) | (intro h; obtain ⟨_, _, _, _, _, _, _, _, _, _, _, _, _, e, _⟩ := h; rw [e]; rfl))
section
variable {P : Program} {w : World} {K : PySem.W.Frag} {mg : Str → Option Value} {base : Heap} {ad : Ad}
/-! ### a new store -/
theorem two_kv (a b : Addr) : kvOf (mergeE [] [(tK .zero, a, .int 0), (tK .one, b, .int 1)]) = kvT 0 [.zero, .one] := by
  rw [kv_merge]
  have n1 : ¬ (tK .zero = tK .one) := fun z => nomatch (tK_inj z)
  show putK (putK [] (tK .zero) (V.int 0)) (tK .one) (V.int 1) = _
  rw [putK_new (kvs := []) _ rfl, putK_new _ (by rw [List.nil_append, valV_neg n1]; rfl)]
  rfl
/-- all but what stands at c is as it was -/
def Fr1' (a : Addr) (H H' : Hp) : Prop := ∀ b o, b ≠ a → H b = some o → H' b = some o
def spInit (P : Program) (w : World) (C : Addr) : Sp := fun vs H Q _ => ∃ c dc, vs = [.ref c] ∧ H c = some (.ins C dc []) ∧
  ∀ H' S D, Fr1' c H H' → H S = none → H D = none → Circ P w C H' c S D [.zero, .one] → Q .non H'
theorem ok_Circuits_init  {f : Addr} {fd : FuncData} (F : Fun K "__init__" "Circuits.__init__" s_Circuits_init f fd) (T : Txt K mg ad) : FnOk P w K mg base (L2.CX P w) 1 f fd ["self"] (spInit P w ad.Circuits) := by
  refine F.okX sc_Circuits_init (fun vs H Q E => ?_) (fun cdv A outer s H vs Q E hr h => ?_)
  · walk_at "len"
  ·
    obtain ⟨c, dc, rfl, hc, k⟩ := h
    refine ⟨_, (pss_cons (ps_fld (pv 0) (pe_lst (pa_cons (pe_tup (pa_cons pe_str pa_nil)) (pa_cons (pe_tup (pa_cons pe_str pa_nil)) pa_nil))) rfl)
      (pss_one (ps_fld (pv 0) (ND.pe_ndisp (ND.hu9 hr) (pps_cons (pe_tup (pa_cons pe_str pa_nil)) (pe_gint (by rfl) T.g_ZERO) (pps_cons (pe_tup (pa_cons pe_str pa_nil)) (pe_gint (by rfl) T.g_ONE) pps_nil)) rfl rfl (by simp) (by decide)) rfl))), ?_⟩
    refine ⟨(show 1 ≤ sizeLine by decide), fun p1 hp1 => ⟨(show 1 ≤ sizeLine by decide), fun p2 hp2 => ⟨(show 2 ≤ sizeLine by decide), fun S hS => ?_⟩⟩⟩
    have t1 : Same H (upd H p1 (.tup [.str "zero"])) := same_new (Same.refl _) hp1
    have t2 := new2 (o := .tup [.str "one"]) t1 hp2
    have t3 := new2 (o := .lst [.ref p1, .ref p2]) t2 hS
    have hc1 := t3 _ _ hc
    have ncS : c ≠ S := ne_of_none (t2 _ _ hc) hS
    refine ⟨_, rfl, c, ad.Circuits, dc, [], rfl, hc1, T.c_Circuits, T.n_shown, by decide, go_nx ?_⟩
    intro D φ hD hA
    have none_of : ∀ {H1 H2 : Hp} {b : Addr}, Same H1 H2 → H2 b = none → H1 b = none := fun {H1 H2 b} s e => by
      cases h : H1 b with
      | none => rfl
      | some u => rw [s _ _ h] at e; cases e
    have f3 : Fr1' c H (upd (upd (upd (upd H p1 (.tup [.str "zero"])) p2 (.tup [.str "one"])) S (.lst [.ref p1, .ref p2])) c (.ins ad.Circuits dc (putF "_shown" (.ref S) []))) := fun b o nb e => by
      rw [upd_ne nb]
      exact t3 _ _ e
    have hcD : c ≠ D := fun z => by rw [← z, upd_same] at hD; cases hD
    refine ⟨(show 1 ≤ sizeLine by decide), fun q1 hq1 => ⟨(show 1 ≤ sizeLine by decide), fun q2 hq2 => ?_⟩⟩
    have g1 := same_new (o := .tup [.str "zero"]) (Same.refl _) hq1
    have g2 := new2 (o := .tup [.str "one"]) g1 hq2
    have hSD : S ≠ D := fun z => by rw [← z, upd_ne (Ne.symm ncS), upd_same] at hD; cases hD
    have eD := g2 _ _ (upd_same (a := D))
    have ez := g2 D
    have eQ1 := (same_new (o := .tup [.str "one"]) (Same.refl _) hq2) _ _ (upd_same (a := q1))
    have cx := g2 _ _ (show _ = some (HO.ins ad.Circuits dc (putF "_shown" (.ref S) [])) from (upd_ne hcD).trans upd_same)
    have sx := g2 _ _ (show _ = some (HO.lst [.ref p1, .ref p2]) from (upd_ne hSD).trans ((upd_ne (Ne.symm ncS)).trans upd_same))
    refine ⟨eD, [(tK .zero, q1, .int 0), (tK .one, q2, .int 1)], .cons (.tup eQ1 (.cons (.str _) .nil)) (by decide +kernel) (.cons (.tup upd_same (.cons (.str _) .nil)) (by decide +kernel) .nil), (show 2 ≤ 15 by decide), fun φ' hA' => ?_⟩
    rw [two_kv] at hA'
    refine ⟨_, rfl, c, ad.Circuits, dc, _, rfl, (upd_ne hcD).trans cx, T.c_Circuits, T.n_numbers, (show 1 < 1000 by decide), ?_⟩
    have tup1 : ∀ {b : Addr} {ys : List V}, upd (upd (upd H p1 (.tup [.str "zero"])) p2 (.tup [.str "one"])) S (.lst [.ref p1, .ref p2]) b = some (.tup ys) → b ≠ c ∧ b ≠ D := fun {b ys} e => by
      have n1 : b ≠ c := fun z => by rw [z, hc1] at e; cases e
      exact ⟨n1, fun z => by rw [← z, upd_ne n1, e] at hD; cases hD⟩
    refine k _ S D (fun b o nb e => ?_) (none_of t2 hS) ?_ ⟨⟨dc, upd_same⟩, ⟨[p1, p2], (upd_ne (Ne.symm ncS)).trans ((upd_ne hSD).trans sx), ?_⟩, hA'.keeps (fun u e => ?_) fun b ys e => ?_⟩
    · have nD : b ≠ D := fun z => by rw [z] at e nb; rw [f3 _ _ nb e] at hD; cases hD
      rw [upd_ne nb, upd_ne nD]
      exact g2 _ _ ((upd_ne nD).trans (f3 _ _ nb e))
    · cases h : H D with
      | none => rfl
      | some u => rw [f3 _ _ (Ne.symm hcD) h] at hD; cases hD
    · have a1 := (same_new (o := .lst [.ref p1, .ref p2]) (Same.refl _) hS) _ _ ((same_new (o := .tup [.str "one"]) (Same.refl _) hp2) _ _ (upd_same (a := p1)))
      have a2 := (same_new (o := .lst [.ref p1, .ref p2]) (Same.refl _) hS) _ _ (upd_same (a := p2))
      refine .cons (.tup (xs := [.str "zero"]) ?_ (.cons (.str _) .nil)) (.cons (.tup (xs := [.str "one"]) ?_ (.cons (.str _) .nil)) .nil)
      · rw [upd_ne (tup1 a1).1, upd_ne (tup1 a1).2]
        exact g2 _ _ (by rw [upd_ne (tup1 a1).2, upd_ne (tup1 a1).1]; exact a1)
      · rw [upd_ne (tup1 a2).1, upd_ne (tup1 a2).2]
        exact g2 _ _ (by rw [upd_ne (tup1 a2).2, upd_ne (tup1 a2).1]; exact a2)
    · rw [upd_ne (Ne.symm hcD)]; exact e
    · have n1 : b ≠ c := fun z => by rw [z, upd_ne hcD, cx] at e; cases e
      rw [upd_ne n1]; exact e
end
end K34

set_option Elab.async false
set_option linter.all false
set_option maxRecDepth 100000
set_option maxHeartbeats 4000000
namespace K34
open PySem L2 Ew Tb GxR ND
local macro_rules | `(tactic| walk_at "len") => `(tactic| first | (intro h; obtain ⟨_, e, _⟩ := h; rw [e]; rfl) | (intro h; obtain ⟨_, _, e, _⟩ := h; rw [e]; rfl) | (intro h; obtain ⟨_, _, _, e, _⟩ := h; rw [e]; rfl) | (intro h; obtain ⟨_, _, _, _, e, _⟩ := h; rw [e]; rfl) | (intro h; obtain ⟨_, _, _, _, _, e, _⟩ := h; rw [e]; rfl) | (intro h; obtain ⟨_, _, _, _, _, _, e, _⟩ := h; rw [e]; rfl) | (intro h; obtain ⟨_, _, _, _, _, _, _, e, _⟩ := h; rw [e]; rfl) | (intro h; obtain ⟨_, _, _, _, _, _, _, _, e, _⟩ := h; rw [e]; rfl) | (intro h; obtain ⟨_, _, _, _, _, _, _, _, _, e, _⟩ := h; rw [e]; rfl) | (intro h; obtain ⟨_, _, _, _, _, _, _, _, _, _, e, _⟩ := h; rw [e]; rfl) | (intro h; obtain ⟨_, _, _, _, _, _, _, _, _, _, _, e, _⟩ := h; rw [e]; rfl) | (intro h; obtain ⟨_, _, _, _, _, _, _, _, _, _, _, _, e, _⟩ := h; rw [e]; rfl) | (intro h; obtain ⟨_, _, _, _, _, _, _, _, _, _, _, _, _, e, _⟩ := h; rw [e]; rfl))
/-! ### what a node makes -/
structure Alg (α : Type) where
  fact : Nat → α
  pl : List α → α
  tm : List α → α
  st : α → Option α
section
variable {α : Type}
def allS (v : Nat → Option α) : List Nat → Option (List α)
  | [] => some []
  | p :: ps => match v p, allS v ps with
    | some x, some xs => some (x :: xs)
    | _, _ => none
def evV (A : Alg α) (v : Nat → Option α) : Nd → Option α
  | .zero => some (A.pl [])
  | .one => some (A.tm [])
  | .fact k => some (A.fact k)
  | .star p => (v p).bind A.st
  | .plus ps => (allS v ps).map A.pl
  | .times ps => (allS v ps).map A.tm
/-- v tells what each node is worth -/
def Val (A : Alg α) (tbl : List Nd) (v : Nat → Option α) : Prop := ∀ (i : Nat) nd, tbl[i]? = some nd → v i = evV A v nd
theorem allS_congr {v u : Nat → Option α} : ∀ {ps : List Nat}, (∀ p ∈ ps, v p = u p) → allS v ps = allS u ps
  | [], _ => rfl
  | p :: ps, h => by
    show (match v p, allS v ps with | some x, some xs => some (x :: xs) | _, _ => none) = (match u p, allS u ps with | some x, some xs => some (x :: xs) | _, _ => none)
    rw [h p (List.mem_cons_self ..), allS_congr fun q hq => h q (List.mem_cons_of_mem _ hq)]
theorem evV_congr {A : Alg α} {v u : Nat → Option α} {nd : Nd} (h : ∀ p ∈ nd.parts, v p = u p) : evV A v nd = evV A u nd := by
  cases nd with
  | star p => show (v p).bind A.st = (u p).bind A.st; rw [h p (by simp [Nd.parts])]
  | plus ps => show (allS v ps).map A.pl = (allS u ps).map A.pl; rw [allS_congr (ps := ps) h]
  | times ps => show (allS v ps).map A.tm = (allS u ps).map A.tm; rw [allS_congr (ps := ps) h]
  | _ => rfl
theorem allS_some {v : Nat → Option α} {x : Nat → α} : ∀ {ps : List Nat}, (∀ p ∈ ps, v p = some (x p)) → allS v ps = some (ps.map x)
  | [], _ => rfl
  | p :: ps, h => by
    show (match v p, allS v ps with | some x, some xs => some (x :: xs) | _, _ => none) = _
    rw [h p (List.mem_cons_self ..), allS_some fun q hq => h q (List.mem_cons_of_mem _ hq)]
    rfl
theorem allS_none {v : Nat → Option α} : ∀ {ps : List Nat} {p : Nat}, p ∈ ps → v p = none → allS v ps = none
  | q :: ps, p, hp, h => by
    show (match v q, allS v ps with | some x, some xs => some (x :: xs) | _, _ => none) = _
    rcases List.mem_cons.mp hp with rfl | hp
    · rw [h]
    · rw [allS_none hp h]
      cases v q <;> rfl
/-- a part that is worth nothing leaves the node without worth -/
theorem ev_part {A : Alg α} {v : Nat → Option α} {nd : Nd} {p : Nat} (hp : p ∈ nd.parts) (h : v p = none) : evV A v nd = none := by
  cases nd with
  | star q =>
    obtain rfl : p = q := by simpa [Nd.parts] using hp
    show (v p).bind A.st = none
    rw [h]; rfl
  | plus ps => show (allS v ps).map A.pl = none; rw [allS_none (ps := ps) hp h]; rfl
  | times ps => show (allS v ps).map A.tm = none; rw [allS_none (ps := ps) hp h]; rfl
  | _ => cases hp
theorem val_up {A : Alg α} {tbl : List Nd} {v : Nat → Option α} (hv : Val A tbl v) {n m : Nat} (h : Rch tbl n m) (hm : v m = none) : v n = none := by
  induction h with
  | refl => exact hm
  | step _ e hp ih =>
    refine ih ?_
    rw [hv _ _ e]
    exact ev_part hp hm
def evF (A : Alg α) (tbl : List Nd) : Nat → Nat → Option α
  | 0, _ => none
  | f + 1, i => match tbl[i]? with
    | none => none
    | some nd => evV A (evF A tbl f) nd
theorem evF_mono {A : Alg α} {tbl : List Nd} (wf : Wf tbl) : ∀ (f i : Nat), i < f → evF A tbl f i = evF A tbl (i + 1) i := by
  intro f
  induction f using Nat.strongRecOn with
  | ind f ih =>
    intro i hi
    cases f with
    | zero => omega
    | succ f =>
      show (match tbl[i]? with | none => none | some nd => evV A (evF A tbl f) nd) = (match tbl[i]? with | none => none | some nd => evV A (evF A tbl i) nd)
      cases e : tbl[i]? with
      | none => rfl
      | some nd =>
        refine evV_congr fun p hp => ?_
        have hpi := wf i nd e p hp
        rw [ih f (Nat.lt_succ_self f) p (by omega)]
        by_cases c : i = f + 1
        · omega
        · exact (ih i (by omega) p hpi).symm
def val (A : Alg α) (tbl : List Nd) (i : Nat) : Option α := evF A tbl (i + 1) i
theorem val_val {A : Alg α} {tbl : List Nd} (wf : Wf tbl) : Val A tbl (val A tbl) := fun i nd e => by
  show (match tbl[i]? with | none => none | some nd => evV A (evF A tbl i) nd) = _
  rw [e]
  exact evV_congr fun p hp => evF_mono wf i p (wf i nd e p hp)
theorem val_uniq {A : Alg α} {tbl : List Nd} (wf : Wf tbl) {v u : Nat → Option α} (hv : Val A tbl v) (hu : Val A tbl u) : ∀ i, i < tbl.length → v i = u i := by
  intro i
  induction i using Nat.strongRecOn with
  | ind i ih =>
    intro hi
    have e := List.getElem?_eq_getElem hi
    rw [hv i _ e, hu i _ e]
    refine evV_congr fun p hp => ?_
    have := wf i _ e p hp
    exact ih p this (by omega)
end
def Nd.word : Nd → Str
  | .zero => "zero"
  | .one => "one"
  | .fact _ => "fact"
  | .star _ => "star"
  | .plus _ => "plus"
  | .times _ => "times"
theorem Nd.vals0 (nd : Nd) (l : Addr) : (nd.vals l)[0]? = some (.str nd.word) := by cases nd <;> rfl
theorem nV_in {ps : List Nat} {i : Nat} {x : V} (h : (nV ps)[i]? = some x) : ∃ n : Nat, ps[i]? = some n ∧ x = .int (n : Int) := by
  rw [List.getElem?_map] at h
  obtain ⟨n, h1, h2⟩ := Option.map_eq_some_iff.mp h
  exact ⟨n, h1, h2.symm⟩
theorem nV_length (a : List Nat) : (nV a).length = a.length := List.length_map _
/-! ### the makers -/
/-- from here on the error may be raised, with what is there kept -/
def Eo (tl : Option Addr) (E : XK) (H : Hp) : Prop := ∀ t, tl = some t → ∀ H', Same H H' → E (.ref t) none H'
theorem Eo.up {tl : Option Addr} {E : XK} {H H' : Hp} (x : Eo tl E H) (s : Same H H') : Eo tl E H' := fun t e H2 s2 => x t e H2 fun b o e => s2 _ _ (s _ _ e)
theorem Eo.no {E : XK} {H : Hp} : Eo none E H := fun _ e => nomatch e
/-- the values of a list are these -/
def RvL {α : Type} (Rv : Hp → α → V → Prop) (H : Hp) (xs : List α) (ys : List V) : Prop := xs.length = ys.length ∧ ∀ (i : Nat) x y, xs[i]? = some x → ys[i]? = some y → Rv H x y
def spMF {α : Type} (Rv : Hp → α → V → Prop) (C : Addr) (ok : Hp → List (Str × V) → Prop) (fa : Nat → Prop) (g : Nat → α) : Sp := fun vs H Q _ => ∃ y dy fs, ∃ k : Nat, vs = [.ref y, .int (k : Int)] ∧ H y = some (.ins C dy fs) ∧ ok H fs ∧ fa k ∧ ∀ v, Rv H (g k) v → Q v H
def spML {α : Type} (tl : Option Addr) (Rv : Hp → α → V → Prop) (C : Addr) (ok : Hp → List (Str × V) → Prop) (okX : List α → Prop) (g : List α → α) : Sp := fun vs H Q E => ∃ y dy fs L, ∃ (xs : List α) (ys : List V), vs = [.ref y, .ref L] ∧ H y = some (.ins C dy fs) ∧ ok H fs ∧ H L = some (.lst ys) ∧ RvL Rv H xs ys ∧ okX xs ∧ xs.length ≤ 1000 ∧ Eo tl E H ∧ ∀ H' v, Same H H' → Rv H' (g xs) v → Q v H'
/-- what a node asks of its maker -/
def okN {α : Type} (fa : Nat → Prop) (okP okT : List α → Prop) (x : Nat → α) : Nd → Prop
  | .zero => okP []
  | .one => okT []
  | .fact k => fa k
  | .star _ => False
  | .plus ps => okP (ps.map x)
  | .times ps => okT (ps.map x)
/-- a maker of nodes without stars, its values told by Rv -/
structure MakerG {α : Type} (P : Program) (w : World) (K : PySem.W.Frag) (mg : Str → Option Value) (base : Heap) (tl : Option Addr) (Rv : Hp → α → V → Prop) (C : Addr) (ok : Hp → List (Str × V) → Prop) (fa : Nat → Prop) (okP okT : List α → Prop) (A : Alg α) : Prop where
  no : ∀ H fs, ok H fs → fs.lookup ("fact" : Str) = none ∧ fs.lookup ("plus" : Str) = none ∧ fs.lookup ("times" : Str) = none ∧ fs.lookup ("star" : Str) = none
  same : ∀ H H' fs, ok H fs → Same H H' → ok H' fs
  mono : ∀ H H' a v, NG.Kp H H' → Rv H a v → Rv H' a v
  fact : MetX P w K mg base 5 C "fact" (spMF Rv C ok fa A.fact)
  plus : MetX P w K mg base 5 C "plus" (spML tl Rv C ok okP A.pl)
  times : MetX P w K mg base 5 C "times" (spML tl Rv C ok okT A.tm)
end K34

set_option Elab.async false
set_option linter.all false
set_option maxRecDepth 100000
set_option maxHeartbeats 4000000
namespace K34
open PySem L2 Ew Tb GxR ND
local macro_rules | `(tactic| walk_at "len") => `(tactic| first | (intro h; obtain ⟨_, e, _⟩ := h; rw [e]; rfl) | (intro h; obtain ⟨_, _, e, _⟩ := h; rw [e]; rfl) | (intro h; obtain ⟨_, _, _, e, _⟩ := h; rw [e]; rfl) | (intro h; obtain ⟨_, _, _, _, e, _⟩ := h; rw [e]; rfl) | (intro h; obtain ⟨_, _, _, _, _, e, _⟩ := h; rw [e]; rfl) | (intro h; obtain ⟨_, _, _, _, _, _, e, _⟩ := h; rw [e]; rfl) | (intro h; obtain ⟨_, _, _, _, _, _, _, e, _⟩ := h; rw [e]; rfl) | (intro h; obtain ⟨_, _, _, _, _, _, _, _, e, _⟩ := h; rw [e]; rfl) | (intro h; obtain ⟨_, _, _, _, _, _, _, _, _, e, _⟩ := h; rw [e]; rfl) | (intro h; obtain ⟨_, _, _, _, _, _, _, _, _, _, e, _⟩ := h; rw [e]; rfl) | (intro h; obtain ⟨_, _, _, _, _, _, _, _, _, _, _, e, _⟩ := h; rw [e]; rfl) | (intro h; obtain ⟨_, _, _, _, _, _, _, _, _, _, _, _, e, _⟩ := h; rw [e]; rfl) | (intro h; obtain ⟨_, _, _, _, _, _, _, _, _, _, _, _, _, e, _⟩ := h; rw [e]; rfl))
theorem RvL.nil {α : Type} {Rv : Hp → α → V → Prop} {H : Hp} : RvL Rv H [] [] := ⟨rfl, fun i x y a => by simp at a⟩
theorem RvL.mono {α : Type} {Rv : Hp → α → V → Prop} {H H' : Hp} {xs : List α} {ys : List V} (m : ∀ a v, Rv H a v → Rv H' a v) (x : RvL Rv H xs ys) : RvL Rv H' xs ys := ⟨x.1, fun i a b p q => m _ _ (x.2 i a b p q)⟩
theorem RvL.snoc {α : Type} {Rv : Hp → α → V → Prop} {H : Hp} {xs : List α} {ys : List V} {a : α} {b : V} (x : RvL Rv H xs ys) (h : Rv H a b) : RvL Rv H (xs ++ [a]) (ys ++ [b]) := by
  refine ⟨by rw [List.length_append, List.length_append, x.1]; rfl, fun i u v p q => ?_⟩
  by_cases c : i < xs.length
  · rw [List.getElem?_append_left c] at p
    rw [List.getElem?_append_left (by rw [← x.1]; exact c)] at q
    exact x.2 i u v p q
  · have hi : i = xs.length := by
      have := (List.getElem?_eq_some_iff.mp p).1
      rw [List.length_append, List.length_singleton] at this
      omega
    subst hi
    rw [List.getElem?_append_right (Nat.le_refl _), Nat.sub_self] at p
    rw [x.1, List.getElem?_append_right (Nat.le_refl _), Nat.sub_self] at q
    cases p
    cases q
    exact h
section
variable {P : Program} {w : World} {K : PySem.W.Frag} {mg : Str → Option Value} {base : Heap} {ad : Ad}
section
variable {tl : Option Addr} {α : Type} {Rv : Hp → α → V → Prop} {C : Addr} {ok : Hp → List (Str × V) → Prop} {fa : Nat → Prop} {okP okT : List α → Prop} {AA : Alg α}
def spMade (tl : Option Addr) (Rv : Hp → α → V → Prop) (C : Addr) (ok : Hp → List (Str × V) → Prop) (fa : Nat → Prop) (okP okT : List α → Prop) (A : Alg α) : Sp := fun vs H Q E => ∃ a M mk dx fs nd kvs, ∃ x : Nat → α, vs = [.ref a, .ref M, .ref mk] ∧ NdAt H a nd ∧ H M = some (.dK kvs) ∧ H mk = some (.ins C dx fs) ∧ ok H fs ∧ (∀ p ∈ nd.parts, ∃ v, valV kvs (.inl (p : Int)) = some v ∧ Rv H (x p) v) ∧ okN fa okP okT x nd ∧ nd.parts.length ≤ 1000 ∧ Eo tl E H ∧
  ∀ H' r v, Same H H' → evV A (fun p => some (x p)) nd = some r → Rv H' r v → Q v H'
theorem ok_made (M : MakerG P w K mg base tl Rv C ok fa okP okT AA) (c_parts : CalX P w K mg base 1 "_parts" spParts) {f : Addr} {fd : FuncData} (F : Fun K "_made" "_made" s_made f fd) (T : Txt K mg ad) : FnOk P w K mg base (L2.CX P w) 6 f fd ["shown", "made", "maker"] (spMade tl Rv C ok fa okP okT AA) := by
  refine F.okX sc_made (fun vs H Q E => ?_) (fun cdv A outer s H vs Q E hr h => ?_)
  · walk_at "len"
  ·
    obtain ⟨a, Md, mk, dx, fs, nd, kvs, x, rfl, ha, hM, hmk, hok, hx, hf, hl, eo, k1⟩ := h
    refine ⟨_, (pss_cons (ps_set (i := 3) sc_made.nd rfl (by first | exact Or.inl rfl | exact Or.inr rfl) (pe_ix ix_tup (pv 0) pe_int (fun _ _ => rfl)))
      (pss_cons (ps_if (pt_cmpR op_eq (pv 3) pe_str (nomark _)) (pss_one (ps_ret (pd_meth hr (takes_of rfl rfl rfl rfl) (pv 2) (pa_cons (pe_ix ix_tup (pv 0) pe_int (fun _ _ => rfl)) pa_nil)))) pss_nil)
      (pss_cons (ps_if (pt_cmpR op_eq (pv 3) pe_str (nomark _)) (pss_one (ps_ret (pd_meth hr (takes_of rfl rfl rfl rfl) (pv 2) (pa_cons (pe_dget (hu_of hr) (pv 1) (pe_ix ix_tup (pv 0) pe_int (fun _ _ => rfl)) (fun _ _ => rfl)) pa_nil)))) pss_nil)
      (pss_cons (ps_setLc (i := 4) (own := [("part", 5)]) (tt := tYes) rfl sc_made.nd rfl rfl (sw_true rfl rfl rfl (by decide +kernel)) (pi_tup (pc_call c_parts hr (by first | decide | omega) (takes_of rfl rfl rfl rfl) (by rfl) (pa_cons (pv 0) pa_nil))) (blkOk_by (by kernel_rfl)) (fun _ _ _ _ _ => (pg_name (i := 5) sc_made.nd rfl (by first | exact Or.inl rfl | exact Or.inr rfl))) (fun _ _ _ _ _ => pts_nil) (fun _ _ _ _ _ => (pe_dget (hu_of hr) (pv 1) (pv 5) (fun _ _ => rfl))))
      (pss_cons (ps_if (pt_cmpR op_in_seq (pv 3) (pe_tup (pa_cons pe_str (pa_cons pe_str pa_nil))) (by rfl)) (pss_one (ps_ret (pd_meth hr (takes_of rfl rfl rfl rfl) (pv 2) (pa_cons (pv 4) pa_nil)))) pss_nil)
      (pss_one (ps_ret (pd_meth hr (takes_of rfl rfl rfl rfl) (pv 2) (pa_cons (pv 4) pa_nil))))))))), ?_⟩
    obtain ⟨l, el_, hin⟩ := ha.inv
    obtain ⟨n1, n2, n3, n4⟩ := M.no H fs hok
    have mo : ∀ {H H' : Hp} {a : α} {v : V}, Same H H' → Rv H a v → Rv H' a v := fun s => M.mono _ _ _ _ (.of s)
    have lcp : ∀ (ps : List Nat) (D L : Addr) (H2 : Hp), H2 D = none → H2 L = some (.tup (nV ps)) → Same H H2 → (∀ p ∈ ps, ∃ v, valV kvs (.inl (p : Int)) = some v ∧ Rv H (x p) v) → ps.length ≤ 1000 → ∀ {te : TE} {σ : L2.St} {vs : List Nat} {kx : Nat},
        (∀ (i : Nat) (H3 : Hp) (Kt : VK) (v : V) (n : Nat), ps[i]? = some n → Same H2 H3 → valV kvs (.inl (n : Int)) = some v → Kt v H3 → te ((wipe σ vs).set kx (some (.int (n : Int)))) H3 Kt) → (∀ z, wipe ((wipe σ vs).set kx (some z)) vs = wipe σ vs) → ∀ {Qd : Hp → Prop},
        (∀ H3 ys, Same H2 H3 → H3 D = some (.lst ys) → RvL Rv H (ps.map x) ys → Qd H3) → ∃ W : Nat → Nat → Hp → Prop, (∃ m, W 0 m (upd H2 D (.lst []))) ∧ ∀ i m H, W i m H →
      ((Itt K L).stop i H ∧ Qd H) ∨ ((Itt K L).go i H ∧ ∃ Nx : Hp → Prop, (∀ H', Nx H' → ∃ m', m' < m ∧ W (i + 1) m' H') ∧ ∀ x H', (Itt K L).yld i H x H' → gName kx x (wipe σ vs) H' fun σ2 H2 => wipe σ2 vs = wipe σ vs ∧ tYes σ2 H2 fun b H3 =>
        if b = true then te σ2 H3 fun y H4 => ∃ acc, H4 D = some (.lst acc) ∧ acc.length < sizeLine ∧ Nx (upd H4 D (.lst (acc ++ [y]))) else Nx H3) := by
      intro ps D L H2 hD hL s2 hp hlp te σ vs kx ht hw Qd hd
      refine lc_tup (xs := nV ps) (fun i H3 => Same H2 H3 ∧ ∃ ys, H3 D = some (.lst ys) ∧ RvL Rv H ((ps.take i).map x) ys) ⟨same_new (Same.refl _) hD, [], upd_same, RvL.nil⟩ (fun i H3 _ ⟨s3, _⟩ => SqT.of (s3 _ _ hL)) (fun i y H3 hy ⟨s3, ys, e3, r3⟩ => ?_) (fun H3 ⟨s3, ys, e3, r3⟩ => ?_)
      · obtain ⟨n, hn, rfl⟩ := nV_in hy
        have hi : i < ps.length := (List.getElem?_eq_some_iff.mp hn).1
        obtain ⟨v, hv, rv⟩ := hp n (List.mem_of_getElem? hn)
        have s4 : Same H2 (upd H3 D (.lst (ys ++ [v]))) := same_but hD s3 but_app
        have yl : ys.length = i := by rw [← r3.1, List.length_map, List.length_take]; omega
        refine ⟨hw _, yes_then (iteT (ht i H3 _ _ n hn s3 hv ⟨_, e3, ?_, s4, ys ++ [v], upd_same, ?_⟩))⟩
        · rw [yl]
          exact Nat.lt_of_le_of_lt (by omega : _ ≤ 1000) (by decide)
        · rw [List.take_add_one, hn, List.map_append]
          exact RvL.snoc r3 rv
      · rw [nV_length, List.take_length] at r3
        exact hd H3 ys s3 e3 r3
    refine go_seq ⟨_, rfl, a, _, _, _, rfl, rfl, SqT.of el_, at_of (j := 0) rfl (nd.vals0 l), go_name rfl ?_⟩
    refine ⟨_, rfl, rfl, _, rfl, ?_⟩
    cases nd with
    | fact k =>
      exact iteT ⟨_, rfl, mk, C, dx, fs, 5, _, rfl, hmk, n1, by decide, M.fact, _, rfl, a, _, _, _, rfl, rfl, SqT.of el_, at_of (j := 1) rfl rfl, mk, dx, fs, k, rfl, hmk, hok, hf, fun v rv => k1 H _ v (Same.refl _) rfl rv⟩
    | star p => exact False.elim hf
    | zero =>
      refine iteF (go_next ⟨_, rfl, rfl, _, rfl, iteF (go_next ?_)⟩)
      refine go_seq ⟨_, rfl, a, .zero, rfl, ha, fun H2 l2 s2 e2 => ⟨l2, rfl, ⟨_, SqT.of e2⟩, fun D hD => ?_⟩⟩
      refine lcp ([] : List Nat) D l2 H2 hD e2 s2 (fun p hp => hx p hp) hl ?_ (fun _ => rfl) fun H3 ys s3 e3 r3 => go_name rfl ?_
      · intro i H3 Kt v n hn s3 hv kt
        exact ⟨_, rfl, _, rfl, Md, _, rfl, by have := DGet.k (k := .inl (n : Int)) (s3 _ _ (s2 _ _ hM)); rw [hv] at this; exact this, kt⟩
      have s03 : Same H H3 := fun b o e => s3 _ _ (s2 _ _ e)
      refine ⟨_, rfl, (show 2 ≤ sizeLine by decide), fun p hp => ⟨p, _, rfl, .inr (SqT.of upd_same), rfl, rfl, _, rfl, iteT ?_⟩⟩
      have s4 : Same H3 (upd H3 p (.tup [.str "zero", .str "plus"])) := same_new (Same.refl _) hp
      have s04 : Same H _ := fun b o e => s4 _ _ (s03 _ _ e)
      exact ⟨_, rfl, mk, C, dx, fs, 5, _, rfl, s04 _ _ hmk, n2, by decide, M.plus, _, rfl, mk, dx, fs, D, (([] : List Nat)).map x, ys, rfl, s04 _ _ hmk, M.same _ _ _ hok s04, s4 _ _ e3, r3.mono fun _ _ => mo s04, hf, by rw [List.length_map]; exact hl, eo.up s04, fun H5 v s5 rv => k1 H5 _ v (fun b o e => s5 _ _ (s04 _ _ e)) rfl rv⟩
    | one =>
      refine iteF (go_next ⟨_, rfl, rfl, _, rfl, iteF (go_next ?_)⟩)
      refine go_seq ⟨_, rfl, a, .one, rfl, ha, fun H2 l2 s2 e2 => ⟨l2, rfl, ⟨_, SqT.of e2⟩, fun D hD => ?_⟩⟩
      refine lcp ([] : List Nat) D l2 H2 hD e2 s2 (fun p hp => hx p hp) hl ?_ (fun _ => rfl) fun H3 ys s3 e3 r3 => go_name rfl ?_
      · intro i H3 Kt v n hn s3 hv kt
        exact ⟨_, rfl, _, rfl, Md, _, rfl, by have := DGet.k (k := .inl (n : Int)) (s3 _ _ (s2 _ _ hM)); rw [hv] at this; exact this, kt⟩
      have s03 : Same H H3 := fun b o e => s3 _ _ (s2 _ _ e)
      refine ⟨_, rfl, (show 2 ≤ sizeLine by decide), fun p hp => ⟨p, _, rfl, .inr (SqT.of upd_same), rfl, rfl, _, rfl, iteF ?_⟩⟩
      have s4 : Same H3 (upd H3 p (.tup [.str "zero", .str "plus"])) := same_new (Same.refl _) hp
      have s04 : Same H _ := fun b o e => s4 _ _ (s03 _ _ e)
      exact ⟨_, rfl, mk, C, dx, fs, 5, _, rfl, s04 _ _ hmk, n3, by decide, M.times, _, rfl, mk, dx, fs, D, (([] : List Nat)).map x, ys, rfl, s04 _ _ hmk, M.same _ _ _ hok s04, s4 _ _ e3, r3.mono fun _ _ => mo s04, hf, by rw [List.length_map]; exact hl, eo.up s04, fun H5 v s5 rv => k1 H5 _ v (fun b o e => s5 _ _ (s04 _ _ e)) rfl rv⟩
    | plus ps =>
      refine iteF (go_next ⟨_, rfl, rfl, _, rfl, iteF (go_next ?_)⟩)
      refine go_seq ⟨_, rfl, a, .plus ps, rfl, ha, fun H2 l2 s2 e2 => ⟨l2, rfl, ⟨_, SqT.of e2⟩, fun D hD => ?_⟩⟩
      refine lcp ps D l2 H2 hD e2 s2 (fun p hp => hx p hp) hl ?_ (fun _ => rfl) fun H3 ys s3 e3 r3 => go_name rfl ?_
      · intro i H3 Kt v n hn s3 hv kt
        exact ⟨_, rfl, _, rfl, Md, _, rfl, by have := DGet.k (k := .inl (n : Int)) (s3 _ _ (s2 _ _ hM)); rw [hv] at this; exact this, kt⟩
      have s03 : Same H H3 := fun b o e => s3 _ _ (s2 _ _ e)
      refine ⟨_, rfl, (show 2 ≤ sizeLine by decide), fun p hp => ⟨p, _, rfl, .inr (SqT.of upd_same), rfl, rfl, _, rfl, iteT ?_⟩⟩
      have s4 : Same H3 (upd H3 p (.tup [.str "zero", .str "plus"])) := same_new (Same.refl _) hp
      have s04 : Same H _ := fun b o e => s4 _ _ (s03 _ _ e)
      exact ⟨_, rfl, mk, C, dx, fs, 5, _, rfl, s04 _ _ hmk, n2, by decide, M.plus, _, rfl, mk, dx, fs, D, (ps).map x, ys, rfl, s04 _ _ hmk, M.same _ _ _ hok s04, s4 _ _ e3, r3.mono fun _ _ => mo s04, hf, by rw [List.length_map]; exact hl, eo.up s04, fun H5 v s5 rv => k1 H5 _ v (fun b o e => s5 _ _ (s04 _ _ e)) (by show (allS (fun p => some (x p)) ps).map AA.pl = _; rw [allS_some (x := x) fun _ _ => rfl]; rfl) rv⟩
    | times ps =>
      refine iteF (go_next ⟨_, rfl, rfl, _, rfl, iteF (go_next ?_)⟩)
      refine go_seq ⟨_, rfl, a, .times ps, rfl, ha, fun H2 l2 s2 e2 => ⟨l2, rfl, ⟨_, SqT.of e2⟩, fun D hD => ?_⟩⟩
      refine lcp ps D l2 H2 hD e2 s2 (fun p hp => hx p hp) hl ?_ (fun _ => rfl) fun H3 ys s3 e3 r3 => go_name rfl ?_
      · intro i H3 Kt v n hn s3 hv kt
        exact ⟨_, rfl, _, rfl, Md, _, rfl, by have := DGet.k (k := .inl (n : Int)) (s3 _ _ (s2 _ _ hM)); rw [hv] at this; exact this, kt⟩
      have s03 : Same H H3 := fun b o e => s3 _ _ (s2 _ _ e)
      refine ⟨_, rfl, (show 2 ≤ sizeLine by decide), fun p hp => ⟨p, _, rfl, .inr (SqT.of upd_same), rfl, rfl, _, rfl, iteF ?_⟩⟩
      have s4 : Same H3 (upd H3 p (.tup [.str "zero", .str "plus"])) := same_new (Same.refl _) hp
      have s04 : Same H _ := fun b o e => s4 _ _ (s03 _ _ e)
      exact ⟨_, rfl, mk, C, dx, fs, 5, _, rfl, s04 _ _ hmk, n3, by decide, M.times, _, rfl, mk, dx, fs, D, (ps).map x, ys, rfl, s04 _ _ hmk, M.same _ _ _ hok s04, s4 _ _ e3, r3.mono fun _ _ => mo s04, hf, by rw [List.length_map]; exact hl, eo.up s04, fun H5 v s5 rv => k1 H5 _ v (fun b o e => s5 _ _ (s04 _ _ e)) (by show (allS (fun p => some (x p)) ps).map AA.tm = _; rw [allS_some (x := x) fun _ _ => rfl]; rfl) rv⟩
end
end
end K34

set_option Elab.async false
set_option linter.all false
set_option maxRecDepth 100000
set_option maxHeartbeats 4000000
namespace K34
open PySem L2 Ew Tb GxR ND
local macro_rules | `(tactic| walk_at "len") => `(tactic| first | (intro h; obtain ⟨e, _⟩ := h; rw [e]; rfl) | (intro h; obtain ⟨_, e, _⟩ := h; rw [e]; rfl) | (intro h; obtain ⟨_, _, e, _⟩ := h; rw [e]; rfl) | (intro h; obtain ⟨_, _, _, e, _⟩ := h; rw [e]; rfl) | (intro h; obtain ⟨_, _, _, _, e, _⟩ := h; rw [e]; rfl) | (intro h; obtain ⟨_, _, _, _, _, e, _⟩ := h; rw [e]; rfl) | (intro h; obtain ⟨_, _, _, _, _, _, e, _⟩ := h; rw [e]; rfl) | (intro h; obtain ⟨_, _, _, _, _, _, _, e, _⟩ := h; rw [e]; rfl) | (intro h; obtain ⟨_, _, _, _, _, _, _, _, e, _⟩ := h; rw [e]; rfl) | (intro h; obtain ⟨_, _, _, _, _, _, _, _, _, e, _⟩ := h; rw [e]; rfl) | (intro h; obtain ⟨_, _, _, _, _, _, _, _, _, _, e, _⟩ := h; rw [e]; rfl) | (intro h; obtain ⟨_, _, _, _, _, _, _, _, _, _, _, e, _⟩ := h; rw [e]; rfl) | (intro h; obtain ⟨_, _, _, _, _, _, _, _, _, _, _, _, e, _⟩ := h; rw [e]; rfl) | (intro h; obtain ⟨_, _, _, _, _, _, _, _, _, _, _, _, _, e, _⟩ := h; rw [e]; rfl) | (intro h; obtain ⟨_, _, _, _, _, _, _, _, _, _, _, _, _, _, e, _⟩ := h; rw [e]; rfl) | (intro h; obtain ⟨_, _, _, _, _, _, _, _, _, _, _, _, _, _, _, e, _⟩ := h; rw [e]; rfl) | (intro h; obtain ⟨_, _, _, _, _, _, _, _, _, _, _, _, _, _, _, _, e, _⟩ := h; rw [e]; rfl) | (intro h; obtain ⟨_, _, _, _, _, _, _, _, _, _, _, _, _, _, _, _, _, e, _⟩ := h; rw [e]; rfl) | (intro h; exact h.elim))
section
variable {P : Program} {w : World} {K : PySem.W.Frag} {mg : Str → Option Value} {base : Heap} {ad : Ad}

theorem take_lt {ys : List Nat} (hs : ys.Pairwise (· ≤ ·)) {i m p : Nat} (hm : ys[i]? = some m) (hp : p ∈ ys) (h : p < m) : p ∈ ys.take i := by
  obtain ⟨j, hj⟩ := List.mem_iff_getElem?.mp hp
  have hjl := (List.getElem?_eq_some_iff.mp hj).1
  have hil := (List.getElem?_eq_some_iff.mp hm).1
  have hji : j < i := by
    refine Nat.not_le.mp fun hle => ?_
    rcases Nat.lt_or_ge i j with c | c
    · have := List.pairwise_iff_getElem.mp hs i j hil hjl c
      rw [List.getElem?_eq_getElem hjl] at hj
      rw [List.getElem?_eq_getElem hil] at hm
      cases hj; cases hm
      omega
    · have : i = j := by omega
      subst this
      rw [hm] at hj
      cases hj
      omega
  exact List.mem_of_getElem? (i := j) (by rw [List.getElem?_take, if_pos hji]; exact hj)
section
variable {tl : Option Addr} {α : Type} {Rv : Hp → α → V → Prop} {C : Addr} {ok : Hp → List (Str × V) → Prop} {fa : Nat → Prop} {okP okT : List α → Prop} {AA : Alg α}
def spAll (P : Program) (w : World) (Cc : Addr) (tl : Option Addr) (Rv : Hp → α → V → Prop) (C : Addr) (ok : Hp → List (Str × V) → Prop) (fa : Nat → Prop) (okP okT : List α → Prop) (AA : Alg α) : Sp := fun vs H Q E => ∃ c S D tbl L mk dx fs, ∃ n : Nat, ∃ x : Nat → α, vs = [.ref c, .ref L, .ref mk] ∧ Circ P w Cc H c S D tbl ∧ Wf tbl ∧ tbl.length < 64 ∧ n < tbl.length ∧ H L = some (.lst [.int (n : Int)]) ∧ H mk = some (.ins C dx fs) ∧ ok H fs ∧
  (∀ m nd, Rch tbl n m → tbl[m]? = some nd → okN fa okP okT x nd ∧ evV AA (fun p => some (x p)) nd = some (x m)) ∧ (∀ nd ∈ tbl, nd.parts.length ≤ 1000) ∧ Eo tl E H ∧
  ∀ H' M kvs v, Same H H' → H' M = some (.dK kvs) → valV kvs (.inl (n : Int)) = some v → Rv H' (x n) v → Q (.ref M) H'
theorem ok_all_made (M : MakerG P w K mg base tl Rv C ok fa okP okT AA) (c_made : CalX P w K mg base 6 "_made" (spMade tl Rv C ok fa okP okT AA)) (c_nodes_within : CalX P w K mg base 2 "nodes_within" (spWithin P w ad.Circuits)) (m_shown : MetX P w K mg base 1 ad.Circuits "shown" (spShown P w ad.Circuits)) {f : Addr} {fd : FuncData} (F : Fun K "all_made" "all_made" s_all_made f fd) (T : Txt K mg ad) : FnOk P w K mg base (L2.CX P w) 7 f fd ["circuits", "nodes", "maker"] (spAll P w ad.Circuits tl Rv C ok fa okP okT AA) := by
  refine F.okX sc_all_made (fun vs H Q E => ?_) (fun cdv A outer s H vs Q E hr h => ?_)
  · walk_at "len"
  ·
    obtain ⟨c, S, D, tbl, L, mk, dx, fs, n, x, rfl, cc, wf, hl, hn, hL, hmk, hok, hev, hpl, eo, k1⟩ := h
    refine ⟨_, (pss_cons (ps_set (i := 3) sc_all_made.nd rfl (by first | exact Or.inl rfl | exact Or.inr rfl) pe_dnewK)
      (pss_cons (ps_for (passes_of rfl) rfl (pi_list (pc_call c_nodes_within hr (by first | decide | omega) (takes_of rfl rfl rfl rfl) (by rfl) (pa_cons (pv 0) (pa_cons (pv 1) pa_nil)))) (pg_name (i := 4) sc_all_made.nd rfl (by first | exact Or.inl rfl | exact Or.inr rfl)) (pss_one (ps_dput (hu_of hr) (pv 3) (pv 4) (pc_call c_made hr (by first | decide | omega) (takes_of rfl rfl rfl rfl) (by rfl) (pa_cons (pd_meth hr (takes_of rfl rfl rfl rfl) (pv 0) (pa_cons (pv 4) pa_nil)) (pa_cons (pv 3) (pa_cons (pv 2) pa_nil)))) rfl)))
      (pss_one (ps_ret (pv 3))))), ?_⟩
    refine go_seq (fun d hd => go_name rfl ?_)
    have s0 : Same H (upd H d (.dK [])) := same_new (Same.refl _) hd
    refine go_sq ⟨_, rfl, _, rfl, c, S, D, tbl, L, n, rfl, cc.same s0, wf, hl, hn, s0 _ _ hL, fun H2 l ys s2 e2 ynd yp ym => ⟨l, rfl, ⟨_, SqL.of e2⟩, ?_⟩⟩
    have s02 : Same H H2 := fun b o e => s2 _ _ (s0 _ _ e)
    obtain ⟨dxc, hc⟩ := cc.ins
    have ylen : ys.length ≤ 64 := by
      have h1 := ynd.length_le_of_subset (l₂ := List.range tbl.length) fun m hm => List.mem_range.mpr (Nat.lt_of_le_of_lt (((ym m).mp hm).le wf) hn)
      rw [List.length_range] at h1
      omega
    refine for_list (K := K) (a := l) (xs := nV ys) (fun i σ H3 => ∃ (vn : Option V) (kvs : List (Key × V)), σ = [some (.ref c), some (.ref L), some (.ref mk), some (.ref d), vn] ∧ Same H H3 ∧ H3 l = some (.lst (nV ys)) ∧ H3 d = some (.dK kvs) ∧ kvs.length ≤ i ∧ ∀ m ∈ ys.take i, ∃ v, valV kvs (.inl (m : Int)) = some v ∧ Rv H3 (x m) v)
      ⟨none, [], rfl, s02, e2, s2 _ _ upd_same, Nat.le_refl _, fun m hm => nomatch hm⟩ (fun i σ H3 _ ⟨_, _, _, _, e, _⟩ => SqL.of e) ?_ ?_
    · rintro i y σ H3 hy ⟨vn, kvs, rfl, s3, e3, d3, l3, m3⟩
      obtain ⟨m, hm, rfl⟩ := nV_in hy
      have hil : i < ys.length := (List.getElem?_eq_some_iff.mp hm).1
      have hmy : m ∈ ys := List.mem_of_getElem? hm
      have hr := (ym m).mp hmy
      have hmt : m < tbl.length := Nat.lt_of_le_of_lt (hr.le wf) hn
      have hnd : tbl[m]? = some tbl[m] := List.getElem?_eq_getElem hmt
      obtain ⟨okm, evm⟩ := hev m _ hr hnd
      refine go_name rfl ?_
      have parts_ : ∀ p ∈ tbl[m].parts, p ∈ ys.take i := fun p hp => take_lt yp hm ((ym p).mpr (.step hr hnd hp)) (wf m _ hnd p hp)
      refine ⟨_, rfl, c, _, dxc, _, 1, _, rfl, s3 _ _ hc, fC_no _ _ (by decide) (by decide), by decide, m_shown, _, rfl, c, S, D, tbl, m, _, rfl, cc.same s3, hnd, fun a ha => ?_⟩
      refine ⟨_, rfl, _, rfl, a, d, mk, dx, fs, tbl[m], _, x, rfl, ha, d3, s3 _ _ hmk, M.same _ _ _ hok s3, fun p hp => m3 p (parts_ p hp), okm, hpl _ (List.getElem_mem hmt), eo.up s3, fun H4 r v s4 ev rv => ?_⟩
      have er : x m = r := Option.some.inj (evm.symm.trans ev)
      subst er
      refine ⟨_, rfl, _, rfl, d, _, rfl, DPut.k (k := .inl (m : Int)) (s4 _ _ d3) ?_, ?_⟩
      · have := List.length_take_le i ys
        exact Nat.lt_of_le_of_lt (by omega : _ ≤ 64) (by decide)
      · have d4 := s4 _ _ d3
        have keep : NG.Kp H4 (upd H4 d (.dK (putK kvs (.inl (m : Int)) v))) := ⟨fun b zs e => by
          rw [upd_ne (ne_of e d4 (fun z => nomatch z))]; exact e, fun b o zs e => by
          rw [upd_ne (ne_of e d4 (fun z => nomatch z))]; exact e⟩
        refine go_nx ⟨_, putK kvs (.inl (m : Int)) v, rfl, fun b o e => ?_, ?_, upd_same, ?_, fun q hq => ?_⟩
        · rw [upd_ne (ne_of_none e hd)]
          exact s4 _ _ (s3 _ _ e)
        · rw [upd_ne (ne_of e3 d3 (fun z => nomatch z))]
          exact s4 _ _ e3
        · have := length_putK kvs (.inl (m : Int)) v
          omega
        · rw [valV_put]
          by_cases c : q = m
          · subst c
            rw [if_pos rfl]
            exact ⟨v, rfl, M.mono _ _ _ _ keep rv⟩
          · rw [if_neg (fun z => c (by injection z with z; omega))]
            rw [List.take_add_one, hm] at hq
            rcases List.mem_append.mp hq with h | h
            · obtain ⟨u, h1, h2⟩ := m3 q h
              exact ⟨u, h1, M.mono _ _ _ _ keep (M.mono _ _ _ _ (.of s4) h2)⟩
            · exact absurd (by simpa using h) c
    · rintro σ H3 ⟨vn, kvs, rfl, s3, e3, d3, l3, m3⟩
      rw [nV_length, List.take_length] at m3
      obtain ⟨v, h1, h2⟩ := m3 n ((ym n).mpr .refl)
      exact go_nx (go_ret ⟨_, rfl, k1 H3 d kvs v s3 d3 h1 h2⟩)
end
end
end K34

set_option Elab.async false
set_option linter.all false
set_option maxRecDepth 100000
set_option maxHeartbeats 4000000
namespace K34
open PySem L2 Ew Tb GxR ND
local macro_rules | `(tactic| walk_at "len") => `(tactic| first | (intro h; obtain ⟨e, _⟩ := h; rw [e]; rfl) | (intro h; obtain ⟨_, e, _⟩ := h; rw [e]; rfl) | (intro h; obtain ⟨_, _, e, _⟩ := h; rw [e]; rfl) | (intro h; obtain ⟨_, _, _, e, _⟩ := h; rw [e]; rfl) | (intro h; obtain ⟨_, _, _, _, e, _⟩ := h; rw [e]; rfl) | (intro h; obtain ⟨_, _, _, _, _, e, _⟩ := h; rw [e]; rfl) | (intro h; obtain ⟨_, _, _, _, _, _, e, _⟩ := h; rw [e]; rfl) | (intro h; obtain ⟨_, _, _, _, _, _, _, e, _⟩ := h; rw [e]; rfl) | (intro h; obtain ⟨_, _, _, _, _, _, _, _, e, _⟩ := h; rw [e]; rfl) | (intro h; obtain ⟨_, _, _, _, _, _, _, _, _, e, _⟩ := h; rw [e]; rfl) | (intro h; obtain ⟨_, _, _, _, _, _, _, _, _, _, e, _⟩ := h; rw [e]; rfl) | (intro h; obtain ⟨_, _, _, _, _, _, _, _, _, _, _, e, _⟩ := h; rw [e]; rfl) | (intro h; obtain ⟨_, _, _, _, _, _, _, _, _, _, _, _, e, _⟩ := h; rw [e]; rfl) | (intro h; obtain ⟨_, _, _, _, _, _, _, _, _, _, _, _, _, e, _⟩ := h; rw [e]; rfl) | (intro h; obtain ⟨_, _, _, _, _, _, _, _, _, _, _, _, _, _, e, _⟩ := h; rw [e]; rfl) | (intro h; obtain ⟨_, _, _, _, _, _, _, _, _, _, _, _, _, _, _, e, _⟩ := h; rw [e]; rfl) | (intro h; obtain ⟨_, _, _, _, _, _, _, _, _, _, _, _, _, _, _, _, e, _⟩ := h; rw [e]; rfl) | (intro h; obtain ⟨_, _, _, _, _, _, _, _, _, _, _, _, _, _, _, _, _, e, _⟩ := h; rw [e]; rfl) | (intro h; exact h.elim))
section
variable {P : Program} {w : World} {K : PySem.W.Frag} {mg : Str → Option Value} {base : Heap} {ad : Ad}

section
variable {α : Type}
/-- from the left, the empty one being z -/
def foldG (f : α → α → α) (z : α) : List α → α
  | [] => z
  | a :: r => r.foldl f a
/-- each step from the left may be made -/
def okFold (okB : α → α → Prop) (f : α → α → α) : α → List α → Prop
  | _, [] => True
  | a, b :: r => okB a b ∧ okFold okB f (f a b) r
def okFoldG (okB : α → α → Prop) (f : α → α → α) : List α → Prop
  | [] => True
  | a :: r => okFold okB f a r
theorem okFold_at {okB : α → α → Prop} {f : α → α → α} : ∀ {r : List α} {a : α}, okFold okB f a r → ∀ {i : Nat} {b : α}, r[i]? = some b → okB ((r.take i).foldl f a) b
  | c :: r, a, h, i, b, hb => by
    rcases i with _ | i
    · cases hb; exact h.1
    · exact okFold_at h.2 (i := i) hb
variable {tl : Option Addr} {Rv : Hp → α → V → Prop} {CR : Addr} {okP okT : α → α → Prop} {pf tf : α → α → α} {z o : α} {fa : Nat → Prop} {wf : Nat → α}
def spNulR (Rv : Hp → α → V → Prop) (CR : Addr) (z : α) : Sp := fun vs H Q _ => ∃ r dx, vs = [.ref r] ∧ H r = some (.ins CR dx []) ∧ ∀ H' v, Same H H' → Rv H' z v → Q v H'
def spBinR (tl : Option Addr) (Rv : Hp → α → V → Prop) (CR : Addr) (okB : α → α → Prop) (f : α → α → α) : Sp := fun vs H Q E => ∃ r dx, ∃ (x y : V) (a b : α), vs = [.ref r, x, y] ∧ H r = some (.ins CR dx []) ∧ Rv H a x ∧ Rv H b y ∧ okB a b ∧ Eo tl E H ∧ ∀ H' v, Same H H' → Rv H' (f a b) v → Q v H'
/-! ### the reckoner -/
abbrev fR (r wd : Addr) : List (Str × V) := putF "_worths" (.ref wd) (putF "_semiring" (.ref r) [])
theorem fR_s (r wd : Addr) : (fR r wd).lookup ("_semiring" : Str) = some (.ref r) := by rw [lookup_putF, if_neg (by decide), lookup_putF, if_pos rfl]
theorem fR_w (r wd : Addr) : (fR r wd).lookup ("_worths" : Str) = some (.ref wd) := by rw [lookup_putF, if_pos rfl]
theorem fR_no (r wd : Addr) {m : Str} (h1 : ¬ m = "_semiring") (h2 : ¬ m = "_worths") : (fR r wd).lookup m = none := by rw [lookup_putF, if_neg h2, lookup_putF, if_neg h1]; rfl
def RA (pf tf : α → α → α) (z o : α) (wf : Nat → α) : Alg α := ⟨wf, foldG pf z, foldG tf o, fun _ => none⟩
/-- a reckoner's fields: a semiring, worths -/
def okR (Rv : Hp → α → V → Prop) (CR : Addr) (fa : Nat → Prop) (wf : Nat → α) (H : Hp) (fs : List (Str × V)) : Prop :=
  ∃ r wd dx kvs, fs = fR r wd ∧ H r = some (.ins CR dx []) ∧ H wd = some (.dK kvs) ∧ ∀ k, fa k → ∃ v, valV kvs (.inl (k : Int)) = some v ∧ Rv H (wf k) v
theorem okR_same (mono : ∀ H H' a v, NG.Kp H H' → Rv H a v → Rv H' a v) {H H' : Hp} {fs : List (Str × V)} (x : okR Rv CR fa wf H fs) (s : Same H H') : okR Rv CR fa wf H' fs := by
  obtain ⟨r, wd, dx, kvs, rfl, h1, h2, h3⟩ := x
  exact ⟨r, wd, dx, kvs, rfl, s _ _ h1, s _ _ h2, fun k hk => let ⟨v, e1, e2⟩ := h3 k hk; ⟨v, e1, mono _ _ _ _ (.of s) e2⟩⟩
def spRI (C : Addr) : Sp := fun vs H Q _ => ∃ y dy r wd, vs = [.ref y, .ref r, .ref wd] ∧ H y = some (.ins C dy []) ∧ Q .non (upd H y (.ins C dy (fR r wd)))
theorem ok_Reckoner_init  {f : Addr} {fd : FuncData} (F : Fun K "__init__" "Reckoner.__init__" s_Reckoner_init f fd) (T : Txt K mg ad) : FnOk P w K mg base (L2.CX P w) 1 f fd ["self", "semiring", "worths"] (spRI ad.Reckoner) := by
  refine F.okX sc_Reckoner_init (fun vs H Q E => ?_) (fun cdv A outer s H vs Q E hr h => ?_)
  · walk_at "len"
  ·
    obtain ⟨y, dy, r, wd, rfl, hy, k⟩ := h
    refine ⟨_, (pss_cons (ps_fld (pv 0) (pv 1) rfl)
      (pss_one (ps_fld (pv 0) (pv 2) rfl))), ?_⟩
    refine go_sq ⟨_, rfl, _, rfl, y, _, dy, _, rfl, hy, T.c_Reckoner, T.n_semiring, (by show 0 < 1000; decide), ?_⟩
    exact ⟨_, rfl, _, rfl, y, _, dy, _, rfl, upd_same, T.c_Reckoner, T.n_worths, (by show 1 < 1000; decide), by rw [upd_upd]; exact k⟩
theorem ok_Reckoner_fact  {f : Addr} {fd : FuncData} (F : Fun K "fact" "Reckoner.fact" s_Reckoner_fact f fd) (T : Txt K mg ad) : FnOk P w K mg base (L2.CX P w) 1 f fd ["self", "k"] (spMF Rv ad.Reckoner (okR Rv CR fa wf) fa wf) := by
  refine F.okX sc_Reckoner_fact (fun vs H Q E => ?_) (fun cdv A outer s H vs Q E hr h => ?_)
  · walk_at "len"
  ·
    obtain ⟨y, dy, fs, k, rfl, hy, ⟨r, wd, dx, kvs, rfl, hrg, hwd, hk⟩, hf, q⟩ := h
    refine ⟨_, (pss_one (ps_ret (pe_dget (hu_of hr) (pe_fld (pv 0) rfl) (pv 1) (fun _ _ => rfl)))), ?_⟩
    obtain ⟨v, hv, rv⟩ := hk k hf
    exact ⟨_, rfl, y, _, dy, _, _, rfl, hy, T.c_Reckoner, T.n_worths, fR_w _ _, _, rfl, wd, v, rfl, by have := DGet.k (k := .inl (k : Int)) hwd; rw [hv] at this; exact this, q v rv⟩
theorem cut1 (a : V) (xs : List V) : cutV (a :: xs) (some ((1 : Nat) : Int)) none = xs := by
  unfold cutV
  rw [HT.sIx_none, HT.sIx_nat, List.length_cons, show min 1 (xs.length + 1) = 1 by omega]
  show List.take (xs.length + 1 - 1) xs = xs
  exact List.take_of_length_le (by omega)
theorem ok_Reckoner_plus (mono : ∀ H H' a v, NG.Kp H H' → Rv H a v → Rv H' a v) (m_z : MetX P w K mg base 3 CR "zero" (spNulR Rv CR z)) (m_b : MetX P w K mg base 3 CR "plus" (spBinR tl Rv CR okP pf)) {f : Addr} {fd : FuncData} (F : Fun K "plus" "Reckoner.plus" s_Reckoner_plus f fd) (T : Txt K mg ad) : FnOk P w K mg base (L2.CX P w) 4 f fd ["self", "parts"] (spML tl Rv ad.Reckoner (okR Rv CR fa wf) (okFoldG okP pf) (foldG pf z)) := by
  refine F.okX sc_Reckoner_plus (fun vs H Q E => ?_) (fun cdv A outer s H vs Q E hr h => ?_)
  · walk_at "len"
  ·
    obtain ⟨y, dy, fs, L, xs, ys, rfl, hy, ⟨r, wd, dx, kvs, rfl, hrg, hwd, hk⟩, hL, hx, hok, hl, eo, q⟩ := h
    refine ⟨_, (pss_cons (ps_if (pt_not (pt_truth (pv 1) (by intro _; rfl))) (pss_one (ps_ret (pd_meth0 hr (takes_of rfl rfl rfl rfl) (pe_fld (pv 0) rfl)))) pss_nil)
      (pss_cons (ps_set (i := 2) sc_Reckoner_plus.nd rfl (by first | exact Or.inl rfl | exact Or.inr rfl) (pe_ix ix_list (pv 1) pe_int (fun _ _ => rfl)))
      (pss_cons (ps_for (passes_of rfl) rfl (pi_list (pe_slice sl_list (pv 1) (po_some pe_int) po_none)) (pg_name (i := 3) sc_Reckoner_plus.nd rfl (by first | exact Or.inl rfl | exact Or.inr rfl)) (pss_one (ps_set (i := 2) sc_Reckoner_plus.nd rfl (by first | exact Or.inl rfl | exact Or.inr rfl) (pd_meth hr (takes_of rfl rfl rfl rfl) (pe_fld (pv 0) rfl) (pa_cons (pv 2) (pa_cons (pv 3) pa_nil))))))
      (pss_one (ps_ret (pv 2)))))), ?_⟩
    refine ⟨_, rfl, _, .inl ⟨_, SqL.of hL, rfl⟩, ?_⟩
    cases xs with
    | nil =>
      have : ys = [] := List.length_eq_zero_iff.mp hx.1.symm
      subst this
      exact iteT ⟨_, rfl, y, _, dy, _, _, rfl, hy, T.c_Reckoner, T.n_semiring, fR_s _ _, r, _, dx, [], 3, _, rfl, hrg, rfl, by decide, m_z, r, dx, rfl, hrg, q⟩
    | cons a xs =>
      cases ys with
      | nil => exact absurd hx.1 (by simp)
      | cons b ys =>
      have lxy : xs.length = ys.length := by simpa using hx.1
      refine iteF (go_next ?_)
      refine go_seq ⟨_, rfl, L, _, _, b, rfl, rfl, SqL.of hL, at_of (j := 0) rfl rfl, go_name rfl ?_⟩
      refine go_sq ⟨_, rfl, _, rfl, L, _, rfl, SqL.of hL, fun p hp => ⟨p, rfl, ⟨_, SqL.of upd_same⟩, ?_⟩⟩
      rw [show cutV (b :: ys) (some 1) none = ys from cut1 b ys]
      refine for_list (K := K) (a := p) (xs := ys) (fun i σ H' => ∃ (t : V) (v : Option V), σ = [some (.ref y), some (.ref L), some t, v] ∧ Same H H' ∧ H' p = some (.lst ys) ∧ Rv H' ((xs.take i).foldl pf a) t)
        ⟨b, none, rfl, same_new (Same.refl _) hp, upd_same, mono _ _ _ _ (.of (same_new (Same.refl _) hp)) (hx.2 0 a b rfl rfl)⟩ (fun i σ H' _ ⟨_, _, _, _, e, _⟩ => SqL.of e) ?_ ?_
      · rintro i u σ H' hu ⟨t, v, rfl, s', e', rt⟩
        have hi : i < xs.length := by rw [lxy]; exact (List.getElem?_eq_some_iff.mp hu).1
        have hm : xs[i]? = some xs[i] := List.getElem?_eq_getElem hi
        have ru := mono _ _ _ _ (.of s') (hx.2 (i + 1) xs[i] u hm hu)
        refine go_name rfl ?_
        refine ⟨_, rfl, y, _, dy, _, _, rfl, s' _ _ hy, T.c_Reckoner, T.n_semiring, fR_s _ _, r, _, dx, [], 3, _, rfl, s' _ _ hrg, rfl, by decide, m_b, _, rfl, _, rfl, r, dx, t, u, _, _, rfl, s' _ _ hrg, rt, ru, okFold_at hok hm, eo.up s', fun H2 v2 s2 r2 => go_name rfl ⟨v2, _, rfl, fun b o e => s2 _ _ (s' _ _ e), s2 _ _ e', ?_⟩⟩
        rw [List.take_add_one, hm, List.foldl_append]
        exact r2
      · rintro σ H' ⟨t, v, rfl, s', e', rt⟩
        rw [← lxy, List.take_length] at rt
        exact go_nx (go_ret ⟨_, rfl, q H' t s' rt⟩)
theorem ok_Reckoner_times (mono : ∀ H H' a v, NG.Kp H H' → Rv H a v → Rv H' a v) (m_z : MetX P w K mg base 3 CR "one" (spNulR Rv CR o)) (m_b : MetX P w K mg base 3 CR "times" (spBinR tl Rv CR okT tf)) {f : Addr} {fd : FuncData} (F : Fun K "times" "Reckoner.times" s_Reckoner_times f fd) (T : Txt K mg ad) : FnOk P w K mg base (L2.CX P w) 4 f fd ["self", "parts"] (spML tl Rv ad.Reckoner (okR Rv CR fa wf) (okFoldG okT tf) (foldG tf o)) := by
  refine F.okX sc_Reckoner_times (fun vs H Q E => ?_) (fun cdv A outer s H vs Q E hr h => ?_)
  · walk_at "len"
  ·
    obtain ⟨y, dy, fs, L, xs, ys, rfl, hy, ⟨r, wd, dx, kvs, rfl, hrg, hwd, hk⟩, hL, hx, hok, hl, eo, q⟩ := h
    refine ⟨_, (pss_cons (ps_if (pt_not (pt_truth (pv 1) (by intro _; rfl))) (pss_one (ps_ret (pd_meth0 hr (takes_of rfl rfl rfl rfl) (pe_fld (pv 0) rfl)))) pss_nil)
      (pss_cons (ps_set (i := 2) sc_Reckoner_times.nd rfl (by first | exact Or.inl rfl | exact Or.inr rfl) (pe_ix ix_list (pv 1) pe_int (fun _ _ => rfl)))
      (pss_cons (ps_for (passes_of rfl) rfl (pi_list (pe_slice sl_list (pv 1) (po_some pe_int) po_none)) (pg_name (i := 3) sc_Reckoner_times.nd rfl (by first | exact Or.inl rfl | exact Or.inr rfl)) (pss_one (ps_set (i := 2) sc_Reckoner_times.nd rfl (by first | exact Or.inl rfl | exact Or.inr rfl) (pd_meth hr (takes_of rfl rfl rfl rfl) (pe_fld (pv 0) rfl) (pa_cons (pv 2) (pa_cons (pv 3) pa_nil))))))
      (pss_one (ps_ret (pv 2)))))), ?_⟩
    refine ⟨_, rfl, _, .inl ⟨_, SqL.of hL, rfl⟩, ?_⟩
    cases xs with
    | nil =>
      have : ys = [] := List.length_eq_zero_iff.mp hx.1.symm
      subst this
      exact iteT ⟨_, rfl, y, _, dy, _, _, rfl, hy, T.c_Reckoner, T.n_semiring, fR_s _ _, r, _, dx, [], 3, _, rfl, hrg, rfl, by decide, m_z, r, dx, rfl, hrg, q⟩
    | cons a xs =>
      cases ys with
      | nil => exact absurd hx.1 (by simp)
      | cons b ys =>
      have lxy : xs.length = ys.length := by simpa using hx.1
      refine iteF (go_next ?_)
      refine go_seq ⟨_, rfl, L, _, _, b, rfl, rfl, SqL.of hL, at_of (j := 0) rfl rfl, go_name rfl ?_⟩
      refine go_sq ⟨_, rfl, _, rfl, L, _, rfl, SqL.of hL, fun p hp => ⟨p, rfl, ⟨_, SqL.of upd_same⟩, ?_⟩⟩
      rw [show cutV (b :: ys) (some 1) none = ys from cut1 b ys]
      refine for_list (K := K) (a := p) (xs := ys) (fun i σ H' => ∃ (t : V) (v : Option V), σ = [some (.ref y), some (.ref L), some t, v] ∧ Same H H' ∧ H' p = some (.lst ys) ∧ Rv H' ((xs.take i).foldl tf a) t)
        ⟨b, none, rfl, same_new (Same.refl _) hp, upd_same, mono _ _ _ _ (.of (same_new (Same.refl _) hp)) (hx.2 0 a b rfl rfl)⟩ (fun i σ H' _ ⟨_, _, _, _, e, _⟩ => SqL.of e) ?_ ?_
      · rintro i u σ H' hu ⟨t, v, rfl, s', e', rt⟩
        have hi : i < xs.length := by rw [lxy]; exact (List.getElem?_eq_some_iff.mp hu).1
        have hm : xs[i]? = some xs[i] := List.getElem?_eq_getElem hi
        have ru := mono _ _ _ _ (.of s') (hx.2 (i + 1) xs[i] u hm hu)
        refine go_name rfl ?_
        refine ⟨_, rfl, y, _, dy, _, _, rfl, s' _ _ hy, T.c_Reckoner, T.n_semiring, fR_s _ _, r, _, dx, [], 3, _, rfl, s' _ _ hrg, rfl, by decide, m_b, _, rfl, _, rfl, r, dx, t, u, _, _, rfl, s' _ _ hrg, rt, ru, okFold_at hok hm, eo.up s', fun H2 v2 s2 r2 => go_name rfl ⟨v2, _, rfl, fun b o e => s2 _ _ (s' _ _ e), s2 _ _ e', ?_⟩⟩
        rw [List.take_add_one, hm, List.foldl_append]
        exact r2
      · rintro σ H' ⟨t, v, rfl, s', e', rt⟩
        rw [← lxy, List.take_length] at rt
        exact go_nx (go_ret ⟨_, rfl, q H' t s' rt⟩)
end
end
end K34

set_option Elab.async false
set_option linter.all false
set_option maxRecDepth 100000
set_option maxHeartbeats 4000000
namespace K34
open PySem L2 Ew Tb GxR ND
local macro_rules | `(tactic| walk_at "len") => `(tactic| first | (intro h; obtain ⟨e, _⟩ := h; rw [e]; rfl) | (intro h; obtain ⟨_, e, _⟩ := h; rw [e]; rfl) | (intro h; obtain ⟨_, _, e, _⟩ := h; rw [e]; rfl) | (intro h; obtain ⟨_, _, _, e, _⟩ := h; rw [e]; rfl) | (intro h; obtain ⟨_, _, _, _, e, _⟩ := h; rw [e]; rfl) | (intro h; obtain ⟨_, _, _, _, _, e, _⟩ := h; rw [e]; rfl) | (intro h; obtain ⟨_, _, _, _, _, _, e, _⟩ := h; rw [e]; rfl) | (intro h; obtain ⟨_, _, _, _, _, _, _, e, _⟩ := h; rw [e]; rfl) | (intro h; obtain ⟨_, _, _, _, _, _, _, _, e, _⟩ := h; rw [e]; rfl) | (intro h; obtain ⟨_, _, _, _, _, _, _, _, _, e, _⟩ := h; rw [e]; rfl) | (intro h; obtain ⟨_, _, _, _, _, _, _, _, _, _, e, _⟩ := h; rw [e]; rfl) | (intro h; obtain ⟨_, _, _, _, _, _, _, _, _, _, _, e, _⟩ := h; rw [e]; rfl) | (intro h; obtain ⟨_, _, _, _, _, _, _, _, _, _, _, _, e, _⟩ := h; rw [e]; rfl) | (intro h; obtain ⟨_, _, _, _, _, _, _, _, _, _, _, _, _, e, _⟩ := h; rw [e]; rfl) | (intro h; obtain ⟨_, _, _, _, _, _, _, _, _, _, _, _, _, _, e, _⟩ := h; rw [e]; rfl) | (intro h; obtain ⟨_, _, _, _, _, _, _, _, _, _, _, _, _, _, _, e, _⟩ := h; rw [e]; rfl) | (intro h; obtain ⟨_, _, _, _, _, _, _, _, _, _, _, _, _, _, _, _, e, _⟩ := h; rw [e]; rfl) | (intro h; obtain ⟨_, _, _, _, _, _, _, _, _, _, _, _, _, _, _, _, _, e, _⟩ := h; rw [e]; rfl) | (intro h; exact h.elim))
section
variable {P : Program} {w : World} {K : PySem.W.Frag} {mg : Str → Option Value} {base : Heap} {ad : Ad}

section
variable {tl : Option Addr} {α : Type} {Rv : Hp → α → V → Prop} {CR : Addr} {okP okT : α → α → Prop} {pf tf : α → α → α} {z o : α} {fa : Nat → Prop} {wf : Nat → α}
/-- the reckoner's methods over a semiring -/
structure RkG {α : Type} (P : Program) (w : World) (K : PySem.W.Frag) (mg : Str → Option Value) (base : Heap) (ad : Ad) (tl : Option Addr) (Rv : Hp → α → V → Prop) (CR : Addr) (okP okT : α → α → Prop) (pf tf : α → α → α) (z o : α) (fa : Nat → Prop) (wf : Nat → α) : Prop where
  mono : ∀ H H' a v, NG.Kp H H' → Rv H a v → Rv H' a v
  fact : MetX P w K mg base 5 ad.Reckoner "fact" (spMF Rv ad.Reckoner (okR Rv CR fa wf) fa wf)
  plus : MetX P w K mg base 5 ad.Reckoner "plus" (spML tl Rv ad.Reckoner (okR Rv CR fa wf) (okFoldG okP pf) (foldG pf z))
  times : MetX P w K mg base 5 ad.Reckoner "times" (spML tl Rv ad.Reckoner (okR Rv CR fa wf) (okFoldG okT tf) (foldG tf o))
theorem RkG.maker (R : RkG P w K mg base ad tl Rv CR okP okT pf tf z o fa wf) : MakerG P w K mg base tl Rv ad.Reckoner (okR Rv CR fa wf) fa (okFoldG okP pf) (okFoldG okT tf) (RA pf tf z o wf) :=
  ⟨fun H fs ⟨r, wd, dx, kvs, e, _⟩ => by subst e; exact ⟨fR_no _ _ (by decide) (by decide), fR_no _ _ (by decide) (by decide), fR_no _ _ (by decide) (by decide), fR_no _ _ (by decide) (by decide)⟩, fun H H' fs x s => okR_same R.mono x s, R.mono, R.fact, R.plus, R.times⟩
def spWorth (P : Program) (w : World) (ad : Ad) (tl : Option Addr) (Rv : Hp → α → V → Prop) (CR : Addr) (okP okT : α → α → Prop) (pf tf : α → α → α) (z o : α) (fa : Nat → Prop) (wf : Nat → α) : Sp := fun vs H Q E => ∃ (c S D r wd dx : Addr) (tbl : List Nd) (n : Nat) (x : Nat → α) (kvs : List (Key × V)), vs = [.ref c, .int (n : Int), .ref r, .ref wd] ∧ Circ P w ad.Circuits H c S D tbl ∧ Wf tbl ∧ tbl.length < 64 ∧ n < tbl.length ∧
  H r = some (.ins CR dx []) ∧ H wd = some (.dK kvs) ∧ (∀ k, fa k → ∃ v, valV kvs (.inl (k : Int)) = some v ∧ Rv H (wf k) v) ∧ (∀ m nd, Rch tbl n m → tbl[m]? = some nd → okN fa (okFoldG okP pf) (okFoldG okT tf) x nd ∧ evV (RA pf tf z o wf) (fun p => some (x p)) nd = some (x m)) ∧ (∀ nd ∈ tbl, nd.parts.length ≤ 1000) ∧ Eo tl E H ∧
  ∀ H' v, Same H H' → Rv H' (x n) v → Q v H'
theorem made_same {H : Hp} {y dy : Addr} {o1 o2 : HO} (h1 : H y = none) (h2 : H dy = none) : Same H (upd (upd H dy o1) y o2) := fun b o e => by
  rw [upd_ne (ne_of_none e h1), upd_ne (ne_of_none e h2)]
  exact e
theorem ok_worth (mReck : MakX P w K mg base 1 "Reckoner" ad.Reckoner (spRI ad.Reckoner)) (R : RkG P w K mg base ad tl Rv CR okP okT pf tf z o fa wf) (c_all : CalX P w K mg base 7 "all_made" (spAll P w ad.Circuits tl Rv ad.Reckoner (okR Rv CR fa wf) fa (okFoldG okP pf) (okFoldG okT tf) (RA pf tf z o wf))) {f : Addr} {fd : FuncData} (F : Fun K "worth" "worth" s_worth f fd) (T : Txt K mg ad) : FnOk P w K mg base (L2.CX P w) 9 f fd ["circuits", "node", "semiring", "worths"] (spWorth P w ad tl Rv CR okP okT pf tf z o fa wf) := by
  refine F.okX sc_worth (fun vs H Q E => ?_) (fun cdv A outer s H vs Q E hr h => ?_)
  · walk_at "len"
  ·
    obtain ⟨c, S, D, r, wd, dx, tbl, n, x, kvs, rfl, cc, wft, hl, hn, hring, hwd, hk, hev, hpl, eo, k1⟩ := h
    refine ⟨_, (pss_one (ps_ret (pe_dget (hu_of hr) (pd_call hr (takes_of rfl rfl rfl rfl) (by rfl) (pa_cons (pv 0) (pa_cons (pe_lst (pa_cons (pv 1) pa_nil)) (pa_cons (pd_make hr (takes_of rfl rfl rfl rfl) (by rfl) (pa_cons (pv 2) (pa_cons (pv 3) pa_nil))) pa_nil)))) (pv 1) (fun _ _ => rfl)))), ?_⟩
    refine ⟨7, _, by decide, c_all, _, rfl, _, rfl, (show 1 ≤ sizeLine by decide), fun L hL => ?_⟩
    have s1 : Same H (upd H L (.lst [.int (n : Int)])) := same_new (Same.refl _) hL
    refine ⟨1, ad.Reckoner, _, by decide, mReck, _, rfl, _, rfl, fun y dy hy hdy nyd => ⟨y, dy, r, wd, rfl, upd_same, rfl, ?_⟩⟩
    rw [upd_upd]
    have s2 := made_same (o1 := .own y) (o2 := .ins ad.Reckoner dy (fR r wd)) hy hdy
    have s12 : Same H _ := fun b o e => s2 _ _ (s1 _ _ e)
    refine ⟨c, S, D, tbl, L, y, dy, fR r wd, n, x, rfl, cc.same s12, wft, hl, hn, s2 _ _ upd_same, upd_same, ⟨r, wd, dx, kvs, rfl, s12 _ _ hring, s12 _ _ hwd, fun k hf => let ⟨v, e1, e2⟩ := hk k hf; ⟨v, e1, R.mono _ _ _ _ (.of s12) e2⟩⟩, hev, hpl, eo.up s12, fun H' M kvs' v s' e' hv rv => ?_⟩
    refine ⟨_, rfl, M, v, rfl, ?_, k1 H' v (fun b o e => s' _ _ (s12 _ _ e)) rv⟩
    have := DGet.k (k := .inl (n : Int)) e'
    rw [hv] at this
    exact this
end
end
end K34

set_option Elab.async false
set_option linter.all false
set_option maxRecDepth 100000
set_option maxHeartbeats 4000000
namespace K34
open PySem L2 Ew Tb ND
local macro_rules | `(tactic| walk_at "len") => `(tactic| first | (intro h; obtain ⟨_, e, _⟩ := h; rw [e]; rfl) | (intro h; obtain ⟨_, _, e, _⟩ := h; rw [e]; rfl) | (intro h; obtain ⟨_, _, _, e, _⟩ := h; rw [e]; rfl) | (intro h; obtain ⟨_, _, _, _, e, _⟩ := h; rw [e]; rfl) | (intro h; obtain ⟨_, _, _, _, _, e, _⟩ := h; rw [e]; rfl) | (intro h; obtain ⟨_, _, _, _, _, _, e, _⟩ := h; rw [e]; rfl) | (intro h; obtain ⟨_, _, _, _, _, _, _, e, _⟩ := h; rw [e]; rfl) | (intro h; exact h.elim))
section
variable {P : Program} {w : World} {K : PySem.W.Frag} {mg : Str → Option Value} {base : Heap} {ad : Ad}
/-! ### a list comprehension over a list of known things, with a test -/
theorem take_fm {α β : Type} {p : α → Bool} {g : α → β} {ys : List α} {i : Nat} {y : α} (h : ys[i]? = some y) : ((ys.take (i + 1)).filter p).map g = ((ys.take i).filter p).map g ++ (if p y = true then [g y] else []) := by
  rw [List.take_add_one, h, List.filter_append, List.map_append]
  congr 1
  by_cases c : p y = true
  · rw [if_pos c]; simp [c]
  · rw [if_neg c]; simp [c]
theorem lc_fm {α : Type} {K : PySem.W.Frag} {a : Addr} (ys : List α) (e : α → V) (p : α → Bool) (gv : α → V) {k : Nat} {tt : TT} {te : TE} {vs : List Nat} {σ : L2.St} {H1 : Hp} {D : Addr} {Qd : Hp → Prop} (hD : H1 D = none) (hL : H1 a = some (.lst (ys.map e)))
    (hn : ys.length ≤ 100000) (hw : ∀ x, wipe ((wipe σ vs).set k (some x)) vs = wipe σ vs)
    (ht : ∀ (y : α) (H : Hp) (Kt : Bool → Hp → Prop), y ∈ ys → Same H1 H → Kt (p y) H → tt ((wipe σ vs).set k (some (e y))) H Kt)
    (he : ∀ (y : α) (H : Hp) (Kt : VK), y ∈ ys → p y = true → Same H1 H → Kt (gv y) H → te ((wipe σ vs).set k (some (e y))) H Kt)
    (hd : ∀ H, Same H1 H → H D = some (.lst ((ys.filter p).map gv)) → Qd H) :
    ∃ W : Nat → Nat → Hp → Prop, (∃ m, W 0 m (upd H1 D (.lst []))) ∧ ∀ i m H, W i m H →
      ((Itl K a).stop i H ∧ Qd H) ∨ ((Itl K a).go i H ∧ ∃ Nx : Hp → Prop, (∀ H', Nx H' → ∃ m', m' < m ∧ W (i + 1) m' H') ∧ ∀ x H', (Itl K a).yld i H x H' → gName k x (wipe σ vs) H' fun σ2 H2 => wipe σ2 vs = wipe σ vs ∧ tt σ2 H2 fun b H3 =>
        if b = true then te σ2 H3 fun y H4 => ∃ acc, H4 D = some (.lst acc) ∧ acc.length < sizeLine ∧ Nx (upd H4 D (.lst (acc ++ [y]))) else Nx H3) := by
  refine lc_list (xs := ys.map e) (fun i H => Same H1 H ∧ H D = some (.lst (((ys.take i).filter p).map gv))) ⟨same_new (Same.refl _) hD, upd_same⟩ (fun i H _ ⟨s1, _⟩ => SqL.of (s1 _ _ hL)) (fun i x H hx ⟨s1, e1⟩ => ?_) (fun H ⟨s1, e1⟩ => hd H s1 ?_)
  · rw [List.getElem?_map] at hx
    obtain ⟨y, hy, rfl⟩ := Option.map_eq_some_iff.mp hx
    have hm : y ∈ ys := List.mem_of_getElem? hy
    have hi : i < ys.length := by
      rcases Nat.lt_or_ge i ys.length with h | h
      · exact h
      · rw [List.getElem?_eq_none h] at hy; cases hy
    refine ⟨hw _, ht y H _ hm s1 ?_⟩
    by_cases c : p y = true
    · rw [if_pos c]
      refine he y H _ hm c s1 ⟨_, e1, ?_, same_but hD s1 but_app, ?_⟩
      · have h1 := List.length_filter_le p (ys.take i)
        have h2 := List.length_take_le i ys
        rw [List.length_map]
        exact Nat.lt_of_le_of_lt (by omega : _ ≤ 100000) (by decide)
      · rw [upd_same, take_fm hy, if_pos c]
    · rw [if_neg c]
      refine ⟨s1, ?_⟩
      rw [take_fm hy, if_neg c, List.append_nil]
      exact e1
  · rw [e1, List.length_map, List.take_length]
def Nd.isFact : Nd → Bool
  | .fact _ => true
  | _ => false
def Nd.num : Nd → Nat
  | .fact k => k
  | _ => 0
theorem Nd.fact_word (nd : Nd) : decide (V.str nd.word = V.str "fact") = nd.isFact := by
  cases nd with
  | zero => exact (show decide (V.str "zero" = V.str "fact") = false by decide +kernel)
  | one => exact (show decide (V.str "one" = V.str "fact") = false by decide +kernel)
  | fact k => exact (show decide (V.str "fact" = V.str "fact") = true by decide +kernel)
  | star n => exact (show decide (V.str "star" = V.str "fact") = false by decide +kernel)
  | plus ps => exact (show decide (V.str "plus" = V.str "fact") = false by decide +kernel)
  | times ps => exact (show decide (V.str "times" = V.str "fact") = false by decide +kernel)
/-- the facts that are reached from n -/
def spFactsIn (P : Program) (w : World) (C : Addr) : Sp := fun vs H Q _ => ∃ c S D tbl, ∃ (n : Nat), vs = [.ref c, .int (n : Int)] ∧ Circ P w C H c S D tbl ∧ Wf tbl ∧ tbl.Nodup ∧ tbl.length < 64 ∧ n < tbl.length ∧
  ∀ H' l ks, Same H H' → H' l = some (.lst (nV ks)) → ks.Nodup → ks.Pairwise (· ≤ ·) → (∀ k, k ∈ ks ↔ ∃ m, Rch tbl n m ∧ tbl[m]? = some (.fact k)) → Q (.ref l) H'
theorem ok_Circuits_facts_in (c_nodes_within : CalX P w K mg base 2 "nodes_within" (spWithin P w ad.Circuits)) {f : Addr} {fd : FuncData} (F : Fun K "facts_in" "Circuits.facts_in" s_Circuits_facts_in f fd) (T : Txt K mg ad) : FnOk P w K mg base (L2.CX P w) 3 f fd ["self", "node"] (spFactsIn P w ad.Circuits) := by
  refine F.okX sc_Circuits_facts_in (fun vs H Q E => ?_) (fun cdv A outer s H vs Q E hr h => ?_)
  · walk_at "len"
  ·
    obtain ⟨c, S, D, tbl, n, rfl, cc, wf, tnd, hl, hn, k⟩ := h
    refine ⟨_, (pss_cons (ps_setLc (i := 2) (own := [("part", 3)]) (tt := tYes) rfl sc_Circuits_facts_in.nd rfl rfl (sw_true rfl rfl rfl (by decide +kernel)) (pi_list (pc_call c_nodes_within hr (by first | decide | omega) (takes_of rfl rfl rfl rfl) (by rfl) (pa_cons (pv 0) (pa_cons (pe_lst (pa_cons (pv 1) pa_nil)) pa_nil)))) (blkOk_by (by kernel_rfl)) (fun _ _ _ _ _ => (pg_name (i := 3) sc_Circuits_facts_in.nd rfl (by first | exact Or.inl rfl | exact Or.inr rfl))) (fun _ _ _ _ _ => pts_nil) (fun _ _ _ _ _ => (pe_ix (kix_list (K := K)) (kpe_fld (K := K) (pv 0) rfl) (pv 3) (fun _ _ => rfl))))
      (pss_one (ps_ret (pe_callB cr_sortedI (by rfl) T.z_sorted (by decide +kernel) (pa_cons (pe_lc (own := [("one", 4)]) rfl sc_Circuits_facts_in.nd (pi_list (pv 2)) (blkOk_by (by kernel_rfl)) (fun _ _ _ _ _ => (pg_name (i := 4) sc_Circuits_facts_in.nd rfl (by first | exact Or.inl rfl | exact Or.inr rfl))) (fun _ _ _ _ _ => (pts_one (pt_cmpR op_eq (pe_ix (kix_tup (K := K)) (pv 4) pe_int (fun _ _ => rfl)) pe_str (nomark _)))) (fun _ _ _ _ _ => (pe_ix (kix_tup (K := K)) (pv 4) pe_int (fun _ _ => rfl)))) pa_nil))))), ?_⟩
    obtain ⟨dx, hc⟩ := cc.ins
    obtain ⟨as, hS, hk⟩ := cc.shown
    refine ⟨_, rfl, _, rfl, (show 1 ≤ sizeLine by decide), fun L hL => ?_⟩
    have s1 : Same H (upd H L (.lst [.int (n : Int)])) := same_new (Same.refl _) hL
    refine ⟨c, S, D, tbl, L, n, rfl, cc.same s1, wf, hl, hn, upd_same, fun H2 l ys s2 e2 ynd yp ym => ?_⟩
    have s02 : Same H H2 := fun b u e => s2 _ _ (s1 _ _ e)
    refine ⟨l, rfl, ⟨_, SqL.of e2⟩, fun D1 hD1 => ?_⟩
    have ylt : ∀ y ∈ ys, y < tbl.length := fun y hy => Nat.lt_of_le_of_lt (((ym y).mp hy).le wf) hn
    have alen : as.length = tbl.length := by
      have := Kys.length hk
      rw [List.length_map, List.length_map] at this
      exact this.symm
    have ylen : ys.length ≤ 64 := by
      have h1 := ynd.length_le_of_subset (l₂ := List.range tbl.length) fun m hm => List.mem_range.mpr (ylt m hm)
      rw [List.length_range] at h1
      omega
    have aat : ∀ y ∈ ys, (as.map V.ref)[y]? = some (.ref (as.getD y 0)) := fun y hy => by
      have hya : y < as.length := by rw [alen]; exact ylt y hy
      rw [List.getElem?_map, List.getD_eq_getElem?_getD, List.getElem?_eq_getElem hya]
      rfl
    have nat_ : ∀ y ∈ ys, ∃ nd, tbl[y]? = some nd ∧ NdAt H (as.getD y 0) nd := fun y hy => by
      have hyt := ylt y hy
      obtain ⟨x, ex, ky⟩ := Kys.at (i := y) (k := tK tbl[y]) hk (by rw [List.getElem?_map, List.getElem?_eq_getElem hyt]; rfl)
      rw [aat y hy] at ex
      cases ex
      exact ⟨_, List.getElem?_eq_getElem hyt, ky⟩
    refine lc_fm ys (fun y => .int (y : Int)) (fun _ => true) (fun y => .ref (as.getD y 0)) hD1 e2 (by omega) (fun _ => rfl) (fun y H Kt _ _ h => yes_then h) (fun y H3 Kt hy _ s3 h => ?_) (fun H4 s4 e4 => ?_)
    · have s03 : Same H H3 := fun b u e => s3 _ _ (s02 _ _ e)
      exact ⟨_, rfl, c, _, dx, _, _, rfl, s03 _ _ hc, T.c_Circuits, T.n_shown, fC_s _ _, _, rfl, S, _, _, _, rfl, rfl, SqL.of (s03 _ _ hS), at_of (j := y) rfl (aat y hy), h⟩
    · rw [List.filter_eq_self.mpr (fun _ _ => rfl)] at e4
      have s04 : Same H H4 := fun b u e => s4 _ _ (s02 _ _ e)
      refine go_name rfl (go_nx ?_)
      refine ⟨_, rfl, D1, rfl, ⟨_, SqL.of e4⟩, fun D2 hD2 => ?_⟩
      refine lc_fm ys (fun y => .ref (as.getD y 0)) (fun y => (tbl.getD y .zero).isFact) (fun y => .int ((tbl.getD y .zero).num : Nat)) hD2 e4 (by omega) (fun _ => rfl) (fun y H5 Kt hy s5 h => ?_) (fun y H5 Kt hy hp s5 h => ?_) (fun H5 s5 e5 => ?_)
      · obtain ⟨nd, e1, ha⟩ := nat_ y hy
        obtain ⟨l1, e6, _⟩ := ha.inv
        have e7 := s5 _ _ (s04 _ _ e6)
        have eg : tbl.getD y .zero = nd := by rw [List.getD_eq_getElem?_getD, e1]; rfl
        refine ⟨_, rfl, _, _, _, _, rfl, rfl, SqT.of e7, at_of (j := 0) rfl (nd.vals0 l1), rfl, _, rfl, ?_⟩
        rw [Nd.fact_word, ← eg]
        exact h
      · obtain ⟨nd, e1, ha⟩ := nat_ y hy
        obtain ⟨l1, e6, _⟩ := ha.inv
        have e7 := s5 _ _ (s04 _ _ e6)
        have eg : tbl.getD y .zero = nd := by rw [List.getD_eq_getElem?_getD, e1]; rfl
        rw [eg] at hp h
        cases nd with
        | fact kk => exact ⟨_, rfl, _, _, _, _, rfl, rfl, SqT.of e7, at_of (j := 1) rfl rfl, h⟩
        | _ => exact absurd (show false = true from hp) Bool.false_ne_true
      · refine ⟨D2, (((ys.filter fun y => (tbl.getD y .zero).isFact).map fun y => (tbl.getD y .zero).num).map fun (m : Nat) => (m : Int)), rfl, SqL.of (by rw [e5]; simp only [List.map_map]; rfl), fun ns' q hp hs hq => ?_⟩
        rw [sortN_of hp hs, int_map]
        have hperm := sortN_perm ((ys.filter fun y => (tbl.getD y .zero).isFact).map fun y => (tbl.getD y .zero).num)
        have fget : ∀ y ∈ ys.filter (fun y => (tbl.getD y .zero).isFact), tbl[y]? = some (.fact (tbl.getD y .zero).num) := fun y hy => by
          obtain ⟨h1, h2⟩ := List.mem_filter.mp hy
          have hyt := ylt y h1
          have eg : tbl.getD y .zero = tbl[y] := by rw [List.getD_eq_getElem?_getD, List.getElem?_eq_getElem hyt]; rfl
          rw [eg] at h2 ⊢
          rw [List.getElem?_eq_getElem hyt]
          cases e : tbl[y] with
          | fact kk => rfl
          | _ =>
            rw [e] at h2
            exact absurd (show false = true from h2) Bool.false_ne_true
        refine k _ q _ (fun b u e => new2 s5 hq _ _ (s04 _ _ e)) upd_same (hperm.nodup_iff.mpr ?_) (sortN_rises _) fun kk => ?_
        · refine List.pairwise_map.mpr ((ynd.sublist List.filter_sublist).imp_of_mem fun {a b} ha hb hab z => hab ?_)
          have h1 := fget a ha
          have h2 := fget b hb
          rw [← z] at h2
          exact (List.getElem?_inj (ylt a (List.mem_filter.mp ha).1) tnd).mp (h1.trans h2.symm)
        · rw [hperm.mem_iff]
          constructor
          · intro hm
            obtain ⟨y, hy, rfl⟩ := List.mem_map.mp hm
            exact ⟨y, (ym y).mp (List.mem_filter.mp hy).1, fget y hy⟩
          · rintro ⟨m, hr, hm⟩
            have eg : tbl.getD m .zero = .fact kk := by rw [List.getD_eq_getElem?_getD, hm]; rfl
            exact List.mem_map.mpr ⟨m, List.mem_filter.mpr ⟨(ym m).mpr hr, by rw [eg]; rfl⟩, by rw [eg]; rfl⟩
end
end K34

set_option Elab.async false
set_option linter.all false
set_option maxRecDepth 100000
set_option maxHeartbeats 4000000
namespace K34
open PySem L2 Ew Tb GxR ND PM NI PK
local macro_rules | `(tactic| walk_at "len") => `(tactic| first | (intro h; obtain ⟨e, _⟩ := h; rw [e]; rfl) | (intro h; obtain ⟨_, e, _⟩ := h; rw [e]; rfl) | (intro h; obtain ⟨_, _, e, _⟩ := h; rw [e]; rfl) | (intro h; obtain ⟨_, _, _, e, _⟩ := h; rw [e]; rfl) | (intro h; obtain ⟨_, _, _, _, e, _⟩ := h; rw [e]; rfl) | (intro h; obtain ⟨_, _, _, _, _, e, _⟩ := h; rw [e]; rfl) | (intro h; obtain ⟨_, _, _, _, _, _, e, _⟩ := h; rw [e]; rfl) | (intro h; obtain ⟨_, _, _, _, _, _, _, e, _⟩ := h; rw [e]; rfl) | (intro h; obtain ⟨_, _, _, _, _, _, _, _, e, _⟩ := h; rw [e]; rfl) | (intro h; obtain ⟨_, _, _, _, _, _, _, _, _, e, _⟩ := h; rw [e]; rfl) | (intro h; obtain ⟨_, _, _, _, _, _, _, _, _, _, e, _⟩ := h; rw [e]; rfl) | (intro h; obtain ⟨_, _, _, _, _, _, _, _, _, _, _, e, _⟩ := h; rw [e]; rfl) | (intro h; obtain ⟨_, _, _, _, _, _, _, _, _, _, _, _, e, _⟩ := h; rw [e]; rfl) | (intro h; obtain ⟨_, _, _, _, _, _, _, _, _, _, _, _, _, e, _⟩ := h; rw [e]; rfl) | (intro h; obtain ⟨_, _, _, _, _, _, _, _, _, _, _, _, _, _, e, _⟩ := h; rw [e]; rfl) | (intro h; obtain ⟨_, _, _, _, _, _, _, _, _, _, _, _, _, _, _, e, _⟩ := h; rw [e]; rfl) | (intro h; obtain ⟨_, _, _, _, _, _, _, _, _, _, _, _, _, _, _, _, e, _⟩ := h; rw [e]; rfl) | (intro h; obtain ⟨_, _, _, _, _, _, _, _, _, _, _, _, _, _, _, _, _, e, _⟩ := h; rw [e]; rfl) | (intro h; exact h.elim))
section
variable {P : Program} {w : World} {K : PySem.W.Frag} {mg : Str → Option Value} {base : Heap} {ad : Ad}
theorem SqT.off {K : PySem.W.Frag} {H H' : Hp} {b : Addr} {xs : List V} (h : SqT K H b xs) (f : ∀ o, H b = some o → H' b = some o) : SqT K H' b xs := by
  rcases h with (h | ⟨o, h⟩) | h
  · exact .inl (.inl (f _ h))
  · exact .inl (.inr ⟨o, f _ h⟩)
  · exact .inr h
def spProd : Sp := fun vs H Q _ => ∃ (x y : V) (a b : Mono), vs = [x, y] ∧ NG.Ky H (kM a) x ∧ NG.Ky H (kM b) y ∧ MCan a ∧ MCan b ∧ a.length ≤ 1000 ∧ b.length ≤ 1000 ∧ ∀ H' t, Same H H' → H t = none → NG.Ky H' (kM (mmul a b)) (.ref t) → Q (.ref t) H'
theorem ok_product_of  {f : Addr} {fd : FuncData} (F : Fun K "_product_of" "_product_of" s_product_of f fd) (T : Txt K mg ad) : FnOk P w K mg base (L2.CX P w) 1 f fd ["first", "second"] (spProd) := by
  refine F.okX sc_product_of (fun vs H Q E => ?_) (fun cdv A outer s H vs Q E hr h => ?_)
  · walk_at "len"
  ·
    obtain ⟨x, y, a, b, rfl, hx, hy, ca, cb, la, lb, k⟩ := h
    refine ⟨_, (pss_cons (DCx.ps_setDc (i := 2) (own := [("fact", 3), ("exponent", 4)]) (tt := tYes) rfl sc_product_of.nd rfl rfl (DCx.swd_true rfl rfl rfl (by decide +kernel)) (pi_tup (pv 0)) (blkOk_by (by kernel_rfl)) (fun _ _ _ _ _ => (PK.kpg_tup (K := K) rfl (pgs_cons (pg_name (i := 3) sc_product_of.nd rfl (by first | exact Or.inl rfl | exact Or.inr rfl)) (pgs_cons (pg_name (i := 4) sc_product_of.nd rfl (by first | exact Or.inl rfl | exact Or.inr rfl)) pgs_nil)))) (fun _ _ _ _ _ => pts_nil) (fun _ _ _ _ _ => (pv 3)) (fun _ _ _ _ _ => (pv 4)))
      (pss_cons (ps_for (passes_of rfl) rfl (pi_tup (pv 1)) (pg_tup rfl (pgs_cons (pg_name (i := 3) sc_product_of.nd rfl (by first | exact Or.inl rfl | exact Or.inr rfl)) (pgs_cons (pg_name (i := 4) sc_product_of.nd rfl (by first | exact Or.inl rfl | exact Or.inr rfl)) pgs_nil))) (pss_one (ps_dput (hu_of hr) (pv 2) (pv 3) (pe_op op_add (pe_dget2 (hu_of hr) (pv 2) (pv 3) pe_int ⟨rfl, rfl, rfl, rfl⟩) (pv 4)) rfl)))
      (pss_one (ps_ret (pe_callTy NF.call_tupleF (by rfl) T.z_tuple (by decide +kernel) (pa_cons (pe_callB (cr_sortItems rfl hr.units) (by rfl) T.z_sorted (by decide +kernel) (pa_cons (L2.pe_items (pv 2)) pa_nil)) pa_nil)))))), ?_⟩
    obtain ⟨pa, oa, xs, rfl, _, ea, ka⟩ := PKG.ng_tup hx
    obtain ⟨pb, ob, ys, rfl, _, eb, kb⟩ := PKG.ng_tup hy
    have la' : xs.length = a.length := by rw [← kys_len ka, List.length_map]
    have lb' : ys.length = b.length := by rw [← kys_len kb, List.length_map]
    refine go_sq ⟨_, rfl, pa, rfl, ⟨_, PKG.fz ea⟩, fun D hD => ?_⟩
    have pw : ∀ {m : Mono} {zs : List V} {i : Nat} {z : V}, Kys H (m.map kQ) zs → zs[i]? = some z → ∃ f e q, m[i]? = some (f, e) ∧ z = .ref q ∧ H q = some (.tup [.int (f : Int), .int (e : Int)]) := fun {m zs i z} r hz => by
      have hl := kys_len r
      rw [List.length_map] at hl
      have hi : i < m.length := by rw [hl]; exact (List.getElem?_eq_some_iff.mp hz).1
      have hk := kys_at r i (k := kQ m[i]) (by rw [List.getElem?_map, List.getElem?_eq_getElem hi]; rfl) hz
      obtain ⟨q, u, v, rfl, e, k1, k2⟩ := ky_pair hk
      rw [ky_num k1, ky_num k2] at e
      exact ⟨m[i].1, m[i].2, q, List.getElem?_eq_getElem hi, rfl, e⟩
    refine DC2.walk_t (K := K) (xs := xs) (fun i H' => Same H H' ∧ ED H' D (a.take i)) ⟨same_new (Same.refl _) hD, ⟨[], upd_same, List.nodup_nil, Nat.le_refl _, fun _ h => (nomatch h), fun f => rfl⟩⟩ (fun i H' _ ⟨s', _⟩ => PKG.fz (s' _ _ ea)) (fun i z H1 hz ⟨s1, ed1⟩ => ?_) (fun H1 ⟨s1, ed1⟩ => go_name rfl ?_)
    · obtain ⟨f, e, q, hm, rfl, hq⟩ := pw ka hz
      obtain ⟨kvs, e1, n1, n2, n3, n4⟩ := ed1.ex_
      have hz0 : ex (a.take i) f = 0 := ex_zero fun x hx => by
        obtain ⟨j, hj⟩ := List.mem_iff_getElem?.mp hx
        rw [List.getElem?_take] at hj
        split at hj
        · rename_i c
          have := List.pairwise_iff_getElem.mp ca.asc j i (List.getElem?_eq_some_iff.mp hj).1 (List.getElem?_eq_some_iff.mp hm).1 c
          rw [(List.getElem?_eq_some_iff.mp hj).2, (List.getElem?_eq_some_iff.mp hm).2] at this
          have h2 : x.1 < f := this
          omega
        · cases hj
      refine ⟨q, _, rfl, SqT.of (s1 _ _ hq), rfl, _, _, rfl, go_name rfl ⟨_, _, rfl, go_name rfl ⟨rfl, ?_⟩⟩⟩
      refine ⟨rfl, yes_then (iteT ⟨_, rfl, _, rfl, kvs, .inl (f : Int), rfl, e1, ?_, same_but hD s1 (fun c u nc z => by rw [upd_ne nc]; exact z), ?_⟩)⟩
      · rw [List.length_take] at n2
        exact Nat.lt_of_le_of_lt (by omega : _ ≤ 1000) (by decide)
      · rw [List.take_add_one, hm]
        have pe := ca.pos (f, e) (List.mem_of_getElem? hm)
        refine ed_put pe n1 n2 n3 n4 ?_
        rw [hz0, Nat.zero_add]
        exact upd_same
    · rw [la', List.take_length] at ed1
      refine go_nx (go_sq ?_)
      refine ⟨_, rfl, pb, rfl, ⟨_, PKG.fz (s1 _ _ eb)⟩, ?_⟩
      refine for_tup (K := K) (xs := ys) (fun j σ H' => ∃ v3 v4, σ = [some (.ref pa), some (.ref pb), some (.ref D), v3, v4] ∧ Same H H' ∧ ED H' D (a ++ b.take j)) ⟨none, none, rfl, s1, by rw [List.take_zero, List.append_nil]; exact ed1⟩ (fun j σ H' _ ⟨_, _, _, s', _⟩ => PKG.fz (s' _ _ eb)) ?_ ?_
      · rintro j z σ H2 hz ⟨v3, v4, rfl, s2, ed2⟩
        obtain ⟨f, e, q, hm, rfl, hq⟩ := pw kb hz
        obtain ⟨kvs, e2, n1, n2, n3, n4⟩ := ed2.ex_
        refine ⟨q, _, rfl, SqT.of (s2 _ _ hq), rfl, _, _, rfl, go_name rfl ⟨_, _, rfl, go_name rfl ⟨rfl, ?_⟩⟩⟩
        have hget : (valV kvs (.inl (f : Int))).getD (.int 0) = .int ((ex (a ++ b.take j) f : Nat) : Int) := by
          rw [n4 f]
          split
          · rename_i c; rw [c]; rfl
          · rfl
        refine ⟨_, rfl, D, rfl, .inl ⟨kvs, .inl e2⟩, _, rfl, _, DGet.k (k := .inl (f : Int)) e2, _, rfl, _, _, hget, rfl, _, rfl, _, rfl, D, _, rfl, DPut.k (k := .inl (f : Int)) e2 ?_, ?_⟩
        · rw [List.length_append, List.length_take] at n2
          exact Nat.lt_of_le_of_lt (by omega : _ ≤ 2000) (by decide)
        · refine go_nx ⟨_, _, rfl, same_but hD s2 (fun c u nc z => by rw [upd_ne nc]; exact z), ?_⟩
          rw [List.take_add_one, hm, show (some (f, e)).toList = [(f, e)] from rfl, ← List.append_assoc]
          have pe := cb.pos (f, e) (List.mem_of_getElem? hm)
          refine ed_put pe n1 n2 n3 n4 ?_
          rw [upd_same]
          rfl
      · rintro σ H2 ⟨v3, v4, rfl, s2, ed2⟩
        rw [lb', List.take_length] at ed2
        refine go_nx (go_ret ?_)
        obtain ⟨kvs, e2, _⟩ := ed2.ex_
        refine ⟨_, rfl, D, _, rfl, .inr ⟨kvs, .inl e2, rfl⟩, fun v hv => ?_⟩
        have s3 := same_new (o := L2.DX.itemsO v D) (Same.refl H2) hv
        refine go_nil ?_
        refine ed_sorted (L := a ++ b) upd_same (ed2.fr fun o h => s3 _ _ h) fun H3 l ts m s4 hl el ks mc ml_ hlen => ?_
        refine ⟨l, _, rfl, SqL.of el, fun t ot hot ht => ?_⟩
        have s5 := same_new (o := .frz ot (.tup (ts.map V.ref))) (Same.refl H3) ht
        have em : m = mmul a b := mono_ext mc (mmul_can ca cb) fun f => by rw [ml_, ex_app, ex_mmul]
        subst em
        refine k _ t (fun c o z => s5 _ _ (s4 _ _ (s3 _ _ (s2 _ _ z)))) ?_ (PKG.ng_mk hot upd_same (ks.keeps fun c ys z => s5 _ _ z))
        cases z : H t with
        | none => rfl
        | some u => rw [s4 _ _ (s3 _ _ (s2 _ _ z))] at ht; cases ht
end
end K34

set_option Elab.async false
set_option linter.all false
set_option maxRecDepth 100000
set_option maxHeartbeats 4000000
namespace K34
open PySem L2 Ew Tb GxR ND PM NI PK
local macro_rules | `(tactic| walk_at "len") => `(tactic| first | (intro h; obtain ⟨e, _⟩ := h; rw [e]; rfl) | (intro h; obtain ⟨_, e, _⟩ := h; rw [e]; rfl) | (intro h; obtain ⟨_, _, e, _⟩ := h; rw [e]; rfl) | (intro h; obtain ⟨_, _, _, e, _⟩ := h; rw [e]; rfl) | (intro h; obtain ⟨_, _, _, _, e, _⟩ := h; rw [e]; rfl) | (intro h; obtain ⟨_, _, _, _, _, e, _⟩ := h; rw [e]; rfl) | (intro h; obtain ⟨_, _, _, _, _, _, e, _⟩ := h; rw [e]; rfl) | (intro h; obtain ⟨_, _, _, _, _, _, _, e, _⟩ := h; rw [e]; rfl) | (intro h; obtain ⟨_, _, _, _, _, _, _, _, e, _⟩ := h; rw [e]; rfl) | (intro h; obtain ⟨_, _, _, _, _, _, _, _, _, e, _⟩ := h; rw [e]; rfl) | (intro h; obtain ⟨_, _, _, _, _, _, _, _, _, _, e, _⟩ := h; rw [e]; rfl) | (intro h; obtain ⟨_, _, _, _, _, _, _, _, _, _, _, e, _⟩ := h; rw [e]; rfl) | (intro h; obtain ⟨_, _, _, _, _, _, _, _, _, _, _, _, e, _⟩ := h; rw [e]; rfl) | (intro h; obtain ⟨_, _, _, _, _, _, _, _, _, _, _, _, _, e, _⟩ := h; rw [e]; rfl) | (intro h; obtain ⟨_, _, _, _, _, _, _, _, _, _, _, _, _, _, e, _⟩ := h; rw [e]; rfl) | (intro h; obtain ⟨_, _, _, _, _, _, _, _, _, _, _, _, _, _, _, e, _⟩ := h; rw [e]; rfl) | (intro h; obtain ⟨_, _, _, _, _, _, _, _, _, _, _, _, _, _, _, _, e, _⟩ := h; rw [e]; rfl) | (intro h; obtain ⟨_, _, _, _, _, _, _, _, _, _, _, _, _, _, _, _, _, e, _⟩ := h; rw [e]; rfl) | (intro h; exact h.elim))
section
variable {P : Program} {w : World} {K : PySem.W.Frag} {mg : Str → Option Value} {base : Heap} {ad : Ad}
theorem pd_card {kvs : List (NestedKey × V)} {L : Terms} {U : List Mono} (n1 : (kvs.map (·.1)).Nodup) (n3 : ∀ kv ∈ kvs, ∃ m : Mono, MCan m ∧ kv.1 = kM m) (n4 : ∀ m : Mono, valV kvs (kM m) = if coef L m = 0 then none else some (.int (coef L m : Nat))) (hU : ∀ x ∈ L, x.1 ∈ U) : kvs.length ≤ U.length := by
  have h := n1.length_le_of_subset (l₂ := U.map kM) fun k hk => by
    obtain ⟨kv, hkv, rfl⟩ := List.mem_map.mp hk
    obtain ⟨m, _, e⟩ := n3 kv hkv
    have hv := val_at n1 hkv
    rw [e, n4 m] at hv
    split at hv
    · cases hv
    · rename_i c
      obtain ⟨c', hc⟩ := coef_in (show 1 ≤ coef L m by omega)
      exact List.mem_map.mpr ⟨m, hU _ hc, e.symm⟩
  rw [List.length_map, List.length_map] at h
  exact h
theorem pc_len {p L : Terms} {U : List Mono} (pc : PC p) (co : ∀ m, coef p m = coef L m) (hU : ∀ x ∈ L, x.1 ∈ U) : p.length ≤ U.length := by
  have h := (pc.nd mlt_as).length_le_of_subset (l₂ := U) fun m hm => by
    obtain ⟨t, ht, rfl⟩ := List.mem_map.mp hm
    have e : coef p t.1 = t.2 := coef_at (pc.nd mlt_as) ht
    obtain ⟨c, hc⟩ := coef_in (show 1 ≤ coef L t.1 by rw [← co, e]; exact pc.pos t ht)
    exact hU (t.1, c) hc
  rw [List.length_map] at h
  exact h
def FewT (L : Terms) : Prop := ∃ U : List Mono, U.length ≤ 400 ∧ ∀ x ∈ L, x.1 ∈ U
theorem coef_ge {L : Terms} {x : Mono × Nat} (h : x ∈ L) : x.2 ≤ coef L x.1 := by
  induction L with
  | nil => cases h
  | cons y L ih =>
    obtain ⟨m, c⟩ := y
    rw [coef]
    rcases List.mem_cons.mp h with rfl | h
    · rw [if_pos rfl]; exact Nat.le_add_right _ _
    · have := ih h; omega
theorem few_of {kvs : List (NestedKey × V)} {L : Terms} (n3 : ∀ kv ∈ kvs, ∃ m : Mono, MCan m ∧ kv.1 = kM m) (n4 : ∀ m : Mono, valV kvs (kM m) = if coef L m = 0 then none else some (.int (coef L m : Nat))) (hp : ∀ x ∈ L, 1 ≤ x.2) (hl : kvs.length ≤ 400) : FewT L := by
  have hx : ∀ l : List (NestedKey × V), (∀ kv ∈ l, ∃ m : Mono, MCan m ∧ kv.1 = kM m) → ∃ ms : List Mono, l.map (·.1) = ms.map kM := fun l => by
    induction l with
    | nil => exact fun _ => ⟨[], rfl⟩
    | cons kv l ih =>
      intro h
      obtain ⟨n, _, e⟩ := h kv (List.mem_cons_self ..)
      obtain ⟨ns, e'⟩ := ih fun k hk => h k (List.mem_cons_of_mem _ hk)
      exact ⟨n :: ns, by rw [List.map_cons, List.map_cons, e, e']⟩
  obtain ⟨ms, e⟩ := hx kvs n3
  refine ⟨ms, by have := congrArg List.length e; rw [List.length_map, List.length_map] at this; omega, fun x h => ?_⟩
  have h1 := coef_ge h
  have h2 := hp x h
  have hv := n4 x.1
  rw [if_neg (by omega)] at hv
  have : kM x.1 ∈ kvs.map (·.1) := List.mem_map.mpr ⟨_, val_mem hv, rfl⟩
  rw [e] at this
  obtain ⟨m, hm, e2⟩ := List.mem_map.mp this
  exact kM_inj e2 ▸ hm
def spPut1 (P : Program) (w : World) (tl : Addr) : Sp := fun vs H Q E => ∃ (d : Addr) (v : V) (m : Mono) (c : Nat) (L : Terms), vs = [.ref d, v, .int (c : Int)] ∧ PKG.PD P w H d L ∧ NG.Ky H (kM m) v ∧ MCan m ∧ 1 ≤ c ∧ FewT L ∧ (∀ x ∈ L, 1 ≤ x.2) ∧ (∀ H', (∀ b o, b ≠ d → H b = some o → H' b = some o) → E (.ref tl) none H') ∧
  ∀ H', (∀ b o, b ≠ d → H b = some o → H' b = some o) → (∀ b, b ≠ d → H' b = H b) → PKG.PD P w H' d (L ++ [(m, c)]) → FewT (L ++ [(m, c)]) → Q .non H'
theorem ky_ref {H : Hp} {m : Mono} {v : V} (h : NG.Ky H (kM m) v) : ∃ a, v = .ref a := let ⟨_, a, _, _, _, e, _⟩ := h; ⟨a, e⟩
theorem ok_put  {f : Addr} {fd : FuncData} (F : Fun K "_put" "_put" s_put f fd) (T : Txt K mg ad) : FnOk P w K mg base (L2.CX P w) 1 f fd ["found", "monomial", "coefficient"] (spPut1 P w ad.TooLarge) := by
  refine F.okX sc_put (fun vs H Q E => ?_) (fun cdv A outer s H vs Q E hr h => ?_)
  · walk_at "len"
  ·
    obtain ⟨d, v, m, c, L, rfl, pd, hv, cm, hc, ⟨U, lU, hU⟩, hpos, ke, k⟩ := h
    refine ⟨_, (pss_cons (NG.ps_nput (ND.hu9 hr) (pv 0) (pv 1) (pe_op op_add (NG.pe_nget2 (ND.hu9 hr) (pv 0) (pv 1) pe_int ⟨rfl, rfl, rfl, rfl⟩) (pv 2)) rfl)
      (pss_one (ps_if (pt_cmpR op_gt (pe_callB NG.call_lenF (by rfl) T.z_len (by decide +kernel) (pa_cons (pv 0) pa_nil)) (pe_gint (by rfl) T.g_MOST_MONOMIALS) (nomark _)) (pss_one (ps_raise rfl (takes_of rfl rfl rfl rfl) (pmk_own PySem.F.excBase_ValueError T.x_TooLarge T.g_TooLarge T.k_TooLarge (raises_own T.b_TooLarge T.t_TooLarge) (by rfl)))) pss_nil))), ?_⟩
    obtain ⟨b, rfl⟩ := ky_ref hv
    obtain ⟨kvs, at_, n1, n2, n3, n4⟩ := pd.ex_
    have dk : (kM m).depth ≤ 8 := by have := dep_kM m; omega
    have hl := pd_card n1 n3 n4 hU
    have hget : (valV kvs (kM m)).getD (.int 0) = .int ((coef L m : Nat) : Int) := by
      rw [n4 m]
      split
      · rename_i c; rw [c]; rfl
      · rfl
    refine go_sq ⟨_, rfl, d, kvs, rfl, at_.rd, _, rfl, _, ⟨kvs, kM m, b, at_.rd, rfl, hv, dk, rfl⟩, _, rfl, _, _, hget, rfl, _, rfl, _, rfl, d, rfl, kvs, kM m, b, at_, rfl, hv, dk, Nat.lt_of_le_of_lt (by omega : _ ≤ 400) (by decide), fun φ hφ => ?_⟩
    have pd2 := PKG.pd_put hc cm pd.mc n1 n2 n3 n4 hφ
    obtain ⟨kvs2, at2, n21, n22, n23, n24⟩ := pd2.ex_
    have fr : ∀ b o, b ≠ d → H b = some o → (upd H d (.ext φ)) b = some o := fun b o nb e => by rw [upd_ne nb]; exact e
    refine go_nx ?_
    refine ⟨_, rfl, d, kvs2, rfl, at2.rd, _, _, rfl, rfl, _, rfl, ?_⟩
    refine ite2 (fun hlen => ke _ fr) (fun hlen => ?_)
    have hl2 : kvs2.length ≤ 400 := Nat.le_of_not_lt fun z => hlen (decide_eq_true (by omega))
    exact k _ fr (fun b nb => upd_ne nb) pd2 (few_of n23 n24 (fun x hx => (List.mem_append.mp hx).elim (hpos x) fun h => by rw [List.mem_singleton.mp h]; exact hc) hl2)
def spPolyOf (P : Program) (w : World) : Sp := fun vs H Q _ => ∃ (d : Addr) (L : Terms), vs = [.ref d] ∧ PKG.PD P w H d L ∧ ∀ H' t p, Same H H' → H t = none → PKG.KP H' p (.ref t) → PC p → (∀ m, coef p m = coef L m) → p.length ≤ L.length → Q (.ref t) H'
theorem pd_dv {P : Program} {w : World} {H : Hp} {d : Addr} {L : Terms} (x : PKG.PD P w H d L) : ∃ ps, DictV P w H d ps := let ⟨_, ⟨es, e, _⟩, _⟩ := x.ex_; ⟨_, .inl ⟨es, .inl e, rfl⟩⟩
theorem ok_polynomial_of  {f : Addr} {fd : FuncData} (F : Fun K "_polynomial_of" "_polynomial_of" s_polynomial_of f fd) (T : Txt K mg ad) : FnOk P w K mg base (L2.CX P w) 1 f fd ["found"] (spPolyOf P w) := by
  refine F.okX sc_polynomial_of (fun vs H Q E => ?_) (fun cdv A outer s H vs Q E hr h => ?_)
  · walk_at "len"
  ·
    obtain ⟨d, L, rfl, pd, k⟩ := h
    refine ⟨_, (pss_one (ps_ret (pe_callTy call_tuple_of (by rfl) T.z_tuple (by decide +kernel) (pa_cons (pe_callB (cr_sortItems rfl hr.units) (by rfl) T.z_sorted (by decide +kernel) (pa_cons (L2.pe_items (pv 0)) pa_nil)) pa_nil)))), ?_⟩
    obtain ⟨ps, dv⟩ := pd_dv pd
    refine ⟨_, rfl, d, ps, rfl, dv, fun v hv => ?_⟩
    have s3 := same_new (o := L2.DX.itemsO v d) (Same.refl H) hv
    refine go_nil ?_
    refine PKG.pd_sorted upd_same (pd.keeps (fun u h => s3 _ _ h) (.of s3)) fun H3 l ts p s4 hl' el ks pc hco hlen => ?_
    refine ⟨l, _, rfl, .inl ⟨SqL.of el, fun t ht => ?_⟩⟩
    have s5 := same_new (o := .tup (ts.map V.ref)) (Same.refl H3) ht
    refine k _ t p (fun c o z => s5 _ _ (s4 _ _ (s3 _ _ z))) ?_ ⟨t, _, rfl, upd_same, ks.keeps (.of s5)⟩ pc hco hlen
    cases z : H t with
    | none => rfl
    | some u => rw [s4 _ _ (s3 _ _ z)] at ht; cases ht
end
end K34

set_option Elab.async false
set_option linter.all false
set_option maxRecDepth 100000
set_option maxHeartbeats 4000000
namespace K34
open PySem L2 Ew Tb GxR ND PM NI PK
local macro_rules | `(tactic| walk_at "len") => `(tactic| first | (intro h; obtain ⟨e, _⟩ := h; rw [e]; rfl) | (intro h; obtain ⟨_, e, _⟩ := h; rw [e]; rfl) | (intro h; obtain ⟨_, _, e, _⟩ := h; rw [e]; rfl) | (intro h; obtain ⟨_, _, _, e, _⟩ := h; rw [e]; rfl) | (intro h; obtain ⟨_, _, _, _, e, _⟩ := h; rw [e]; rfl) | (intro h; obtain ⟨_, _, _, _, _, e, _⟩ := h; rw [e]; rfl) | (intro h; obtain ⟨_, _, _, _, _, _, e, _⟩ := h; rw [e]; rfl) | (intro h; obtain ⟨_, _, _, _, _, _, _, e, _⟩ := h; rw [e]; rfl) | (intro h; obtain ⟨_, _, _, _, _, _, _, _, e, _⟩ := h; rw [e]; rfl) | (intro h; obtain ⟨_, _, _, _, _, _, _, _, _, e, _⟩ := h; rw [e]; rfl) | (intro h; obtain ⟨_, _, _, _, _, _, _, _, _, _, e, _⟩ := h; rw [e]; rfl) | (intro h; obtain ⟨_, _, _, _, _, _, _, _, _, _, _, e, _⟩ := h; rw [e]; rfl) | (intro h; obtain ⟨_, _, _, _, _, _, _, _, _, _, _, _, e, _⟩ := h; rw [e]; rfl) | (intro h; obtain ⟨_, _, _, _, _, _, _, _, _, _, _, _, _, e, _⟩ := h; rw [e]; rfl) | (intro h; obtain ⟨_, _, _, _, _, _, _, _, _, _, _, _, _, _, e, _⟩ := h; rw [e]; rfl) | (intro h; obtain ⟨_, _, _, _, _, _, _, _, _, _, _, _, _, _, _, e, _⟩ := h; rw [e]; rfl) | (intro h; obtain ⟨_, _, _, _, _, _, _, _, _, _, _, _, _, _, _, _, e, _⟩ := h; rw [e]; rfl) | (intro h; obtain ⟨_, _, _, _, _, _, _, _, _, _, _, _, _, _, _, _, _, e, _⟩ := h; rw [e]; rfl) | (intro h; exact h.elim))
section
variable {P : Program} {w : World} {K : PySem.W.Frag} {mg : Str → Option Value} {base : Heap} {ad : Ad}
/-- the polynomial with these coefficients -/
def Rp (H : Hp) (L : Terms) (v : V) : Prop := ∃ p, PKG.KP H p v ∧ PC p ∧ (∀ m, coef p m = coef L m) ∧ p.length ≤ 400
theorem Rp_mono : ∀ (H H' : Hp) (L : Terms) (v : V), NG.Kp H H' → Rp H L v → Rp H' L v := fun H H' L v f ⟨p, h1, h2, h3⟩ => ⟨p, h1.keeps f, h2, h3⟩
def okPl (_ _ : Terms) : Prop := True
def okTm (a b : Terms) : Prop := ∃ A B : Nat, tot a < 2 ^ A ∧ tot b < 2 ^ B ∧ 0 < A ∧ 0 < B ∧ A + B ≤ 1000000 ∧ (∀ t ∈ a, t.1.length ≤ 1000) ∧ (∀ t ∈ b, t.1.length ≤ 1000)
theorem few_take {L : Terms} (h : FewT L) (i : Nat) : FewT (L.take i) := let ⟨U, h1, h2⟩ := h; ⟨U, h1, fun x hx => h2 x (List.mem_of_mem_take hx)⟩
theorem pc_few {p L : Terms} (pc : PC p) (co : ∀ m, coef p m = coef L m) (f : FewT L) : p.length ≤ 400 := let ⟨U, h1, h2⟩ := f; Nat.le_trans (pc_len pc co h2) h1
theorem few_nil : FewT [] := ⟨[], Nat.zero_le _, fun _ h => nomatch h⟩
theorem mono_in {p L : Terms} (pc : PC p) (co : ∀ m, coef p m = coef L m) : ∀ t ∈ p, ∃ c, (t.1, c) ∈ L := fun t ht => by
  have e : coef p t.1 = t.2 := coef_at (pc.nd mlt_as) ht
  exact coef_in (by rw [← co, e]; exact pc.pos t ht)
theorem none_of {H H' : Hp} {t : Addr} (s : Same H H') (h : H' t = none) : H t = none := by
  cases z : H t with
  | none => rfl
  | some u => rw [s _ _ z] at h; cases h
/-- a term of a tuple of terms -/
theorem kt_at {H : Hp} {p : Terms} {zs : List V} {i : Nat} {z : V} (r : PKG.KTs H p zs) (hz : zs[i]? = some z) : ∃ m c q u, p[i]? = some (m, c) ∧ z = .ref q ∧ H q = some (.tup [u, .int (c : Int)]) ∧ NG.Ky H (kM m) u := by
  have hi : i < p.length := by rw [r.1]; exact (List.getElem?_eq_some_iff.mp hz).1
  have hp : p[i]? = some p[i] := List.getElem?_eq_getElem hi
  obtain ⟨q, u, e, h1, h2⟩ := r.2 i _ z hp hz
  exact ⟨p[i].1, p[i].2, q, u, hp, e, h1, h2⟩
theorem pair_any {H H' : Hp} {d : Addr} (hd : H d = none) {H1 : Hp} (s : Same H H1) (h : ∀ b o, b ≠ d → H1 b = some o → H' b = some o) : Same H H' := fun b o e => h b o (ne_of_none e hd) (s b o e)
theorem ok_Polynomials_plus (c_put : CalX P w K mg base 1 "_put" (spPut1 P w ad.TooLarge)) (c_polynomial_of : CalX P w K mg base 1 "_polynomial_of" (spPolyOf P w)) {f : Addr} {fd : FuncData} (F : Fun K "plus" "Polynomials.plus" s_Polynomials_plus f fd) (T : Txt K mg ad) : FnOk P w K mg base (L2.CX P w) 3 f fd ["self", "a", "b"] (spBinR (some ad.TooLarge) Rp ad.Polynomials okPl (fun a b => a ++ b)) := by
  refine F.okX sc_Polynomials_plus (fun vs H Q E => ?_) (fun cdv A outer s H vs Q E hr h => ?_)
  · walk_at "len"
  ·
    obtain ⟨s0, dx, x, y, La, Lb, rfl, hs, ⟨a, hx, ca, coa, la⟩, ⟨b, hy, cb, cob, lb⟩, _, eo, k⟩ := h
    refine ⟨_, (pss_cons (ps_set (i := 3) sc_Polynomials_plus.nd rfl (by first | exact Or.inl rfl | exact Or.inr rfl) NG.pe_nnew)
      (pss_cons (ps_for (passes_of rfl) rfl (pi_tup (pe_op op_catA (pv 1) (pv 2))) (pg_tup rfl (pgs_cons (pg_name (i := 4) sc_Polynomials_plus.nd rfl (by first | exact Or.inl rfl | exact Or.inr rfl)) (pgs_cons (pg_name (i := 5) sc_Polynomials_plus.nd rfl (by first | exact Or.inl rfl | exact Or.inr rfl)) pgs_nil))) (pss_one (ps_expr (pc_call c_put hr (by first | decide | omega) (takes_of rfl rfl rfl rfl) (by rfl) (pa_cons (pv 3) (pa_cons (pv 4) (pa_cons (pv 5) pa_nil)))))))
      (pss_one (ps_ret (pc_call c_polynomial_of hr (by first | decide | omega) (takes_of rfl rfl rfl rfl) (by rfl) (pa_cons (pv 3) pa_nil)))))), ?_⟩
    obtain ⟨pa, xs, rfl, ea, ka⟩ := hx
    obtain ⟨pb, ys, rfl, eb, kb⟩ := hy
    have la' : xs.length = a.length := ka.1.symm
    have lb' : ys.length = b.length := kb.1.symm
    refine go_seq fun d φ hd at_ => go_name rfl ?_
    have s1 : Same H (upd H d (.ext φ)) := same_new (Same.refl _) hd
    have pd1 := PKG.PD.nil at_
    generalize upd H d (.ext φ) = H1 at s1 pd1
    refine go_sq ?_
    refine ⟨_, rfl, _, rfl, ?_⟩
    refine catT (s1 _ _ ea) (s1 _ _ eb) (by omega) fun q H2 s2 e2 => ⟨q, rfl, ⟨_, SqT.of e2⟩, ?_⟩
    have kk : PKG.KTs H2 (a ++ b) (xs ++ ys) := (ka.keeps (.of fun c o h => s2 _ _ (s1 _ _ h))).app (kb.keeps (.of fun c o h => s2 _ _ (s1 _ _ h)))
    have s12 : Same H H2 := fun c o z => s2 _ _ (s1 _ _ z)
    have nqd : ∀ {c u}, H2 c = some u → (∀ φ, u ≠ .ext φ) → c ≠ d := fun {c u} e nu z => by
      subst z
      obtain ⟨kvs, at1, _⟩ := pd1.ex_
      obtain ⟨φ', e'⟩ := at1.ext
      rw [s2 _ _ e'] at e
      exact nu _ (Option.some.inj e).symm
    refine for_tup (K := K) (xs := xs ++ ys) (fun i σ H' => ∃ v4 v5, σ = [some (.ref s0), some (.ref pa), some (.ref pb), some (.ref d), v4, v5] ∧ (∀ b o, b ≠ d → H2 b = some o → H' b = some o) ∧ (∀ c, c ≠ d → H' c = H2 c) ∧ PKG.PD P w H' d ((a ++ b).take i) ∧ FewT ((a ++ b).take i))
      ⟨none, none, rfl, fun _ _ _ e => e, fun _ _ => rfl, pd1.keeps (fun u h => s2 _ _ h) (.of s2), few_nil⟩ (fun i σ H' _ ⟨_, _, _, f', _, pd', _⟩ => SqT.of (f' _ _ (nqd e2 (fun _ z => nomatch z)) e2)) ?_ ?_
    · rintro i z σ H3 hz ⟨v4, v5, rfl, f3, g3, pd3, fw3⟩
      obtain ⟨m, c, q2, u, ht, rfl, e3, ku⟩ := kt_at kk hz
      have tm := List.mem_of_getElem? ht
      have cm : MCan m ∧ 1 ≤ c := (List.mem_append.mp tm).elim (fun h => ⟨ca.mc _ h, ca.pos _ h⟩) fun h => ⟨cb.mc _ h, cb.pos _ h⟩
      have hi : i < a.length + b.length := by have := (List.getElem?_eq_some_iff.mp ht).1; rw [List.length_append] at this; exact this
      refine ⟨q2, _, rfl, SqT.of (f3 _ _ (nqd e3 (fun _ z => nomatch z)) e3), rfl, _, _, rfl, go_name rfl ⟨_, _, rfl, go_name rfl ⟨rfl, ?_⟩⟩⟩
      refine ⟨_, rfl, _, rfl, _, rfl, d, u, m, c, (a ++ b).take i, rfl, pd3, ku.keeps ⟨fun b ys h => f3 _ _ (nqd h (fun _ z => nomatch z)) h, fun b o ys h => f3 _ _ (nqd h (fun _ z => nomatch z)) h⟩, cm.1, cm.2, fw3, (fun x hx => (List.mem_append.mp (List.mem_of_mem_take hx)).elim (ca.pos x) (cb.pos x)), (fun H4 f4 => eo _ rfl H4 fun b o z => f4 _ _ (ne_of_none z hd) (f3 _ _ (ne_of_none z hd) (s12 _ _ z))), fun H4 f4 g4 pd4 fw4 => go_nx ⟨_, _, rfl, fun b o nb h => f4 _ _ nb (f3 _ _ nb h), fun c nc => (g4 c nc).trans (g3 c nc), ?_⟩⟩
      rw [List.take_add_one, ht]
      exact ⟨pd4, fw4⟩
    · rintro σ H3 ⟨v4, v5, rfl, f3, g3, pd3, fw3⟩
      have el : (xs ++ ys).length = (a ++ b).length := by rw [List.length_append, List.length_append, la', lb']
      rw [el, List.take_length] at pd3 fw3
      refine go_nx (go_ret ?_)
      have s3 : Same H H3 := pair_any hd s12 f3
      exact ⟨_, rfl, d, a ++ b, rfl, pd3, fun H4 t p s4 t0 kp pc hco hlen => k H4 (.ref t) (fun c o z => s4 _ _ (s3 _ _ z)) ⟨p, kp, pc, fun m => by rw [hco, coef_app, coef_app, coa, cob], pc_few pc hco fw3⟩⟩
theorem ok_Polynomials_times (c_put : CalX P w K mg base 1 "_put" (spPut1 P w ad.TooLarge)) (c_product_of : CalX P w K mg base 1 "_product_of" spProd) (c_polynomial_of : CalX P w K mg base 1 "_polynomial_of" (spPolyOf P w)) {f : Addr} {fd : FuncData} (F : Fun K "times" "Polynomials.times" s_Polynomials_times f fd) (T : Txt K mg ad) : FnOk P w K mg base (L2.CX P w) 3 f fd ["self", "a", "b"] (spBinR (some ad.TooLarge) Rp ad.Polynomials okTm tmul) := by
  refine F.okX sc_Polynomials_times (fun vs H Q E => ?_) (fun cdv A outer s H vs Q E hr h => ?_)
  · walk_at "len"
  ·
    obtain ⟨s0, dx, x, y, La, Lb, rfl, hs, ⟨a, hx, ca, coa, la⟩, ⟨b, hy, cb, cob, lb⟩, ⟨bA, bB, ta, tb, A0, B0, AB, ma, mb⟩, eo, k⟩ := h
    have ta : tot a < 2 ^ bA := by rw [tot_of coa]; exact ta
    have tb : tot b < 2 ^ bB := by rw [tot_of cob]; exact tb
    have ma : ∀ t ∈ a, t.1.length ≤ 1000 := fun t ht => let ⟨c, hc⟩ := mono_in ca coa t ht; ma (t.1, c) hc
    have mb : ∀ t ∈ b, t.1.length ≤ 1000 := fun t ht => let ⟨c, hc⟩ := mono_in cb cob t ht; mb (t.1, c) hc
    refine ⟨_, (pss_cons (ps_set (i := 3) sc_Polynomials_times.nd rfl (by first | exact Or.inl rfl | exact Or.inr rfl) NG.pe_nnew)
      (pss_cons (ps_for (passes_of rfl) rfl (pi_tup (pv 1)) (pg_tup rfl (pgs_cons (pg_name (i := 4) sc_Polynomials_times.nd rfl (by first | exact Or.inl rfl | exact Or.inr rfl)) (pgs_cons (pg_name (i := 5) sc_Polynomials_times.nd rfl (by first | exact Or.inl rfl | exact Or.inr rfl)) pgs_nil))) (pss_one (ps_for (passes_of rfl) rfl (pi_tup (pv 2)) (pg_tup rfl (pgs_cons (pg_name (i := 6) sc_Polynomials_times.nd rfl (by first | exact Or.inl rfl | exact Or.inr rfl)) (pgs_cons (pg_name (i := 7) sc_Polynomials_times.nd rfl (by first | exact Or.inl rfl | exact Or.inr rfl)) pgs_nil))) (pss_one (ps_expr (pc_call c_put hr (by first | decide | omega) (takes_of rfl rfl rfl rfl) (by rfl) (pa_cons (pv 3) (pa_cons (pc_call c_product_of hr (by first | decide | omega) (takes_of rfl rfl rfl rfl) (by rfl) (pa_cons (pv 4) (pa_cons (pv 6) pa_nil))) (pa_cons (pe_op op_mulW (pv 5) (pv 7)) pa_nil)))))))))
      (pss_one (ps_ret (pc_call c_polynomial_of hr (by first | decide | omega) (takes_of rfl rfl rfl rfl) (by rfl) (pa_cons (pv 3) pa_nil)))))), ?_⟩
    obtain ⟨pa, xs, rfl, ea, ka⟩ := hx
    obtain ⟨pb, ys, rfl, eb, kb⟩ := hy
    have la' : xs.length = a.length := ka.1.symm
    have lb' : ys.length = b.length := kb.1.symm
    refine go_seq fun d φ hd at_ => go_name rfl ?_
    have s1 : Same H (upd H d (.ext φ)) := same_new (Same.refl _) hd
    have pd1 := PKG.PD.nil at_
    have nd : ∀ {c u}, H c = some u → c ≠ d := fun e => ne_of_none e hd
    have h0 : ∀ b, b ≠ d → (upd H d (.ext φ)) b = H b := fun b nb => upd_ne nb
    generalize upd H d (.ext φ) = H1 at s1 pd1 h0
    refine go_sq ⟨_, rfl, pa, rfl, ⟨_, SqT.of (s1 _ _ ea)⟩, ?_⟩
    refine for_tup (K := K) (xs := xs) (fun i σ H' => ∃ v4 v5 v6 v7, σ = [some (.ref s0), some (.ref pa), some (.ref pb), some (.ref d), v4, v5, v6, v7] ∧ Same H H' ∧ PKG.PD P w H' d (tmul (a.take i) b) ∧ FewT (tmul (a.take i) b)) ⟨none, none, none, none, rfl, s1, pd1, few_nil⟩ (fun i σ H' _ ⟨_, _, _, _, _, s', _⟩ => SqT.of (s' _ _ ea)) ?_ ?_
    · rintro i z σ H2 hz ⟨v4, v5, v6, v7, rfl, s2, pd2, fw2⟩
      obtain ⟨m, c, q, u, ht, rfl, e2, ku⟩ := kt_at ka hz
      have tmA := List.mem_of_getElem? ht
      have hi := (List.getElem?_eq_some_iff.mp ht).1
      have hc60 : c < 2 ^ bA := Nat.lt_of_le_of_lt (tot_mem tmA) ta
      refine ⟨q, _, rfl, SqT.of (s2 _ _ e2), rfl, _, _, rfl, go_name rfl ⟨_, _, rfl, go_name rfl ⟨rfl, ?_⟩⟩⟩
      refine ⟨_, rfl, pb, rfl, ⟨_, SqT.of (s2 _ _ eb)⟩, ?_⟩
      refine for_tup (K := K) (xs := ys) (fun j σ H' => ∃ v6 v7, σ = [some (.ref s0), some (.ref pa), some (.ref pb), some (.ref d), some u, some (.int (c : Int)), v6, v7] ∧ Same H H' ∧ PKG.PD P w H' d (tmul (a.take i) b ++ (b.take j).map fun y => (mmul m y.1, c * y.2)) ∧ FewT (tmul (a.take i) b ++ (b.take j).map fun y => (mmul m y.1, c * y.2))) ⟨v6, v7, rfl, s2, by rw [List.take_zero, List.map_nil, List.append_nil]; exact ⟨pd2, fw2⟩⟩ (fun j σ H' _ ⟨_, _, _, s', _⟩ => SqT.of (s' _ _ eb)) ?_ ?_
      · rintro j z σ H3 hz ⟨v6, v7, rfl, s3, pd3, fw3⟩
        obtain ⟨n, c', q', u', ht', rfl, e3, ku'⟩ := kt_at kb hz
        have tmB := List.mem_of_getElem? ht'
        have hj := (List.getElem?_eq_some_iff.mp ht').1
        refine ⟨q', _, rfl, SqT.of (s3 _ _ e3), rfl, _, _, rfl, go_name rfl ⟨_, _, rfl, go_name rfl ⟨rfl, ?_⟩⟩⟩
        refine ⟨_, rfl, _, rfl, _, rfl, u, u', m, n, rfl, ku.keeps (.of s3), ku'.keeps (.of s3), ca.mc _ tmA, cb.mc _ tmB, ma _ tmA, mb _ tmB, fun H4 t s4 t0 kt => ?_⟩
        have hcb : c' < 2 ^ bB := Nat.lt_of_le_of_lt (tot_mem tmB) tb
        refine ⟨_, rfl, _, rfl, _, _, rfl, rfl, wide_mul (a := bA) (b := bB) (by omega) (by omega) A0 B0 AB, ?_⟩
        have pd4 := pd3.keeps (fun u h => s4 _ _ h) (.of s4)
        have pos3 : ∀ x ∈ (tmul (a.take i) b ++ (b.take j).map fun y => (mmul m y.1, c * y.2)), 1 ≤ x.2 := fun x hx => by
          rcases List.mem_append.mp hx with h | h
          · obtain ⟨x1, h1, h⟩ := List.mem_flatMap.mp h
            obtain ⟨y1, h2, rfl⟩ := List.mem_map.mp h
            exact Nat.mul_le_mul (ca.pos _ (List.mem_of_mem_take h1)) (cb.pos _ h2)
          · obtain ⟨y1, h2, rfl⟩ := List.mem_map.mp h
            exact Nat.mul_le_mul (ca.pos _ tmA) (cb.pos _ (List.mem_of_mem_take h2))
        refine ⟨d, .ref t, mmul m n, c * c', _, by rw [Int.natCast_mul], pd4, kt, mmul_can (ca.mc _ tmA) (cb.mc _ tmB), Nat.mul_le_mul (ca.pos _ tmA) (cb.pos _ tmB), fw3, pos3, (fun H5 f5 => eo _ rfl H5 fun b o h => f5 _ _ (nd h) (s4 _ _ (s3 _ _ h))), fun H5 f5 g5 pd5 fw5 => go_nx ⟨_, _, rfl, fun b o h => f5 _ _ (nd h) (s4 _ _ (s3 _ _ h)), ?_⟩⟩
        rw [List.take_add_one, ht', show (some (n, c')).toList = [(n, c')] from rfl, List.map_append, ← List.append_assoc]
        exact ⟨pd5, fw5⟩
      · rintro σ H3 ⟨v6, v7, rfl, s3, pd3, fw3⟩
        rw [lb', List.take_length] at pd3 fw3
        refine go_nx ⟨_, _, _, _, rfl, s3, ?_⟩
        rw [List.take_add_one, ht, show (some (m, c)).toList = [(m, c)] from rfl]
        unfold tmul at pd3 fw3 ⊢
        rw [List.flatMap_append, List.flatMap_cons, List.flatMap_nil, List.append_nil]
        exact ⟨pd3, fw3⟩
    · rintro σ H2 ⟨v4, v5, v6, v7, rfl, s2, pd2, fw2⟩
      rw [la', List.take_length] at pd2 fw2
      refine go_nx (go_ret ?_)
      exact ⟨_, rfl, d, tmul a b, rfl, pd2, fun H4 t p s4 t0 kp pc hco hlen => k H4 (.ref t) (fun c o z => s4 _ _ (s2 _ _ z)) ⟨p, kp, pc, fun m => by rw [hco]; exact tmul_congr coa cob m, pc_few pc hco fw2⟩⟩
theorem one_kp {H : Hp} {t q : Addr} {x : V} {m : Mono} {c : Nat} (h1 : H t = some (.tup [.ref q])) (h2 : H q = some (.tup [x, .int (c : Int)])) (h3 : NG.Ky H (kM m) x) : PKG.KP H [(m, c)] (.ref t) :=
  ⟨t, _, rfl, h1, rfl, fun i t v e1 e2 => by
    rcases i with _ | i
    · cases e1; cases e2; exact ⟨q, x, rfl, h2, h3⟩
    · simp at e1⟩
theorem pc_nil : PC ([] : Terms) := ⟨.nil, fun _ h => (nomatch h), fun _ h => (nomatch h)⟩
theorem pc_one : PC [([], 1)] := ⟨List.pairwise_singleton .., fun x h => by rw [List.mem_singleton.mp h]; exact ⟨.nil, fun _ h => nomatch h⟩, fun x h => by rw [List.mem_singleton.mp h]; exact Nat.le_refl 1⟩
theorem ok_Polynomials_zero  {f : Addr} {fd : FuncData} (F : Fun K "zero" "Polynomials.zero" s_Polynomials_zero f fd) (T : Txt K mg ad) : FnOk P w K mg base (L2.CX P w) 1 f fd ["self"] (spNulR Rp ad.Polynomials []) := by
  refine F.okX sc_Polynomials_zero (fun vs H Q E => ?_) (fun cdv A outer s H vs Q E hr h => ?_)
  · walk_at "len"
  ·
    obtain ⟨p, dx, rfl, hp, k⟩ := h
    refine ⟨_, (pss_one (ps_ret (pe_tup pa_nil))), ?_⟩
    exact ⟨(show 0 ≤ sizeLine by decide), fun t ht => k _ _ (same_new (Same.refl _) ht) ⟨[], ⟨t, [], rfl, upd_same, .nil⟩, pc_nil, fun _ => rfl, Nat.zero_le _⟩⟩
theorem ok_Polynomials_one  {f : Addr} {fd : FuncData} (F : Fun K "one" "Polynomials.one" s_Polynomials_one f fd) (T : Txt K mg ad) : FnOk P w K mg base (L2.CX P w) 1 f fd ["self"] (spNulR Rp ad.Polynomials [([], 1)]) := by
  refine F.okX sc_Polynomials_one (fun vs H Q E => ?_) (fun cdv A outer s H vs Q E hr h => ?_)
  · walk_at "len"
  ·
    obtain ⟨p, dx, rfl, hp, k⟩ := h
    refine ⟨_, (pss_one (ps_ret (pe_tup (pa_cons (pe_tup (pa_cons (NF.pe_tupF pa_nil) (pa_cons pe_int pa_nil))) pa_nil)))), ?_⟩
    refine ⟨(show 0 ≤ sizeLine by decide), fun u ou hou hu => ⟨(show 2 ≤ sizeLine by decide), fun q hq => ⟨(show 1 ≤ sizeLine by decide), fun t ht => ?_⟩⟩⟩
    have s1 : Same H (upd H u (.frz ou (.tup []))) := same_new (Same.refl _) hu
    have s2 := same_new (o := .tup [.ref u, .int 1]) (Same.refl _) hq
    have s3 := same_new (o := .tup [.ref q]) (Same.refl _) ht
    exact k _ _ (fun c o z => s3 _ _ (s2 _ _ (s1 _ _ z))) ⟨[([], 1)], one_kp upd_same (s3 _ _ upd_same) (PKG.ng_mk hou (s3 _ _ (s2 _ _ upd_same)) .nil), pc_one, fun _ => rfl, (show 1 ≤ 400 by decide)⟩
def spVar : Sp := fun vs H Q _ => ∃ f : Nat, vs = [.int (f : Int)] ∧ ∀ H' t, Same H H' → H t = none → PKG.KP H' [([(f, 1)], 1)] (.ref t) → Q (.ref t) H'
theorem ok_variable  {f : Addr} {fd : FuncData} (F : Fun K "variable" "variable" s_variable f fd) (T : Txt K mg ad) : FnOk P w K mg base (L2.CX P w) 1 f fd ["fact"] (spVar) := by
  refine F.okX sc_variable (fun vs H Q E => ?_) (fun cdv A outer s H vs Q E hr h => ?_)
  · walk_at "len"
  ·
    obtain ⟨f, rfl, k⟩ := h
    refine ⟨_, (pss_one (ps_ret (pe_tup (pa_cons (pe_tup (pa_cons (NF.pe_tupF (pa_cons (pe_tup (pa_cons (pv 0) (pa_cons pe_int pa_nil))) pa_nil)) (pa_cons pe_int pa_nil))) pa_nil)))), ?_⟩
    refine ⟨_, rfl, (show 2 ≤ sizeLine by decide), fun t1 h1 => ⟨(show 1 ≤ sizeLine by decide), fun t2 o2 ho2 h2 => ⟨(show 2 ≤ sizeLine by decide), fun t3 h3 => ⟨(show 1 ≤ sizeLine by decide), fun t4 h4 => ?_⟩⟩⟩⟩
    have s1 := same_new (o := .tup [.int (f : Int), .int 1]) (Same.refl H) h1
    have s2 := same_new (o := .frz o2 (.tup [.ref t1])) (Same.refl _) h2
    have s3 := same_new (o := .tup [.ref t2, .int 1]) (Same.refl _) h3
    have s4 := same_new (o := .tup [.ref t3]) (Same.refl _) h4
    refine k _ t4 (fun c o z => s4 _ _ (s3 _ _ (s2 _ _ (s1 _ _ z)))) (none_of s1 (none_of s2 (none_of s3 h4))) (one_kp upd_same (s4 _ _ upd_same) (PKG.ng_mk ho2 (s4 _ _ (s3 _ _ upd_same)) (.cons (.tup (s4 _ _ (s3 _ _ (s2 _ _ upd_same))) (.cons (.int _) (.cons (.int _) .nil))) .nil)))
end
end K34

set_option Elab.async false
set_option linter.all false
set_option maxRecDepth 100000
set_option maxHeartbeats 4000000
namespace K34
open PySem L2 Ew Tb GxR ND PM NI PK
local macro_rules | `(tactic| walk_at "len") => `(tactic| first | (intro h; obtain ⟨e, _⟩ := h; rw [e]; rfl) | (intro h; obtain ⟨_, e, _⟩ := h; rw [e]; rfl) | (intro h; obtain ⟨_, _, e, _⟩ := h; rw [e]; rfl) | (intro h; obtain ⟨_, _, _, e, _⟩ := h; rw [e]; rfl) | (intro h; obtain ⟨_, _, _, _, e, _⟩ := h; rw [e]; rfl) | (intro h; obtain ⟨_, _, _, _, _, e, _⟩ := h; rw [e]; rfl) | (intro h; obtain ⟨_, _, _, _, _, _, e, _⟩ := h; rw [e]; rfl) | (intro h; obtain ⟨_, _, _, _, _, _, _, e, _⟩ := h; rw [e]; rfl) | (intro h; obtain ⟨_, _, _, _, _, _, _, _, e, _⟩ := h; rw [e]; rfl) | (intro h; obtain ⟨_, _, _, _, _, _, _, _, _, e, _⟩ := h; rw [e]; rfl) | (intro h; obtain ⟨_, _, _, _, _, _, _, _, _, _, e, _⟩ := h; rw [e]; rfl) | (intro h; obtain ⟨_, _, _, _, _, _, _, _, _, _, _, e, _⟩ := h; rw [e]; rfl) | (intro h; obtain ⟨_, _, _, _, _, _, _, _, _, _, _, _, e, _⟩ := h; rw [e]; rfl) | (intro h; obtain ⟨_, _, _, _, _, _, _, _, _, _, _, _, _, e, _⟩ := h; rw [e]; rfl) | (intro h; obtain ⟨_, _, _, _, _, _, _, _, _, _, _, _, _, _, e, _⟩ := h; rw [e]; rfl) | (intro h; obtain ⟨_, _, _, _, _, _, _, _, _, _, _, _, _, _, _, e, _⟩ := h; rw [e]; rfl) | (intro h; obtain ⟨_, _, _, _, _, _, _, _, _, _, _, _, _, _, _, _, e, _⟩ := h; rw [e]; rfl) | (intro h; obtain ⟨_, _, _, _, _, _, _, _, _, _, _, _, _, _, _, _, _, e, _⟩ := h; rw [e]; rfl) | (intro h; exact h.elim))
section
variable {P : Program} {w : World} {K : PySem.W.Frag} {mg : Str → Option Value} {base : Heap} {ad : Ad}
def isStar : Nd → Bool
  | .star _ => true
  | _ => false
theorem Nd.star_word (nd : Nd) : decide (V.str nd.word = V.str "star") = isStar nd := by
  cases nd with
  | zero => exact (show decide (V.str "zero" = V.str "star") = false by decide +kernel)
  | one => exact (show decide (V.str "one" = V.str "star") = false by decide +kernel)
  | fact k => exact (show decide (V.str "fact" = V.str "star") = false by decide +kernel)
  | star n => exact (show decide (V.str "star" = V.str "star") = true by decide +kernel)
  | plus ps => exact (show decide (V.str "plus" = V.str "star") = false by decide +kernel)
  | times ps => exact (show decide (V.str "times" = V.str "star") = false by decide +kernel)
/-- a star is reached -/
def HasStar (tbl : List Nd) (n : Nat) : Prop := ∃ m nd, Rch tbl n m ∧ tbl[m]? = some nd ∧ isStar nd = true
def spNeed (P : Program) (w : World) (ad : Ad) : Sp := fun vs H Q E => ∃ c S D tbl, ∃ (n : Nat), vs = [.ref c, .int (n : Int)] ∧ Circ P w ad.Circuits H c S D tbl ∧ Wf tbl ∧ tbl.length < 64 ∧ n < tbl.length ∧ (¬ HasStar tbl n → ∀ H', Same H H' → Q .non H') ∧ (HasStar tbl n → ∀ H', Same H H' → E (.ref ad.NoStar) none H')
theorem ok_need_no_star (c_nodes_within : CalX P w K mg base 2 "nodes_within" (spWithin P w ad.Circuits)) (m_shown : MetX P w K mg base 1 ad.Circuits "shown" (spShown P w ad.Circuits)) {f : Addr} {fd : FuncData} (F : Fun K "need_no_star" "need_no_star" s_need_no_star f fd) (T : Txt K mg ad) : FnOk P w K mg base (L2.CX P w) 3 f fd ["circuits", "node"] (spNeed P w ad) := by
  refine F.okX sc_need_no_star (fun vs H Q E => ?_) (fun cdv A outer s H vs Q E hr h => ?_)
  · walk_at "len"
  ·
    obtain ⟨c, S, D, tbl, n, rfl, cc, wf, hl, hn, k1, k2⟩ := h
    refine ⟨_, (pss_one (ps_for (passes_of rfl) rfl (pi_list (pc_call c_nodes_within hr (by first | decide | omega) (takes_of rfl rfl rfl rfl) (by rfl) (pa_cons (pv 0) (pa_cons (pe_lst (pa_cons (pv 1) pa_nil)) pa_nil)))) (pg_name (i := 2) sc_need_no_star.nd rfl (by first | exact Or.inl rfl | exact Or.inr rfl)) (pss_one (ps_if (pt_cmpR op_eq (pe_ix ix_tup (pd_meth hr (takes_of rfl rfl rfl rfl) (pv 0) (pa_cons (pv 2) pa_nil)) pe_int (fun _ _ => rfl)) pe_str (nomark _)) (pss_one (ps_raise rfl (takes_of rfl rfl rfl rfl) (pmk_own PySem.F.excBase_ValueError T.x_NoStar T.g_NoStar T.k_NoStar (raises_own T.b_NoStar T.t_NoStar) (by rfl)))) pss_nil)))), ?_⟩
    obtain ⟨dxc, hc⟩ := cc.ins
    refine ⟨_, rfl, _, rfl, (show 1 ≤ sizeLine by decide), fun L hL => ?_⟩
    have s1 : Same H (upd H L (.lst [.int (n : Int)])) := same_new (Same.refl _) hL
    refine ⟨c, S, D, tbl, L, n, rfl, cc.same s1, wf, hl, hn, upd_same, fun H2 l ys s2 e2 ynd yp ym => ?_⟩
    have s02 : Same H H2 := fun b u e => s2 _ _ (s1 _ _ e)
    refine ⟨l, rfl, ⟨_, SqL.of e2⟩, ?_⟩
    refine for_list (K := K) (a := l) (xs := nV ys) (fun i σ H' => ∃ v2, σ = [some (.ref c), some (.int (n : Int)), v2] ∧ Same H2 H' ∧ ∀ m ∈ ys.take i, ∀ nd, tbl[m]? = some nd → isStar nd = false) ⟨none, rfl, Same.refl _, fun m h => nomatch h⟩ (fun i σ H' _ ⟨_, _, s', _⟩ => SqL.of (s' _ _ e2)) ?_ ?_
    · rintro i z σ H3 hz ⟨v2, rfl, s3, m3⟩
      obtain ⟨m, hm, rfl⟩ := nV_in hz
      have hr := (ym m).mp (List.mem_of_getElem? hm)
      have hmt : m < tbl.length := Nat.lt_of_le_of_lt (hr.le wf) hn
      have hnd : tbl[m]? = some tbl[m] := List.getElem?_eq_getElem hmt
      have s03 : Same H H3 := fun b u e => s3 _ _ (s02 _ _ e)
      refine go_name rfl ?_
      refine ⟨_, rfl, c, _, dxc, _, 1, _, rfl, s03 _ _ hc, fC_no _ _ (by decide) (by decide), by decide, m_shown, _, rfl, c, S, D, tbl, m, _, rfl, cc.same s03, hnd, fun a ha => ?_⟩
      obtain ⟨l1, e6, _⟩ := ha.inv
      refine ⟨a, _, _, _, rfl, rfl, SqT.of e6, at_of (j := 0) rfl (tbl[m].vals0 l1), rfl, _, rfl, ?_⟩
      rw [Nd.star_word]
      refine ite2 (fun c => ?_) (fun c => ?_)
      · exact k2 ⟨m, _, hr, hnd, c⟩ H3 s03
      · refine go_next ⟨_, rfl, s3, fun q hq nd' e' => ?_⟩
        rw [List.take_add_one, hm] at hq
        rcases List.mem_append.mp hq with h | h
        · exact m3 q h nd' e'
        · obtain rfl : q = m := by simpa using h
          rw [hnd] at e'
          cases e'
          simpa using c
    · rintro σ H3 ⟨v2, rfl, s3, m3⟩
      rw [nV_length, List.take_length] at m3
      exact k1 (fun ⟨m, nd, hr, e, st⟩ => by rw [m3 m ((ym m).mpr hr) nd e] at st; cases st) H3 fun b u e => s3 _ _ (s02 _ _ e)
end
end K34

set_option Elab.async false
set_option linter.all false
set_option maxRecDepth 100000
set_option maxHeartbeats 4000000
namespace K34
open PySem L2 Ew Tb GxR ND PM NI PK
local macro_rules | `(tactic| walk_at "len") => `(tactic| first | (intro h; obtain ⟨e, _⟩ := h; rw [e]; rfl) | (intro h; obtain ⟨_, e, _⟩ := h; rw [e]; rfl) | (intro h; obtain ⟨_, _, e, _⟩ := h; rw [e]; rfl) | (intro h; obtain ⟨_, _, _, e, _⟩ := h; rw [e]; rfl) | (intro h; obtain ⟨_, _, _, _, e, _⟩ := h; rw [e]; rfl) | (intro h; obtain ⟨_, _, _, _, _, e, _⟩ := h; rw [e]; rfl) | (intro h; obtain ⟨_, _, _, _, _, _, e, _⟩ := h; rw [e]; rfl) | (intro h; obtain ⟨_, _, _, _, _, _, _, e, _⟩ := h; rw [e]; rfl) | (intro h; obtain ⟨_, _, _, _, _, _, _, _, e, _⟩ := h; rw [e]; rfl) | (intro h; obtain ⟨_, _, _, _, _, _, _, _, _, e, _⟩ := h; rw [e]; rfl) | (intro h; obtain ⟨_, _, _, _, _, _, _, _, _, _, e, _⟩ := h; rw [e]; rfl) | (intro h; obtain ⟨_, _, _, _, _, _, _, _, _, _, _, e, _⟩ := h; rw [e]; rfl) | (intro h; obtain ⟨_, _, _, _, _, _, _, _, _, _, _, _, e, _⟩ := h; rw [e]; rfl) | (intro h; obtain ⟨_, _, _, _, _, _, _, _, _, _, _, _, _, e, _⟩ := h; rw [e]; rfl) | (intro h; obtain ⟨_, _, _, _, _, _, _, _, _, _, _, _, _, _, e, _⟩ := h; rw [e]; rfl) | (intro h; obtain ⟨_, _, _, _, _, _, _, _, _, _, _, _, _, _, _, e, _⟩ := h; rw [e]; rfl) | (intro h; obtain ⟨_, _, _, _, _, _, _, _, _, _, _, _, _, _, _, _, e, _⟩ := h; rw [e]; rfl) | (intro h; obtain ⟨_, _, _, _, _, _, _, _, _, _, _, _, _, _, _, _, _, e, _⟩ := h; rw [e]; rfl) | (intro h; exact h.elim))
section
variable {P : Program} {w : World} {K : PySem.W.Frag} {mg : Str → Option Value} {base : Heap} {ad : Ad}
/-- the polynomial that is a fact alone -/
def varP (k : Nat) : Terms := [([(k, 1)], 1)]
theorem pc_v (f : Nat) : PC (varP f) := ⟨List.pairwise_singleton .., fun x h => by rw [List.mem_singleton.mp h]; exact ⟨List.pairwise_singleton .., fun x h => by rw [List.mem_singleton.mp h]; exact Nat.le_refl 1⟩, fun x h => by rw [List.mem_singleton.mp h]; exact Nat.le_refl 1⟩
abbrev PA : Alg Terms := RA (fun a b => a ++ b) tmul [] [([], 1)] varP
abbrev faIn (tbl : List Nd) (n : Nat) : Nat → Prop := fun k => ∃ m, Rch tbl n m ∧ tbl[m]? = some (.fact k)
def spNormal (P : Program) (w : World) (ad : Ad) : Sp := fun vs H Q E => ∃ (c S D : Addr) (tbl : List Nd) (n : Nat), vs = [.ref c, .int (n : Int)] ∧ Circ P w ad.Circuits H c S D tbl ∧ Wf tbl ∧ tbl.Nodup ∧ tbl.length < 64 ∧ n < tbl.length ∧ (∀ nd ∈ tbl, nd.parts.length ≤ 1000) ∧
  (HasStar tbl n → ∀ H', Same H H' → E (.ref ad.NoStar) none H') ∧
  (¬ HasStar tbl n → ∃ x : Nat → Terms, (∀ m nd, Rch tbl n m → tbl[m]? = some nd → okN (faIn tbl n) (okFoldG okPl fun a b => a ++ b) (okFoldG okTm tmul) x nd ∧ evV PA (fun p => some (x p)) nd = some (x m)) ∧ Eo (some ad.TooLarge) E H ∧ ∀ H' v, Same H H' → Rp H' (x n) v → Q v H')
theorem ok_normal (mkP : Mk0 K mg "Polynomials" ad.Polynomials) (c_need_no_star : CalX P w K mg base 3 "need_no_star" (spNeed P w ad)) (c_variable : CalX P w K mg base 1 "variable" spVar) (m_facts_in : MetX P w K mg base 3 ad.Circuits "facts_in" (spFactsIn P w ad.Circuits)) (c_worth : ∀ fa, CalX P w K mg base 9 "worth" (spWorth P w ad (some ad.TooLarge) Rp ad.Polynomials okPl okTm (fun a b => a ++ b) tmul [] [([], 1)] fa varP)) {f : Addr} {fd : FuncData} (F : Fun K "normal" "normal" s_normal f fd) (T : Txt K mg ad) : FnOk P w K mg base (L2.CX P w) 11 f fd ["circuits", "node"] (spNormal P w ad) := by
  refine F.okX sc_normal (fun vs H Q E => ?_) (fun cdv A outer s H vs Q E hr h => ?_)
  · walk_at "len"
  ·
    obtain ⟨c, S, D, tbl, n, rfl, cc, wf, tnd, hl, hn, hpl, k2, k1⟩ := h
    refine ⟨_, (pss_cons (ps_expr (pc_call c_need_no_star hr (by first | decide | omega) (takes_of rfl rfl rfl rfl) (by rfl) (pa_cons (pv 0) (pa_cons (pv 1) pa_nil))))
      (pss_cons (DCx.ps_setDc (i := 2) (own := [("fact", 3)]) (tt := tYes) rfl sc_normal.nd rfl rfl (DCx.swd_true rfl rfl rfl (by decide +kernel)) (pi_list (pd_meth hr (takes_of rfl rfl rfl rfl) (pv 0) (pa_cons (pv 1) pa_nil))) (blkOk_by (by kernel_rfl)) (fun _ _ _ _ _ => (pg_name (i := 3) sc_normal.nd rfl (by first | exact Or.inl rfl | exact Or.inr rfl))) (fun _ _ _ _ _ => pts_nil) (fun _ _ _ _ _ => (pv 3)) (fun _ _ _ _ _ => (pc_call c_variable hr (by first | decide | omega) takes0 (by rfl) (pa_cons (pv 3) pa_nil))))
      (pss_one (ps_ret (pd_call hr (takes_of rfl rfl rfl rfl) (by rfl) (pa_cons (pv 0) (pa_cons (pv 1) (pa_cons (pd_new0 (by rfl)) (pa_cons (pv 2) pa_nil))))))))), ?_⟩
    refine go_sq ?_
    refine ⟨_, rfl, _, rfl, c, S, D, tbl, n, rfl, cc, wf, hl, hn, fun ns H1 s1 => ?_, fun hs H1 s1 => k2 hs H1 s1⟩
    obtain ⟨x, hev, eo, k1⟩ := k1 ns
    have cc1 := cc.same s1
    obtain ⟨dxc, hc⟩ := cc1.ins
    refine go_nx (go_sq ?_)
    refine ⟨_, rfl, c, _, dxc, _, 3, _, rfl, hc, fC_no _ _ (by decide) (by decide), by decide, m_facts_in, _, rfl, c, S, D, tbl, n, rfl, cc1, wf, tnd, hl, hn, fun H2 l ks s2 e2 knd ksr kmem => ⟨l, rfl, ⟨_, SqL.of e2⟩, fun d hd => ?_⟩⟩
    have klen : ks.length ≤ 100 := by
      have h := knd.length_le_of_subset (l₂ := tbl.map Nd.num) fun k hk => by
        obtain ⟨m, _, e⟩ := (kmem k).mp hk
        exact List.mem_map.mpr ⟨_, List.mem_of_getElem? e, rfl⟩
      rw [List.length_map] at h
      omega
    refine DC2.walk_l (K := K) (xs := nV ks) (fun i H' => Same H2 H' ∧ ∃ kvs : List (Key × V), H' d = some (.dK kvs) ∧ kvs.length ≤ i ∧ ∀ k ∈ ks.take i, ∃ v, valV kvs (.inl (k : Int)) = some v ∧ Rp H' (varP k) v) ⟨same_new (Same.refl _) hd, [], upd_same, Nat.le_refl _, fun k h => nomatch h⟩ (fun i H' _ ⟨s', _⟩ => SqL.of (s' _ _ e2)) (fun i z H3 hz ⟨s3, kvs, e3, l3, m3⟩ => ?_) (fun H3 ⟨s3, kvs, e3, l3, m3⟩ => go_name rfl (go_nx ?_))
    · obtain ⟨k, hk, rfl⟩ := nV_in hz
      have hik := (List.getElem?_eq_some_iff.mp hk).1
      refine ⟨rfl, yes_then (iteT ⟨_, rfl, _, rfl, k, rfl, fun H4 t s4 t0 kt => ?_⟩)⟩
      have e4 := s4 _ _ e3
      have keep : NG.Kp H4 (upd H4 d (.dK (putK kvs (.inl (k : Int)) (.ref t)))) := ⟨fun b zs e => by
        rw [upd_ne (ne_of e e4 (fun z => nomatch z))]; exact e, fun b o zs e => by
        rw [upd_ne (ne_of e e4 (fun z => nomatch z))]; exact e⟩
      refine ⟨kvs, .inl (k : Int), rfl, e4, Nat.lt_of_le_of_lt (by omega : _ ≤ 1000) (by decide), same_but hd (fun b o z => s4 _ _ (s3 _ _ z)) (fun c u nc z => by rw [upd_ne nc]; exact z), putK kvs (.inl (k : Int)) (.ref t), upd_same, ?_, fun q hq => ?_⟩
      · have := length_putK kvs (.inl (k : Int)) (.ref t)
        omega
      · rw [valV_put]
        by_cases cq : q = k
        · subst cq
          rw [if_pos rfl]
          exact ⟨_, rfl, varP q, kt.keeps keep, pc_v q, fun _ => rfl, (show 1 ≤ 400 by decide)⟩
        · rw [if_neg (fun z => cq (by injection z with z; omega))]
          rw [List.take_add_one, hk] at hq
          rcases List.mem_append.mp hq with h | h
          · obtain ⟨u, h1, h2⟩ := m3 q h
            exact ⟨u, h1, Rp_mono _ _ _ _ keep (Rp_mono _ _ _ _ (.of s4) h2)⟩
          · exact absurd (by simpa using h) cq
    rw [nV_length, List.take_length] at m3
    have s03 : Same H H3 := fun b o z => s3 _ _ (s2 _ _ (s1 _ _ z))
    refine ⟨9, _, by decide, c_worth (faIn tbl n), _, rfl, _, rfl, ad.Polynomials, mkP, fun y dy hy hdy nyd => ?_⟩
    have s4 : Same H3 (upd (upd H3 dy (.own y)) y (.ins ad.Polynomials dy [])) := made_same hy hdy
    have ey : (upd (upd H3 dy (.own y)) y (.ins ad.Polynomials dy [])) y = some (.ins ad.Polynomials dy []) := upd_same
    have s04 : Same H (upd (upd H3 dy (.own y)) y (.ins ad.Polynomials dy [])) := fun b o z => s4 _ _ (s03 _ _ z)
    exact ⟨_, rfl, c, S, D, y, d, dy, tbl, n, x, kvs, rfl, cc.same s04, wf, hl, hn, ey, s4 _ _ e3, fun k hf => let ⟨v, h1, h2⟩ := m3 k ((kmem k).mpr hf); ⟨v, h1, Rp_mono _ _ _ _ (.of s4) h2⟩, hev, hpl, eo.up s04, fun H' v s' rv => k1 H' v (fun b o z => s' _ _ (s04 _ _ z)) rv⟩
end
end K34

set_option Elab.async false
set_option linter.all false
set_option maxRecDepth 100000
set_option maxHeartbeats 4000000
namespace K34
open PySem L2 Ew Tb GxR ND
local macro_rules | `(tactic| walk_at "len") => `(tactic| first | (intro h; obtain ⟨_, e, _⟩ := h; rw [e]; rfl) | (intro h; obtain ⟨_, _, e, _⟩ := h; rw [e]; rfl) | (intro h; obtain ⟨_, _, _, e, _⟩ := h; rw [e]; rfl) | (intro h; obtain ⟨_, _, _, _, e, _⟩ := h; rw [e]; rfl) | (intro h; obtain ⟨_, _, _, _, _, e, _⟩ := h; rw [e]; rfl) | (intro h; obtain ⟨_, _, _, _, _, _, e, _⟩ := h; rw [e]; rfl) | (intro h; obtain ⟨_, _, _, _, _, _, _, e, _⟩ := h; rw [e]; rfl) | (intro h; obtain ⟨_, _, _, _, _, _, _, _, e, _⟩ := h; rw [e]; rfl) | (intro h; obtain ⟨_, _, _, _, _, _, _, _, _, e, _⟩ := h; rw [e]; rfl) | (intro h; obtain ⟨_, _, _, _, _, _, _, _, _, _, e, _⟩ := h; rw [e]; rfl) | (intro h; obtain ⟨_, _, _, _, _, _, _, _, _, _, _, e, _⟩ := h; rw [e]; rfl) | (intro h; obtain ⟨_, _, _, _, _, _, _, _, _, _, _, _, e, _⟩ := h; rw [e]; rfl) | (intro h; obtain ⟨_, _, _, _, _, _, _, _, _, _, _, _, _, e, _⟩ := h; rw [e]; rfl))
local macro_rules | `(tactic| walk_at "len") => `(tactic| first | (intro h; obtain ⟨_, _, _, _, _, _, _, _, e, _⟩ := h; rw [e]; rfl) | (intro h; obtain ⟨_, _, _, _, _, _, _, _, _, e, _⟩ := h; rw [e]; rfl) | (intro h; obtain ⟨_, _, _, _, _, _, _, _, _, _, e, _⟩ := h; rw [e]; rfl) | (intro h; obtain ⟨_, _, _, _, _, _, _, _, _, _, _, e, _⟩ := h; rw [e]; rfl) | (intro h; obtain ⟨_, _, _, _, _, _, _, _, _, _, _, _, e, _⟩ := h; rw [e]; rfl) | (intro h; obtain ⟨_, _, _, _, _, _, _, _, _, _, _, _, _, e, _⟩ := h; rw [e]; rfl) | (intro h; obtain ⟨_, _, _, _, _, _, _, _, _, _, _, _, _, _, e, _⟩ := h; rw [e]; rfl) | (intro h; obtain ⟨_, _, _, _, _, _, _, _, _, _, _, _, _, _, _, e, _⟩ := h; rw [e]; rfl) | (intro h; obtain ⟨_, _, _, _, _, _, _, _, _, _, _, _, _, _, _, _, e, _⟩ := h; rw [e]; rfl) | (intro h; obtain ⟨_, _, _, _, _, _, _, _, _, _, _, _, _, _, _, _, _, e, _⟩ := h; rw [e]; rfl))
section
variable {P : Program} {w : World} {K : PySem.W.Frag} {mg : Str → Option Value} {base : Heap} {ad : Ad}
/-! ### nodes are grown -/
structure Good (tbl : List Nd) : Prop where
  nd : tbl.Nodup
  wf : Wf tbl
  two : 2 ≤ tbl.length
  ps : ∀ x ∈ tbl, x.parts.length ≤ 1000
/-- the table behind an asking -/
structure Nxt (tbl tbl' : List Nd) : Prop where
  good : Good tbl'
  le : tbl.length ≤ tbl'.length
  len : tbl'.length ≤ tbl.length + 1
theorem Good.self {tbl : List Nd} (g : Good tbl) : Nxt tbl tbl := ⟨g, Nat.le_refl _, Nat.le_succ _⟩
theorem Good.ins {tbl : List Nd} {nd : Nd} (g : Good tbl) (hp : ∀ p ∈ nd.parts, p < tbl.length) (hl : nd.parts.length ≤ 1000) : Nxt tbl (insN tbl nd) := by
  unfold insN
  by_cases m : nd ∈ tbl
  · rw [if_pos m]; exact g.self
  · rw [if_neg m]
    refine ⟨⟨List.nodup_append.mpr ⟨g.nd, by simp, fun a ha b hb z => m (by rw [List.mem_singleton.mp hb] at z; rw [← z]; exact ha)⟩, fun i x hx p hpx => ?_, ?_, fun x hx => ?_⟩, ?_, ?_⟩
    · rcases Nat.lt_or_ge i tbl.length with h | h
      · rw [List.getElem?_append_left h] at hx
        exact g.wf i x hx p hpx
      · rw [List.getElem?_append_right h] at hx
        have hi : i - tbl.length = 0 := by
          rcases Nat.eq_zero_or_pos (i - tbl.length) with z | z
          · exact z
          · rw [List.getElem?_eq_none (by rw [List.length_singleton]; omega)] at hx; cases hx
        rw [hi] at hx
        cases hx
        have := hp p hpx
        omega
    · rw [List.length_append]; have := g.two; omega
    · rcases List.mem_append.mp hx with h | h
      · exact g.ps x h
      · rw [List.mem_singleton.mp h]; exact hl
    · rw [List.length_append]; omega
    · rw [List.length_append]; simp
theorem good0 : Good [.zero, .one] where
  nd := by decide
  wf := fun i x hx p hp => by
    rcases i with _ | _ | i
    · cases hx; cases hp
    · cases hx; cases hp
    · simp at hx
  two := Nat.le_refl _
  ps := fun x hx => by
    rcases List.mem_cons.mp hx with rfl | hx
    · exact Nat.zero_le _
    · rw [List.mem_singleton.mp hx]; exact Nat.zero_le _
theorem sev_nxt {tbl : List Nd} {d : Kd} {ps : List Nat} (g : Good tbl) (hp : ∀ p ∈ ps, p < tbl.length) (hl : ps.length ≤ 1000) : Nxt tbl (sevN tbl d ps).1 := by
  rcases ps with _ | ⟨p0, _ | ⟨p1, ps⟩⟩
  · exact g.self
  · exact g.self
  · have pm : (d.mk (sortN (p0 :: p1 :: ps))).parts = sortN (p0 :: p1 :: ps) := by cases d <;> rfl
    refine g.ins (fun p h => ?_) ?_
    · rw [pm] at h
      exact hp p ((sortN_perm _).mem_iff.mp h)
    · rw [pm, (sortN_perm _).length_eq]
      exact hl
theorem Circ.fr {C c S D : Addr} {H H' : Hp} {tbl : List Nd} {p : Addr} {xs : List V} (x : Circ P w C H c S D tbl) (fr : Fr1 p H H') (hp : H p = some (.lst xs)) (hS : p ≠ S) : Circ P w C H' c S D tbl := by
  obtain ⟨dx, e1⟩ := x.ins
  obtain ⟨as, e2, hk⟩ := x.shown
  have tups : ∀ b ys, H b = some (.tup ys) → H' b = some (.tup ys) := fun b ys e => fr _ _ (ne_of e hp (fun z => nomatch z)) e
  obtain ⟨φ, hφ⟩ := x.nums.ext
  exact ⟨⟨dx, fr _ _ (ne_of e1 hp (fun z => nomatch z)) e1⟩, ⟨as, fr _ _ (Ne.symm hS) e2, hk.keeps tups⟩, x.nums.keeps (fun u e => fr _ _ (ne_of hφ hp (fun z => nomatch z)) e) tups⟩
theorem PotB.fr {p b q : Addr} {H H' : Hp} (x : PotB H p b) (fr : Fr1 q H H') (h1 : p ≠ q) (h2 : b ≠ q) : PotB H' p b := by
  obtain ⟨ns, i, c, sd, e1, e2, h⟩ := x
  exact ⟨ns, i, c, sd, fr _ _ h1 e1, fr _ _ h2 e2, h⟩
theorem PotB.ls {p b : Addr} {H : Hp} (x : PotB H p b) : ∃ xs, H p = some (.lst xs) := let ⟨_, _, _, _, e, _⟩ := x; ⟨_, e⟩
theorem PotB.lb {p b : Addr} {H : Hp} (x : PotB H p b) : ∃ xs, H b = some (.lst xs) := let ⟨_, _, _, _, _, e, _⟩ := x; ⟨_, e⟩
theorem Circ.lS {C c S D : Addr} {H : Hp} {tbl : List Nd} (x : Circ P w C H c S D tbl) : ∃ as : List Addr, H S = some (.lst (as.map V.ref)) ∧ as.length = tbl.length := by
  obtain ⟨as, e2, hk⟩ := x.shown
  have := Kys.length hk
  rw [List.length_map, List.length_map] at this
  exact ⟨as, e2, this.symm⟩
theorem FrC.ne {C c S D q : Addr} {H H' : Hp} {tbl : List Nd} (x : Circ P w C H c S D tbl) (fr : FrC S D H H') {o : HO} (hq : H q = some o) (h1 : q ≠ S) (h2 : ∀ φ, o ≠ .ext φ) : H' q = some o := by
  obtain ⟨φ, hφ⟩ := x.nums.ext
  exact fr _ _ h1 (ne_of hq hφ (fun z => h2 φ z)) hq
theorem toN {i : Int} (h : 0 ≤ i) : ∃ n : Nat, i = (n : Int) := ⟨i.toNat, by omega⟩
structure GS (P : Program) (w : World) (C : Addr) (H0 H : Hp) (p pb c S D N : Addr) (tbl : List Nd) (ns : List Nat) : Prop where
  pot : PotB H p pb
  cc : Circ P w C H c S D tbl
  nn : H N = some (.lst (nV ns))
  fr : ∀ b o, b ≠ p → b ≠ S → b ≠ D → H0 b = some o → H b = some o
structure Dis (p pb S N : Addr) : Prop where
  pS : p ≠ S
  bS : pb ≠ S
  pN : p ≠ N
  bN : pb ≠ N
  SN : S ≠ N
section
variable {C p pb c S D N : Addr} {H0 H H' : Hp} {tbl tbl2 : List Nd} {ns : List Nat}
theorem GS.same (x : GS P w C H0 H p pb c S D N tbl ns) (s : Same H H') : GS P w C H0 H' p pb c S D N tbl ns := ⟨x.pot.same s, x.cc.same s, s _ _ x.nn, fun b o h1 h2 h3 e => s _ _ (x.fr b o h1 h2 h3 e)⟩
theorem GS.draw (x : GS P w C H0 H p pb c S D N tbl ns) (d : Dis p pb S N) (fr : Fr1 p H H') (hb : ∀ b, PotB H p b → PotB H' p b) : GS P w C H0 H' p pb c S D N tbl ns := by
  obtain ⟨xs, hp⟩ := x.pot.ls
  exact ⟨hb _ x.pot, x.cc.fr fr hp d.pS, fr _ _ (Ne.symm d.pN) x.nn, fun b o h1 h2 h3 e => fr _ _ h1 (x.fr b o h1 h2 h3 e)⟩
theorem GS.made (x : GS P w C H0 H p pb c S D N tbl ns) (d : Dis p pb S N) (fr : FrC S D H H') (hc : Circ P w C H' c S D tbl2) : GS P w C H0 H' p pb c S D N tbl2 ns := by
  obtain ⟨zs, i, c', sd, e1, e2, h⟩ := x.pot
  exact ⟨⟨zs, i, c', sd, FrC.ne x.cc fr e1 d.pS (fun φ z => nomatch z), FrC.ne x.cc fr e2 d.bS (fun φ z => nomatch z), h⟩, hc, FrC.ne x.cc fr x.nn (Ne.symm d.SN) (fun φ z => nomatch z), fun b o h1 h2 h3 e => fr b o h2 h3 (x.fr b o h1 h2 h3 e)⟩
theorem GS.push (x : GS P w C H0 H p pb c S D N tbl ns) (d : Dis p pb S N) (h0 : H0 N = none) (y : Nat) : GS P w C H0 (upd H N (.lst (nV ns ++ [.int (y : Int)]))) p pb c S D N tbl (ns ++ [y]) := by
  have fr : Fr1 N H (upd H N (.lst (nV ns ++ [.int (y : Int)]))) := fun b o nb e => by rw [upd_ne nb]; exact e
  refine ⟨x.pot.fr fr d.pN d.bN, x.cc.fr fr x.nn (Ne.symm d.SN), ?_, fun b o h1 h2 h3 e => fr b o (ne_of_none e h0) (x.fr b o h1 h2 h3 e)⟩
  rw [upd_same]
  unfold nV
  rw [List.map_append]
  rfl
end
/-- a node as the identities leave it -/
def nfN : Nd → Prop
  | .star _ => False
  | .plus ps => sortN ps = ps ∧ 2 ≤ ps.length ∧ ∀ p ∈ ps, p ≠ 0
  | .times ps => sortN ps = ps ∧ 2 ≤ ps.length ∧ ∀ p ∈ ps, p ≠ 0 ∧ p ≠ 1
  | _ => True
theorem sortN_idem (ns : List Nat) : sortN (sortN ns) = sortN ns := by
  have e := sortN_of (ns := sortN ns) (ns' := (sortN ns).map fun (n : Nat) => (n : Int)) (.refl _) ((sortN_rises ns).map (S := fun (a b : Int) => a ≤ b) _ fun a b hab => by omega)
  have id_ : ∀ zs : List Nat, (zs.map fun (n : Nat) => (n : Int)).map Int.toNat = zs := fun zs => by
    rw [List.map_map]
    exact (List.map_congr_left fun n _ => Int.toNat_natCast n).trans (List.map_id _)
  have e3 := congrArg (List.map Int.toNat) e
  rw [id_, id_] at e3
  exact e3.symm
theorem nf_mk {d : Kd} {p0 p1 : Nat} {ps : List Nat} (h0 : ∀ p ∈ p0 :: p1 :: ps, p ≠ 0) (h1 : d = .times → ∀ p ∈ p0 :: p1 :: ps, p ≠ 1) : nfN (d.mk (sortN (p0 :: p1 :: ps))) := by
  have hl : 2 ≤ (sortN (p0 :: p1 :: ps)).length := by rw [(sortN_perm _).length_eq]; simp
  cases d with
  | plus => exact ⟨sortN_idem _, hl, fun p hp => h0 p ((sortN_perm _).mem_iff.mp hp)⟩
  | times => exact ⟨sortN_idem _, hl, fun p hp => ⟨h0 p ((sortN_perm _).mem_iff.mp hp), h1 rfl p ((sortN_perm _).mem_iff.mp hp)⟩⟩
structure Fk4 (tbl : List Nd) : Prop where
  k4 : ∀ k, Nd.fact k ∈ tbl → k < 4
  z0 : tbl[0]? = some .zero
  z1 : tbl[1]? = some .one
  nf : ∀ nd ∈ tbl, nfN nd
  p2 : ∀ nd ∈ tbl, nd.parts.length ≤ 2
def spGrown (P : Program) (w : World) (C : Addr) : Sp := fun vs H Q _ => ∃ (p pb c S D : Addr), vs = [.ref p, .ref c, .int 4, .bl false] ∧ PotB H p pb ∧ Circ P w C H c S D [.zero, .one] ∧ p ≠ S ∧ pb ≠ S ∧
  ∀ H' N tbl ns, PotB H' p pb → Circ P w C H' c S D tbl → H' N = some (.lst (nV ns)) → (∀ b o, b ≠ p → b ≠ S → b ≠ D → H b = some o → H' b = some o) → Good tbl → Fk4 tbl → (∀ x ∈ ns, x < tbl.length) → tbl.length ≤ 13 → ns.length ≤ 13 → 0 < ns.length → p ≠ N → pb ≠ N → H N = none → Q (.ref N) H'
theorem fact_ins {tbl : List Nd} {nd : Nd} (h : Fk4 tbl) (hn : ∀ k, nd = .fact k → k < 4) (hnf : nfN nd) (hp2 : nd.parts.length ≤ 2) : Fk4 (insN tbl nd) := by
  unfold insN
  split
  · exact h
  · refine ⟨fun k hk => ?_, ?_, ?_, fun z hz => (List.mem_append.mp hz).elim (h.nf z) fun e => by rw [List.mem_singleton.mp e]; exact hnf, fun z hz => (List.mem_append.mp hz).elim (h.p2 z) fun e => by rw [List.mem_singleton.mp e]; exact hp2⟩
    · rcases List.mem_append.mp hk with h1 | h1
      · exact h.k4 k h1
      · exact hn k (List.mem_singleton.mp h1).symm
    · rw [List.getElem?_append_left (List.getElem?_eq_some_iff.mp h.z0).1]; exact h.z0
    · rw [List.getElem?_append_left (List.getElem?_eq_some_iff.mp h.z1).1]; exact h.z1
theorem fact_sev {tbl : List Nd} {d : Kd} {ps : List Nat} (h : Fk4 tbl) (h0 : ∀ p ∈ ps, p ≠ 0) (h1 : d = .times → ∀ p ∈ ps, p ≠ 1) (hl : ps.length ≤ 2) : Fk4 (sevN tbl d ps).1 := by
  rcases ps with _ | ⟨p0, _ | ⟨p1, ps⟩⟩
  · exact h
  · exact h
  · exact fact_ins h (fun k e => by cases d <;> cases e) (nf_mk h0 h1) (by rw [show (d.mk (sortN (p0 :: p1 :: ps))).parts = sortN (p0 :: p1 :: ps) by cases d <;> rfl, (sortN_perm _).length_eq]; exact hl)
theorem ins_idx (tbl : List Nd) (nd : Nd) : (insN tbl nd).idxOf nd < (insN tbl nd).length := List.idxOf_lt_length_of_mem (insN_mem tbl nd)
theorem sev_idx {tbl : List Nd} {d : Kd} {ps : List Nat} (g : Good tbl) (hp : ∀ p ∈ ps, p < tbl.length) : (sevN tbl d ps).2 < (sevN tbl d ps).1.length := by
  have := g.two
  rcases ps with _ | ⟨p0, _ | ⟨p1, ps⟩⟩
  · cases d
    · exact (by omega : 0 < tbl.length)
    · exact (by omega : 1 < tbl.length)
  · exact hp p0 (List.mem_cons_self ..)
  · exact ins_idx _ _
theorem ok_law_grown (m_fact : MetX P w K mg base 4 ad.Circuits "fact" (spFact P w ad.Circuits)) (m_star : MetX P w K mg base 4 ad.Circuits "star" (spStar P w ad.Circuits)) (m_plus : MetX P w K mg base 4 ad.Circuits "plus" (spPlus P w ad.Circuits .plus 0)) (m_times : MetX P w K mg base 4 ad.Circuits "times" (spPlus P w ad.Circuits .times 1)) (c_law_next : CalX P w K mg base 1 "_law_next" spNext) {f : Addr} {fd : FuncData} (F : Fun K "_law_grown" "_law_grown" s_law_grown f fd) (T : Txt K mg ad) : FnOk P w K mg base (L2.CX P w) 5 f fd ["pot", "circuits", "facts", "stars"] (spGrown P w ad.Circuits) := by
  refine F.okX sc_law_grown (fun vs H Q E => ?_) (fun cdv A outer s H vs Q E hr h => ?_)
  · walk_at "len"
  ·
    obtain ⟨p, pb, c, S, D, rfl, hp, cc, pS, bS, k⟩ := h
    have two : 2 ≤ sizeLine := by decide
    refine ⟨_, (pss_cons (ps_set (i := 4) sc_law_grown.nd rfl (by first | exact Or.inl rfl | exact Or.inr rfl) (pe_lst (pa_cons pe_int (pa_cons pe_int pa_nil))))
      (pss_cons (ps_for (passes_of rfl) rfl (pi_range1 (by rfl) T.z_range (pa_cons (pe_op op_add pe_int (pc_call c_law_next hr (by first | decide | omega) (takes_of rfl rfl rfl rfl) (by rfl) (pa_cons (pv 0) (pa_cons pe_int pa_nil)))) pa_nil)) (pg_name (i := 5) sc_law_grown.nd rfl (by first | exact Or.inl rfl | exact Or.inr rfl)) (pss_cons (ps_set (i := 6) sc_law_grown.nd rfl (by first | exact Or.inl rfl | exact Or.inr rfl) (pc_call c_law_next hr (by first | decide | omega) (takes_of rfl rfl rfl rfl) (by rfl) (pa_cons (pv 0) (pa_cons pe_int pa_nil))))
      (pss_cons (ps_setLc (i := 7) (own := [("j", 8)]) (tt := tYes) rfl sc_law_grown.nd rfl rfl (sw_true rfl rfl rfl (by decide +kernel)) (pi_range1 (by rfl) T.z_range (pa_cons (pc_call c_law_next hr (by first | decide | omega) (takes_of rfl rfl rfl rfl) (by rfl) (pa_cons (pv 0) (pa_cons pe_int pa_nil))) pa_nil)) (blkOk_by (by kernel_rfl)) (fun _ _ _ _ _ => (pg_name (i := 8) sc_law_grown.nd rfl (by first | exact Or.inl rfl | exact Or.inr rfl))) (fun _ _ _ _ _ => pts_nil) (fun _ _ _ _ _ => (pe_ix (kix_list (K := K)) (pv 4) (pe_op op_sub (pe_op op_sub (pe_callB (kcall_len (K := K)) (by rfl) T.z_len (by decide +kernel) (pa_cons (pv 4) pa_nil)) pe_int) (pc_call c_law_next hr (by first | decide | omega) takes0 (by rfl) (pa_cons (pv 0) (pa_cons (pe_callB (call_min2 rfl) (by rfl) T.z_min (by decide +kernel) (pa_cons pe_int (pa_cons (pe_callB (kcall_len (K := K)) (by rfl) T.z_len (by decide +kernel) (pa_cons (pv 4) pa_nil)) pa_nil))) pa_nil)))) (fun _ _ => rfl))))
      (pss_one (ps_if (pt_cmpR op_lt (pv 6) pe_int (nomark _)) (pss_one (ps_expr (pe_bm PySem.F.plainAttrs_list PySem.F.slot_list_append PySem.F.type_list_append mt_append (pv 4) (pa_cons (pd_meth hr (takes_of rfl rfl rfl rfl) (pv 1) (pa_cons (pc_call c_law_next hr (by first | decide | omega) (takes_of rfl rfl rfl rfl) (by rfl) (pa_cons (pv 0) (pa_cons (pv 2) pa_nil))) pa_nil)) pa_nil)))) (pss_one (ps_if (PW.pt (pw_and (pt_cmpR op_eq (pv 6) pe_int (nomark _)) (pw_and1 (pt_val (pv 3))))) (pss_one (ps_expr (pe_bm PySem.F.plainAttrs_list PySem.F.slot_list_append PySem.F.type_list_append mt_append (pv 4) (pa_cons (pd_meth hr (takes_of rfl rfl rfl rfl) (pv 1) (pa_cons (pe_ix ix_list (pv 4) (pc_call c_law_next hr (by first | decide | omega) (takes_of rfl rfl rfl rfl) (by rfl) (pa_cons (pv 0) (pa_cons (pe_callB call_len (by rfl) T.z_len (by decide +kernel) (pa_cons (pv 4) pa_nil)) pa_nil))) (fun _ _ => rfl)) pa_nil)) pa_nil)))) (pss_one (ps_if (PW.pt (pw_or (pt_cmpR op_eq (pv 6) pe_int (nomark _)) (pw_or1 (pt_cmpR op_eq (pv 6) pe_int (nomark _))))) (pss_one (ps_expr (pe_bm PySem.F.plainAttrs_list PySem.F.slot_list_append PySem.F.type_list_append mt_append (pv 4) (pa_cons (pd_meth hr (takes_of rfl rfl rfl rfl) (pv 1) (pa_cons (pv 7) pa_nil)) pa_nil)))) (pss_one (ps_expr (pe_bm PySem.F.plainAttrs_list PySem.F.slot_list_append PySem.F.type_list_append mt_append (pv 4) (pa_cons (pd_meth hr (takes_of rfl rfl rfl rfl) (pv 1) (pa_cons (pv 7) pa_nil)) pa_nil)))))))))))))
      (pss_one (ps_ret (pv 4))))), ?_⟩
    refine go_seq ⟨two, fun N hN => go_name rfl ?_⟩
    obtain ⟨xp, hxp⟩ := hp.ls
    obtain ⟨xb, hxb⟩ := hp.lb
    obtain ⟨aS, hS, _⟩ := cc.lS
    have dis : Dis p pb S N := ⟨pS, bS, ne_of_none hxp hN, ne_of_none hxb hN, ne_of_none hS hN⟩
    have s1 : Same H (upd H N (.lst [.int 0, .int 1])) := same_new (Same.refl _) hN
    have g0 : GS P w ad.Circuits H (upd H N (.lst [.int 0, .int 1])) p pb c S D N [.zero, .one] [0, 1] := ⟨hp.same s1, cc.same s1, upd_same, fun b o _ _ _ e => s1 _ _ e⟩
    refine go_sq ⟨_, rfl, p, 8, rfl, g0.pot.at_, by decide, by decide, fun H2 r fr2 _ r0 r1 hb2 => ?_⟩
    obtain ⟨j, rfl⟩ := toN r0
    have g2 := g0.draw dis fr2 hb2
    refine ⟨_, _, rfl, rfl, _, rfl, by omega, by omega, ?_⟩
    obtain ⟨m, hm, hm11⟩ : ∃ m : Nat, (4 : Int) + (j : Int) = (m : Int) ∧ m ≤ 11 := ⟨4 + j, by omega, by omega⟩
    rw [hm, Int.toNat_natCast]
    refine for_range (lo := 0) (n := m) (fun i σ H' => ∃ (v5 v6 v7 : Option V) (tbl : List Nd) (ns : List Nat), σ = [some (.ref p), some (.ref c), some (.int 4), some (.bl false), some (.ref N), v5, v6, v7, none] ∧ GS P w ad.Circuits H H' p pb c S D N tbl ns ∧ Good tbl ∧ Fk4 tbl ∧ (∀ x ∈ ns, x < tbl.length) ∧ tbl.length ≤ i + 2 ∧ ns.length = i + 2)
      ⟨none, none, none, _, _, rfl, g2, good0, ⟨fun k hk => by simp at hk, rfl, rfl, fun z hz => by rcases List.mem_cons.mp hz with rfl | hz <;> first | trivial | (rw [List.mem_singleton.mp hz]; trivial), fun z hz => by rcases List.mem_cons.mp hz with rfl | hz <;> first | exact Nat.zero_le _ | (rw [List.mem_singleton.mp hz]; exact Nat.zero_le _)⟩, fun x hx => by simp at hx; (show x < 2); omega, Nat.le_refl _, rfl⟩ ?_ ?_
    · rintro i σ H3 hi ⟨v5, v6, v7, tbl, ns, rfl, g3, gd, fk, lt, tl, nl⟩
      rw [Int.zero_add]
      refine go_name rfl ?_
      refine go_seq ⟨_, rfl, p, 6, rfl, g3.pot.at_, by decide, by decide, fun H4 kd fr4 _ kd0 kd1 hb4 => go_name rfl ?_⟩
      obtain ⟨kd, rfl⟩ := toN kd0
      have g4 := g3.draw dis fr4 hb4
      -- drawn
      refine go_sq ⟨_, rfl, p, 3, rfl, g4.pot.at_, by decide, by decide, fun H5 r3 fr5 _ r30 r31 hb5 => ?_⟩
      obtain ⟨j3, rfl⟩ := toN r30
      have g5 := g4.draw dis fr5 hb5
      refine ⟨_, rfl, by omega, by omega, fun D5 hD5 => ?_⟩
      rw [Int.toNat_natCast]
      obtain ⟨_, hp5⟩ := g5.pot.ls
      obtain ⟨_, hb5'⟩ := g5.pot.lb
      obtain ⟨_, hS5, _⟩ := g5.cc.lS
      have n1 : D5 ≠ p := (ne_of_none hp5 hD5).symm
      have n2 : D5 ≠ pb := (ne_of_none hb5' hD5).symm
      have n3 : D5 ≠ S := (ne_of_none hS5 hD5).symm
      have n4 : D5 ≠ N := (ne_of_none g5.nn hD5).symm
      have h0D : H D5 = none ∨ D5 = D := by
        by_cases hd : D5 = D
        · exact .inr hd
        · refine .inl ?_
          cases h : H D5 with
          | none => rfl
          | some u => rw [g5.fr D5 u n1 n3 hd h] at hD5; cases hD5
      have n5 : D5 ≠ D := by
        obtain ⟨φ, hφ⟩ := g5.cc.nums.ext
        exact (ne_of_none hφ hD5).symm
      have h0D := h0D.resolve_right n5
      refine lc_range (lo := 0) (n := j3) (fun i' H' => GS P w ad.Circuits H H' p pb c S D N tbl ns ∧ ∃ qs : List Nat, H' D5 = some (.lst (nV qs)) ∧ qs.length = i' ∧ ∀ x ∈ qs, x < tbl.length) ⟨g5.same (same_new (Same.refl _) hD5), [], upd_same, rfl, fun x z => nomatch z⟩ (fun i' H6 hi' ⟨g6, qs, e6, l6, m6⟩ => ?_) (fun H6 ⟨g6, ps, e6, l6, m6⟩ => ?_)
      · have eL : (nV ns).length = ns.length := nV_length ns
        refine ⟨rfl, yes_then (iteT ⟨_, rfl, _, rfl, .ref N, _, rfl, .inl ⟨_, SqL.of g6.nn, rfl⟩, _, _, rfl, rfl, _, rfl, _, rfl, .ref N, _, rfl, .inl ⟨_, SqL.of g6.nn, rfl⟩, _, _, rfl, ?_⟩)⟩
        obtain ⟨lm, hlm, lm0, lm1⟩ : ∃ lm : Nat, (if (((nV ns).length : Nat) : Int) < 6 then (((nV ns).length : Nat) : Int) else 6) = (lm : Int) ∧ 0 < lm ∧ lm ≤ ns.length := by
          refine ⟨min ns.length 6, ?_, by omega, by omega⟩
          rw [eL]
          split <;> omega
        rw [hlm]
        refine ⟨p, _, rfl, g6.pot.at_, by omega, by omega, fun H7 r5 fr7 _ r50 r51 hb7 => ?_⟩
        obtain ⟨j5, rfl⟩ := toN r50
        have g7 := g6.draw dis fr7 hb7
        have hix : ns.length - 1 - j5 < ns.length := by omega
        have hget : ns[ns.length - 1 - j5]? = some ns[ns.length - 1 - j5] := List.getElem?_eq_getElem hix
        refine ⟨_, _, rfl, rfl, N, _, _, .int (ns[ns.length - 1 - j5] : Nat), rfl, rfl, SqL.of g7.nn, at_of (j := ns.length - 1 - j5) (by rw [eL]; omega) (by rw [List.getElem?_map, hget]; rfl), _, fr7 _ _ n1 e6, ?_, ?_⟩
        · rw [nV_length, l6]
          exact Nat.lt_of_le_of_lt (by omega : i' ≤ 100) (by decide)
        · have frD : Fr1 D5 H7 (upd H7 D5 (.lst (nV qs ++ [.int (ns[ns.length - 1 - j5] : Nat)]))) := fun b o nb e => by rw [upd_ne nb]; exact e
          have eD := fr7 _ _ n1 e6
          refine ⟨⟨g7.pot.fr frD (Ne.symm n1) (Ne.symm n2), g7.cc.fr frD eD n3, frD _ _ (Ne.symm n4) g7.nn, fun b o h1 h2 h3 e => frD _ _ (ne_of_none e h0D) (g7.fr b o h1 h2 h3 e)⟩, qs ++ [ns[ns.length - 1 - j5]], ?_, by rw [List.length_append, l6]; rfl, fun x hx => ?_⟩
          · rw [upd_same]
            unfold nV
            rw [List.map_append]
            rfl
          · rcases List.mem_append.mp hx with h | h
            · exact m6 x h
            · rw [List.mem_singleton.mp h]
              exact lt _ (List.getElem_mem hix)
      refine go_name rfl ?_
      have lb : tbl.length < 1000 := by omega
      have hlN : (nV ns).length < sizeLine := by rw [nV_length]; exact Nat.lt_of_le_of_lt (by omega : ns.length ≤ 100) (by decide)
      have fin : ∀ (H9 : Hp) (tbl2 : List Nd) (y : Nat) (v6 v7 : Option V), GS P w ad.Circuits H H9 p pb c S D N tbl2 ns → Nxt tbl tbl2 → Fk4 tbl2 → y < tbl2.length → ∃ (v5 v6' v7' : Option V) (tbl3 : List Nd) (ns3 : List Nat), [some (.ref p), some (.ref c), some (.int 4), some (.bl false), some (.ref N), some (.int (i : Int)), v6, v7, none] = [some (.ref p), some (.ref c), some (.int 4), some (.bl false), some (.ref N), v5, v6', v7', none] ∧ GS P w ad.Circuits H (upd H9 N (.lst (nV ns ++ [.int (y : Int)]))) p pb c S D N tbl3 ns3 ∧ Good tbl3 ∧ Fk4 tbl3 ∧ (∀ x ∈ ns3, x < tbl3.length) ∧ tbl3.length ≤ i + 1 + 2 ∧ ns3.length = i + 1 + 2 := fun H9 tbl2 y v6 v7 g9 nx fk2 hy => by
        refine ⟨_, _, _, tbl2, ns ++ [y], rfl, g9.push dis hN y, nx.good, fk2, fun x hx => ?_, by have := nx.len; omega, by rw [List.length_append, nl]; rfl⟩
        rcases List.mem_append.mp hx with h | h
        · have := lt x h; have := nx.le; omega
        · rw [List.mem_singleton.mp h]; exact hy
      obtain ⟨dxc, hc6⟩ := g6.cc.ins
      refine ⟨_, rfl, _, _, rfl, rfl, _, rfl, ?_⟩
      by_cases c2 : kd < 2
      · rw [decide_eq_true (show (kd : Int) < 2 by omega)]
        refine iteT ?_
        refine ⟨_, rfl, .inl ⟨rfl, _, SqL.of g6.nn⟩, _, rfl, c, _, dxc, _, 4, _, rfl, hc6, fC_no _ _ (by decide) (by decide), by decide, m_fact, _, rfl, _, rfl, p, 4, rfl, g6.pot.at_, by decide, by decide, fun H7 r7 fr7 _ r70 r71 hb7 => ?_⟩
        obtain ⟨q, rfl⟩ := toN r70
        have g7 := g6.draw dis fr7 hb7
        refine ⟨c, S, D, tbl, q, rfl, g7.cc, lb, fun H8 fr8 cc8 => ?_⟩
        have g8 := g7.made dis fr8 cc8
        refine ⟨N, _, _, rfl, rfl, g8.nn, hlN, go_nx ?_⟩
        exact fin H8 _ _ _ _ g8 (gd.ins (fun p h => nomatch h) (Nat.zero_le _)) (fact_ins fk (fun k e => by injection e with e; omega) trivial (Nat.zero_le _)) (ins_idx _ _)
      · rw [decide_eq_false (show ¬ (kd : Int) < 2 by omega)]
        refine iteF ⟨_, rfl, rfl, _, rfl, ?_⟩
        have pls : ∀ (d : Kd) (out : Nat), d.neu = out → ps.length ≤ 1000 := fun _ _ _ => by omega
        by_cases c5 : kd = 5
        · subst c5
          refine iteT ⟨_, rfl, false, rfl, iteF ⟨_, rfl, rfl, _, rfl, ?_⟩⟩
          have hl7 : ps.length ≤ 1000 := by omega
          rw [show decide (V.int ((5 : Nat) : Int) = V.int 2) = false from decide_eq_false fun z => by injection z with z; omega]
          refine iteF ⟨_, rfl, rfl, _, rfl, ?_⟩
          rw [show decide (V.int ((5 : Nat) : Int) = V.int 4) = false from decide_eq_false fun z => by injection z with z; omega]
          refine iteF ?_
          refine ⟨_, rfl, .inl ⟨rfl, _, SqL.of g6.nn⟩, _, rfl, c, _, dxc, _, 4, _, rfl, hc6, fC_no _ _ (by decide) (by decide), by decide, m_times, _, rfl, c, S, D, tbl, D5, ps, rfl, g6.cc, lb, .inl e6, hl7, fun _ _ => ?_, fun hz H8 fr8 cc8 => ?_⟩
          · refine ⟨N, _, _, rfl, rfl, g6.nn, hlN, go_nx ?_⟩
            exact fin H6 tbl 0 _ _ g6 gd.self fk (by have := gd.two; omega)
          · have g8 := g6.made dis fr8 cc8
            refine ⟨N, _, _, rfl, rfl, g8.nn, hlN, go_nx ?_⟩
            exact fin H8 _ _ _ _ g8 (sev_nxt gd (fun p h => m6 p (List.mem_filter.mp h).1) (Nat.le_trans (List.length_filter_le _ _) hl7)) (fact_sev fk (fun p h e => hz rfl (e ▸ (List.mem_filter.mp h).1)) (fun _ p h => by simpa using (List.mem_filter.mp h).2) (Nat.le_trans (List.length_filter_le _ _) (by omega))) (sev_idx gd fun p h => m6 p (List.mem_filter.mp h).1)
        · rw [decide_eq_false (show ¬ V.int (kd : Int) = V.int 5 from fun z => c5 (by injection z with z; omega))]
          refine iteF (iteF ⟨_, rfl, rfl, _, rfl, ?_⟩)
          have hl7 : ps.length ≤ 1000 := by omega
          by_cases ck2 : kd = 2
          · subst ck2
            refine iteT (iteT ?_)
            refine ⟨_, rfl, .inl ⟨rfl, _, SqL.of g6.nn⟩, _, rfl, c, _, dxc, _, 4, _, rfl, hc6, fC_no _ _ (by decide) (by decide), by decide, m_plus, _, rfl, c, S, D, tbl, D5, ps, rfl, g6.cc, lb, .inl e6, hl7, (fun z => (nomatch z)), fun hz H8 fr8 cc8 => ?_⟩
            have g8 := g6.made dis fr8 cc8
            refine ⟨N, _, _, rfl, rfl, g8.nn, hlN, go_nx ?_⟩
            exact fin H8 _ _ _ _ g8 (sev_nxt gd (fun p h => m6 p (List.mem_filter.mp h).1) (Nat.le_trans (List.length_filter_le _ _) hl7)) (fact_sev fk (fun p h => by simpa using (List.mem_filter.mp h).2) (fun e => nomatch e) (Nat.le_trans (List.length_filter_le _ _) (by omega))) (sev_idx gd fun p h => m6 p (List.mem_filter.mp h).1)
          · rw [decide_eq_false (show ¬ V.int (kd : Int) = V.int 2 from fun z => ck2 (by injection z with z; omega))]
            refine iteF ⟨_, rfl, rfl, _, rfl, ?_⟩
            by_cases ck4 : kd = 4
            · subst ck4
              refine iteT ?_
              refine ⟨_, rfl, .inl ⟨rfl, _, SqL.of g6.nn⟩, _, rfl, c, _, dxc, _, 4, _, rfl, hc6, fC_no _ _ (by decide) (by decide), by decide, m_plus, _, rfl, c, S, D, tbl, D5, ps, rfl, g6.cc, lb, .inl e6, hl7, (fun z => (nomatch z)), fun hz H8 fr8 cc8 => ?_⟩
              have g8 := g6.made dis fr8 cc8
              refine ⟨N, _, _, rfl, rfl, g8.nn, hlN, go_nx ?_⟩
              exact fin H8 _ _ _ _ g8 (sev_nxt gd (fun p h => m6 p (List.mem_filter.mp h).1) (Nat.le_trans (List.length_filter_le _ _) hl7)) (fact_sev fk (fun p h => by simpa using (List.mem_filter.mp h).2) (fun e => nomatch e) (Nat.le_trans (List.length_filter_le _ _) (by omega))) (sev_idx gd fun p h => m6 p (List.mem_filter.mp h).1)
            · rw [decide_eq_false (show ¬ V.int (kd : Int) = V.int 4 from fun z => ck4 (by injection z with z; omega))]
              refine iteF ?_
              refine ⟨_, rfl, .inl ⟨rfl, _, SqL.of g6.nn⟩, _, rfl, c, _, dxc, _, 4, _, rfl, hc6, fC_no _ _ (by decide) (by decide), by decide, m_times, _, rfl, c, S, D, tbl, D5, ps, rfl, g6.cc, lb, .inl e6, hl7, fun _ _ => ?_, fun hz H8 fr8 cc8 => ?_⟩
              · refine ⟨N, _, _, rfl, rfl, g6.nn, hlN, go_nx ?_⟩
                exact fin H6 tbl 0 _ _ g6 gd.self fk (by have := gd.two; omega)
              · have g8 := g6.made dis fr8 cc8
                refine ⟨N, _, _, rfl, rfl, g8.nn, hlN, go_nx ?_⟩
                exact fin H8 _ _ _ _ g8 (sev_nxt gd (fun p h => m6 p (List.mem_filter.mp h).1) (Nat.le_trans (List.length_filter_le _ _) hl7)) (fact_sev fk (fun p h e => hz rfl (e ▸ (List.mem_filter.mp h).1)) (fun _ p h => by simpa using (List.mem_filter.mp h).2) (Nat.le_trans (List.length_filter_le _ _) (by omega))) (sev_idx gd fun p h => m6 p (List.mem_filter.mp h).1)
    · rintro σ H3 ⟨v5, v6, v7, tbl, ns, rfl, g3, gd, fk, lt, tl, nl⟩
      exact ⟨_, rfl, k H3 N tbl ns g3.pot g3.cc g3.nn g3.fr gd fk lt (by omega) (by omega) (by omega) dis.pN dis.bN hN⟩
end
end K34

set_option Elab.async false
set_option linter.all false
set_option maxRecDepth 100000
set_option maxHeartbeats 4000000
namespace K34
open PySem L2 Ew Tb GxR ND PM NI PK
local macro_rules | `(tactic| walk_at "len") => `(tactic| first | (intro h; obtain ⟨_, e, _⟩ := h; rw [e]; rfl) | (intro h; obtain ⟨_, _, e, _⟩ := h; rw [e]; rfl) | (intro h; obtain ⟨_, _, _, e, _⟩ := h; rw [e]; rfl) | (intro h; obtain ⟨_, _, _, _, e, _⟩ := h; rw [e]; rfl) | (intro h; obtain ⟨_, _, _, _, _, e, _⟩ := h; rw [e]; rfl) | (intro h; obtain ⟨_, _, _, _, _, _, e, _⟩ := h; rw [e]; rfl) | (intro h; obtain ⟨_, _, _, _, _, _, _, e, _⟩ := h; rw [e]; rfl) | (intro h; obtain ⟨_, _, _, _, _, _, _, _, e, _⟩ := h; rw [e]; rfl) | (intro h; obtain ⟨_, _, _, _, _, _, _, _, _, e, _⟩ := h; rw [e]; rfl) | (intro h; obtain ⟨_, _, _, _, _, _, _, _, _, _, e, _⟩ := h; rw [e]; rfl) | (intro h; obtain ⟨_, _, _, _, _, _, _, _, _, _, _, e, _⟩ := h; rw [e]; rfl) | (intro h; obtain ⟨_, _, _, _, _, _, _, _, _, _, _, _, e, _⟩ := h; rw [e]; rfl) | (intro h; obtain ⟨_, _, _, _, _, _, _, _, _, _, _, _, _, e, _⟩ := h; rw [e]; rfl))
local macro_rules | `(tactic| walk_at "len") => `(tactic| first | (intro h; obtain ⟨_, _, _, _, _, _, _, _, e, _⟩ := h; rw [e]; rfl) | (intro h; obtain ⟨_, _, _, _, _, _, _, _, _, e, _⟩ := h; rw [e]; rfl) | (intro h; obtain ⟨_, _, _, _, _, _, _, _, _, _, e, _⟩ := h; rw [e]; rfl) | (intro h; obtain ⟨_, _, _, _, _, _, _, _, _, _, _, e, _⟩ := h; rw [e]; rfl) | (intro h; obtain ⟨_, _, _, _, _, _, _, _, _, _, _, _, e, _⟩ := h; rw [e]; rfl) | (intro h; obtain ⟨_, _, _, _, _, _, _, _, _, _, _, _, _, e, _⟩ := h; rw [e]; rfl) | (intro h; obtain ⟨_, _, _, _, _, _, _, _, _, _, _, _, _, _, e, _⟩ := h; rw [e]; rfl) | (intro h; obtain ⟨_, _, _, _, _, _, _, _, _, _, _, _, _, _, _, e, _⟩ := h; rw [e]; rfl) | (intro h; obtain ⟨_, _, _, _, _, _, _, _, _, _, _, _, _, _, _, _, e, _⟩ := h; rw [e]; rfl) | (intro h; obtain ⟨_, _, _, _, _, _, _, _, _, _, _, _, _, _, _, _, _, e, _⟩ := h; rw [e]; rfl))
/-! ### sizes, polynomials and slopes of nodes without stars -/
def SA : Alg Nat := { fact := fun _ => 1, pl := fun xs => 1 + xs.sum, tm := fun xs => 1 + xs.sum, st := fun _ => some 1 }
structure NdOk (tbl : List Nd) : Prop where
  good : Good tbl
  fk : Fk4 tbl
section
variable {α : Type} {A : Alg α} {tbl : List Nd} {m : Nat}
theorem val_all (g : NdOk tbl) (A : Alg α) : ∀ m, m < tbl.length → ∃ T, val A tbl m = some T := by
  intro m
  induction m using Nat.strongRecOn with
  | ind m ih =>
    intro hm
    have hnd := List.getElem?_eq_getElem hm
    generalize tbl[m] = nd at hnd
    rw [val_val (A := A) g.good.wf m nd hnd]
    have all_ : ∀ ps : List Nat, (∀ p ∈ ps, p < m) → ∃ xs, allS (val A tbl) ps = some xs := fun ps => by
      induction ps with
      | nil => exact fun _ => ⟨[], rfl⟩
      | cons p ps ih2 =>
        intro hp
        have h0 := hp p (List.mem_cons_self ..)
        obtain ⟨x, e⟩ := ih p h0 (by omega)
        obtain ⟨xs, e2⟩ := ih2 fun q hq => hp q (List.mem_cons_of_mem _ hq)
        exact ⟨x :: xs, by rw [allS, e, e2]⟩
    cases nd with
    | zero => exact ⟨_, rfl⟩
    | one => exact ⟨_, rfl⟩
    | fact q => exact ⟨_, rfl⟩
    | star p => exact absurd (g.fk.nf _ (List.mem_of_getElem? hnd)) (fun z => z)
    | plus ps =>
      obtain ⟨xs, e⟩ := all_ ps (g.good.wf m _ hnd)
      exact ⟨_, by show (allS (val A tbl) ps).map A.pl = _; rw [e]; rfl⟩
    | times ps =>
      obtain ⟨xs, e⟩ := all_ ps (g.good.wf m _ hnd)
      exact ⟨_, by show (allS (val A tbl) ps).map A.tm = _; rw [e]; rfl⟩
/-- the parts of a node are two -/
theorem two_parts (g : NdOk tbl) {nd : Nd} (h : tbl[m]? = some nd) {ps : List Nat} (e : nd = .plus ps ∨ nd = .times ps) : ∃ p q, ps = [p, q] ∧ p < m ∧ q < m := by
  have mem := List.mem_of_getElem? h
  have nf := g.fk.nf nd mem
  have p2 := g.fk.p2 nd mem
  have wf := g.good.wf m nd h
  rcases e with rfl | rfl
  · have h1 := nf.2.1
    have h2 : ps.length ≤ 2 := p2
    match ps, h1, h2, wf with
    | [p, q], _, _, wf => exact ⟨p, q, rfl, wf p (by simp [Nd.parts]), wf q (by simp [Nd.parts])⟩
    | _ :: _ :: _ :: _, _, h2, _ => simp at h2
  · have h1 := nf.2.1
    have h2 : ps.length ≤ 2 := p2
    match ps, h1, h2, wf with
    | [p, q], _, _, wf => exact ⟨p, q, rfl, wf p (by simp [Nd.parts]), wf q (by simp [Nd.parts])⟩
    | _ :: _ :: _ :: _, _, h2, _ => simp at h2
end
section
variable {tbl : List Nd} {m : Nat}
def SZ (tbl : List Nd) (m : Nat) : Nat := (val SA tbl m).getD 0
def PT (tbl : List Nd) (m : Nat) : Terms := (val PA tbl m).getD []
theorem val_get {α : Type} (g : NdOk tbl) (A : Alg α) (d : α) {m : Nat} (hm : m < tbl.length) : val A tbl m = some ((val A tbl m).getD d) := by
  obtain ⟨x, e⟩ := val_all g A m hm
  rw [e]; rfl
theorem at_leaf {α : Type} (g : NdOk tbl) {A : Alg α} {d x : α} {nd : Nd} (h : tbl[m]? = some nd) (e : ∀ v, evV A v nd = some x) : (val A tbl m).getD d = x := by
  have := val_val (A := A) g.good.wf m _ h
  rw [e] at this
  rw [this]; rfl
theorem at_two {α : Type} (g : NdOk tbl) {A : Alg α} {d : α} {nd : Nd} {p q : Nat} (h : tbl[m]? = some nd) (hp : p < m) (hq : q < m) :
    (nd = .plus [p, q] → (val A tbl m).getD d = A.pl [(val A tbl p).getD d, (val A tbl q).getD d]) ∧ (nd = .times [p, q] → (val A tbl m).getD d = A.tm [(val A tbl p).getD d, (val A tbl q).getD d]) := by
  have hm := (List.getElem?_eq_some_iff.mp h).1
  have e := val_val (A := A) g.good.wf m _ h
  have ep := val_get g A d (m := p) (by omega)
  have eq := val_get g A d (m := q) (by omega)
  have al : allS (val A tbl) [p, q] = some [(val A tbl p).getD d, (val A tbl q).getD d] := by
    rw [allS, allS, allS, ep, eq]; rfl
  refine ⟨fun z => ?_, fun z => ?_⟩
  · subst z
    have e2 : evV A (val A tbl) (.plus [p, q]) = (allS (val A tbl) [p, q]).map A.pl := rfl
    rw [e2, al] at e
    rw [e]; rfl
  · subst z
    have e2 : evV A (val A tbl) (.times [p, q]) = (allS (val A tbl) [p, q]).map A.tm := rfl
    rw [e2, al] at e
    rw [e]; rfl
theorem sz_lt (g : NdOk tbl) : ∀ m, m < tbl.length → SZ tbl m + 1 ≤ 2 ^ (m + 1) ∧ 1 ≤ SZ tbl m := by
  intro m
  induction m using Nat.strongRecOn with
  | ind m ih =>
    intro hm
    have hnd := List.getElem?_eq_getElem hm
    generalize tbl[m] = nd at hnd
    have one : 2 ≤ 2 ^ (m + 1) := Nat.le_trans (by decide : 2 ≤ 2 ^ 1) (Nat.pow_le_pow_right (by decide) (by omega))
    have two : ∀ p q, p < m → q < m → 1 + (SZ tbl p + SZ tbl q) + 1 ≤ 2 ^ (m + 1) := fun p q hp hq => by
      have h1 := (ih p hp (by omega)).1
      have h2 := (ih q hq (by omega)).1
      have h3 : 2 ^ (p + 1) ≤ 2 ^ m := Nat.pow_le_pow_right (by decide) hp
      have h4 : 2 ^ (q + 1) ≤ 2 ^ m := Nat.pow_le_pow_right (by decide) hq
      rw [Nat.pow_succ]
      omega
    cases nd with
    | zero => rw [SZ, at_leaf g hnd (x := 1) (fun v => rfl)]; exact ⟨one, Nat.le_refl _⟩
    | one => rw [SZ, at_leaf g hnd (x := 1) (fun v => rfl)]; exact ⟨one, Nat.le_refl _⟩
    | fact q => rw [SZ, at_leaf g hnd (x := 1) (fun v => rfl)]; exact ⟨one, Nat.le_refl _⟩
    | star p => exact absurd (g.fk.nf _ (List.mem_of_getElem? hnd)) (fun z => z)
    | plus ps =>
      obtain ⟨p, q, rfl, hp, hq⟩ := two_parts g hnd (.inl rfl)
      rw [SZ, (at_two g hnd hp hq).1 rfl]
      exact ⟨two p q hp hq, Nat.le_add_right _ _⟩
    | times ps =>
      obtain ⟨p, q, rfl, hp, hq⟩ := two_parts g hnd (.inr rfl)
      rw [SZ, (at_two g hnd hp hq).2 rfl]
      exact ⟨two p q hp hq, Nat.le_add_right _ _⟩
/-- terms are bounded -/
structure BdT (s : Nat) (T : Terms) : Prop where
  mc : ∀ t ∈ T, MCan t.1 ∧ ∀ x ∈ t.1, x.1 < 4
  pos : ∀ t ∈ T, 1 ≤ t.2
  tot : tot T < 2 ^ s
theorem mput_fact {f e : Nat} {m : Mono} (hf : f < 4) (h : ∀ x ∈ m, x.1 < 4) : ∀ x ∈ mput m f e, x.1 < 4 := fun x hx => by
  rcases mput_mem hx with h1 | ⟨y, hy, e⟩
  · omega
  · rw [← e]; exact h y hy
theorem mmul_fact : ∀ {b a : Mono}, (∀ x ∈ a, x.1 < 4) → (∀ x ∈ b, x.1 < 4) → ∀ x ∈ mmul a b, x.1 < 4
  | [], _, ha, _ => ha
  | (f, e) :: b, a, ha, hb => mmul_fact (b := b) (mput_fact (hb (f, e) (List.mem_cons_self ..)) ha) fun x hx => hb x (List.mem_cons_of_mem _ hx)
theorem mono_len {m : Mono} (h : MCan m) (hf : ∀ x ∈ m, x.1 < 4) : m.length ≤ 4 := by
  have nd : (m.map (·.1)).Nodup := List.pairwise_map.mpr (h.asc.imp fun h => Nat.ne_of_lt h)
  have := nd.length_le_of_subset (l₂ := List.range 4) fun k hk => by
    obtain ⟨x, hx, rfl⟩ := List.mem_map.mp hk
    exact List.mem_range.mpr (hf x hx)
  rwa [List.length_map, List.length_range] at this
theorem BdT.len {s : Nat} {T : Terms} (b : BdT s T) : ∀ t ∈ T, t.1.length ≤ 1000 := fun t ht => by
  obtain ⟨h1, h2⟩ := b.mc t ht
  have := mono_len h1 h2
  omega
theorem pow_both {a b s u : Nat} (ha : a < 2 ^ s) (hb : b < 2 ^ u) : a + b < 2 ^ (s + u) := by
  rw [Nat.pow_add]
  have h := Nat.mul_le_mul (show a + 1 ≤ 2 ^ s from ha) (show b + 1 ≤ 2 ^ u from hb)
  rw [Nat.add_mul, Nat.mul_add, Nat.one_mul, Nat.mul_one] at h
  omega
theorem BdT.up {s u : Nat} {T : Terms} (b : BdT s T) (h : s ≤ u) : BdT u T := ⟨b.mc, b.pos, Nat.lt_of_lt_of_le b.tot (Nat.pow_le_pow_right (by decide) h)⟩
theorem BdT.app {s u : Nat} {T U : Terms} (a : BdT s T) (b : BdT u U) : BdT (s + u) (T ++ U) :=
  ⟨fun t h => (List.mem_append.mp h).elim (a.mc t) (b.mc t), fun t h => (List.mem_append.mp h).elim (a.pos t) (b.pos t), by rw [tot_app]; exact pow_both a.tot b.tot⟩
theorem BdT.mul {s u : Nat} {T U : Terms} (a : BdT s T) (b : BdT u U) : BdT (s + u) (tmul T U) := by
  refine ⟨fun t h => ?_, fun t h => ?_, ?_⟩
  · obtain ⟨x, hx, h⟩ := List.mem_flatMap.mp h
    obtain ⟨y, hy, rfl⟩ := List.mem_map.mp h
    exact ⟨mmul_can (a.mc x hx).1 (b.mc y hy).1, mmul_fact (a.mc x hx).2 (b.mc y hy).2⟩
  · obtain ⟨x, hx, h⟩ := List.mem_flatMap.mp h
    obtain ⟨y, hy, rfl⟩ := List.mem_map.mp h
    exact Nat.mul_le_mul (a.pos x hx) (b.pos y hy)
  · rw [tot_tmul, Nat.pow_add]
    exact Nat.mul_lt_mul'' a.tot b.tot
theorem bdt_var {k : Nat} (h : k < 4) : BdT 1 (varP k) := ⟨fun t ht => by
  rw [List.mem_singleton.mp ht]
  exact ⟨⟨List.pairwise_singleton .., fun x hx => by rw [List.mem_singleton.mp hx]; exact Nat.le_refl 1⟩, fun x hx => by rw [List.mem_singleton.mp hx]; exact h⟩, fun t ht => by rw [List.mem_singleton.mp ht]; exact Nat.le_refl 1, (by decide : 1 < 2)⟩
theorem bdt_one : BdT 1 [([], 1)] := ⟨fun t ht => by rw [List.mem_singleton.mp ht]; exact ⟨⟨.nil, fun _ h => nomatch h⟩, fun _ h => nomatch h⟩, fun t ht => by rw [List.mem_singleton.mp ht]; exact Nat.le_refl 1, (by decide : 1 < 2)⟩
theorem bdt_nil : BdT 1 [] := ⟨fun _ h => (nomatch h), fun _ h => (nomatch h), (by decide : 0 < 2)⟩
theorem pt_bd (g : NdOk tbl) : ∀ m, m < tbl.length → BdT (SZ tbl m) (PT tbl m) := by
  intro m
  induction m using Nat.strongRecOn with
  | ind m ih =>
    intro hm
    have hnd := List.getElem?_eq_getElem hm
    generalize tbl[m] = nd at hnd
    cases nd with
    | zero => rw [SZ, PT, at_leaf g hnd (A := SA) (x := 1) (fun v => rfl), at_leaf g hnd (A := PA) (x := []) (fun v => rfl)]; exact bdt_nil
    | one => rw [SZ, PT, at_leaf g hnd (A := SA) (x := 1) (fun v => rfl), at_leaf g hnd (A := PA) (x := [([], 1)]) (fun v => rfl)]; exact bdt_one
    | fact q => rw [SZ, PT, at_leaf g hnd (A := SA) (x := 1) (fun v => rfl), at_leaf g hnd (A := PA) (x := varP q) (fun v => rfl)]; exact bdt_var (g.fk.k4 q (List.mem_of_getElem? hnd))
    | star p => exact absurd (g.fk.nf _ (List.mem_of_getElem? hnd)) (fun z => z)
    | plus ps =>
      obtain ⟨p, q, rfl, hp, hq⟩ := two_parts g hnd (.inl rfl)
      rw [SZ, PT, (at_two (A := SA) g hnd hp hq).1 rfl, (at_two (A := PA) g hnd hp hq).1 rfl]
      exact ((ih p hp (by omega)).app (ih q hq (by omega))).up (by show _ ≤ 1 + (SZ tbl p + (SZ tbl q + 0)); omega)
    | times ps =>
      obtain ⟨p, q, rfl, hp, hq⟩ := two_parts g hnd (.inr rfl)
      rw [SZ, PT, (at_two (A := SA) g hnd hp hq).2 rfl, (at_two (A := PA) g hnd hp hq).2 rfl]
      exact ((ih p hp (by omega)).mul (ih q hq (by omega))).up (by show _ ≤ 1 + (SZ tbl p + (SZ tbl q + 0)); omega)
theorem rch_lt (g : NdOk tbl) {n m : Nat} (hn : n < tbl.length) (h : Rch tbl n m) : m < tbl.length := Nat.lt_of_le_of_lt (h.le g.good.wf) hn
/-- what normal asks -/
theorem norm_x (g : NdOk tbl) (hl : tbl.length ≤ 16) {n : Nat} (hn : n < tbl.length) (m : Nat) (nd : Nd) (hr : Rch tbl n m) (e : tbl[m]? = some nd) :
    okN (faIn tbl n) (okFoldG okPl fun a b => a ++ b) (okFoldG okTm tmul) (PT tbl) nd ∧ evV PA (fun p => some (PT tbl p)) nd = some (PT tbl m) := by
  have hm := rch_lt g hn hr
  cases nd with
  | star q => exact absurd (g.fk.nf _ (List.mem_of_getElem? e)) (fun z => z)
  | zero => exact ⟨trivial, by rw [PT, at_leaf g e (A := PA) (x := []) (fun v => rfl)]; rfl⟩
  | one => exact ⟨trivial, by rw [PT, at_leaf g e (A := PA) (x := [([], 1)]) (fun v => rfl)]; rfl⟩
  | fact k => exact ⟨⟨m, hr, e⟩, by rw [PT, at_leaf g e (A := PA) (x := varP k) (fun v => rfl)]; rfl⟩
  | plus ps =>
    obtain ⟨p, q, rfl, hp, hq⟩ := two_parts g e (.inl rfl)
    refine ⟨⟨trivial, trivial⟩, ?_⟩
    have := (at_two (A := PA) (d := []) g e hp hq).1 rfl
    rw [show PT tbl m = _ from this]
    rfl
  | times ps =>
    obtain ⟨p, q, rfl, hp, hq⟩ := two_parts g e (.inr rfl)
    have bp := pt_bd g p (by omega)
    have bq := pt_bd g q (by omega)
    have h1 := sz_lt g p (by omega)
    have h2 := sz_lt g q (by omega)
    have h3 : 2 ^ (p + 1) ≤ 2 ^ 16 := Nat.pow_le_pow_right (by decide) (by omega)
    have h4 : 2 ^ (q + 1) ≤ 2 ^ 16 := Nat.pow_le_pow_right (by decide) (by omega)
    refine ⟨⟨⟨SZ tbl p, SZ tbl q, bp.tot, bq.tot, by omega, by omega, by omega, bp.len, bq.len⟩, trivial⟩, ?_⟩
    have := (at_two (A := PA) (d := []) g e hp hq).2 rfl
    rw [show PT tbl m = _ from this]
    rfl
theorem no_star (g : NdOk tbl) (n : Nat) : ¬ HasStar tbl n := fun ⟨m, nd, _, e, h⟩ => by
  have := g.fk.nf nd (List.mem_of_getElem? e)
  cases nd with
  | star q => exact this
  | _ => cases h
end
end K34

set_option Elab.async false
set_option linter.all false
set_option maxRecDepth 100000
set_option maxHeartbeats 4000000
namespace K34
open PySem L2 Ew Tb GxR ND PM NI PK
local macro_rules | `(tactic| walk_at "len") => `(tactic| first | (intro h; obtain ⟨_, e, _⟩ := h; rw [e]; rfl) | (intro h; obtain ⟨_, _, e, _⟩ := h; rw [e]; rfl) | (intro h; obtain ⟨_, _, _, e, _⟩ := h; rw [e]; rfl) | (intro h; obtain ⟨_, _, _, _, e, _⟩ := h; rw [e]; rfl) | (intro h; obtain ⟨_, _, _, _, _, e, _⟩ := h; rw [e]; rfl) | (intro h; obtain ⟨_, _, _, _, _, _, e, _⟩ := h; rw [e]; rfl) | (intro h; obtain ⟨_, _, _, _, _, _, _, e, _⟩ := h; rw [e]; rfl) | (intro h; obtain ⟨_, _, _, _, _, _, _, _, e, _⟩ := h; rw [e]; rfl) | (intro h; obtain ⟨_, _, _, _, _, _, _, _, _, e, _⟩ := h; rw [e]; rfl) | (intro h; obtain ⟨_, _, _, _, _, _, _, _, _, _, e, _⟩ := h; rw [e]; rfl) | (intro h; obtain ⟨_, _, _, _, _, _, _, _, _, _, _, e, _⟩ := h; rw [e]; rfl) | (intro h; obtain ⟨_, _, _, _, _, _, _, _, _, _, _, _, e, _⟩ := h; rw [e]; rfl) | (intro h; obtain ⟨_, _, _, _, _, _, _, _, _, _, _, _, _, e, _⟩ := h; rw [e]; rfl))
local macro_rules | `(tactic| walk_at "len") => `(tactic| first | (intro h; obtain ⟨_, _, _, _, _, _, _, _, e, _⟩ := h; rw [e]; rfl) | (intro h; obtain ⟨_, _, _, _, _, _, _, _, _, e, _⟩ := h; rw [e]; rfl) | (intro h; obtain ⟨_, _, _, _, _, _, _, _, _, _, e, _⟩ := h; rw [e]; rfl) | (intro h; obtain ⟨_, _, _, _, _, _, _, _, _, _, _, e, _⟩ := h; rw [e]; rfl) | (intro h; obtain ⟨_, _, _, _, _, _, _, _, _, _, _, _, e, _⟩ := h; rw [e]; rfl) | (intro h; obtain ⟨_, _, _, _, _, _, _, _, _, _, _, _, _, e, _⟩ := h; rw [e]; rfl) | (intro h; obtain ⟨_, _, _, _, _, _, _, _, _, _, _, _, _, _, e, _⟩ := h; rw [e]; rfl) | (intro h; obtain ⟨_, _, _, _, _, _, _, _, _, _, _, _, _, _, _, e, _⟩ := h; rw [e]; rfl) | (intro h; obtain ⟨_, _, _, _, _, _, _, _, _, _, _, _, _, _, _, _, e, _⟩ := h; rw [e]; rfl) | (intro h; obtain ⟨_, _, _, _, _, _, _, _, _, _, _, _, _, _, _, _, _, e, _⟩ := h; rw [e]; rfl))
/-! ### slopes of monomials and of sums -/
def dp (φ : Nat → Int) (f g e : Nat) : Int := if g = f then (e : Int) * φ g ^ (e - 1) else 0
def dv (φ : Nat → Int) (f : Nat) : Mono → Int
  | [] => 0
  | (g, e) :: r => dp φ f g e * ev φ r + φ g ^ e * dv φ f r
theorem dp_add (φ : Nat → Int) (f g d e : Nat) : dp φ f g (d + e) = dp φ f g d * φ g ^ e + φ g ^ d * dp φ f g e := by
  unfold dp
  by_cases h : g = f
  · rw [if_pos h, if_pos h, if_pos h]
    rcases d with _ | d
    · rw [Nat.zero_add, Int.pow_zero, Int.one_mul]; simp
    · rcases e with _ | e
      · simp
      · rw [show d + 1 + (e + 1) - 1 = d + (e + 1) by omega, show d + 1 - 1 = d by omega, show e + 1 - 1 = e by omega, Int.natCast_add, Int.add_mul, Int.pow_add]
        congr 1
        · rw [Int.mul_assoc]
        · rw [Int.pow_succ, Int.pow_succ]
          simp only [Int.mul_assoc, Int.mul_comm, Int.mul_left_comm]
  · rw [if_neg h, if_neg h, if_neg h, Int.zero_mul, Int.mul_zero]; rfl
theorem dv_mput (φ : Nat → Int) (f g e : Nat) : ∀ m : Mono, dv φ f (mput m g e) = dv φ f m * φ g ^ e + ev φ m * dp φ f g e
  | [] => by rw [mput, dv, dv, ev, dv]; simp
  | (h, d) :: r => by
    rw [mput]
    split
    · rw [dv, dv, ev]
      simp only [Int.mul_add, Int.add_mul, Int.mul_assoc, Int.mul_comm, Int.mul_left_comm]
      omega
    · split
      · rename_i c1 c2
        subst c2
        rw [dv, dv, ev, dp_add, Int.pow_add]
        simp only [Int.mul_add, Int.add_mul, Int.mul_assoc, Int.mul_comm, Int.mul_left_comm]
        omega
      · rw [dv, dv, ev, dv_mput φ f g e r, ev_mput]
        simp only [Int.mul_add, Int.add_mul, Int.mul_assoc, Int.mul_comm, Int.mul_left_comm]
        omega
theorem dv_mmul (φ : Nat → Int) (f : Nat) : ∀ b a : Mono, dv φ f (mmul a b) = dv φ f a * ev φ b + ev φ a * dv φ f b
  | [], a => by show dv φ f a = dv φ f a * 1 + ev φ a * 0; simp
  | (g, e) :: b, a => by
    show dv φ f (mmul (mput a g e) b) = _
    rw [dv_mmul φ f b, dv_mput, ev_mput, ev, dv]
    simp only [Int.mul_add, Int.add_mul, Int.mul_assoc, Int.mul_comm, Int.mul_left_comm]
    omega
theorem sumL_two (p q : Mono → Int) (x y : Int) : ∀ L : Terms, sumL (fun n => x * p n + y * q n) L = x * sumL p L + y * sumL q L
  | [] => by show (0 : Int) = x * 0 + y * 0; simp
  | (m, c) :: L => by
    rw [sumL, sumL, sumL, sumL_two p q x y L]
    simp only [Int.mul_add, Int.add_mul, Int.mul_assoc, Int.mul_comm, Int.mul_left_comm]
    omega
theorem der_tmul (φ : Nat → Int) (f : Nat) (a b : Terms) : sumL (dv φ f) (tmul a b) = sumL (ev φ) a * sumL (dv φ f) b + sumL (dv φ f) a * sumL (ev φ) b := by
  rw [sum_tmul]
  have h : (fun m => sumL (fun n => dv φ f (mmul m n)) b) = fun m => sumL (dv φ f) b * ev φ m + sumL (ev φ) b * dv φ f m := by
    funext m
    have : (fun n => dv φ f (mmul m n)) = fun n => dv φ f m * ev φ n + ev φ m * dv φ f n := by funext n; rw [dv_mmul]
    rw [this, sumL_two]
    rw [Int.mul_comm (dv φ f m), Int.mul_comm (ev φ m), Int.add_comm]
  rw [h, sumL_two, Int.mul_comm (sumL (dv φ f) b), Int.mul_comm (sumL (ev φ) b)]
/-- the powers, that of the fact being one lower -/
def pw (φ : Nat → Int) (f : Nat) : Mono → Int
  | [] => 1
  | (g, e) :: r => φ g ^ (e - if g = f then 1 else 0) * pw φ f r
theorem pw_none (φ : Nat → Int) (f : Nat) : ∀ m : Mono, (∀ x ∈ m, x.1 ≠ f) → pw φ f m = ev φ m ∧ dv φ f m = 0
  | [], _ => ⟨rfl, rfl⟩
  | (g, e) :: r, h => by
    have h0 := h (g, e) (List.mem_cons_self ..)
    obtain ⟨h1, h2⟩ := pw_none φ f r fun x hx => h x (List.mem_cons_of_mem _ hx)
    rw [pw, ev, dv, h1, h2, if_neg h0, Nat.sub_zero, dp, if_neg h0]
    exact ⟨rfl, by simp⟩
theorem dv_can (φ : Nat → Int) (f : Nat) : ∀ {m : Mono}, MCan m → dv φ f m = (ex m f : Int) * pw φ f m
  | [], _ => by simp [dv, ex]
  | (g, e) :: r, h => by
    by_cases c : g = f
    · subst c
      have hr : ∀ x ∈ r, x.1 ≠ g := fun x hx z => by
        have := (List.pairwise_cons.mp h.asc).1 x hx
        rw [z] at this
        exact Nat.lt_irrefl _ this
      obtain ⟨h1, h2⟩ := pw_none φ g r hr
      rw [dv, ex, pw, h1, h2, if_pos rfl, if_pos rfl, ex_zero hr, dp, if_pos rfl]
      simp only [Int.mul_assoc, Int.mul_zero, Int.add_zero, Nat.add_zero]
    · rw [dv, ex, pw, dv_can φ f h.tail, if_neg c, if_neg c, dp, if_neg c, Nat.zero_add, Nat.sub_zero, Int.zero_mul, Int.zero_add]
      simp only [Int.mul_assoc, Int.mul_comm, Int.mul_left_comm]
/-! ### degrees, sizes -/
def deg (m : Mono) : Nat := (m.map (·.2)).sum
theorem deg_mput (g e : Nat) : ∀ m : Mono, deg (mput m g e) = deg m + e
  | [] => by show e + 0 = 0 + e; omega
  | (h, d) :: r => by
    rw [mput]
    split
    · show e + (d + deg r) = d + deg r + e; omega
    · split
      · show d + e + deg r = d + deg r + e; omega
      · show d + deg (mput r g e) = d + deg r + e
        rw [deg_mput g e r]; omega
theorem deg_mmul : ∀ b a : Mono, deg (mmul a b) = deg a + deg b
  | [], a => rfl
  | (g, e) :: b, a => by
    show deg (mmul (mput a g e) b) = deg a + (e + deg b)
    rw [deg_mmul b, deg_mput]; omega
theorem ex_deg (f : Nat) : ∀ m : Mono, ex m f ≤ deg m
  | [] => Nat.le_refl _
  | (g, d) :: r => by
    have := ex_deg f r
    show (if g = f then d else 0) + ex r f ≤ d + deg r
    split <;> omega
theorem abs_mul_lt {x y : Int} {a b : Nat} (h1 : x.natAbs < 2 ^ a) (h2 : y.natAbs < 2 ^ b) : (x * y).natAbs < 2 ^ (a + b) := by
  rw [Int.natAbs_mul, Nat.pow_add]
  exact Nat.mul_lt_mul'' h1 h2
theorem abs_pow_le {x : Int} (h : x.natAbs ≤ 4) : ∀ k : Nat, (x ^ k).natAbs < 2 ^ (2 * k + 1)
  | 0 => by rw [Int.pow_zero]; decide
  | k + 1 => by
    have ih := abs_pow_le h k
    rw [Int.pow_succ, Int.natAbs_mul]
    have : (x ^ k).natAbs * x.natAbs ≤ (x ^ k).natAbs * 4 := Nat.mul_le_mul_left _ h
    have e : 2 ^ (2 * (k + 1) + 1) = 2 ^ (2 * k + 1) * 4 := by rw [show 2 * (k + 1) + 1 = 2 * k + 1 + 2 by omega, Nat.pow_add]
    omega
theorem pw_lt {φ : Nat → Int} (hφ : ∀ k, (φ k).natAbs ≤ 4) (f : Nat) : ∀ m : Mono, (pw φ f m).natAbs < 2 ^ (2 * deg m + m.length + 1)
  | [] => by show (1 : Int).natAbs < 2 ^ 1; decide
  | (g, e) :: r => by
    have h1 := abs_pow_le (hφ g) (e - if g = f then 1 else 0)
    have h1' : (φ g ^ (e - if g = f then 1 else 0)).natAbs < 2 ^ (2 * e + 1) := Nat.lt_of_lt_of_le h1 (Nat.pow_le_pow_right (by decide) (by split <;> omega))
    have h2 := pw_lt hφ f r
    have := abs_mul_lt h1' h2
    rw [pw]
    refine Nat.lt_of_lt_of_le this (Nat.pow_le_pow_right (by decide) ?_)
    show _ ≤ 2 * (e + deg r) + (r.length + 1) + 1
    omega
end K34

set_option Elab.async false
set_option linter.all false
set_option maxRecDepth 100000
set_option maxHeartbeats 4000000
namespace K34
open PySem L2 Ew Tb GxR ND PM NI PK
local macro_rules | `(tactic| walk_at "len") => `(tactic| first | (intro h; obtain ⟨_, e, _⟩ := h; rw [e]; rfl) | (intro h; obtain ⟨_, _, e, _⟩ := h; rw [e]; rfl) | (intro h; obtain ⟨_, _, _, e, _⟩ := h; rw [e]; rfl) | (intro h; obtain ⟨_, _, _, _, e, _⟩ := h; rw [e]; rfl) | (intro h; obtain ⟨_, _, _, _, _, e, _⟩ := h; rw [e]; rfl) | (intro h; obtain ⟨_, _, _, _, _, _, e, _⟩ := h; rw [e]; rfl) | (intro h; obtain ⟨_, _, _, _, _, _, _, e, _⟩ := h; rw [e]; rfl) | (intro h; obtain ⟨_, _, _, _, _, _, _, _, e, _⟩ := h; rw [e]; rfl) | (intro h; obtain ⟨_, _, _, _, _, _, _, _, _, e, _⟩ := h; rw [e]; rfl) | (intro h; obtain ⟨_, _, _, _, _, _, _, _, _, _, e, _⟩ := h; rw [e]; rfl) | (intro h; obtain ⟨_, _, _, _, _, _, _, _, _, _, _, e, _⟩ := h; rw [e]; rfl) | (intro h; obtain ⟨_, _, _, _, _, _, _, _, _, _, _, _, e, _⟩ := h; rw [e]; rfl) | (intro h; obtain ⟨_, _, _, _, _, _, _, _, _, _, _, _, _, e, _⟩ := h; rw [e]; rfl))
local macro_rules | `(tactic| walk_at "len") => `(tactic| first | (intro h; obtain ⟨_, _, _, _, _, _, _, _, e, _⟩ := h; rw [e]; rfl) | (intro h; obtain ⟨_, _, _, _, _, _, _, _, _, e, _⟩ := h; rw [e]; rfl) | (intro h; obtain ⟨_, _, _, _, _, _, _, _, _, _, e, _⟩ := h; rw [e]; rfl) | (intro h; obtain ⟨_, _, _, _, _, _, _, _, _, _, _, e, _⟩ := h; rw [e]; rfl) | (intro h; obtain ⟨_, _, _, _, _, _, _, _, _, _, _, _, e, _⟩ := h; rw [e]; rfl) | (intro h; obtain ⟨_, _, _, _, _, _, _, _, _, _, _, _, _, e, _⟩ := h; rw [e]; rfl) | (intro h; obtain ⟨_, _, _, _, _, _, _, _, _, _, _, _, _, _, e, _⟩ := h; rw [e]; rfl) | (intro h; obtain ⟨_, _, _, _, _, _, _, _, _, _, _, _, _, _, _, e, _⟩ := h; rw [e]; rfl) | (intro h; obtain ⟨_, _, _, _, _, _, _, _, _, _, _, _, _, _, _, _, e, _⟩ := h; rw [e]; rfl) | (intro h; obtain ⟨_, _, _, _, _, _, _, _, _, _, _, _, _, _, _, _, _, e, _⟩ := h; rw [e]; rfl))
section
variable {P : Program} {w : World} {K : PySem.W.Frag} {mg : Str → Option Value} {base : Heap} {ad : Ad}
/-! ### the semiring of slopes -/
def Rs (H : Hp) (a : Int × Int) (v : V) : Prop := ∃ r, v = .ref r ∧ H r = some (.tup [.int a.1, .int a.2])
theorem Rs_mono : ∀ (H H' : Hp) (a : Int × Int) (v : V), NG.Kp H H' → Rs H a v → Rs H' a v := fun H H' a v f ⟨r, h1, h2⟩ => ⟨r, h1, f.t _ _ h2⟩
def sAdd (a b : Int × Int) : Int × Int := (a.1 + b.1, a.2 + b.2)
def sMul (a b : Int × Int) : Int × Int := (a.1 * b.1, a.1 * b.2 + a.2 * b.1)
def okSp (_ _ : Int × Int) : Prop := True
def okSt (a b : Int × Int) : Prop := ∃ A B : Nat, a.1.natAbs < 2 ^ A ∧ a.2.natAbs < 2 ^ A ∧ b.1.natAbs < 2 ^ B ∧ b.2.natAbs < 2 ^ B ∧ 0 < A ∧ 0 < B ∧ A + B ≤ 1000000
theorem ok_Slopes_zero  {f : Addr} {fd : FuncData} (F : Fun K "zero" "Slopes.zero" s_Slopes_zero f fd) (T : Txt K mg ad) : FnOk P w K mg base (L2.CX P w) 1 f fd ["self"] (spNulR Rs ad.Slopes (0, 0)) := by
  refine F.okX sc_Slopes_zero (fun vs H Q E => ?_) (fun cdv A outer s H vs Q E hr h => ?_)
  · walk_at "len"
  ·
    obtain ⟨p, dx, rfl, hp, k⟩ := h
    refine ⟨_, (pss_one (ps_ret (pe_tup (pa_cons pe_int (pa_cons pe_int pa_nil))))), ?_⟩
    exact ⟨(show 2 ≤ sizeLine by decide), fun t ht => k _ _ (same_new (Same.refl _) ht) ⟨t, rfl, upd_same⟩⟩
theorem ok_Slopes_one  {f : Addr} {fd : FuncData} (F : Fun K "one" "Slopes.one" s_Slopes_one f fd) (T : Txt K mg ad) : FnOk P w K mg base (L2.CX P w) 1 f fd ["self"] (spNulR Rs ad.Slopes (1, 0)) := by
  refine F.okX sc_Slopes_one (fun vs H Q E => ?_) (fun cdv A outer s H vs Q E hr h => ?_)
  · walk_at "len"
  ·
    obtain ⟨p, dx, rfl, hp, k⟩ := h
    refine ⟨_, (pss_one (ps_ret (pe_tup (pa_cons pe_int (pa_cons pe_int pa_nil))))), ?_⟩
    exact ⟨(show 2 ≤ sizeLine by decide), fun t ht => k _ _ (same_new (Same.refl _) ht) ⟨t, rfl, upd_same⟩⟩
theorem ok_Slopes_plus  {f : Addr} {fd : FuncData} (F : Fun K "plus" "Slopes.plus" s_Slopes_plus f fd) (T : Txt K mg ad) : FnOk P w K mg base (L2.CX P w) 1 f fd ["self", "a", "b"] (spBinR none Rs ad.Slopes okSp sAdd) := by
  refine F.okX sc_Slopes_plus (fun vs H Q E => ?_) (fun cdv A outer s H vs Q E hr h => ?_)
  · walk_at "len"
  ·
    obtain ⟨p, dx, x, y, a, b, rfl, hp, ⟨ra, rfl, ea⟩, ⟨rb, rfl, eb⟩, _, eo, k⟩ := h
    refine ⟨_, (pss_one (ps_ret (pe_tup (pa_cons (pe_op op_add (pe_ix ix_tup (pv 1) pe_int (fun _ _ => rfl)) (pe_ix ix_tup (pv 2) pe_int (fun _ _ => rfl))) (pa_cons (pe_op op_add (pe_ix ix_tup (pv 1) pe_int (fun _ _ => rfl)) (pe_ix ix_tup (pv 2) pe_int (fun _ _ => rfl))) pa_nil))))), ?_⟩
    refine ⟨_, rfl, ra, _, _, _, rfl, rfl, SqT.of ea, at_of (j := 0) rfl rfl, _, rfl, rb, _, _, _, rfl, rfl, SqT.of eb, at_of (j := 0) rfl rfl, _, _, rfl, rfl, ?_⟩
    refine ⟨_, rfl, ra, _, _, _, rfl, rfl, SqT.of ea, at_of (j := 1) rfl rfl, _, rfl, rb, _, _, _, rfl, rfl, SqT.of eb, at_of (j := 1) rfl rfl, _, _, rfl, rfl, ?_⟩
    exact ⟨(show 2 ≤ sizeLine by decide), fun t ht => k _ _ (same_new (Same.refl _) ht) ⟨t, rfl, upd_same⟩⟩
theorem ok_Slopes_times  {f : Addr} {fd : FuncData} (F : Fun K "times" "Slopes.times" s_Slopes_times f fd) (T : Txt K mg ad) : FnOk P w K mg base (L2.CX P w) 1 f fd ["self", "a", "b"] (spBinR none Rs ad.Slopes okSt sMul) := by
  refine F.okX sc_Slopes_times (fun vs H Q E => ?_) (fun cdv A outer s H vs Q E hr h => ?_)
  · walk_at "len"
  ·
    obtain ⟨p, dx, x, y, a, b, rfl, hp, ⟨ra, rfl, ea⟩, ⟨rb, rfl, eb⟩, ⟨A, B, a1, a2, b1, b2, A0, B0, AB⟩, eo, k⟩ := h
    refine ⟨_, (pss_one (ps_ret (pe_tup (pa_cons (pe_op op_mulW (pe_ix ix_tup (pv 1) pe_int (fun _ _ => rfl)) (pe_ix ix_tup (pv 2) pe_int (fun _ _ => rfl))) (pa_cons (pe_op op_add (pe_op op_mulW (pe_ix ix_tup (pv 1) pe_int (fun _ _ => rfl)) (pe_ix ix_tup (pv 2) pe_int (fun _ _ => rfl))) (pe_op op_mulW (pe_ix ix_tup (pv 1) pe_int (fun _ _ => rfl)) (pe_ix ix_tup (pv 2) pe_int (fun _ _ => rfl)))) pa_nil))))), ?_⟩
    refine ⟨_, rfl, ra, _, _, _, rfl, rfl, SqT.of ea, at_of (j := 0) rfl rfl, _, rfl, rb, _, _, _, rfl, rfl, SqT.of eb, at_of (j := 0) rfl rfl, _, _, rfl, rfl, wide_mul a1 b1 A0 B0 AB, ?_⟩
    refine ⟨_, rfl, ra, _, _, _, rfl, rfl, SqT.of ea, at_of (j := 0) rfl rfl, _, rfl, rb, _, _, _, rfl, rfl, SqT.of eb, at_of (j := 1) rfl rfl, _, _, rfl, rfl, wide_mul a1 b2 A0 B0 AB, ?_⟩
    refine ⟨_, rfl, ra, _, _, _, rfl, rfl, SqT.of ea, at_of (j := 1) rfl rfl, _, rfl, rb, _, _, _, rfl, rfl, SqT.of eb, at_of (j := 0) rfl rfl, _, _, rfl, rfl, wide_mul a2 b1 A0 B0 AB, ?_⟩
    refine ⟨_, _, rfl, rfl, ?_⟩
    exact ⟨(show 2 ≤ sizeLine by decide), fun t ht => k _ _ (same_new (Same.refl _) ht) ⟨t, rfl, upd_same⟩⟩
/-! ### the slope of a node -/
def wS (φ : Nat → Int) (f : Nat) (k : Nat) : Int × Int := (φ k, if k = f then 1 else 0)
abbrev AS (φ : Nat → Int) (f : Nat) : Alg (Int × Int) := RA sAdd sMul (0, 0) (1, 0) (wS φ f)
def pS (φ : Nat → Int) (f : Nat) (T : Terms) : Int × Int := (sumL (ev φ) T, sumL (dv φ f) T)
theorem pS_app (φ : Nat → Int) (f : Nat) (a b : Terms) : pS φ f (a ++ b) = sAdd (pS φ f a) (pS φ f b) := by
  unfold pS sAdd
  rw [sumL_app, sumL_app]
theorem pS_mul (φ : Nat → Int) (f : Nat) (a b : Terms) : pS φ f (tmul a b) = sMul (pS φ f a) (pS φ f b) := by
  unfold pS sMul
  rw [val_tmul, der_tmul]
theorem pS_var (φ : Nat → Int) (f k : Nat) : pS φ f (varP k) = wS φ f k := by
  unfold pS wS varP
  rw [sumL, sumL, sumL, sumL, ev, ev, dv, dv, ev, dp]
  by_cases c : k = f
  · rw [if_pos c, if_pos c]; simp [Int.pow_succ]
  · rw [if_neg c, if_neg c]; simp [Int.pow_succ]
theorem pS_one (φ : Nat → Int) (f : Nat) : pS φ f [([], 1)] = (1, 0) := rfl
def bdS (s : Nat) (a : Int × Int) : Prop := a.1.natAbs < 2 ^ s ∧ a.2.natAbs < 2 ^ s
theorem bdS.add {s u : Nat} {a b : Int × Int} (x : bdS s a) (y : bdS u b) : bdS (s + u) (sAdd a b) := by
  refine ⟨?_, ?_⟩
  · exact Nat.lt_of_le_of_lt (Int.natAbs_add_le _ _) (pow_both x.1 y.1)
  · exact Nat.lt_of_le_of_lt (Int.natAbs_add_le _ _) (pow_both x.2 y.2)
theorem bdS.up {s u : Nat} {a : Int × Int} (x : bdS s a) (h : s ≤ u) : bdS u a := ⟨Nat.lt_of_lt_of_le x.1 (Nat.pow_le_pow_right (by decide) h), Nat.lt_of_lt_of_le x.2 (Nat.pow_le_pow_right (by decide) h)⟩
theorem bdS.mul {s u : Nat} {a b : Int × Int} (x : bdS s a) (y : bdS u b) : bdS (s + u + 1) (sMul a b) := by
  have h1 := abs_mul_lt x.1 y.1
  have h2 := abs_mul_lt x.1 y.2
  have h3 := abs_mul_lt x.2 y.1
  have e : 2 ^ (s + u + 1) = 2 ^ (s + u) * 2 := Nat.pow_succ ..
  refine ⟨?_, ?_⟩
  · show (a.1 * b.1).natAbs < _; omega
  · show (a.1 * b.2 + a.2 * b.1).natAbs < _
    have := Int.natAbs_add_le (a.1 * b.2) (a.2 * b.1)
    omega
section
variable {tbl : List Nd} {φ : Nat → Int} {f : Nat}
theorem pS_at (g : NdOk tbl) (hφ : ∀ k, (φ k).natAbs ≤ 4) : ∀ m, m < tbl.length → bdS (3 * SZ tbl m) (pS φ f (PT tbl m)) := by
  intro m
  induction m using Nat.strongRecOn with
  | ind m ih =>
    intro hm
    have hnd := List.getElem?_eq_getElem hm
    generalize tbl[m] = nd at hnd
    cases nd with
    | zero => rw [SZ, PT, at_leaf g hnd (A := SA) (x := 1) (fun v => rfl), at_leaf g hnd (A := PA) (x := []) (fun v => rfl)]; exact ⟨(by decide : (0 : Int).natAbs < 2 ^ 3), (by decide : (0 : Int).natAbs < 2 ^ 3)⟩
    | one => rw [SZ, PT, at_leaf g hnd (A := SA) (x := 1) (fun v => rfl), at_leaf g hnd (A := PA) (x := [([], 1)]) (fun v => rfl), pS_one]; exact ⟨(by decide : (1 : Int).natAbs < 2 ^ 3), (by decide : (0 : Int).natAbs < 2 ^ 3)⟩
    | fact q =>
      rw [SZ, PT, at_leaf g hnd (A := SA) (x := 1) (fun v => rfl), at_leaf g hnd (A := PA) (x := varP q) (fun v => rfl), pS_var]
      have := hφ q
      refine ⟨by show (φ q).natAbs < 8; omega, ?_⟩
      show (if q = f then (1 : Int) else 0).natAbs < 8
      split <;> decide
    | star p => exact absurd (g.fk.nf _ (List.mem_of_getElem? hnd)) (fun z => z)
    | plus ps =>
      obtain ⟨p, q, rfl, hp, hq⟩ := two_parts g hnd (.inl rfl)
      have e : PT tbl m = PT tbl p ++ PT tbl q := (at_two (A := PA) (d := []) g hnd hp hq).1 rfl
      have e2 : SZ tbl m = 1 + (SZ tbl p + (SZ tbl q + 0)) := (at_two (A := SA) (d := 0) g hnd hp hq).1 rfl
      rw [e, pS_app]
      exact ((ih p hp (by omega)).add (ih q hq (by omega))).up (by omega)
    | times ps =>
      obtain ⟨p, q, rfl, hp, hq⟩ := two_parts g hnd (.inr rfl)
      have e : PT tbl m = tmul (PT tbl p) (PT tbl q) := (at_two (A := PA) (d := []) g hnd hp hq).2 rfl
      have e2 : SZ tbl m = 1 + (SZ tbl p + (SZ tbl q + 0)) := (at_two (A := SA) (d := 0) g hnd hp hq).2 rfl
      rw [e, pS_mul]
      exact ((ih p hp (by omega)).mul (ih q hq (by omega))).up (by omega)
/-- what worth asks of a node, in slopes -/
theorem slope_x (g : NdOk tbl) (hφ : ∀ k, (φ k).natAbs ≤ 4) (hl : tbl.length ≤ 16) {n : Nat} (hn : n < tbl.length) (m : Nat) (nd : Nd) (hr : Rch tbl n m) (e : tbl[m]? = some nd) :
    okN (faIn tbl n) (okFoldG okSp sAdd) (okFoldG okSt sMul) (fun p => pS φ f (PT tbl p)) nd ∧ evV (AS φ f) (fun p => some (pS φ f (PT tbl p))) nd = some (pS φ f (PT tbl m)) := by
  have hm := rch_lt g hn hr
  cases nd with
  | star q => exact absurd (g.fk.nf _ (List.mem_of_getElem? e)) (fun z => z)
  | zero => exact ⟨trivial, by rw [PT, at_leaf g e (A := PA) (x := []) (fun v => rfl)]; rfl⟩
  | one => exact ⟨trivial, by rw [PT, at_leaf g e (A := PA) (x := [([], 1)]) (fun v => rfl), pS_one]; rfl⟩
  | fact k => exact ⟨⟨m, hr, e⟩, by rw [PT, at_leaf g e (A := PA) (x := varP k) (fun v => rfl), pS_var]; rfl⟩
  | plus ps =>
    obtain ⟨p, q, rfl, hp, hq⟩ := two_parts g e (.inl rfl)
    have e1 : PT tbl m = PT tbl p ++ PT tbl q := (at_two (A := PA) (d := []) g e hp hq).1 rfl
    refine ⟨⟨trivial, trivial⟩, ?_⟩
    rw [e1, pS_app]
    rfl
  | times ps =>
    obtain ⟨p, q, rfl, hp, hq⟩ := two_parts g e (.inr rfl)
    have e1 : PT tbl m = tmul (PT tbl p) (PT tbl q) := (at_two (A := PA) (d := []) g e hp hq).2 rfl
    have bp := pS_at (f := f) g hφ p (by omega)
    have bq := pS_at (f := f) g hφ q (by omega)
    have h1 := sz_lt g p (by omega)
    have h2 := sz_lt g q (by omega)
    have h3 : 2 ^ (p + 1) ≤ 2 ^ 16 := Nat.pow_le_pow_right (by decide) (by omega)
    have h4 : 2 ^ (q + 1) ≤ 2 ^ 16 := Nat.pow_le_pow_right (by decide) (by omega)
    refine ⟨⟨⟨3 * SZ tbl p, 3 * SZ tbl q, bp.1, bp.2, bq.1, bq.2, by omega, by omega, by omega⟩, trivial⟩, ?_⟩
    rw [e1, pS_mul]
    rfl
end
end
end K34

set_option Elab.async false
set_option linter.all false
set_option maxRecDepth 100000
set_option maxHeartbeats 4000000
namespace K34
open PySem L2 Ew Tb GxR ND PM NI PK
local macro_rules | `(tactic| walk_at "len") => `(tactic| first | (intro h; obtain ⟨_, e, _⟩ := h; rw [e]; rfl) | (intro h; obtain ⟨_, _, e, _⟩ := h; rw [e]; rfl) | (intro h; obtain ⟨_, _, _, e, _⟩ := h; rw [e]; rfl) | (intro h; obtain ⟨_, _, _, _, e, _⟩ := h; rw [e]; rfl) | (intro h; obtain ⟨_, _, _, _, _, e, _⟩ := h; rw [e]; rfl) | (intro h; obtain ⟨_, _, _, _, _, _, e, _⟩ := h; rw [e]; rfl) | (intro h; obtain ⟨_, _, _, _, _, _, _, e, _⟩ := h; rw [e]; rfl) | (intro h; obtain ⟨_, _, _, _, _, _, _, _, e, _⟩ := h; rw [e]; rfl) | (intro h; obtain ⟨_, _, _, _, _, _, _, _, _, e, _⟩ := h; rw [e]; rfl) | (intro h; obtain ⟨_, _, _, _, _, _, _, _, _, _, e, _⟩ := h; rw [e]; rfl) | (intro h; obtain ⟨_, _, _, _, _, _, _, _, _, _, _, e, _⟩ := h; rw [e]; rfl) | (intro h; obtain ⟨_, _, _, _, _, _, _, _, _, _, _, _, e, _⟩ := h; rw [e]; rfl) | (intro h; obtain ⟨_, _, _, _, _, _, _, _, _, _, _, _, _, e, _⟩ := h; rw [e]; rfl))
local macro_rules | `(tactic| walk_at "len") => `(tactic| first | (intro h; obtain ⟨_, _, _, _, _, _, _, _, e, _⟩ := h; rw [e]; rfl) | (intro h; obtain ⟨_, _, _, _, _, _, _, _, _, e, _⟩ := h; rw [e]; rfl) | (intro h; obtain ⟨_, _, _, _, _, _, _, _, _, _, e, _⟩ := h; rw [e]; rfl) | (intro h; obtain ⟨_, _, _, _, _, _, _, _, _, _, _, e, _⟩ := h; rw [e]; rfl) | (intro h; obtain ⟨_, _, _, _, _, _, _, _, _, _, _, _, e, _⟩ := h; rw [e]; rfl) | (intro h; obtain ⟨_, _, _, _, _, _, _, _, _, _, _, _, _, e, _⟩ := h; rw [e]; rfl) | (intro h; obtain ⟨_, _, _, _, _, _, _, _, _, _, _, _, _, _, e, _⟩ := h; rw [e]; rfl) | (intro h; obtain ⟨_, _, _, _, _, _, _, _, _, _, _, _, _, _, _, e, _⟩ := h; rw [e]; rfl) | (intro h; obtain ⟨_, _, _, _, _, _, _, _, _, _, _, _, _, _, _, _, e, _⟩ := h; rw [e]; rfl) | (intro h; obtain ⟨_, _, _, _, _, _, _, _, _, _, _, _, _, _, _, _, _, e, _⟩ := h; rw [e]; rfl))
section
variable {P : Program} {w : World} {K : PySem.W.Frag} {mg : Str → Option Value} {base : Heap} {ad : Ad}
/-- numbers for the four facts -/
def NumD (H : Hp) (d : Addr) (φ : Nat → Int) : Prop := ∃ kvs : List (Key × V), H d = some (.dK kvs) ∧ ∀ k : Nat, k < 4 → valV kvs (.inl (k : Int)) = some (.int (φ k))
def spSlope (P : Program) (w : World) (ad : Ad) : Sp := fun vs H Q E => ∃ (c S D d : Addr) (tbl : List Nd) (n f : Nat), vs = [.ref c, .int (n : Int), .int (f : Int), .ref d] ∧ Circ P w ad.Circuits H c S D tbl ∧ Wf tbl ∧ tbl.Nodup ∧ tbl.length < 64 ∧ n < tbl.length ∧ (∀ nd ∈ tbl, nd.parts.length ≤ 1000) ∧
  (HasStar tbl n → ∀ H', Same H H' → E (.ref ad.NoStar) none H') ∧
  (¬ HasStar tbl n → NdOk tbl ∧ tbl.length ≤ 16 ∧ ∃ φ : Nat → Int, NumD H d φ ∧ (∀ k, (φ k).natAbs ≤ 4) ∧ ∀ H', Same H H' → Q (.int (pS φ f (PT tbl n)).2) H')
theorem ok_slope (mkS : Mk0 K mg "Slopes" ad.Slopes) (c_need_no_star : CalX P w K mg base 3 "need_no_star" (spNeed P w ad)) (m_facts_in : MetX P w K mg base 3 ad.Circuits "facts_in" (spFactsIn P w ad.Circuits)) (c_worth : ∀ fa φ f, CalX P w K mg base 9 "worth" (spWorth P w ad none Rs ad.Slopes okSp okSt sAdd sMul (0, 0) (1, 0) fa (wS φ f))) {f : Addr} {fd : FuncData} (F : Fun K "slope" "slope" s_slope f fd) (T : Txt K mg ad) : FnOk P w K mg base (L2.CX P w) 11 f fd ["circuits", "node", "fact", "numbers"] (spSlope P w ad) := by
  refine F.okX sc_slope (fun vs H Q E => ?_) (fun cdv A outer s H vs Q E hr h => ?_)
  · walk_at "len"
  ·
    obtain ⟨c, S, D, dn, tbl, n, f0, rfl, cc, wf, tnd, hl, hn, hpl, k2, k1⟩ := h
    refine ⟨_, (pss_cons (ps_expr (pc_call c_need_no_star hr (by first | decide | omega) (takes_of rfl rfl rfl rfl) (by rfl) (pa_cons (pv 0) (pa_cons (pv 1) pa_nil))))
      (pss_cons (DCx.ps_setDc (i := 4) (own := [("k", 5)]) (tt := tYes) rfl sc_slope.nd rfl rfl (DCx.swd_true rfl rfl rfl (by decide +kernel)) (pi_list (pd_meth hr (takes_of rfl rfl rfl rfl) (pv 0) (pa_cons (pv 1) pa_nil))) (blkOk_by (by kernel_rfl)) (fun _ _ _ _ _ => (pg_name (i := 5) sc_slope.nd rfl (by first | exact Or.inl rfl | exact Or.inr rfl))) (fun _ _ _ _ _ => pts_nil) (fun _ _ _ _ _ => (pv 5)) (fun _ _ _ _ _ => (pe_tup (pa_cons (pe_dget (hu_of hr) (pv 3) (pv 5) (fun _ _ => rfl)) (pa_cons (pe_ifExp (pt_cmpR op_eq (pv 5) (pv 2) (nomark _)) pe_int pe_int) pa_nil)))))
      (pss_one (ps_ret (pe_ix ix_tup (pd_call hr (takes_of rfl rfl rfl rfl) (by rfl) (pa_cons (pv 0) (pa_cons (pv 1) (pa_cons (pd_new0 (by rfl)) (pa_cons (pv 4) pa_nil))))) pe_int (fun _ _ => rfl)))))), ?_⟩
    refine go_sq ?_
    refine ⟨_, rfl, _, rfl, c, S, D, tbl, n, rfl, cc, wf, hl, hn, fun ns H1 s1 => ?_, fun hs H1 s1 => k2 hs H1 s1⟩
    obtain ⟨g, hl16, φ, hnum, hφ, k1⟩ := k1 ns
    have cc1 := cc.same s1
    obtain ⟨dxc, hc⟩ := cc1.ins
    obtain ⟨nkv, hnd, hnv⟩ := hnum
    refine go_nx (go_sq ?_)
    refine ⟨_, rfl, c, _, dxc, _, 3, _, rfl, hc, fC_no _ _ (by decide) (by decide), by decide, m_facts_in, _, rfl, c, S, D, tbl, n, rfl, cc1, wf, tnd, hl, hn, fun H2 l ks s2 e2 knd ksr kmem => ⟨l, rfl, ⟨_, SqL.of e2⟩, fun d hd => ?_⟩⟩
    have klen : ks.length ≤ 100 := by
      have h := knd.length_le_of_subset (l₂ := tbl.map Nd.num) fun k hk => by
        obtain ⟨m, _, e⟩ := (kmem k).mp hk
        exact List.mem_map.mpr ⟨_, List.mem_of_getElem? e, rfl⟩
      rw [List.length_map] at h
      omega
    have k4 : ∀ k ∈ ks, k < 4 := fun k hk => let ⟨m, _, e⟩ := (kmem k).mp hk; g.fk.k4 k (List.mem_of_getElem? e)
    refine DC2.walk_l (K := K) (xs := nV ks) (fun i H' => Same H2 H' ∧ ∃ kvs : List (Key × V), H' d = some (.dK kvs) ∧ kvs.length ≤ i ∧ ∀ k ∈ ks.take i, ∃ v, valV kvs (.inl (k : Int)) = some v ∧ Rs H' (wS φ f0 k) v) ⟨same_new (Same.refl _) hd, [], upd_same, Nat.le_refl _, fun k h => nomatch h⟩ (fun i H' _ ⟨s', _⟩ => SqL.of (s' _ _ e2)) (fun i z H3 hz ⟨s3, kvs, e3, l3, m3⟩ => ?_) (fun H3 ⟨s3, kvs, e3, l3, m3⟩ => go_name rfl (go_nx ?_))
    · obtain ⟨k, hk, rfl⟩ := nV_in hz
      have hik := (List.getElem?_eq_some_iff.mp hk).1
      have hk4 := k4 k (List.mem_of_getElem? hk)
      have get3 : DGet H3 dn (.int (k : Int)) (some (.int (φ k))) := by
        have := DGet.k (k := .inl (k : Int)) (s3 _ _ (s2 _ _ (s1 _ _ hnd)))
        rw [hnv k hk4] at this
        exact this
      refine ⟨rfl, yes_then (iteT ⟨_, rfl, _, rfl, _, rfl, dn, .int (φ k), rfl, get3, _, rfl, _, rfl, rfl, _, rfl, ?_⟩)⟩
      have fin : ∀ j : Int, (if k = f0 then (1 : Int) else 0) = j → 2 ≤ sizeLine ∧ ∀ p, H3 p = none → ∃ kvs' k', V.int (k : Int) = kV k' ∧ (upd H3 p (.tup [.int (φ k), .int j])) d = some (.dK kvs') ∧ kvs'.length < sizeLine ∧ (Same H2 (upd (upd H3 p (.tup [.int (φ k), .int j])) d (.dK (putK kvs' k' (.ref p)))) ∧ ∃ kvs2, (upd (upd H3 p (.tup [.int (φ k), .int j])) d (.dK (putK kvs' k' (.ref p)))) d = some (.dK kvs2) ∧ kvs2.length ≤ i + 1 ∧ ∀ q ∈ ks.take (i + 1), ∃ v, valV kvs2 (.inl (q : Int)) = some v ∧ Rs (upd (upd H3 p (.tup [.int (φ k), .int j])) d (.dK (putK kvs' k' (.ref p)))) (wS φ f0 q) v) := fun j hj => by
        refine ⟨by decide, fun p hp => ?_⟩
        have s4 := same_new (o := .tup [.int (φ k), .int j]) (Same.refl H3) hp
        have e4 := s4 _ _ e3
        have keep : NG.Kp (upd H3 p (.tup [.int (φ k), .int j])) (upd (upd H3 p (.tup [.int (φ k), .int j])) d (.dK (putK kvs (.inl (k : Int)) (.ref p)))) := ⟨fun b zs e => by
          rw [upd_ne (ne_of e e4 (fun z => nomatch z))]; exact e, fun b o zs e => by
          rw [upd_ne (ne_of e e4 (fun z => nomatch z))]; exact e⟩
        refine ⟨kvs, .inl (k : Int), rfl, e4, Nat.lt_of_le_of_lt (by omega : _ ≤ 1000) (by decide), same_but hd (fun b o z => s4 _ _ (s3 _ _ z)) (fun c u nc z => by rw [upd_ne nc]; exact z), putK kvs (.inl (k : Int)) (.ref p), upd_same, ?_, fun q hq => ?_⟩
        · have := length_putK kvs (.inl (k : Int)) (.ref p)
          omega
        · rw [valV_put]
          by_cases cq : q = k
          · subst cq
            rw [if_pos rfl]
            refine ⟨_, rfl, p, rfl, keep.t _ _ ?_⟩
            rw [upd_same]
            show some (HO.tup [.int (φ q), .int j]) = some (HO.tup [.int (φ q), .int (if q = f0 then 1 else 0)])
            rw [hj]
          · rw [if_neg (fun z => cq (by injection z with z; omega))]
            rw [List.take_add_one, hk] at hq
            rcases List.mem_append.mp hq with h | h
            · obtain ⟨u, h1, h2⟩ := m3 q h
              exact ⟨u, h1, Rs_mono _ _ _ _ keep (Rs_mono _ _ _ _ (.of s4) h2)⟩
            · exact absurd (by simpa using h) cq
      refine ite2 (fun hd => ?_) (fun hd => ?_)
      · have := of_decide_eq_true hd
        exact fin 1 (by rw [if_pos (by injection this with z; omega)])
      · exact fin 0 (by rw [if_neg (fun z => hd (decide_eq_true (by rw [z])))])
    rw [nV_length, List.take_length] at m3
    have s03 : Same H H3 := fun b o z => s3 _ _ (s2 _ _ (s1 _ _ z))
    refine ⟨9, _, by decide, c_worth (faIn tbl n) φ f0, _, rfl, _, rfl, ad.Slopes, mkS, fun y dy hy hdy nyd => ?_⟩
    have s4 : Same H3 (upd (upd H3 dy (.own y)) y (.ins ad.Slopes dy [])) := made_same hy hdy
    have ey : (upd (upd H3 dy (.own y)) y (.ins ad.Slopes dy [])) y = some (.ins ad.Slopes dy []) := upd_same
    have s04 : Same H (upd (upd H3 dy (.own y)) y (.ins ad.Slopes dy [])) := fun b o z => s4 _ _ (s03 _ _ z)
    refine ⟨_, rfl, c, S, D, y, d, dy, tbl, n, fun p => pS φ f0 (PT tbl p), kvs, rfl, cc.same s04, wf, hl, hn, ey, s4 _ _ e3, fun k hf => let ⟨v, h1, h2⟩ := m3 k ((kmem k).mpr hf); ⟨v, h1, Rs_mono _ _ _ _ (.of s4) h2⟩, fun m nd hr e => slope_x g hφ hl16 hn m nd hr e, hpl, Eo.no, fun H' v s' rv => ?_⟩
    obtain ⟨r, rfl, er⟩ := rv
    exact ⟨r, _, _, _, rfl, rfl, SqT.of er, at_of (j := 1) rfl rfl, k1 H' (fun b o z => s' _ _ (s04 _ _ z))⟩
end
end K34

set_option Elab.async false
set_option linter.all false
set_option maxRecDepth 100000
set_option maxHeartbeats 4000000
namespace K34
open PySem L2 Ew Tb GxR ND PM NI PK
local macro_rules | `(tactic| walk_at "len") => `(tactic| first | (intro h; obtain ⟨_, e, _⟩ := h; rw [e]; rfl) | (intro h; obtain ⟨_, _, e, _⟩ := h; rw [e]; rfl) | (intro h; obtain ⟨_, _, _, e, _⟩ := h; rw [e]; rfl) | (intro h; obtain ⟨_, _, _, _, e, _⟩ := h; rw [e]; rfl) | (intro h; obtain ⟨_, _, _, _, _, e, _⟩ := h; rw [e]; rfl) | (intro h; obtain ⟨_, _, _, _, _, _, e, _⟩ := h; rw [e]; rfl) | (intro h; obtain ⟨_, _, _, _, _, _, _, e, _⟩ := h; rw [e]; rfl) | (intro h; obtain ⟨_, _, _, _, _, _, _, _, e, _⟩ := h; rw [e]; rfl) | (intro h; obtain ⟨_, _, _, _, _, _, _, _, _, e, _⟩ := h; rw [e]; rfl) | (intro h; obtain ⟨_, _, _, _, _, _, _, _, _, _, e, _⟩ := h; rw [e]; rfl) | (intro h; obtain ⟨_, _, _, _, _, _, _, _, _, _, _, e, _⟩ := h; rw [e]; rfl) | (intro h; obtain ⟨_, _, _, _, _, _, _, _, _, _, _, _, e, _⟩ := h; rw [e]; rfl) | (intro h; obtain ⟨_, _, _, _, _, _, _, _, _, _, _, _, _, e, _⟩ := h; rw [e]; rfl))
local macro_rules | `(tactic| walk_at "len") => `(tactic| first | (intro h; obtain ⟨_, _, _, _, _, _, _, _, e, _⟩ := h; rw [e]; rfl) | (intro h; obtain ⟨_, _, _, _, _, _, _, _, _, e, _⟩ := h; rw [e]; rfl) | (intro h; obtain ⟨_, _, _, _, _, _, _, _, _, _, e, _⟩ := h; rw [e]; rfl) | (intro h; obtain ⟨_, _, _, _, _, _, _, _, _, _, _, e, _⟩ := h; rw [e]; rfl) | (intro h; obtain ⟨_, _, _, _, _, _, _, _, _, _, _, _, e, _⟩ := h; rw [e]; rfl) | (intro h; obtain ⟨_, _, _, _, _, _, _, _, _, _, _, _, _, e, _⟩ := h; rw [e]; rfl) | (intro h; obtain ⟨_, _, _, _, _, _, _, _, _, _, _, _, _, _, e, _⟩ := h; rw [e]; rfl) | (intro h; obtain ⟨_, _, _, _, _, _, _, _, _, _, _, _, _, _, _, e, _⟩ := h; rw [e]; rfl) | (intro h; obtain ⟨_, _, _, _, _, _, _, _, _, _, _, _, _, _, _, _, e, _⟩ := h; rw [e]; rfl) | (intro h; obtain ⟨_, _, _, _, _, _, _, _, _, _, _, _, _, _, _, _, _, e, _⟩ := h; rw [e]; rfl))
section
variable {P : Program} {w : World} {K : PySem.W.Frag} {mg : Str → Option Value} {base : Heap} {ad : Ad}
def spForm (P : Program) (w : World) (ad : Ad) : Sp := fun vs H Q _ => ∃ (c S D : Addr) (tbl : List Nd) (n : Nat), vs = [.ref c, .int (n : Int)] ∧ Circ P w ad.Circuits H c S D tbl ∧ NdOk tbl ∧ tbl.length ≤ 16 ∧ n < tbl.length ∧
  (∀ H', Same H H' → Q (.bl true) H') ∧ ∀ H' v, Same H H' → Rp H' (PT tbl n) v → Q v H'
theorem ok_law_form (c_normal : CalX P w K mg base 11 "normal" (spNormal P w ad)) {f : Addr} {fd : FuncData} (F : Fun K "_law_form" "_law_form" s_law_form f fd) (T : Txt K mg ad) : FnOk P w K mg base (L2.CX P w) 13 f fd ["circuits", "node"] (spForm P w ad) := by
  refine F.okX sc_law_form (fun vs H Q E => ?_) (fun cdv A outer s H vs Q E hr h => ?_)
  · walk_at "len"
  ·
    obtain ⟨c, S, D, tbl, n, rfl, cc, g, hl, hn, kt, k⟩ := h
    refine ⟨_, (pss_one (ps_tryD (i := 2) rfl rfl sc_law_form.nd rfl rfl ⟨rfl, by decide, .inl T.g_WorthError⟩ (takes_of rfl rfl rfl rfl))), ?_⟩
    intro pn1 xe1 tk1 po1
    refine ⟨_, (pss_one (ps_ret (pc_call c_normal hr (by first | decide | omega) tk1 (by rfl) (pa_cons (pv 0) (pa_cons (pv 1) pa_nil))))), ?_⟩
    refine ⟨_, rfl, _, rfl, c, S, D, tbl, n, rfl, cc, g.good.wf, g.good.nd, by omega, hn, g.good.ps, fun h => absurd h (no_star g n), fun _ => ⟨PT tbl, fun m nd hr e => norm_x g hl hn m nd hr e, fun t et H2 s2 => ?_, fun H2 v s2 rv => k H2 v s2 rv⟩⟩
    cases et
    refine ⟨true, T.em_TooLarge, fun _ a ha => ?_, fun q => Bool.noConfusion q⟩
    intro oe pn hz hf
    refine ⟨_, (pss_one (ps_ret (pe_callB (call_isED hz hf) (by rfl) T.z_isinstance (by decide +kernel) (pa_cons (pv 2) (pa_cons (pe_gcls (by rfl) T.g_TooLarge) pa_nil))))), ?_⟩
    exact ⟨_, rfl, _, rfl, rfl, T.ec_TooLarge, _, _, true, rfl, fun u hu => hu, T.ki_TooLarge, kt H2 s2⟩
def spPower : Sp := fun vs H Q _ => ∃ (x : Int) (e : Nat), vs = [.int x, .int (e : Int)] ∧ x.natAbs ≤ 4 ∧ e ≤ 200000 ∧ ∀ H', Same H H' → Q (.int (x ^ e)) H'
theorem ok_law_power  {f : Addr} {fd : FuncData} (F : Fun K "_law_power" "_law_power" s_law_power f fd) (T : Txt K mg ad) : FnOk P w K mg base (L2.CX P w) 1 f fd ["number", "exponent"] (spPower) := by
  refine F.okX sc_law_power (fun vs H Q E => ?_) (fun cdv A outer s H vs Q E hr h => ?_)
  · walk_at "len"
  ·
    obtain ⟨x, e, rfl, hx, he, k⟩ := h
    refine ⟨_, (pss_cons (ps_set (i := 2) sc_law_power.nd rfl (by first | exact Or.inl rfl | exact Or.inr rfl) pe_int)
      (pss_cons (ps_for (passes_of rfl) rfl (pi_range1 (by rfl) T.z_range (pa_cons (pv 1) pa_nil)) (pg_name (i := 3) sc_law_power.nd rfl (by first | exact Or.inl rfl | exact Or.inr rfl)) (pss_one (ps_set (i := 2) sc_law_power.nd rfl (by first | exact Or.inl rfl | exact Or.inr rfl) (pe_op op_mulW (pv 2) (pv 0)))))
      (pss_one (ps_ret (pv 2))))), ?_⟩
    refine go_seq (go_name rfl ?_)
    refine go_sq ⟨_, rfl, _, rfl, by omega, by omega, ?_⟩
    rw [Int.toNat_natCast]
    refine for_range (lo := 0) (n := e) (fun i σ H' => ∃ v3 : Option V, σ = [some (.int x), some (.int (e : Int)), some (.int (x ^ i)), v3] ∧ Same H H') ⟨none, by rw [Int.pow_zero]; rfl, Same.refl _⟩ ?_ ?_
    · rintro i σ H' hi ⟨v3, rfl, s'⟩
      have h1 := abs_pow_le hx i
      refine go_name rfl ⟨_, rfl, _, rfl, _, _, rfl, rfl, wide_mul (a := 2 * i + 1) (b := 3) h1 (by omega) (by omega) (by omega) (by omega), go_name rfl ⟨some (.int (0 + (i : Int))), ?_, s'⟩⟩
      rw [Int.pow_succ]; rfl
    · rintro σ H' ⟨v3, rfl, s'⟩
      exact go_nx (go_ret ⟨_, rfl, k H' s'⟩)
/-! ### the law's own slope -/
def kvM (m : Mono) : List (Key × V) := m.map fun q => (.inl (q.1 : Int), .int (q.2 : Int))
theorem merge_M (f : Nat) : ∀ (m : Mono) (acc : List (Key × V)), MCan m → valV (mergeK acc (kvM m)) (.inl (f : Int)) = if ex m f = 0 then valV acc (.inl (f : Int)) else some (.int (ex m f : Nat))
  | [], acc, _ => by rw [ex, if_pos rfl]; rfl
  | (g, e) :: r, acc, h => by
    have ih := merge_M f r (putK acc (.inl (g : Int)) (.int (e : Int))) h.tail
    show valV (mergeK (putK acc (.inl (g : Int)) (.int (e : Int))) (kvM r)) (.inl (f : Int)) = _
    rw [ih, valV_put, ex]
    have pe := h.pos (g, e) (List.mem_cons_self ..)
    by_cases c : g = f
    · subst c
      rw [h.head_ex, if_pos rfl, if_pos rfl, if_pos rfl, if_neg (by show ¬ e + 0 = 0; have : 1 ≤ e := pe; omega)]
      rfl
    · have hne : ¬ ((Sum.inl (f : Int) : Key) = .inl (g : Int)) := fun z => c (by injection z with z; omega)
      rw [if_neg hne, if_neg c, Nat.zero_add]
theorem kq_paired {H : Hp} : ∀ {m : Mono} {ms : List V}, Kys H (m.map kQ) ms → ∃ ps : List Addr, ms = ps.map V.ref ∧ Paired (fun p kv => H p = some (.tup [kV kv.1, kv.2])) ps (kvM m) ∧ ∀ (i : Nat) (q : Nat × Nat), m[i]? = some q → ∃ p, ms[i]? = some (.ref p) ∧ H p = some (.tup [.int (q.1 : Int), .int (q.2 : Int)])
  | [], _, h => by cases h; exact ⟨[], rfl, .nil, fun i q e => by simp at e⟩
  | x :: m, _, h => by
    cases h with
    | @cons _ y _ ys h1 h2 =>
      obtain ⟨ps, e, pr, at_⟩ := kq_paired h2
      obtain ⟨q, u, v, rfl, eq, k1, k2⟩ := ky_pair h1
      rw [ky_num k1, ky_num k2] at eq
      refine ⟨q :: ps, by rw [List.map_cons, e], .cons eq pr, fun i z hz => ?_⟩
      cases i with
      | zero => cases hz; exact ⟨q, rfl, eq⟩
      | succ i => exact at_ i z hz
theorem deg_mem {m : Mono} {x : Nat × Nat} (h : x ∈ m) : x.2 ≤ deg m := by
  induction m with
  | nil => cases h
  | cons y m ih =>
    show x.2 ≤ y.2 + deg m
    rcases List.mem_cons.mp h with rfl | h
    · omega
    · have := ih h; omega
theorem deg_take (j : Nat) (m : Mono) : deg (m.take j) ≤ deg m := by
  have : deg m = deg (m.take j) + deg (m.drop j) := by
    unfold deg
    rw [← List.sum_append, ← List.map_append, List.take_append_drop]
  omega
theorem pw_app (φ : Nat → Int) (f : Nat) : ∀ a b : Mono, pw φ f (a ++ b) = pw φ f a * pw φ f b
  | [], b => (Int.one_mul _).symm
  | (g, e) :: a, b => by
    show _ * pw φ f (a ++ b) = _
    rw [pw_app φ f a b, pw, Int.mul_assoc]
def spDue : Sp := fun vs H Q _ => ∃ (v : V) (f : Nat) (d : Addr) (p : Terms) (φ : Nat → Int), vs = [v, .int (f : Int), .ref d] ∧ PKG.KP H p v ∧ PC p ∧ p.length ≤ 400 ∧ NumD H d φ ∧ (∀ k, (φ k).natAbs ≤ 4) ∧ (∀ t ∈ p, (∀ x ∈ t.1, x.1 < 4) ∧ deg t.1 ≤ 100000 ∧ t.2 < 2 ^ 100000) ∧
  ∀ H', Same H H' → Q (.int (sumL (dv φ f) p)) H'
theorem ok_law_due (c_law_power : CalX P w K mg base 1 "_law_power" spPower) {f : Addr} {fd : FuncData} (F : Fun K "_law_due" "_law_due" s_law_due f fd) (T : Txt K mg ad) : FnOk P w K mg base (L2.CX P w) 3 f fd ["form", "fact", "numbers"] (spDue) := by
  refine F.okX sc_law_due (fun vs H Q E => ?_) (fun cdv A outer s H vs Q E hr h => ?_)
  · walk_at "len"
  ·
    obtain ⟨v, f0, d, p, φ, rfl, ⟨pa, xs, rfl, ea, ka⟩, pc, lp, ⟨nkv, hnd, hnv⟩, hφ, hp, k⟩ := h
    refine ⟨_, (pss_cons (ps_set (i := 3) sc_law_due.nd rfl (by first | exact Or.inl rfl | exact Or.inr rfl) pe_int)
      (pss_cons (ps_for (passes_of rfl) rfl (pi_tup (pv 0)) (pg_name (i := 4) sc_law_due.nd rfl (by first | exact Or.inl rfl | exact Or.inr rfl)) (pss_cons (ps_set (i := 5) sc_law_due.nd rfl (by first | exact Or.inl rfl | exact Or.inr rfl) (pe_dget2 (hu_of hr) (pe_callTy (call_dictT rfl) (by rfl) T.z_dict (by decide +kernel) (pa_cons (pe_ix ix_tup (pv 4) pe_int (fun _ _ => rfl)) pa_nil)) (pv 1) pe_int ⟨rfl, rfl, rfl, rfl⟩))
      (pss_one (ps_if (pt_cmpR op_gt (pv 5) pe_int (nomark _)) (pss_cons (ps_set (i := 6) sc_law_due.nd rfl (by first | exact Or.inl rfl | exact Or.inr rfl) (pe_op op_mulW (pe_ix ix_tup (pv 4) pe_int (fun _ _ => rfl)) (pv 5)))
      (pss_cons (ps_for (passes_of rfl) rfl (pi_tup (pe_ix ix_tup (pv 4) pe_int (fun _ _ => rfl))) (pg_name (i := 7) sc_law_due.nd rfl (by first | exact Or.inl rfl | exact Or.inr rfl)) (pss_one (ps_set (i := 6) sc_law_due.nd rfl (by first | exact Or.inl rfl | exact Or.inr rfl) (pe_op op_mulW (pv 6) (pc_call c_law_power hr (by first | decide | omega) (takes_of rfl rfl rfl rfl) (by rfl) (pa_cons (pe_dget (hu_of hr) (pv 2) (pe_ix ix_tup (pv 7) pe_int (fun _ _ => rfl)) (fun _ _ => rfl)) (pa_cons (pe_op op_sub (pe_ix ix_tup (pv 7) pe_int (fun _ _ => rfl)) (pe_callTy call_int1 (by rfl) T.z_int (by decide +kernel) (pa_cons (pe_cmpR op_eq (pe_ix ix_tup (pv 7) pe_int (fun _ _ => rfl)) (pv 1) (nomark _)) pa_nil))) pa_nil)))))))
      (pss_one (ps_set (i := 3) sc_law_due.nd rfl (by first | exact Or.inl rfl | exact Or.inr rfl) (pe_op op_add (pv 3) (pv 6)))))) pss_nil))))
      (pss_one (ps_ret (pv 3))))), ?_⟩
    refine go_seq (go_name rfl ?_)
    refine go_sq ⟨_, rfl, pa, rfl, ⟨_, SqT.of ea⟩, ?_⟩
    refine for_tup (K := K) (xs := xs) (fun i σ H' => ∃ v4 v5 v6 v7 : Option V, σ = [some (.ref pa), some (.int (f0 : Int)), some (.ref d), some (.int (sumL (dv φ f0) (p.take i))), v4, v5, v6, v7] ∧ Same H H') ⟨none, none, none, none, rfl, Same.refl _⟩ (fun i σ H' _ ⟨_, _, _, _, _, s'⟩ => SqT.of (s' _ _ ea)) ?_ ?_
    · rintro i z σ H1 hz ⟨v4, v5, v6, v7, rfl, s1⟩
      obtain ⟨m, c, q, u, ht, rfl, eq, ku⟩ := kt_at ka hz
      have tm := List.mem_of_getElem? ht
      have cm := pc.mc _ tm
      obtain ⟨hm4, hdeg, hc⟩ := hp _ tm
      have esum : sumL (dv φ f0) (p.take (i + 1)) = sumL (dv φ f0) (p.take i) + (c : Int) * dv φ f0 m := by
        rw [List.take_add_one, ht, sumL_app]
        show _ = _ + _
        rw [show sumL (dv φ f0) (some (m, c)).toList = (c : Int) * dv φ f0 m + 0 from rfl, Int.add_zero]
      obtain ⟨ma, mo, ms, rfl, hmo, em, km⟩ := PKG.ng_tup ku
      obtain ⟨ps, rfl, prd, atq⟩ := kq_paired km
      have em1 := s1 _ _ em
      refine go_name rfl (go_seq ?_)
      refine ⟨_, rfl, q, _, _, _, rfl, rfl, SqT.of (s1 _ _ eq), at_of (j := 0) rfl rfl, ma, mo, ps, kvM m, rfl, hmo, em1, Paired.mono (fun b kv e => SqT.of (s1 _ _ e)) prd, fun dd hdd => ?_⟩
      have s2 := same_new (o := .dK (mergeK [] (kvM m))) (Same.refl H1) hdd
      have s02 : Same H (upd H1 dd (.dK (mergeK [] (kvM m)))) := fun b o e => s2 _ _ (s1 _ _ e)
      have edd : (upd H1 dd (.dK (mergeK [] (kvM m)))) dd = some (.dK (mergeK [] (kvM m))) := upd_same
      generalize upd H1 dd (.dK (mergeK [] (kvM m))) = H2 at s2 s02 edd
      refine ⟨dd, rfl, .inl ⟨_, .inl edd⟩, _, rfl, _, DGet.k (k := .inl (f0 : Int)) edd, ?_⟩
      have hown : (valV (mergeK [] (kvM m)) (.inl (f0 : Int))).getD (.int 0) = .int ((ex m f0 : Nat) : Int) := by
        rw [merge_M f0 m [] cm]
        split
        · rename_i c; rw [c]; rfl
        · rfl
      rw [hown]
      refine go_name rfl ?_
      refine ⟨_, rfl, _, _, rfl, rfl, _, rfl, ?_⟩
      refine ite2 (fun h0 => ?_) (fun h0 => go_nx ?_)
      · have hx1 : 0 < ex m f0 := by have := of_decide_eq_true h0; omega
        have hxd : ex m f0 ≤ 100000 := Nat.le_trans (ex_deg f0 m) hdeg
        have hcc : ((c : Nat) : Int).natAbs < 2 ^ 100000 := by rw [Int.natAbs_natCast]; exact hc
        have hxx : ((ex m f0 : Nat) : Int).natAbs < 2 ^ 17 := by rw [Int.natAbs_natCast]; exact Nat.lt_of_le_of_lt hxd (by decide)
        have hco := abs_mul_lt hcc hxx
        refine go_seq ⟨_, rfl, q, _, _, _, rfl, rfl, SqT.of (s02 _ _ eq), at_of (j := 1) rfl rfl, _, rfl, _, _, rfl, rfl, wide_mul hcc hxx (by decide) (by decide) (by decide), go_name rfl ?_⟩
        refine go_sq ⟨_, rfl, q, _, _, _, rfl, rfl, SqT.of (s02 _ _ eq), at_of (j := 0) rfl rfl, ma, rfl, ⟨_, PKG.fz (s02 _ _ em)⟩, ?_⟩
        refine for_tup (K := K) (xs := ps.map V.ref) (fun j σ H' => ∃ v7 : Option V, σ = [some (.ref pa), some (.int (f0 : Int)), some (.ref d), some (.int (sumL (dv φ f0) (p.take i))), some (.ref q), some (.int (ex m f0 : Nat)), some (.int ((c : Int) * ((ex m f0 : Nat) : Int) * pw φ f0 (m.take j))), v7] ∧ Same H H') ⟨v7, by rw [List.take_zero, pw, Int.mul_one]; rfl, s02⟩ (fun j σ H' _ ⟨_, _, s'⟩ => PKG.fz (s' _ _ em)) ?_ ?_
        · rintro j y σ H3 hy ⟨v7', rfl, s3⟩
          have hlm : m.length = (ps.map V.ref).length := by have := kys_len km; rwa [List.length_map] at this
          have hj : j < m.length := by rw [hlm]; exact (List.getElem?_eq_some_iff.mp hy).1
          have hmj : m[j]? = some m[j] := List.getElem?_eq_getElem hj
          obtain ⟨pj, epj, hpj⟩ := atq j _ hmj
          rw [hy] at epj
          obtain rfl := Option.some.inj epj
          have hmem := List.getElem_mem hj
          generalize m[j] = ge at hmj hpj hmem
          obtain ⟨g0, e0⟩ := ge
          have hp3 := s3 _ _ hpj
          have hg4 := hm4 (g0, e0) hmem
          have getn : DGet H3 d (.int (g0 : Int)) (some (.int (φ g0))) := by
            have := DGet.k (k := .inl (g0 : Int)) (s3 _ _ hnd)
            rw [hnv g0 hg4] at this
            exact this
          refine go_name rfl ?_
          refine ⟨_, rfl, _, rfl, _, rfl, pj, _, _, _, rfl, rfl, SqT.of hp3, at_of (j := 0) rfl rfl, d, .int (φ g0), rfl, getn, _, rfl, pj, _, _, _, rfl, rfl, SqT.of hp3, at_of (j := 1) rfl rfl, _, rfl, pj, _, _, _, rfl, rfl, SqT.of hp3, at_of (j := 0) rfl rfl, _, rfl, rfl, .inr ⟨_, rfl, _, _, rfl, rfl, φ g0, e0 - (if g0 = f0 then 1 else 0), ?_, hφ g0, ?_, fun H4 s4 => ?_⟩⟩
          · have pe : 1 ≤ e0 := cm.pos (g0, e0) hmem
            have : ((e0 : Int) - (if decide (V.int (g0 : Int) = V.int (f0 : Int)) = true then 1 else 0)) = ((e0 - (if g0 = f0 then 1 else 0) : Nat) : Int) := by
              by_cases cgf : g0 = f0
              · subst cgf
                rw [if_pos (decide_eq_true rfl), if_pos rfl]; omega
              · rw [if_neg (fun z => cgf (by have := of_decide_eq_true z; injection this with this; omega)), if_neg cgf]; omega
            show [V.int (φ g0), V.int ((e0 : Int) - (if decide (V.int (g0 : Int) = V.int (f0 : Int)) = true then 1 else 0))] = _
            rw [this]
          · have : e0 ≤ deg m := deg_mem hmem
            have hd2 : deg m ≤ 100000 := hdeg
            omega
          · have htk : (pw φ f0 (m.take j)).natAbs < 2 ^ 300000 := Nat.lt_of_lt_of_le (pw_lt hφ f0 (m.take j)) (Nat.pow_le_pow_right (by decide) (by
              have h1 := deg_take j m
              have h2 : deg m ≤ 100000 := hdeg
              have h3 : (m.take j).length ≤ 4 := Nat.le_trans (List.length_take_le' ..) (mono_len cm hm4)
              omega))
            have hpp : ((c : Int) * ((ex m f0 : Nat) : Int) * pw φ f0 (m.take j)).natAbs < 2 ^ (100000 + 17 + 300000) := abs_mul_lt hco htk
            have hpw : (φ g0 ^ (e0 - if g0 = f0 then 1 else 0)).natAbs < 2 ^ 200001 := Nat.lt_of_lt_of_le (abs_pow_le (hφ g0) _) (Nat.pow_le_pow_right (by decide) (by
              have h1 : e0 ≤ deg m := deg_mem hmem
              have h2 : deg m ≤ 100000 := hdeg
              omega))
            refine ⟨_, _, rfl, rfl, wide_mul hpp hpw (by decide) (by decide) (by decide), go_name rfl ⟨some (.ref pj), ?_, fun b o z => s4 _ _ (s3 _ _ z)⟩⟩
            rw [List.take_add_one, hmj, pw_app, ← Int.mul_assoc]
            show List.set _ 6 (some (V.int _)) = _
            rw [show pw φ f0 (some (g0, e0)).toList = φ g0 ^ (e0 - if g0 = f0 then 1 else 0) * 1 from rfl, Int.mul_one]
            rfl
        · rintro σ H3 ⟨v7', rfl, s3⟩
          have hlm : m.length = (ps.map V.ref).length := by have := kys_len km; rwa [List.length_map] at this
          rw [← hlm, List.take_length]
          refine go_nx ⟨_, rfl, _, rfl, _, _, rfl, rfl, go_name rfl (go_nx ⟨some (.ref q), some (.int (ex m f0 : Nat)), some (.int ((c : Int) * ((ex m f0 : Nat) : Int) * pw φ f0 m)), v7', ?_, s3⟩)⟩
          rw [esum, dv_can φ f0 cm, ← Int.mul_assoc]
          rfl
      · have hx0 : ex m f0 = 0 := by
          rcases Nat.eq_zero_or_pos (ex m f0) with z | z
          · exact z
          · exact absurd (decide_eq_true (by omega)) h0
        have e0 : sumL (dv φ f0) (p.take (i + 1)) = sumL (dv φ f0) (p.take i) := by rw [esum, dv_can φ f0 cm, hx0]; simp
        exact ⟨some (.ref q), some (.int (ex m f0 : Nat)), v6, v7, by rw [e0]; rfl, s02⟩
    · rintro σ H1 ⟨v4, v5, v6, v7, rfl, s1⟩
      rw [← ka.1, List.take_length]
      exact go_nx (go_ret ⟨_, rfl, k H1 s1⟩)
end
end K34

set_option Elab.async false
set_option linter.all false
set_option maxRecDepth 100000
set_option maxHeartbeats 4000000
namespace K34
open PySem L2 Ew Tb GxR ND PM NI PK
local macro_rules | `(tactic| walk_at "len") => `(tactic| first | (intro h; obtain ⟨_, e, _⟩ := h; rw [e]; rfl) | (intro h; obtain ⟨_, _, e, _⟩ := h; rw [e]; rfl) | (intro h; obtain ⟨_, _, _, e, _⟩ := h; rw [e]; rfl) | (intro h; obtain ⟨_, _, _, _, e, _⟩ := h; rw [e]; rfl) | (intro h; obtain ⟨_, _, _, _, _, e, _⟩ := h; rw [e]; rfl) | (intro h; obtain ⟨_, _, _, _, _, _, e, _⟩ := h; rw [e]; rfl) | (intro h; obtain ⟨_, _, _, _, _, _, _, e, _⟩ := h; rw [e]; rfl) | (intro h; obtain ⟨_, _, _, _, _, _, _, _, e, _⟩ := h; rw [e]; rfl) | (intro h; obtain ⟨_, _, _, _, _, _, _, _, _, e, _⟩ := h; rw [e]; rfl) | (intro h; obtain ⟨_, _, _, _, _, _, _, _, _, _, e, _⟩ := h; rw [e]; rfl) | (intro h; obtain ⟨_, _, _, _, _, _, _, _, _, _, _, e, _⟩ := h; rw [e]; rfl) | (intro h; obtain ⟨_, _, _, _, _, _, _, _, _, _, _, _, e, _⟩ := h; rw [e]; rfl) | (intro h; obtain ⟨_, _, _, _, _, _, _, _, _, _, _, _, _, e, _⟩ := h; rw [e]; rfl))
local macro_rules | `(tactic| walk_at "len") => `(tactic| first | (intro h; obtain ⟨_, _, _, _, _, _, _, _, e, _⟩ := h; rw [e]; rfl) | (intro h; obtain ⟨_, _, _, _, _, _, _, _, _, e, _⟩ := h; rw [e]; rfl) | (intro h; obtain ⟨_, _, _, _, _, _, _, _, _, _, e, _⟩ := h; rw [e]; rfl) | (intro h; obtain ⟨_, _, _, _, _, _, _, _, _, _, _, e, _⟩ := h; rw [e]; rfl) | (intro h; obtain ⟨_, _, _, _, _, _, _, _, _, _, _, _, e, _⟩ := h; rw [e]; rfl) | (intro h; obtain ⟨_, _, _, _, _, _, _, _, _, _, _, _, _, e, _⟩ := h; rw [e]; rfl) | (intro h; obtain ⟨_, _, _, _, _, _, _, _, _, _, _, _, _, _, e, _⟩ := h; rw [e]; rfl) | (intro h; obtain ⟨_, _, _, _, _, _, _, _, _, _, _, _, _, _, _, e, _⟩ := h; rw [e]; rfl) | (intro h; obtain ⟨_, _, _, _, _, _, _, _, _, _, _, _, _, _, _, _, e, _⟩ := h; rw [e]; rfl) | (intro h; obtain ⟨_, _, _, _, _, _, _, _, _, _, _, _, _, _, _, _, _, e, _⟩ := h; rw [e]; rfl))
section
variable {P : Program} {w : World} {K : PySem.W.Frag} {mg : Str → Option Value} {base : Heap} {ad : Ad}
def spRef (P : Program) (w : World) (ad : Ad) : Sp := fun vs H Q _ => ∃ (c S D : Addr) (tbl : List Nd) (n : Nat), vs = [.ref c, .int (n : Int)] ∧ Circ P w ad.Circuits H c S D tbl ∧ Wf tbl ∧ tbl.Nodup ∧ tbl.length < 64 ∧ n < tbl.length ∧ (∀ nd ∈ tbl, nd.parts.length ≤ 1000) ∧ HasStar tbl n ∧ ∀ H', Same H H' → Q (.bl true) H'
theorem ok_law_refused (c_slope : CalX P w K mg base 11 "slope" (spSlope P w ad)) {f : Addr} {fd : FuncData} (F : Fun K "_law_refused" "_law_refused" s_law_refused f fd) (T : Txt K mg ad) : FnOk P w K mg base (L2.CX P w) 13 f fd ["circuits", "node"] (spRef P w ad) := by
  refine F.okX sc_law_refused (fun vs H Q E => ?_) (fun cdv A outer s H vs Q E hr h => ?_)
  · walk_at "len"
  ·
    obtain ⟨c, S, D, tbl, n, rfl, cc, wf, nd, hl, hn, hps, hst, k⟩ := h
    refine ⟨_, (pss_cons (ps_tryD (i := 2) rfl rfl sc_law_refused.nd rfl rfl ⟨rfl, by decide, .inl T.g_WorthError⟩ (takes_of rfl rfl rfl rfl))
      (pss_one (ps_ret pe_bl))), ?_⟩
    refine go_sq ?_
    intro pn1 xe1 tk1 po1
    refine ⟨_, (pss_one (ps_expr (pc_call c_slope hr (by first | decide | omega) tk1 (by rfl) (pa_cons (pv 0) (pa_cons (pv 1) (pa_cons pe_int (pa_cons (pe_disp (pps_cons pe_int pe_int pps_nil) rfl rfl (by simp) (by decide)) pa_nil))))))), ?_⟩
    refine ⟨_, rfl, _, rfl, fun d hd => ?_⟩
    refine ⟨upd_same, [(.inl 0, .int 1)], rfl, (show 1 ≤ 15 by decide), ?_⟩
    have s1 : Same H (upd (upd H d (.dK [])) d (.dK (mergeK [] [(.inl 0, .int 1)]))) := fun b o e => by rw [upd_ne (ne_of_none e hd), upd_ne (ne_of_none e hd)]; exact e
    refine ⟨c, S, D, d, tbl, n, 0, rfl, cc.same s1, wf, nd, hl, hn, hps, fun _ H2 s2 => ?_, fun h => absurd hst h⟩
    refine ⟨true, T.em_NoStar, fun _ a ha => ?_, fun q => Bool.noConfusion q⟩
    intro oe pn hz hf
    refine ⟨_, (pss_one (ps_ret (pe_callB (call_isED hz hf) (by rfl) T.z_isinstance (by decide +kernel) (pa_cons (pv 2) (pa_cons (pe_gcls (by rfl) T.g_NoStar) pa_nil))))), ?_⟩
    exact ⟨_, rfl, _, rfl, rfl, T.ec_NoStar, _, _, true, rfl, fun u hu => hu, T.ki_NoStar, k H2 fun b o e => s2 _ _ (s1 _ _ e)⟩
def spIsInt : Sp := fun vs H Q _ => ∃ v, vs = [v] ∧ ((∃ i, v = .int i ∧ Q (.bl true) H) ∨ (∃ x, v = .str x ∧ Q (.bl false) H) ∨ (∃ b, v = .bl b ∧ Q (.bl false) H))
def spIsPair : Sp := fun vs H Q _ => ∃ v, vs = [v] ∧ ((∃ p xs, v = .ref p ∧ H p = some (.tup xs) ∧ Q (.bl (decide (xs.length = 2))) H) ∨ (∃ p xs, v = .ref p ∧ H p = some (.lst xs) ∧ Q (.bl false) H) ∨ (∃ i, v = .int i ∧ Q (.bl false) H))
theorem ok_is_integer  {f : Addr} {fd : FuncData} (F : Fun K "is_integer" "is_integer" s_is_integer f fd) (T : Txt K mg ad) : FnOk P w K mg base (L2.CX P w) 1 f fd ["thing"] (spIsInt) := by
  refine F.okX sc_is_integer (fun vs H Q E => ?_) (fun cdv A outer s H vs Q E hr h => ?_)
  · walk_at "len"
  ·
    obtain ⟨v, rfl, h⟩ := h
    refine ⟨_, (pss_one (ps_ret (pe_and (pe_callB call_isi (by rfl) T.z_isinstance (by decide +kernel) (pa_cons (pv 0) (pa_cons (pe_bltn (v := .ty "int") (by rfl) T.z_int (by decide +kernel) rfl) pa_nil))) (pe_one (pe_not (pe_callB call_isi (by rfl) T.z_isinstance (by decide +kernel) (pa_cons (pv 0) (pa_cons (pe_bltn (v := .ty "bool") (by rfl) T.z_bool (by decide +kernel) rfl) pa_nil)))))))), ?_⟩
    rcases h with ⟨i, rfl, k⟩ | ⟨x, rfl, k⟩ | ⟨b, rfl, k⟩
    · refine ⟨_, rfl, _, _, _, _, true, rfl, .ty _, .base (.int i), kit_ty (by decide +kernel), true, rfl, iteT ?_⟩
      exact ⟨_, rfl, _, _, _, _, false, rfl, .ty _, .base (.int i), kit_ty (by decide +kernel), false, rfl, k⟩
    · exact ⟨_, rfl, _, _, _, _, false, rfl, .ty _, .base (.str x), kit_ty (by decide +kernel), false, rfl, iteF k⟩
    · refine ⟨_, rfl, _, _, _, _, true, rfl, .ty _, .base (.bl b), kit_ty (by decide +kernel), true, rfl, iteT ?_⟩
      exact ⟨_, rfl, _, _, _, _, true, rfl, .ty _, .base (.bl b), kit_ty (by decide +kernel), true, rfl, k⟩
theorem ok_law_is_int  {f : Addr} {fd : FuncData} (F : Fun K "_law_is_int" "_law_is_int" s_law_is_int f fd) (T : Txt K mg ad) : FnOk P w K mg base (L2.CX P w) 1 f fd ["value"] (spIsInt) := by
  refine F.okX sc_law_is_int (fun vs H Q E => ?_) (fun cdv A outer s H vs Q E hr h => ?_)
  · walk_at "len"
  ·
    obtain ⟨v, rfl, h⟩ := h
    refine ⟨_, (pss_one (ps_ret (pe_and (pe_callB call_isi (by rfl) T.z_isinstance (by decide +kernel) (pa_cons (pv 0) (pa_cons (pe_bltn (v := .ty "int") (by rfl) T.z_int (by decide +kernel) rfl) pa_nil))) (pe_one (pe_not (pe_callB call_isi (by rfl) T.z_isinstance (by decide +kernel) (pa_cons (pv 0) (pa_cons (pe_bltn (v := .ty "bool") (by rfl) T.z_bool (by decide +kernel) rfl) pa_nil)))))))), ?_⟩
    rcases h with ⟨i, rfl, k⟩ | ⟨x, rfl, k⟩ | ⟨b, rfl, k⟩
    · refine ⟨_, rfl, _, _, _, _, true, rfl, .ty _, .base (.int i), kit_ty (by decide +kernel), true, rfl, iteT ?_⟩
      exact ⟨_, rfl, _, _, _, _, false, rfl, .ty _, .base (.int i), kit_ty (by decide +kernel), false, rfl, k⟩
    · exact ⟨_, rfl, _, _, _, _, false, rfl, .ty _, .base (.str x), kit_ty (by decide +kernel), false, rfl, iteF k⟩
    · refine ⟨_, rfl, _, _, _, _, true, rfl, .ty _, .base (.bl b), kit_ty (by decide +kernel), true, rfl, iteT ?_⟩
      exact ⟨_, rfl, _, _, _, _, true, rfl, .ty _, .base (.bl b), kit_ty (by decide +kernel), true, rfl, k⟩
theorem ok_is_pair  {f : Addr} {fd : FuncData} (F : Fun K "is_pair" "is_pair" s_is_pair f fd) (T : Txt K mg ad) : FnOk P w K mg base (L2.CX P w) 1 f fd ["thing"] (spIsPair) := by
  refine F.okX sc_is_pair (fun vs H Q E => ?_) (fun cdv A outer s H vs Q E hr h => ?_)
  · walk_at "len"
  ·
    obtain ⟨v, rfl, h⟩ := h
    refine ⟨_, (pss_one (ps_ret (pe_and (pe_callB call_isi (by rfl) T.z_isinstance (by decide +kernel) (pa_cons (pv 0) (pa_cons (pe_bltn (v := .ty "tuple") (by rfl) T.z_tuple (by decide +kernel) rfl) pa_nil))) (pe_one (pe_cmpR op_eq (pe_callB call_len (by rfl) T.z_len (by decide +kernel) (pa_cons (pv 0) pa_nil)) pe_int (nomark _)))))), ?_⟩
    rcases h with ⟨p, xs, rfl, e, k⟩ | ⟨p, xs, rfl, e, k⟩ | ⟨i, rfl, k⟩
    · refine ⟨_, rfl, _, _, _, _, true, rfl, .ty _, .base (.tup e), kit_ty (by decide +kernel), true, rfl, iteT ?_⟩
      refine ⟨_, rfl, .ref p, _, rfl, .inr ⟨_, SqT.of e, rfl⟩, rfl, ?_⟩
      rw [show decide (V.int (xs.length : Int) = V.int 2) = decide (xs.length = 2) from decide_eq_decide.mpr ⟨fun z => by injection z with z; omega, fun z => by rw [z]; rfl⟩]
      exact k
    · exact ⟨_, rfl, _, _, _, _, false, rfl, .ty _, .base (.lst e), kit_ty (by decide +kernel), false, rfl, iteF k⟩
    · exact ⟨_, rfl, _, _, _, _, false, rfl, .ty _, .base (.int i), kit_ty (by decide +kernel), false, rfl, iteF k⟩
inductive ElS (H : Hp) : V → Bool → Prop
  | pair {p : Addr} {i j : Int} : H p = some (.tup [.int i, .int j]) → ElS H (.ref p) true
  | one {p : Addr} {x : V} : H p = some (.tup [x]) → ElS H (.ref p) false
  | lst {p : Addr} {xs : List V} : H p = some (.lst xs) → ElS H (.ref p) false
  | int (i : Int) : ElS H (.int i) false
  | str2 {p : Addr} {i : Int} {x : Str} : H p = some (.tup [.int i, .str x]) → ElS H (.ref p) false
  | bl2 {p : Addr} {b : Bool} {x : V} : H p = some (.tup [.bl b, x]) → ElS H (.ref p) false
def spElS (C : Addr) : Sp := fun vs H Q _ => ∃ r dx v b, vs = [.ref r, v] ∧ H r = some (.ins C dx []) ∧ ElS H v b ∧ Q (.bl b) H
theorem ok_Slopes_is_element (c_is_pair : CalX P w K mg base 1 "is_pair" spIsPair) (c_is_integer : CalX P w K mg base 1 "is_integer" spIsInt) {f : Addr} {fd : FuncData} (F : Fun K "is_element" "Slopes.is_element" s_Slopes_is_element f fd) (T : Txt K mg ad) : FnOk P w K mg base (L2.CX P w) 2 f fd ["self", "a"] (spElS ad.Slopes) := by
  refine F.okX sc_Slopes_is_element (fun vs H Q E => ?_) (fun cdv A outer s H vs Q E hr h => ?_)
  · walk_at "len"
  ·
    obtain ⟨r, dx, v, b, rfl, hr0, he, k⟩ := h
    refine ⟨_, (pss_one (ps_ret (pe_and (pc_call c_is_pair hr (by first | decide | omega) (takes_of rfl rfl rfl rfl) (by rfl) (pa_cons (pv 1) pa_nil)) (pe_and (pc_call c_is_integer hr (by first | decide | omega) (takes_of rfl rfl rfl rfl) (by rfl) (pa_cons (pe_ix ix_tup (pv 1) pe_int (fun _ _ => rfl)) pa_nil)) (pe_one (pc_call c_is_integer hr (by first | decide | omega) (takes_of rfl rfl rfl rfl) (by rfl) (pa_cons (pe_ix ix_tup (pv 1) pe_int (fun _ _ => rfl)) pa_nil))))))), ?_⟩
    cases he with
    | @pair p i j e =>
      refine ⟨_, rfl, _, rfl, .inl ⟨p, _, rfl, e, true, rfl, iteT ?_⟩⟩
      refine ⟨_, rfl, p, _, _, _, rfl, rfl, SqT.of e, at_of (j := 0) rfl rfl, _, rfl, .inl ⟨i, rfl, true, rfl, iteT ?_⟩⟩
      exact ⟨_, rfl, p, _, _, _, rfl, rfl, SqT.of e, at_of (j := 1) rfl rfl, _, rfl, .inl ⟨j, rfl, k⟩⟩
    | @one p x e => exact ⟨_, rfl, _, rfl, .inl ⟨p, _, rfl, e, false, rfl, iteF k⟩⟩
    | @lst p xs e => exact ⟨_, rfl, _, rfl, .inr (.inl ⟨p, _, rfl, e, false, rfl, iteF k⟩)⟩
    | int i => exact ⟨_, rfl, _, rfl, .inr (.inr ⟨i, rfl, false, rfl, iteF k⟩)⟩
    | @str2 p i x e =>
      refine ⟨_, rfl, _, rfl, .inl ⟨p, _, rfl, e, true, rfl, iteT ?_⟩⟩
      refine ⟨_, rfl, p, _, _, _, rfl, rfl, SqT.of e, at_of (j := 0) rfl rfl, _, rfl, .inl ⟨i, rfl, true, rfl, iteT ?_⟩⟩
      exact ⟨_, rfl, p, _, _, _, rfl, rfl, SqT.of e, at_of (j := 1) rfl rfl, _, rfl, .inr (.inl ⟨x, rfl, k⟩)⟩
    | @bl2 p b x e =>
      refine ⟨_, rfl, _, rfl, .inl ⟨p, _, rfl, e, true, rfl, iteT ?_⟩⟩
      exact ⟨_, rfl, p, _, _, _, rfl, rfl, SqT.of e, at_of (j := 0) rfl rfl, _, rfl, .inr (.inr ⟨b, rfl, false, rfl, iteF k⟩)⟩
def spStarS (C : Addr) : Sp := fun vs H Q _ => ∃ r dx p, vs = [.ref r, .ref p] ∧ H r = some (.ins C dx []) ∧ H p = some (.tup [.int 0, .int 0]) ∧ ∀ H' v, Same H H' → Rs H' (1, 0) v → Q v H'
theorem ok_Slopes_star  {f : Addr} {fd : FuncData} (F : Fun K "star" "Slopes.star" s_Slopes_star f fd) (T : Txt K mg ad) : FnOk P w K mg base (L2.CX P w) 2 f fd ["self", "a"] (spStarS ad.Slopes) := by
  refine F.okX sc_Slopes_star (fun vs H Q E => ?_) (fun cdv A outer s H vs Q E hr h => ?_)
  · walk_at "len"
  ·
    obtain ⟨r, dx, p, rfl, hr0, hp, k⟩ := h
    refine ⟨_, (pss_cons (ps_if (pt_cmpR (PK.op_neNK hr.units) (pv 1) (pe_tup (pa_cons pe_int (pa_cons pe_int pa_nil))) (nomark _)) (pss_one (ps_raise rfl (takes_of rfl rfl rfl rfl) (pmk_own PySem.F.excBase_ValueError T.x_NoStar T.g_NoStar T.k_NoStar (raises_own T.b_NoStar T.t_NoStar) (by rfl)))) pss_nil)
      (pss_one (ps_ret (pe_tup (pa_cons pe_int (pa_cons pe_int pa_nil)))))), ?_⟩
    refine ⟨_, rfl, (show 2 ≤ sizeLine by decide), fun q hq => ?_⟩
    have s1 := same_new (o := .tup [.int 0, .int 0]) (Same.refl H) hq
    have ky : ∀ {H' : Hp} {b : Addr}, H' b = some (.tup [.int 0, .int 0]) → Ky H' (.tup [.num 0, .num 0]) (.ref b) := fun e => .tup e (.cons (.int _) (.cons (.int _) .nil))
    refine ⟨.tup [.num 0, .num 0], .tup [.num 0, .num 0], ky (s1 _ _ hp), ky upd_same, by decide +kernel, by decide +kernel, by decide +kernel, by decide +kernel, _, rfl, ?_⟩
    rw [if_pos rfl, decide_eq_true rfl]
    refine iteF (go_next ⟨(show 2 ≤ sizeLine by decide), fun t ht => k _ _ (fun b o e => same_new (Same.refl _) ht _ _ (s1 _ _ e)) ⟨t, rfl, upd_same⟩⟩)
end
end K34

set_option Elab.async false
set_option linter.all false
set_option maxRecDepth 100000
set_option maxHeartbeats 4000000
/-! x is True, x is False, x a bool or an object -/
namespace L2
open PySem PySem.Spec PyProof.Rows
def rIsVB : R2 := fun x y H Q => ∃ b : Bool, y = .bl b ∧ ((∃ a : Bool, x = .bl a ∧ Q (.bl (decide (a = b))) H) ∨ (∃ p, x = .ref p ∧ Q (.bl false) H))
def rNotVB : R2 := fun x y H Q => ∃ b : Bool, y = .bl b ∧ ((∃ a : Bool, x = .bl a ∧ Q (.bl (!decide (a = b))) H) ∨ (∃ p, x = .ref p ∧ Q (.bl true) H))
section
variable {X : Cx}
theorem op_isVB : OpR X (compareOp .Is) rIsVB := by
  intro pins s σ H x y v u Q I rx ry h
  obtain ⟨b, rfl, h⟩ := h
  rcases h with ⟨a, rfl, q⟩ | ⟨p, rfl, q⟩
  · exact op_isBl pins s σ H _ _ v u Q I rx ry ⟨a, b, rfl, rfl, q⟩
  · cases rx
    cases ry
    exact wpAny_is_other rfl (fun z => nomatch z) ⟨.bl false, H, I, rfl, q⟩
theorem op_notVB : OpR X (compareOp .IsNot) rNotVB := by
  intro pins s σ H x y v u Q I rx ry h
  obtain ⟨b, rfl, h⟩ := h
  rcases h with ⟨a, rfl, q⟩ | ⟨p, rfl, q⟩
  · exact op_notBl pins s σ H _ _ v u Q I rx ry ⟨a, b, rfl, rfl, q⟩
  · cases rx
    cases ry
    exact wpAny_isNot_other rfl (fun z => nomatch z) ⟨.bl true, H, I, rfl, q⟩
end
end L2

set_option Elab.async false
set_option linter.all false
set_option maxRecDepth 100000
set_option maxHeartbeats 4000000
namespace K34
open PySem L2 Ew Tb GxR ND PM NI PK
local macro_rules | `(tactic| walk_at "len") => `(tactic| first | (intro h; obtain ⟨_, e, _⟩ := h; rw [e]; rfl) | (intro h; obtain ⟨_, _, e, _⟩ := h; rw [e]; rfl) | (intro h; obtain ⟨_, _, _, e, _⟩ := h; rw [e]; rfl) | (intro h; obtain ⟨_, _, _, _, e, _⟩ := h; rw [e]; rfl) | (intro h; obtain ⟨_, _, _, _, _, e, _⟩ := h; rw [e]; rfl) | (intro h; obtain ⟨_, _, _, _, _, _, e, _⟩ := h; rw [e]; rfl) | (intro h; obtain ⟨_, _, _, _, _, _, _, e, _⟩ := h; rw [e]; rfl) | (intro h; obtain ⟨_, _, _, _, _, _, _, _, e, _⟩ := h; rw [e]; rfl) | (intro h; obtain ⟨_, _, _, _, _, _, _, _, _, e, _⟩ := h; rw [e]; rfl) | (intro h; obtain ⟨_, _, _, _, _, _, _, _, _, _, e, _⟩ := h; rw [e]; rfl) | (intro h; obtain ⟨_, _, _, _, _, _, _, _, _, _, _, e, _⟩ := h; rw [e]; rfl) | (intro h; obtain ⟨_, _, _, _, _, _, _, _, _, _, _, _, e, _⟩ := h; rw [e]; rfl) | (intro h; obtain ⟨_, _, _, _, _, _, _, _, _, _, _, _, _, e, _⟩ := h; rw [e]; rfl))
local macro_rules | `(tactic| walk_at "len") => `(tactic| first | (intro h; obtain ⟨_, _, _, _, _, _, _, _, e, _⟩ := h; rw [e]; rfl) | (intro h; obtain ⟨_, _, _, _, _, _, _, _, _, e, _⟩ := h; rw [e]; rfl) | (intro h; obtain ⟨_, _, _, _, _, _, _, _, _, _, e, _⟩ := h; rw [e]; rfl) | (intro h; obtain ⟨_, _, _, _, _, _, _, _, _, _, _, e, _⟩ := h; rw [e]; rfl) | (intro h; obtain ⟨_, _, _, _, _, _, _, _, _, _, _, _, e, _⟩ := h; rw [e]; rfl) | (intro h; obtain ⟨_, _, _, _, _, _, _, _, _, _, _, _, _, e, _⟩ := h; rw [e]; rfl) | (intro h; obtain ⟨_, _, _, _, _, _, _, _, _, _, _, _, _, _, e, _⟩ := h; rw [e]; rfl) | (intro h; obtain ⟨_, _, _, _, _, _, _, _, _, _, _, _, _, _, _, e, _⟩ := h; rw [e]; rfl) | (intro h; obtain ⟨_, _, _, _, _, _, _, _, _, _, _, _, _, _, _, _, e, _⟩ := h; rw [e]; rfl) | (intro h; obtain ⟨_, _, _, _, _, _, _, _, _, _, _, _, _, _, _, _, _, e, _⟩ := h; rw [e]; rfl))
section
variable {P : Program} {w : World} {K : PySem.W.Frag} {mg : Str → Option Value} {base : Heap} {ad : Ad}
theorem pt_deg {tbl : List Nd} (g : NdOk tbl) : ∀ m, m < tbl.length → ∀ t ∈ PT tbl m, deg t.1 ≤ SZ tbl m := by
  intro m
  induction m using Nat.strongRecOn with
  | ind m ih =>
    intro hm
    have hnd := List.getElem?_eq_getElem hm
    generalize tbl[m] = nd at hnd
    cases nd with
    | zero => rw [SZ, PT, at_leaf g hnd (A := SA) (x := 1) (fun v => rfl), at_leaf g hnd (A := PA) (x := []) (fun v => rfl)]; exact fun t ht => nomatch ht
    | one => rw [SZ, PT, at_leaf g hnd (A := SA) (x := 1) (fun v => rfl), at_leaf g hnd (A := PA) (x := [([], 1)]) (fun v => rfl)]; exact fun t ht => by rw [List.mem_singleton.mp ht]; exact Nat.zero_le _
    | fact q => rw [SZ, PT, at_leaf g hnd (A := SA) (x := 1) (fun v => rfl), at_leaf g hnd (A := PA) (x := varP q) (fun v => rfl)]; exact fun t ht => by rw [List.mem_singleton.mp ht]; exact Nat.le_refl 1
    | star p => exact absurd (g.fk.nf _ (List.mem_of_getElem? hnd)) (fun z => z)
    | plus ps =>
      obtain ⟨p, q, rfl, hp, hq⟩ := two_parts g hnd (.inl rfl)
      have e : PT tbl m = PT tbl p ++ PT tbl q := (at_two (A := PA) (d := []) g hnd hp hq).1 rfl
      have e2 : SZ tbl m = 1 + (SZ tbl p + (SZ tbl q + 0)) := (at_two (A := SA) (d := 0) g hnd hp hq).1 rfl
      intro t ht
      rw [e] at ht
      rcases List.mem_append.mp ht with h | h
      · have := ih p hp (by omega) t h; omega
      · have := ih q hq (by omega) t h; omega
    | times ps =>
      obtain ⟨p, q, rfl, hp, hq⟩ := two_parts g hnd (.inr rfl)
      have e : PT tbl m = tmul (PT tbl p) (PT tbl q) := (at_two (A := PA) (d := []) g hnd hp hq).2 rfl
      have e2 : SZ tbl m = 1 + (SZ tbl p + (SZ tbl q + 0)) := (at_two (A := SA) (d := 0) g hnd hp hq).2 rfl
      intro t ht
      rw [e] at ht
      obtain ⟨x, hx, h⟩ := List.mem_flatMap.mp ht
      obtain ⟨y, hy, rfl⟩ := List.mem_map.mp h
      have h1 := ih p hp (by omega) x hx
      have h2 := ih q hq (by omega) y hy
      show deg (mmul x.1 y.1) ≤ _
      rw [deg_mmul]
      omega
/-- the terms of a form are bounded -/
theorem form_bd {tbl : List Nd} (g : NdOk tbl) (hl : tbl.length ≤ 16) {m : Nat} (hm : m < tbl.length) {p : Terms} (pc : PC p) (co : ∀ n, coef p n = coef (PT tbl m) n) : ∀ t ∈ p, (∀ x ∈ t.1, x.1 < 4) ∧ deg t.1 ≤ 100000 ∧ t.2 < 2 ^ 100000 := fun t ht => by
  obtain ⟨c, hc⟩ := mono_in pc co t ht
  have b := pt_bd g m hm
  have hd := pt_deg g m hm _ hc
  have hs := (sz_lt g m hm).1
  have h16 : 2 ^ (m + 1) ≤ 2 ^ 16 := Nat.pow_le_pow_right (by decide) (by omega)
  have h17 : (2 : Nat) ^ 16 = 65536 := by decide
  refine ⟨(b.mc _ hc).2, by have : deg t.1 ≤ SZ tbl m := hd; omega, ?_⟩
  have h1 := tot_mem ht
  rw [tot_of co] at h1
  exact Nat.lt_of_le_of_lt h1 (Nat.lt_of_lt_of_le b.tot (Nat.pow_le_pow_right (by decide) (by omega)))
def kvI (ws : List Int) : List (Key × V) := (List.range ws.length).map fun (k : Nat) => (.inl (k : Int), .int (ws.getD k 0))
theorem kvI_snoc (ws : List Int) (x : Int) : kvI (ws ++ [x]) = kvI ws ++ [(.inl (ws.length : Int), .int x)] := by
  unfold kvI
  rw [List.length_append, List.length_singleton, List.range_succ, List.map_append]
  congr 1
  · refine List.map_congr_left fun k hk => ?_
    have hk := List.mem_range.mp hk
    rw [List.getD_eq_getElem?_getD, List.getD_eq_getElem?_getD, List.getElem?_append_left hk]
  · show [((.inl (ws.length : Int), .int ((ws ++ [x]).getD ws.length 0)) : Key × V)] = _
    rw [List.getD_eq_getElem?_getD, List.getElem?_append_right (Nat.le_refl _), Nat.sub_self]
    rfl
theorem merge4 {ws : List Int} (h : ws.length = 4) : ∀ k : Nat, k < 4 → valV (mergeK [] (kvI ws)) (.inl (k : Int)) = some (.int (ws.getD k 0)) := by
  rcases ws with _ | ⟨a, _ | ⟨b, _ | ⟨c, _ | ⟨d, _ | ⟨e, ws⟩⟩⟩⟩⟩
  · cases h
  · cases h
  · cases h
  · cases h
  · intro k hk
    rcases k with _ | _ | _ | _ | k
    · rfl
    · rfl
    · rfl
    · rfl
    · omega
  · simp at h
theorem ins_at (tbl : List Nd) (nd : Nd) : (insN tbl nd)[(insN tbl nd).idxOf nd]? = some nd := by
  rw [List.getElem?_eq_getElem (ins_idx tbl nd)]
  exact congrArg some (List.getElem_idxOf (ins_idx tbl nd))
theorem ins_old {tbl : List Nd} {nd x : Nd} {i : Nat} (h : tbl[i]? = some x) : (insN tbl nd)[i]? = some x := by
  unfold insN
  split
  · exact h
  · rw [List.getElem?_append_left (List.getElem?_eq_some_iff.mp h).1]; exact h
theorem idx_ne0 {tbl : List Nd} {nd : Nd} (z0 : tbl[0]? = some .zero) (h : nd ≠ .zero) : (insN tbl nd).idxOf nd ≠ 0 := fun e => by
  have h1 := ins_at tbl nd
  rw [e, ins_old z0] at h1
  exact h (Option.some.inj h1).symm
def kI (a : Int × Int) : NestedKey := .tup [.num a.1, .num a.2]
theorem nk_eq {H : Hp} {x y : V} {a b : Int × Int} {Q : VK} (ha : Rs H a x) (hb : Rs H b y) (e : a = b) (q : Q (.bl false) H) : rNK true x y H Q := by
  subst e
  obtain ⟨p, rfl, hp⟩ := ha
  obtain ⟨q0, rfl, hq⟩ := hb
  refine ⟨kI a, kI a, .tup hp (.cons (.int _) (.cons (.int _) .nil)), .tup hq (.cons (.int _) (.cons (.int _) .nil)), by simp [kI, numK, numKs], by simp [kI, numK, numKs], by simp [kI, NestedKey.depth, NestedKey.depthAll], by simp [kI, NestedKey.depth, NestedKey.depthAll], ?_⟩
  rw [if_pos rfl, decide_eq_true rfl]
  exact q
theorem sm_dist (a b c : Int × Int) : sMul a (sAdd b c) = sAdd (sMul a b) (sMul a c) := by
  unfold sMul sAdd
  refine Prod.ext ?_ ?_
  · show a.1 * (b.1 + c.1) = a.1 * b.1 + a.1 * c.1; rw [Int.mul_add]
  · show a.1 * (b.2 + c.2) + a.2 * (b.1 + c.1) = a.1 * b.2 + a.2 * b.1 + (a.1 * c.2 + a.2 * c.1); rw [Int.mul_add, Int.mul_add]; omega
theorem sm_comm (a b : Int × Int) : sMul a b = sMul b a := by
  unfold sMul
  refine Prod.ext (Int.mul_comm _ _) ?_
  show a.1 * b.2 + a.2 * b.1 = b.1 * a.2 + b.2 * a.1
  rw [Int.mul_comm a.1, Int.mul_comm a.2, Int.add_comm]
theorem sm_assoc (a b c : Int × Int) : sMul a (sMul b c) = sMul (sMul a b) c := by
  unfold sMul
  refine Prod.ext ?_ ?_
  · show a.1 * (b.1 * c.1) = a.1 * b.1 * c.1; rw [Int.mul_assoc]
  · show a.1 * (b.1 * c.2 + b.2 * c.1) + a.2 * (b.1 * c.1) = a.1 * b.1 * c.2 + (a.1 * b.2 + a.2 * b.1) * c.1
    rw [Int.mul_add, Int.add_mul, Int.mul_assoc, Int.mul_assoc, Int.mul_assoc]; omega
theorem sa_zero (a : Int × Int) : sAdd a (0, 0) = a := by unfold sAdd; exact Prod.ext (Int.add_zero _) (Int.add_zero _)
theorem sm_one (a : Int × Int) : sMul a (1, 0) = a := by
  unfold sMul
  refine Prod.ext (Int.mul_one _) ?_
  show a.1 * 0 + a.2 * 1 = a.2
  rw [Int.mul_zero, Int.mul_one, Int.zero_add]
theorem ok_of {s u : Nat} {a b : Int × Int} (x : bdS s a) (y : bdS u b) (h : s + u + 2 ≤ 1000000) : okSt a b := ⟨s + 1, u + 1, (x.up (Nat.le_succ s)).1, (x.up (Nat.le_succ s)).2, (y.up (Nat.le_succ u)).1, (y.up (Nat.le_succ u)).2, Nat.succ_pos _, Nat.succ_pos _, by omega⟩
def spLaw (K : PySem.W.Frag) : Sp := fun vs H Q _ => ∃ (a : Addr) (ns : List Int), vs = [.ref a] ∧ SqL K H a (ns.map V.int) ∧ ns.length ≤ 63 ∧ ∀ H', Q (.bl true) H'
theorem ok_law (c_law_pot : CalX P w K mg base 1 "_law_pot" (spPot K)) (c_law_next : CalX P w K mg base 1 "_law_next" spNext) (mCirc : MakX P w K mg base 1 "Circuits" ad.Circuits (spInit P w ad.Circuits)) (c_law_grown : CalX P w K mg base 5 "_law_grown" (spGrown P w ad.Circuits)) (c_law_form : CalX P w K mg base 13 "_law_form" (spForm P w ad)) (c_slope : CalX P w K mg base 11 "slope" (spSlope P w ad)) (c_law_is_int : CalX P w K mg base 1 "_law_is_int" spIsInt) (c_law_due : CalX P w K mg base 3 "_law_due" spDue) (mkS : Mk0 K mg "Slopes" ad.Slopes) (c_law_refused : CalX P w K mg base 13 "_law_refused" (spRef P w ad)) (m_fact : MetX P w K mg base 4 ad.Circuits "fact" (spFact P w ad.Circuits)) (m_star : MetX P w K mg base 4 ad.Circuits "star" (spStar P w ad.Circuits)) (m_szero : MetX P w K mg base 3 ad.Slopes "zero" (spNulR Rs ad.Slopes (0, 0))) (m_sone : MetX P w K mg base 3 ad.Slopes "one" (spNulR Rs ad.Slopes (1, 0))) (m_splus : MetX P w K mg base 3 ad.Slopes "plus" (spBinR none Rs ad.Slopes okSp sAdd)) (m_stimes : MetX P w K mg base 3 ad.Slopes "times" (spBinR none Rs ad.Slopes okSt sMul)) (m_sstar : MetX P w K mg base 3 ad.Slopes "star" (spStarS ad.Slopes)) (m_selem : MetX P w K mg base 3 ad.Slopes "is_element" (spElS ad.Slopes)) {f : Addr} {fd : FuncData} (F : Fun K "law" "law" s_law f fd) (T : Txt K mg ad) : FnOk P w K mg base (L2.CX P w) 101 f fd ["script"] (spLaw K) := by
  refine F.okX sc_law (fun vs H Q E => ?_) (fun cdv A outer s H vs Q E hr h => ?_)
  · walk_at "len"
  ·
    obtain ⟨a, ns, rfl, hS, hl, k⟩ := h
    refine ⟨_, (pss_cons (ps_set (i := 1) sc_law.nd rfl (by first | exact Or.inl rfl | exact Or.inr rfl) (pc_call c_law_pot hr (by first | decide | omega) (takes_of rfl rfl rfl rfl) (by rfl) (pa_cons (pv 0) pa_nil)))
      (pss_cons (ps_set (i := 2) sc_law.nd rfl (by first | exact Or.inl rfl | exact Or.inr rfl) (pd_make0 hr (takes_of rfl rfl rfl rfl) (by rfl)))
      (pss_cons (ps_set (i := 3) sc_law.nd rfl (by first | exact Or.inl rfl | exact Or.inr rfl) (pc_call c_law_grown hr (by first | decide | omega) (takes_of rfl rfl rfl rfl) (by rfl) (pa_cons (pv 1) (pa_cons (pv 2) (pa_cons pe_int (pa_cons pe_bl pa_nil))))))
      (pss_cons (ps_set (i := 4) sc_law.nd rfl (by first | exact Or.inl rfl | exact Or.inr rfl) (pe_callTy (call_dictP rfl) (by rfl) T.z_dict (by decide +kernel) (pa_cons (pe_lc (own := [("fact", 8)]) (tt := tYes) rfl sc_law.nd (pi_range1 (by rfl) T.z_range (pa_cons pe_int pa_nil)) (blkOk_by (by kernel_rfl)) (fun _ _ _ _ _ => (pg_name (i := 8) sc_law.nd rfl (by first | exact Or.inl rfl | exact Or.inr rfl))) (fun _ _ _ _ _ => pts_nil) (fun _ _ _ _ _ => (pe_tup (pa_cons (pv 8) (pa_cons (pe_op op_sub (pc_call c_law_next hr (by first | decide | omega) takes0 (by rfl) (pa_cons (pv 1) (pa_cons pe_int pa_nil))) pe_int) pa_nil))))) pa_nil)))
      (pss_cons (ps_for (passes_of rfl) rfl (pi_range1 (by rfl) T.z_range (pa_cons pe_int pa_nil)) (pg_name (i := 5) sc_law.nd rfl (by first | exact Or.inl rfl | exact Or.inr rfl)) (pss_cons (ps_set (i := 6) sc_law.nd rfl (by first | exact Or.inl rfl | exact Or.inr rfl) (pe_ix ix_list (pv 3) (pe_op op_sub (pe_op op_sub (pe_callB call_len (by rfl) T.z_len (by decide +kernel) (pa_cons (pv 3) pa_nil)) pe_int) (pc_call c_law_next hr (by first | decide | omega) (takes_of rfl rfl rfl rfl) (by rfl) (pa_cons (pv 1) (pa_cons (pe_callB (call_min2 rfl) (by rfl) T.z_min (by decide +kernel) (pa_cons pe_int (pa_cons (pe_callB call_len (by rfl) T.z_len (by decide +kernel) (pa_cons (pv 3) pa_nil)) pa_nil))) pa_nil)))) (fun _ _ => rfl)))
      (pss_cons (ps_set (i := 7) sc_law.nd rfl (by first | exact Or.inl rfl | exact Or.inr rfl) (pc_call c_law_form hr (by first | decide | omega) (takes_of rfl rfl rfl rfl) (by rfl) (pa_cons (pv 2) (pa_cons (pv 6) pa_nil))))
      (pss_cons (ps_if (pt_cmpR op_isVB (pv 7) pe_bl (nomark _)) (pss_one (ps_ret pe_bl)) pss_nil)
      (pss_one (ps_if (pt_cmpR op_notVB (pv 7) pe_bl (nomark _)) (pss_one (ps_for (passes_of rfl) rfl (pi_range1 (by rfl) T.z_range (pa_cons pe_int pa_nil)) (pg_name (i := 8) sc_law.nd rfl (by first | exact Or.inl rfl | exact Or.inr rfl)) (pss_cons (ps_set (i := 9) sc_law.nd rfl (by first | exact Or.inl rfl | exact Or.inr rfl) (pc_call c_slope hr (by first | decide | omega) (takes_of rfl rfl rfl rfl) (by rfl) (pa_cons (pv 2) (pa_cons (pv 6) (pa_cons (pv 8) (pa_cons (pv 4) pa_nil))))))
      (pss_one (ps_if (PW.pt (pw_or (pt_not (pt_val (pc_call c_law_is_int hr (by first | decide | omega) (takes_of rfl rfl rfl rfl) (by rfl) (pa_cons (pv 9) pa_nil)))) (pw_or1 (pt_cmpR op_ne (pv 9) (pc_call c_law_due hr (by first | decide | omega) (takes_of rfl rfl rfl rfl) (by rfl) (pa_cons (pv 7) (pa_cons (pv 8) (pa_cons (pv 4) pa_nil)))) (nomark _))))) (pss_one (ps_ret pe_bl)) pss_nil))))) pss_nil))))))
      (pss_cons (ps_set (i := 10) sc_law.nd rfl (by first | exact Or.inl rfl | exact Or.inr rfl) (pd_new0 (by rfl)))
      (pss_cons (ps_asg (pe_lc (own := [("k", 5)]) (tt := tYes) rfl sc_law.nd (pi_range1 (by rfl) T.z_range (pa_cons pe_int pa_nil)) (blkOk_by (by kernel_rfl)) (fun _ _ _ _ _ => (pg_name (i := 5) sc_law.nd rfl (by first | exact Or.inl rfl | exact Or.inr rfl))) (fun _ _ _ _ _ => pts_nil) (fun _ _ _ _ _ => (pe_tup (pa_cons (pe_op op_sub (pc_call c_law_next hr (by first | decide | omega) takes0 (by rfl) (pa_cons (pv 1) (pa_cons pe_int pa_nil))) pe_int) (pa_cons (pe_op op_sub (pc_call c_law_next hr (by first | decide | omega) takes0 (by rfl) (pa_cons (pv 1) (pa_cons pe_int pa_nil))) pe_int) pa_nil))))) (pg_lst rfl (pgs_cons (pg_name (i := 11) sc_law.nd rfl (by first | exact Or.inl rfl | exact Or.inr rfl)) (pgs_cons (pg_name (i := 12) sc_law.nd rfl (by first | exact Or.inl rfl | exact Or.inr rfl)) (pgs_cons (pg_name (i := 13) sc_law.nd rfl (by first | exact Or.inl rfl | exact Or.inr rfl)) pgs_nil)))))
      (pss_cons (ps_if (PW.pt (pw_or (pt_cmpR (PK.op_neNK hr.units) (pd_meth hr (takes_of rfl rfl rfl rfl) (pv 10) (pa_cons (pv 11) (pa_cons (pd_meth hr (takes_of rfl rfl rfl rfl) (pv 10) (pa_cons (pv 12) (pa_cons (pv 13) pa_nil))) pa_nil))) (pd_meth hr (takes_of rfl rfl rfl rfl) (pv 10) (pa_cons (pd_meth hr (takes_of rfl rfl rfl rfl) (pv 10) (pa_cons (pv 11) (pa_cons (pv 12) pa_nil))) (pa_cons (pd_meth hr (takes_of rfl rfl rfl rfl) (pv 10) (pa_cons (pv 11) (pa_cons (pv 13) pa_nil))) pa_nil))) (nomark _)) (pw_or1 (pt_cmpR (PK.op_neNK hr.units) (pd_meth hr (takes_of rfl rfl rfl rfl) (pv 10) (pa_cons (pv 11) (pa_cons (pv 12) pa_nil))) (pd_meth hr (takes_of rfl rfl rfl rfl) (pv 10) (pa_cons (pv 12) (pa_cons (pv 11) pa_nil))) (nomark _))))) (pss_one (ps_ret pe_bl)) pss_nil)
      (pss_cons (ps_if (PW.pt (pw_or (pt_cmpR (PK.op_neNK hr.units) (pd_meth hr (takes_of rfl rfl rfl rfl) (pv 10) (pa_cons (pv 11) (pa_cons (pd_meth hr (takes_of rfl rfl rfl rfl) (pv 10) (pa_cons (pv 12) (pa_cons (pv 13) pa_nil))) pa_nil))) (pd_meth hr (takes_of rfl rfl rfl rfl) (pv 10) (pa_cons (pd_meth hr (takes_of rfl rfl rfl rfl) (pv 10) (pa_cons (pv 11) (pa_cons (pv 12) pa_nil))) (pa_cons (pv 13) pa_nil))) (nomark _)) (pw_or (pt_cmpR (PK.op_neNK hr.units) (pd_meth hr (takes_of rfl rfl rfl rfl) (pv 10) (pa_cons (pv 11) (pa_cons (pe_tup (pa_cons pe_int (pa_cons pe_int pa_nil))) pa_nil))) (pv 11) (nomark _)) (pw_or1 (pt_cmpR (PK.op_neNK hr.units) (pd_meth hr (takes_of rfl rfl rfl rfl) (pv 10) (pa_cons (pv 11) (pa_cons (pe_tup (pa_cons pe_int (pa_cons pe_int pa_nil))) pa_nil))) (pv 11) (nomark _)))))) (pss_one (ps_ret pe_bl)) pss_nil)
      (pss_cons (ps_if (PW.pt (pw_or (pt_cmpR (PK.op_neNK hr.units) (pd_meth0 hr (takes_of rfl rfl rfl rfl) (pv 10)) (pe_tup (pa_cons pe_int (pa_cons pe_int pa_nil))) (nomark _)) (pw_or (pt_cmpR (PK.op_neNK hr.units) (pd_meth0 hr (takes_of rfl rfl rfl rfl) (pv 10)) (pe_tup (pa_cons pe_int (pa_cons pe_int pa_nil))) (nomark _)) (pw_or (pt_cmpR (PK.op_neNK hr.units) (pd_meth hr (takes_of rfl rfl rfl rfl) (pv 10) (pa_cons (pe_tup (pa_cons pe_int (pa_cons pe_int pa_nil))) pa_nil)) (pe_tup (pa_cons pe_int (pa_cons pe_int pa_nil))) (nomark _)) (pw_or1 (pt_cmpR op_notBl (pd_meth hr (takes_of rfl rfl rfl rfl) (pv 10) (pa_cons (pv 11) pa_nil)) pe_bl (nomark _))))))) (pss_one (ps_ret pe_bl)) pss_nil)
      (pss_one (ps_ret (pe_and (pc_call c_law_refused hr (by first | decide | omega) (takes_of rfl rfl rfl rfl) (by rfl) (pa_cons (pv 2) (pa_cons (pd_meth hr (takes_of rfl rfl rfl rfl) (pv 2) (pa_cons (pd_meth hr (takes_of rfl rfl rfl rfl) (pv 2) (pa_cons pe_int pa_nil)) pa_nil)) pa_nil))) (pe_one (pe_not (pe_callB (cr_any rfl) (by rfl) T.z_any (by decide +kernel) (pa_cons (pe_lc (own := [("x", 14)]) (tt := tYes) rfl sc_law.nd (pi_list (pe_lst (pa_cons (pe_tup (pa_cons pe_int pa_nil)) (pa_cons (pe_lst (pa_cons pe_int (pa_cons pe_int pa_nil))) (pa_cons pe_int (pa_cons (pe_tup (pa_cons pe_int (pa_cons pe_str pa_nil))) (pa_cons (pe_tup (pa_cons pe_bl (pa_cons pe_int pa_nil))) pa_nil))))))) (blkOk_by (by kernel_rfl)) (fun _ _ _ _ _ => (pg_name (i := 14) sc_law.nd rfl (by first | exact Or.inl rfl | exact Or.inr rfl))) (fun _ _ _ _ _ => pts_nil) (fun _ _ _ _ _ => (kpd_meth (P := P) (w := w) (K := K) (mg := mg) (base := base) hr takes0 (pv 10) (pa_cons (pv 14) pa_nil)))) pa_nil))))))))))))))))), ?_⟩
    refine go_seq ⟨_, rfl, a, ns, rfl, hS, hl, fun H1 pot s1 _ p1 => go_name rfl ?_⟩
    obtain ⟨pb, P1⟩ := p1.b_
    refine go_seq ⟨1, ad.Circuits, _, by decide, mCirc, fun c dc hc hdc ndc => ⟨c, dc, rfl, upd_same, fun H5 S D fr5 hS5 hD5 cc5 => ⟨rfl, go_name rfl ?_⟩⟩⟩
    have s5 : Same H1 H5 := fun b o e => fr5 _ _ (ne_of_none e hc) (by rw [upd_ne (ne_of_none e hc), upd_ne (ne_of_none e hdc)]; exact e)
    have none4 : ∀ q, (upd (upd H1 dc (.own c)) c (.ins ad.Circuits dc [])) q = none → H1 q = none := fun q e => by
      cases h : H1 q with
      | none => rfl
      | some u => rw [upd_ne (ne_of_none h hc), upd_ne (ne_of_none h hdc), h] at e; cases e
    obtain ⟨xp, hxp⟩ := P1.ls
    obtain ⟨xb, hxb⟩ := P1.lb
    have pS : pot ≠ S := ne_of_none hxp (none4 _ hS5)
    have bS : pb ≠ S := ne_of_none hxb (none4 _ hS5)
    refine go_seq ⟨_, rfl, _, rfl, pot, pb, c, S, D, rfl, P1.same s5, cc5, pS, bS, fun H6 N tbl nn P6 cc6 nn6 fr6 gd fk lt tl nl hn0 npN nbN hN0 => go_name rfl ?_⟩
    have g : NdOk tbl := ⟨gd, fk⟩
    refine go_seq ⟨_, rfl, by decide, by decide, fun DD hDD => ?_⟩
    obtain ⟨xp6, hxp6⟩ := P6.ls
    obtain ⟨xb6, hxb6⟩ := P6.lb
    have nDp : DD ≠ pot := (ne_of_none hxp6 hDD).symm
    have nDb : DD ≠ pb := (ne_of_none hxb6 hDD).symm
    refine lc_range (lo := 0) (n := 4) (fun i H' => Fr1 pot H6 H' ∧ PotB H' pot pb ∧ ∃ (qs : List Addr) (ws : List Int), H' DD = some (.lst (qs.map V.ref)) ∧ Paired (fun q kv => H' q = some (.tup [kV kv.1, kv.2])) qs (kvI ws) ∧ ws.length = i ∧ ∀ x ∈ ws, x.natAbs ≤ 4) ⟨(Fr1.refl _ _).new hDD, P6.same (same_new (Same.refl _) hDD), [], [], upd_same, .nil, rfl, fun x hx => nomatch hx⟩ (fun i H7 hi ⟨f7, p7, qs, ws, e7, pr7, l7, m7⟩ => ?_) (fun H7 ⟨f7, p7, qs, ws, e7, pr7, l7, m7⟩ => ?_)
    · rw [Int.zero_add]
      obtain ⟨xp7, hxp7⟩ := p7.ls
      refine ⟨rfl, yes_then (iteT ⟨_, rfl, _, rfl, pot, 7, rfl, p7.at_, by decide, by decide, fun H8 r fr8 _ r0 r1 hb8 => ⟨_, _, rfl, rfl, (show 2 ≤ sizeLine by decide), fun q hq => ?_⟩⟩)⟩
      have e8 := fr8 _ _ nDp e7
      have p8 := hb8 _ p7
      have sq : Same H8 (upd H8 q (.tup [.int (i : Int), .int (r - 3)])) := same_new (Same.refl _) hq
      have hqDD : DD ≠ q := ne_of_none e8 hq
      have l7q : qs.length = i := by
        have := Paired.length pr7
        unfold kvI at this
        rw [List.length_map, List.length_range] at this
        omega
      refine ⟨_, sq _ _ e8, ?_, fun b ob nb e => ?_, ?_, qs ++ [q], ws ++ [r - 3], by rw [upd_same, List.map_append]; rfl, ?_, by rw [List.length_append, l7]; rfl, fun y hy => ?_⟩
      · rw [List.length_map, l7q]; exact Nat.lt_of_lt_of_le hi (by decide)
      · rw [upd_ne (ne_of_none e hDD)]
        exact sq _ _ (fr8 _ _ nb (f7 _ _ nb e))
      · exact (p8.same sq).fr (q := DD) (fun b ob nb e => by rw [upd_ne nb]; exact e) (Ne.symm nDp) (Ne.symm nDb)
      · rw [kvI_snoc]
        have up : ∀ b xs, H8 b = some (.tup xs) ∨ (upd H8 q (.tup [.int (i : Int), .int (r - 3)])) b = some (.tup xs) → upd (upd H8 q (.tup [.int (i : Int), .int (r - 3)])) DD (.lst (qs.map V.ref ++ [.ref q])) b = some (.tup xs) := fun b xs h => by
          have h' : (upd H8 q (.tup [.int (i : Int), .int (r - 3)])) b = some (.tup xs) := h.elim (sq _ _) id
          rw [upd_ne (ne_of h' (sq _ _ e8) (fun z => nomatch z))]
          exact h'
        refine Paired.snoc (Paired.mono (fun (b : Addr) (kv : Key × V) (e : H7 b = some (.tup [kV kv.1, kv.2])) => up _ _ (.inl (fr8 _ _ (ne_of e hxp7 (fun z => nomatch z)) e))) pr7) ?_
        rw [l7]
        exact up _ _ (.inr upd_same)
      · rcases List.mem_append.mp hy with h | h
        · exact m7 y h
        · rw [List.mem_singleton.mp h]; omega
    refine go_nil ⟨DD, qs, kvI ws, rfl, SqL.of e7, Paired.mono (fun b kv e => SqT.of e) pr7, fun d hd => go_name rfl ?_⟩
    have f8 : Fr1 pot H6 (upd H7 d (.dK (mergeK [] (kvI ws)))) := f7.trans (Fr1.of (same_new (Same.refl _) hd))
    have P8 := p7.same (same_new (o := .dK (mergeK [] (kvI ws))) (Same.refl _) hd)
    have hd8 : (upd H7 d (.dK (mergeK [] (kvI ws)))) d = some (.dK (mergeK [] (kvI ws))) := upd_same
    generalize upd H7 d (.dK (mergeK [] (kvI ws))) = H8 at f8 hd8 P8
    have cc8 := cc6.fr f8 hxp6 pS
    have nn8 := f8 _ _ (Ne.symm npN) nn6
    obtain ⟨xp8, hxp8⟩ := P8.ls
    have ndp : d ≠ pot := ne_of hd8 hxp8 (fun z => nomatch z)
    obtain ⟨φ, hφ, num8⟩ : ∃ φ : Nat → Int, (∀ k, (φ k).natAbs ≤ 4) ∧ NumD H8 d φ := by
      refine ⟨fun k => ws.getD k 0, fun k => ?_, _, hd8, merge4 l7⟩
      by_cases hk : k < ws.length
      · refine m7 _ ?_
        show ws.getD k 0 ∈ ws
        rw [List.getD_eq_getElem?_getD, List.getElem?_eq_getElem hk]
        exact List.getElem_mem _
      · show (ws.getD k 0).natAbs ≤ 4
        rw [List.getD_eq_getElem?_getD, List.getElem?_eq_none (by omega)]; decide
    have eL : (nV nn).length = nn.length := nV_length nn
    -- three nodes
    refine go_sq ⟨_, rfl, by decide, by decide, ?_⟩
    refine for_range (lo := 0) (n := 3) (fun i σ H' => ∃ v5 v6 v7 v8 v9 : Option V, σ = [some (.ref a), some (.ref pot), some (.ref c), some (.ref N), some (.ref d), v5, v6, v7, v8, v9, none, none, none, none, none] ∧ Fr1 pot H8 H' ∧ PotB H' pot pb) ⟨none, none, none, none, none, rfl, Fr1.refl _ _, P8⟩ ?_ ?_
    · rintro i σ H9 hi ⟨v5, v6, v7, v8, v9, rfl, f9, p9⟩
      have nn9 := f9 _ _ (Ne.symm npN) nn8
      refine go_name rfl ?_
      refine go_seq ⟨_, rfl, _, rfl, .ref N, _, rfl, .inl ⟨_, SqL.of nn9, rfl⟩, _, _, rfl, rfl, _, rfl, _, rfl, .ref N, _, rfl, .inl ⟨_, SqL.of nn9, rfl⟩, _, _, rfl, ?_⟩
      obtain ⟨lm, hlm, lm0, lm1⟩ : ∃ lm : Nat, (if (((nV nn).length : Nat) : Int) < 5 then (((nV nn).length : Nat) : Int) else 5) = (lm : Int) ∧ 0 < lm ∧ lm ≤ nn.length := by
        refine ⟨min nn.length 5, ?_, by omega, by omega⟩
        rw [eL]
        split <;> omega
      rw [hlm]
      refine ⟨pot, _, rfl, p9.at_, by omega, by omega, fun H10 r5 fr10 _ r50 r51 hb10 => ?_⟩
      obtain ⟨j5, rfl⟩ := toN r50
      have p10 := hb10 _ p9
      have f10 : Fr1 pot H8 H10 := f9.trans fr10
      have nn10 := f10 _ _ (Ne.symm npN) nn8
      have hix : nn.length - 1 - j5 < nn.length := by omega
      have hget : nn[nn.length - 1 - j5]? = some nn[nn.length - 1 - j5] := List.getElem?_eq_getElem hix
      have hmt := lt _ (List.getElem_mem hix)
      refine ⟨_, _, rfl, rfl, N, _, _, .int (nn[nn.length - 1 - j5] : Nat), rfl, rfl, SqL.of nn10, at_of (j := nn.length - 1 - j5) (by rw [eL]; omega) (by rw [List.getElem?_map, hget]; rfl), go_name rfl ?_⟩
      generalize nn[nn.length - 1 - j5] = m at hmt hget
      have cc10 := cc8.fr f10 hxp8 pS
      refine go_seq ⟨_, rfl, _, rfl, c, S, D, tbl, m, rfl, cc10, g, by omega, hmt, fun H11 s11 => go_name rfl ?_, fun H11 v s11 rv => go_name rfl ?_⟩
      · refine go_sq ⟨_, rfl, false, rfl, .inl ⟨true, rfl, _, rfl, iteF (go_nx ?_)⟩⟩
        refine ⟨_, rfl, true, rfl, .inl ⟨true, rfl, _, rfl, iteF (go_nx ⟨_, _, _, _, _, rfl, f10.trans (Fr1.of s11), p10.same s11⟩)⟩⟩
      · obtain ⟨p, ⟨va, vxs, rfl, eva, kts⟩, pc, co, plen⟩ := rv
        refine go_sq ⟨_, rfl, false, rfl, .inr ⟨va, rfl, _, rfl, iteF (go_nx ?_)⟩⟩
        refine ⟨_, rfl, true, rfl, .inr ⟨va, rfl, _, rfl, iteT ?_⟩⟩
        have f11 : Fr1 pot H8 H11 := f10.trans (Fr1.of s11)
        have p11 := p10.same s11
        have hbd := form_bd g (by omega) hmt pc co
        refine ⟨_, rfl, by decide, by decide, ?_⟩
        refine for_range (lo := 0) (n := 4) (fun j σ H' => ∃ v8 v9 : Option V, σ = [some (.ref a), some (.ref pot), some (.ref c), some (.ref N), some (.ref d), some (.int (0 + (i : Int))), some (.int (m : Int)), some (.ref va), v8, v9, none, none, none, none, none] ∧ Same H11 H') ⟨v8, v9, rfl, Same.refl _⟩ ?_ ?_
        · rintro j σ H12 hj ⟨v8', v9', rfl, s12⟩
          have f12 : Fr1 pot H8 H12 := f11.trans (Fr1.of s12)
          have cc12 := cc8.fr f12 hxp8 pS
          have num12 : NumD H12 d φ := let ⟨kvs, h1, h2⟩ := num8; ⟨kvs, f12 _ _ ndp h1, h2⟩
          rw [Int.zero_add]
          refine go_name rfl ?_
          refine go_seq ⟨_, rfl, _, rfl, _, rfl, _, rfl, c, S, D, d, tbl, m, j, rfl, cc12, gd.wf, gd.nd, by omega, hmt, gd.ps, fun hs => absurd hs (no_star g m), fun _ => ⟨g, by omega, φ, num12, hφ, fun H13 s13 => go_name rfl ?_⟩⟩
          have s1113 : Same H11 H13 := fun b o z => s13 _ _ (s12 _ _ z)
          have f13 : Fr1 pot H8 H13 := f11.trans (Fr1.of s1113)
          have num13 : NumD H13 d φ := let ⟨kvs, h1, h2⟩ := num8; ⟨kvs, f13 _ _ ndp h1, h2⟩
          refine ⟨_, rfl, _, rfl, .inl ⟨_, rfl, true, rfl, ?_⟩⟩
          refine iteF ?_
          refine ⟨_, rfl, _, rfl, _, rfl, _, rfl, .ref va, j, d, p, φ, rfl, ⟨va, vxs, rfl, s1113 _ _ eva, kts.keeps (.of s1113)⟩, pc, plen, num13, hφ, hbd, fun H14 s14 => ?_⟩
          have eq2 : (K34.pS φ j (PT tbl m)).2 = sumL (dv φ j) p := (linear _ co).symm
          refine ⟨rfl, _, rfl, ?_⟩
          rw [eq2, decide_eq_true rfl]
          exact iteF (go_nx ⟨_, _, rfl, fun b o z => s14 _ _ (s1113 _ _ z)⟩)
        · rintro σ H12 ⟨v8', v9', rfl, s12⟩
          exact go_nx ⟨_, _, _, _, _, rfl, f11.trans (Fr1.of s12), p11.same s12⟩
    · rintro σ H9 ⟨v5, v6, v7, v8, v9, rfl, f9, p9⟩
      refine go_nx ?_
      refine go_seq ⟨ad.Slopes, mkS, fun y dy hy hdy nyd => go_name rfl ?_⟩
      have s10 : Same H9 (upd (upd H9 dy (.own y)) y (.ins ad.Slopes dy [])) := made_same hy hdy
      have ey10 : (upd (upd H9 dy (.own y)) y (.ins ad.Slopes dy [])) y = some (.ins ad.Slopes dy []) := upd_same
      have f10 : Fr1 pot H8 (upd (upd H9 dy (.own y)) y (.ins ad.Slopes dy [])) := f9.trans (Fr1.of s10)
      have p10 := p9.same s10
      generalize upd (upd H9 dy (.own y)) y (.ins ad.Slopes dy []) = H10 at ey10 f10 p10
      obtain ⟨xp10, hxp10⟩ := p10.ls
      obtain ⟨xb10, hxb10⟩ := p10.lb
      have nyp : y ≠ pot := ne_of ey10 hxp10 (fun z => nomatch z)
      refine go_seq ⟨_, rfl, by decide, by decide, fun D2 hD2 => ?_⟩
      have n2p : D2 ≠ pot := (ne_of_none hxp10 hD2).symm
      have n2b : D2 ≠ pb := (ne_of_none hxb10 hD2).symm
      refine lc_range (lo := 0) (n := 3) (fun i H' => Fr1 pot H10 H' ∧ PotB H' pot pb ∧ ∃ (qs : List Addr) (ws : List (Int × Int)), H' D2 = some (.lst (qs.map V.ref)) ∧ Paired (fun q x => H' q = some (.tup [.int x.1, .int x.2])) qs ws ∧ qs.length = i ∧ ∀ x ∈ ws, bdS 3 x) ⟨(Fr1.refl _ _).new hD2, p10.same (same_new (Same.refl _) hD2), [], [], upd_same, .nil, rfl, fun x hx => nomatch hx⟩ (fun i H11 hi ⟨f11, p11, qs, ws', e11, pr11, l11, m11⟩ => ?_) (fun H11 ⟨f11, p11, qs, ws', e11, pr11, l11, m11⟩ => ?_)
      · obtain ⟨xp11, hxp11⟩ := p11.ls
        refine ⟨rfl, yes_then (iteT ⟨_, rfl, pot, 9, rfl, p11.at_, by decide, by decide, fun H12 r fr12 _ r0 r1 hb12 => ⟨_, _, rfl, rfl, ?_⟩⟩)⟩
        have p12 := hb12 _ p11
        obtain ⟨xp12, hxp12⟩ := p12.ls
        refine ⟨_, rfl, pot, 9, rfl, p12.at_, by decide, by decide, fun H13 r' fr13 _ r0' r1' hb13 => ⟨_, _, rfl, rfl, (show 2 ≤ sizeLine by decide), fun q hq => ?_⟩⟩
        have p13 := hb13 _ p12
        have e13 := fr13 _ _ n2p (fr12 _ _ n2p e11)
        have sq : Same H13 (upd H13 q (.tup [.int (r - 4), .int (r' - 4)])) := same_new (Same.refl _) hq
        have hq2 : D2 ≠ q := ne_of_none e13 hq
        refine ⟨_, sq _ _ e13, ?_, fun b ob nb e => ?_, ?_, qs ++ [q], ws' ++ [(r - 4, r' - 4)], by rw [upd_same, List.map_append]; rfl, ?_, by rw [List.length_append, l11]; rfl, fun x hx => ?_⟩
        · rw [List.length_map, l11]; exact Nat.lt_of_lt_of_le hi (by decide)
        · rw [upd_ne (ne_of_none e hD2)]
          exact sq _ _ (fr13 _ _ nb (fr12 _ _ nb (f11 _ _ nb e)))
        · exact (p13.same sq).fr (q := D2) (fun b ob nb e => by rw [upd_ne nb]; exact e) (Ne.symm n2p) (Ne.symm n2b)
        · have up : ∀ b xs, (upd H13 q (.tup [.int (r - 4), .int (r' - 4)])) b = some (.tup xs) → upd (upd H13 q (.tup [.int (r - 4), .int (r' - 4)])) D2 (.lst (qs.map V.ref ++ [.ref q])) b = some (.tup xs) := fun b xs h' => by
            rw [upd_ne (ne_of h' (sq _ _ e13) (fun z => nomatch z))]
            exact h'
          refine Paired.snoc (Paired.mono (fun (b : Addr) (x : Int × Int) (e : H11 b = some (.tup [.int x.1, .int x.2])) => up _ _ (sq _ _ (fr13 _ _ (ne_of e hxp11 (fun z => nomatch z)) (fr12 _ _ (ne_of e hxp11 (fun z => nomatch z)) e)))) pr11) ?_
          exact up _ _ upd_same
        · rcases List.mem_append.mp hx with h | h
          · exact m11 x h
          · rw [List.mem_singleton.mp h]
            exact ⟨by show (r - 4).natAbs < 8; omega, by show (r' - 4).natAbs < 8; omega⟩
      obtain ⟨qa, qb, qc, rfl⟩ : ∃ qa qb qc, qs = [qa, qb, qc] := by
        match qs, l11 with
        | [qa, qb, qc], _ => exact ⟨qa, qb, qc, rfl⟩
      obtain ⟨xa, xb', xc, rfl⟩ : ∃ xa xb xc, ws' = [xa, xb, xc] := by
        have := Paired.length pr11
        match ws', this with
        | [xa, xb, xc], _ => exact ⟨xa, xb, xc, rfl⟩
      have ba := m11 xa (by simp)
      have bb := m11 xb' (by simp)
      have bc := m11 xc (by simp)
      obtain ⟨ea, eb, ec⟩ : H11 qa = some (.tup [.int xa.1, .int xa.2]) ∧ H11 qb = some (.tup [.int xb'.1, .int xb'.2]) ∧ H11 qc = some (.tup [.int xc.1, .int xc.2]) := by
        cases pr11 with
        | cons h1 t1 => cases t1 with
          | cons h2 t2 => cases t2 with
            | cons h3 t3 => exact ⟨h1, h2, h3⟩
      have ey := f11 _ _ nyp ey10
      refine ⟨D2, _, rfl, SqL.of e11, rfl, ?_⟩
      refine ⟨_, _, rfl, go_name rfl ⟨_, _, rfl, go_name rfl ⟨_, _, rfl, go_name rfl ⟨rfl, ?_⟩⟩⟩⟩
      have up : ∀ {H1 H2 : Hp} {x : Int × Int} {v : V}, Same H1 H2 → Rs H1 x v → Rs H2 x v := fun s r => Rs_mono _ _ _ _ (.of s) r
      have ra : Rs H11 xa (.ref qa) := ⟨qa, rfl, ea⟩
      have rb : Rs H11 xb' (.ref qb) := ⟨qb, rfl, eb⟩
      have rc : Rs H11 xc (.ref qc) := ⟨qc, rfl, ec⟩
      -- first
      refine go_sq ?_
      refine ⟨_, rfl, y, _, dy, [], 3, _, rfl, ey, rfl, by decide, m_stimes, _, rfl, _, rfl, y, _, dy, [], 3, _, rfl, ey, rfl, by decide, m_splus, _, rfl, _, rfl, y, dy, _, _, xb', xc, rfl, ey, rb, rc, trivial, Eo.no, fun Ha va sa ra1 => go_nil ?_⟩
      have ya := sa _ _ ey
      refine ⟨y, dy, _, _, xa, sAdd xb' xc, rfl, ya, up sa ra, ra1, ok_of ba (bb.add bc) (by decide), Eo.no, fun Hb vb sb rb1 => ?_⟩
      have yb : Hb y = some (.ins ad.Slopes dy []) := sb _ _ ya
      have sab : Same H11 Hb := fun b o e => sb _ _ (sa _ _ e)
      refine ⟨_, rfl, y, _, dy, [], 3, _, rfl, yb, rfl, by decide, m_splus, _, rfl, y, _, dy, [], 3, _, rfl, yb, rfl, by decide, m_stimes, _, rfl, _, rfl, y, dy, _, _, xa, xb', rfl, yb, up sab ra, up sab rb, ok_of ba bb (by decide), Eo.no, fun Hc vc sc rc1 => ?_⟩
      have yc := sc _ _ yb
      have sac : Same H11 Hc := fun b o e => sc _ _ (sab _ _ e)
      refine ⟨_, rfl, y, _, dy, [], 3, _, rfl, yc, rfl, by decide, m_stimes, _, rfl, _, rfl, y, dy, _, _, xa, xc, rfl, yc, up sac ra, up sac rc, ok_of ba bc (by decide), Eo.no, fun Hd vd sd rd1 => go_nil ?_⟩
      have yd := sd _ _ yc
      have sad : Same H11 Hd := fun b o e => sd _ _ (sac _ _ e)
      refine ⟨y, dy, _, _, sMul xa xb', sMul xa xc, rfl, yd, up sd rc1, rd1, trivial, Eo.no, fun He ve se re1 => ?_⟩
      have sce : Same Hb He := fun b o e => se _ _ (sd _ _ (sc _ _ e))
      have sae : Same H11 He := fun b o e => se _ _ (sad _ _ e)
      have ye := se _ _ yd
      refine nk_eq (up sce rb1) re1 (sm_dist xa xb' xc) ⟨false, rfl, iteF ?_⟩
      refine ⟨_, rfl, y, _, dy, [], 3, _, rfl, ye, rfl, by decide, m_stimes, _, rfl, _, rfl, y, dy, _, _, xa, xb', rfl, ye, up sae ra, up sae rb, ok_of ba bb (by decide), Eo.no, fun Hf vf sf rf1 => ?_⟩
      have yf := sf _ _ ye
      have saf : Same H11 Hf := fun b o e => sf _ _ (sae _ _ e)
      refine ⟨_, rfl, y, _, dy, [], 3, _, rfl, yf, rfl, by decide, m_stimes, _, rfl, _, rfl, y, dy, _, _, xb', xa, rfl, yf, up saf rb, up saf ra, ok_of bb ba (by decide), Eo.no, fun Hg vg sg rg1 => ?_⟩
      have yg := sg _ _ yf
      have sag : Same H11 Hg := fun b o e => sg _ _ (saf _ _ e)
      refine nk_eq (up sg rf1) rg1 (sm_comm xa xb') ⟨false, rfl, iteF (go_nx ?_)⟩
      -- second
      refine go_sq ?_
      refine ⟨_, rfl, y, _, dy, [], 3, _, rfl, yg, rfl, by decide, m_stimes, _, rfl, _, rfl, y, _, dy, [], 3, _, rfl, yg, rfl, by decide, m_stimes, _, rfl, _, rfl, y, dy, _, _, xb', xc, rfl, yg, up sag rb, up sag rc, ok_of bb bc (by decide), Eo.no, fun Ia wa ta qa1 => go_nil ?_⟩
      have za := ta _ _ yg
      have tA : Same H11 Ia := fun b o e => ta _ _ (sag _ _ e)
      refine ⟨y, dy, _, _, xa, sMul xb' xc, rfl, za, up tA ra, qa1, ok_of ba (bb.mul bc) (by decide), Eo.no, fun Ib wb tb qb1 => ?_⟩
      have zb := tb _ _ za
      have tB : Same H11 Ib := fun b o e => tb _ _ (tA _ _ e)
      refine ⟨_, rfl, y, _, dy, [], 3, _, rfl, zb, rfl, by decide, m_stimes, _, rfl, y, _, dy, [], 3, _, rfl, zb, rfl, by decide, m_stimes, _, rfl, _, rfl, y, dy, _, _, xa, xb', rfl, zb, up tB ra, up tB rb, ok_of ba bb (by decide), Eo.no, fun Ic wc tc qc1 => ?_⟩
      have zc := tc _ _ zb
      have tC : Same H11 Ic := fun b o e => tc _ _ (tB _ _ e)
      refine ⟨_, rfl, y, dy, _, _, sMul xa xb', xc, rfl, zc, qc1, up tC rc, ok_of (ba.mul bb) bc (by decide), Eo.no, fun Id wd td qd1 => ?_⟩
      have zd := td _ _ zc
      have tD : Same H11 Id := fun b o e => td _ _ (tC _ _ e)
      refine nk_eq (up (fun b o e => td _ _ (tc _ _ e)) qb1) qd1 (sm_assoc xa xb' xc) ⟨false, rfl, iteF ?_⟩
      refine ⟨_, rfl, y, _, dy, [], 3, _, rfl, zd, rfl, by decide, m_splus, _, rfl, (show 2 ≤ sizeLine by decide), fun o1 ho1 => ?_⟩
      have te := same_new (o := .tup [.int 0, .int 0]) (Same.refl Id) ho1
      have tE : Same H11 (upd Id o1 (.tup [.int 0, .int 0])) := fun b o e => te _ _ (tD _ _ e)
      refine go_nil ⟨y, dy, _, _, xa, (0, 0), rfl, te _ _ zd, up tE ra, ⟨o1, rfl, upd_same⟩, trivial, Eo.no, fun If wf' tf qf1 => ?_⟩
      have zf := tf _ _ (te _ _ zd)
      have tF : Same H11 If := fun b o e => tf _ _ (tE _ _ e)
      refine ⟨_, rfl, ?_⟩
      refine nk_eq qf1 (up tF ra) (sa_zero xa) ⟨false, rfl, iteF ?_⟩
      refine ⟨_, rfl, y, _, dy, [], 3, _, rfl, zf, rfl, by decide, m_stimes, _, rfl, (show 2 ≤ sizeLine by decide), fun o2 ho2 => ?_⟩
      have tg := same_new (o := .tup [.int 1, .int 0]) (Same.refl If) ho2
      have tG : Same H11 (upd If o2 (.tup [.int 1, .int 0])) := fun b o e => tg _ _ (tF _ _ e)
      have b1 : bdS 3 ((1, 0) : Int × Int) := ⟨(by decide : (1 : Int).natAbs < 8), (by decide : (0 : Int).natAbs < 8)⟩
      refine go_nil ⟨y, dy, _, _, xa, (1, 0), rfl, tg _ _ zf, up tG ra, ⟨o2, rfl, upd_same⟩, ok_of ba b1 (by decide), Eo.no, fun Ih wh th qh1 => ?_⟩
      have zh := th _ _ (tg _ _ zf)
      have tH : Same H11 Ih := fun b o e => th _ _ (tG _ _ e)
      refine ⟨_, rfl, ?_⟩
      refine nk_eq qh1 (up tH ra) (sm_one xa) ⟨false, rfl, iteF (go_nx ?_)⟩
      -- third
      refine go_sq ?_
      refine ⟨_, rfl, y, _, dy, [], 3, _, rfl, zh, rfl, by decide, m_szero, y, dy, rfl, zh, fun Ja u1 r1_ qz1 => ?_⟩
      have ja := r1_ _ _ zh
      refine ⟨(show 2 ≤ sizeLine by decide), fun o3 ho3 => ?_⟩
      have n3 := same_new (o := .tup [.int 0, .int 0]) (Same.refl Ja) ho3
      refine nk_eq (up n3 qz1) ⟨o3, rfl, upd_same⟩ rfl ⟨false, rfl, iteF ?_⟩
      have jb := n3 _ _ ja
      have rb_ : Same H11 (upd Ja o3 (.tup [.int 0, .int 0])) := fun b o e => n3 _ _ (r1_ _ _ (tH _ _ e))
      generalize upd Ja o3 (.tup [.int 0, .int 0]) = Jb at jb rb_
      refine ⟨_, rfl, y, _, dy, [], 3, _, rfl, jb, rfl, by decide, m_sone, y, dy, rfl, jb, fun Jc u3 r3_ qz3 => ?_⟩
      have jc := r3_ _ _ jb
      refine ⟨(show 2 ≤ sizeLine by decide), fun o4 ho4 => ?_⟩
      have n4 := same_new (o := .tup [.int 1, .int 0]) (Same.refl Jc) ho4
      refine nk_eq (up n4 qz3) ⟨o4, rfl, upd_same⟩ rfl ⟨false, rfl, iteF ?_⟩
      have jd := n4 _ _ jc
      have rd_ : Same H11 (upd Jc o4 (.tup [.int 1, .int 0])) := fun b o e => n4 _ _ (r3_ _ _ (rb_ _ _ e))
      generalize upd Jc o4 (.tup [.int 1, .int 0]) = Jd at jd rd_
      refine ⟨_, rfl, y, _, dy, [], 3, _, rfl, jd, rfl, by decide, m_sstar, (show 2 ≤ sizeLine by decide), fun o5 ho5 => ?_⟩
      have n5 := same_new (o := .tup [.int 0, .int 0]) (Same.refl Jd) ho5
      refine go_nil ⟨y, dy, o5, rfl, n5 _ _ jd, upd_same, fun Je u5 r5_ qz5 => ?_⟩
      have je := r5_ _ _ (n5 _ _ jd)
      refine ⟨(show 2 ≤ sizeLine by decide), fun o6 ho6 => ?_⟩
      have n6 := same_new (o := .tup [.int 1, .int 0]) (Same.refl Je) ho6
      refine nk_eq (up n6 qz5) ⟨o6, rfl, upd_same⟩ rfl ⟨false, rfl, iteF ?_⟩
      have jf := n6 _ _ je
      have rf_ : Same H11 (upd Je o6 (.tup [.int 1, .int 0])) := fun b o e => n6 _ _ (r5_ _ _ (n5 _ _ (rd_ _ _ e)))
      generalize upd Je o6 (.tup [.int 1, .int 0]) = Jf at jf rf_
      refine ⟨_, rfl, y, _, dy, [], 3, _, rfl, jf, rfl, by decide, m_selem, _, rfl, y, dy, _, true, rfl, jf, .pair (rf_ _ _ ea), ?_⟩
      refine ⟨true, true, rfl, rfl, _, rfl, iteF (go_nx ?_)⟩
      -- last
      have fJ : Fr1 pot H8 Jf := f10.trans (f11.trans (Fr1.of rf_))
      have ccJ := cc8.fr fJ hxp8 pS
      obtain ⟨dxc, hcJ⟩ := ccJ.ins
      refine go_ret ⟨_, rfl, _, rfl, c, _, dxc, _, 4, _, rfl, hcJ, fC_no _ _ (by decide) (by decide), by decide, m_star, _, rfl, c, _, dxc, _, 4, _, rfl, hcJ, fC_no _ _ (by decide) (by decide), by decide, m_fact, ?_⟩
      refine ⟨c, S, D, tbl, 0, rfl, ccJ, by omega, fun K9 fr9 cc9 => go_nil ?_⟩
      have nx1 : Nxt tbl (insN tbl (.fact 0)) := gd.ins (fun p h => nomatch h) (Nat.zero_le _)
      have z1 : (insN tbl (.fact 0))[0]? = some .zero := ins_old fk.z0
      have ne1 : (insN tbl (.fact 0)).idxOf (.fact 0) ≠ 0 := idx_ne0 fk.z0 (fun z => nomatch z)
      have lt1 := ins_idx tbl (.fact 0)
      have len1 := nx1.len
      have gd1 := nx1.good
      generalize (insN tbl (.fact 0)).idxOf (.fact 0) = n0 at ne1 lt1
      generalize insN tbl (.fact 0) = tbl1 at nx1 z1 lt1 len1 gd1 cc9
      refine ⟨c, S, D, tbl1, n0, rfl, cc9, by omega, fun z => absurd z ne1, fun _ K10 fr10 cc10 => go_nil ?_⟩
      have nx2 : Nxt tbl1 (insN tbl1 (.star n0)) := gd1.ins (fun p h => by rw [show p = n0 by simpa [Nd.parts] using h]; exact lt1) (by simp [Nd.parts])
      have lt2 := ins_idx tbl1 (.star n0)
      have at2 := ins_at tbl1 (.star n0)
      have len2 := nx2.len
      have gd2 := nx2.good
      generalize (insN tbl1 (.star n0)).idxOf (.star n0) = n2 at lt2 at2
      generalize insN tbl1 (.star n0) = tbl2 at nx2 lt2 at2 len2 gd2 cc10
      refine ⟨c, S, D, tbl2, n2, rfl, cc10, gd2.wf, gd2.nd, by omega, lt2, gd2.ps, ⟨n2, _, .refl, at2, rfl⟩, fun K11 s11 => ⟨true, rfl, iteT ?_⟩⟩
      have yS : y ≠ S ∧ y ≠ D := by
        obtain ⟨as, eS, _⟩ := ccJ.lS
        obtain ⟨φe, eD⟩ := ccJ.nums.ext
        exact ⟨ne_of jf eS (fun z => nomatch z), ne_of jf eD (fun z => nomatch z)⟩
      have y11 : K11 y = some (.ins ad.Slopes dy []) := s11 _ _ (fr10 _ _ yS.1 yS.2 (fr9 _ _ yS.1 yS.2 jf))
      refine ⟨(show 1 ≤ sizeLine by decide), fun p1 h1 => ⟨(show 2 ≤ sizeLine by decide), fun p2 h2 => ⟨(show 2 ≤ sizeLine by decide), fun p4 h4 => ⟨(show 2 ≤ sizeLine by decide), fun p5 h5 => ⟨(show 5 ≤ sizeLine by decide), fun L hL => ⟨L, rfl, ⟨_, SqL.of upd_same⟩, fun D3 hD3 => ?_⟩⟩⟩⟩⟩⟩
      have u1 := same_new (o := .tup [V.int 1]) (Same.refl K11) h1
      have u2 := same_new (o := .lst [V.int 0, V.int 0]) (Same.refl _) h2
      have u4 := same_new (o := .tup [V.int 0, V.str "a"]) (Same.refl _) h4
      have u5 := same_new (o := .tup [V.bl true, V.int 0]) (Same.refl _) h5
      have uL := same_new (o := .lst [V.ref p1, .ref p2, .int 5, .ref p4, .ref p5]) (Same.refl _) hL
      refine lc_lst (K := K) (L := L) (xs := [V.ref p1, .ref p2, .int 5, .ref p4, .ref p5]) (fun i v H' => v = .bl false) hD3 (SqL.of upd_same) (fun H' s => SqL.of (s _ _ upd_same)) (fun i v H H' _ h => h) (by show 5 ≤ 100000; decide) (fun _ => rfl) (fun i v H' acc Kt hv s' _ kt => ?_) (fun H' rows' s' e' l' h' => ?_)
      · have hk : ElS H' v false := by
          have hm := List.mem_of_getElem? hv
          simp only [List.mem_cons, List.not_mem_nil, or_false] at hm
          rcases hm with rfl | rfl | rfl | rfl | rfl
          · exact .one (s' _ _ (uL _ _ (u5 _ _ (u4 _ _ (u2 _ _ upd_same)))))
          · exact .lst (s' _ _ (uL _ _ (u5 _ _ (u4 _ _ upd_same))))
          · exact .int 5
          · exact .str2 (s' _ _ (uL _ _ (u5 _ _ upd_same)))
          · exact .bl2 (s' _ _ (uL _ _ upd_same))
        have yH := s' _ _ (uL _ _ (u5 _ _ (u4 _ _ (u2 _ _ (u1 _ _ y11)))))
        exact ⟨_, rfl, y, _, dy, [], 3, _, rfl, yH, rfl, by decide, m_selem, _, rfl, y, dy, v, false, rfl, yH, hk, kt _ _ (Same.refl _) rfl⟩
      · have e2 := ext_of (f := fun _ => V.bl false) l' h'
        rw [e2] at e'
        refine go_nil ⟨D3, (List.range 5).map (fun _ => false), rfl, SqL.of (by rw [List.map_map]; exact e'), ?_⟩
        rw [show ((List.range 5).map (fun _ => false)).any id = false by decide]
        exact ⟨false, rfl, k H'⟩
end
end K34

set_option Elab.async false
set_option linter.all false
set_option maxRecDepth 100000
set_option maxHeartbeats 8000000
namespace K34
open PySem L2 Ew

theorem all_mk {l : PySem.W.OpenLaw} {w : World} {K : PySem.W.Frag} {h : Heap} {mg : Str → Option Value} {fa : Addr} (X : K.In h) (G : h.Ns mainGlobals mg) (hfa : mg "law" = some (.ref fa))
    {C_Slopes : Addr}
    {C_Polynomials : Addr}
    {C_Reckoner : Addr}
    {C_Circuits : Addr}
    {C_TooLarge : Addr}
    {C_NoStar : Addr}
    {C_WorthError : Addr}
    {f_Circuits_init : Addr} {od_Circuits_init an_Circuits_init : Option Addr} {sl_Circuits_init : Array (Option Value)} {oc_Circuits_init kV_Circuits_init dc_Circuits_init pm_Circuits_init cd_Circuits_init ct_Circuits_init : Value}
    {f_Circuits_fact : Addr} {od_Circuits_fact an_Circuits_fact : Option Addr} {sl_Circuits_fact : Array (Option Value)} {oc_Circuits_fact kV_Circuits_fact dc_Circuits_fact pm_Circuits_fact cd_Circuits_fact ct_Circuits_fact : Value}
    {f_Circuits_plus : Addr} {od_Circuits_plus an_Circuits_plus : Option Addr} {sl_Circuits_plus : Array (Option Value)} {oc_Circuits_plus kV_Circuits_plus dc_Circuits_plus pm_Circuits_plus cd_Circuits_plus ct_Circuits_plus : Value}
    {f_Circuits_times : Addr} {od_Circuits_times an_Circuits_times : Option Addr} {sl_Circuits_times : Array (Option Value)} {oc_Circuits_times kV_Circuits_times dc_Circuits_times pm_Circuits_times cd_Circuits_times ct_Circuits_times : Value}
    {f_Circuits_star : Addr} {od_Circuits_star an_Circuits_star : Option Addr} {sl_Circuits_star : Array (Option Value)} {oc_Circuits_star kV_Circuits_star dc_Circuits_star pm_Circuits_star cd_Circuits_star ct_Circuits_star : Value}
    {f_Circuits_shown : Addr} {od_Circuits_shown an_Circuits_shown : Option Addr} {sl_Circuits_shown : Array (Option Value)} {oc_Circuits_shown kV_Circuits_shown dc_Circuits_shown pm_Circuits_shown cd_Circuits_shown ct_Circuits_shown : Value}
    {f_Circuits_count : Addr} {od_Circuits_count an_Circuits_count : Option Addr} {sl_Circuits_count : Array (Option Value)} {oc_Circuits_count kV_Circuits_count dc_Circuits_count pm_Circuits_count cd_Circuits_count ct_Circuits_count : Value}
    {f_Circuits_facts_in : Addr} {od_Circuits_facts_in an_Circuits_facts_in : Option Addr} {sl_Circuits_facts_in : Array (Option Value)} {oc_Circuits_facts_in kV_Circuits_facts_in dc_Circuits_facts_in pm_Circuits_facts_in cd_Circuits_facts_in ct_Circuits_facts_in : Value}
    {f_Circuits_several : Addr} {od_Circuits_several an_Circuits_several : Option Addr} {sl_Circuits_several : Array (Option Value)} {oc_Circuits_several kV_Circuits_several dc_Circuits_several pm_Circuits_several cd_Circuits_several ct_Circuits_several : Value}
    {f_Circuits_node : Addr} {od_Circuits_node an_Circuits_node : Option Addr} {sl_Circuits_node : Array (Option Value)} {oc_Circuits_node kV_Circuits_node dc_Circuits_node pm_Circuits_node cd_Circuits_node ct_Circuits_node : Value}
    {f_Reckoner_init : Addr} {od_Reckoner_init an_Reckoner_init : Option Addr} {sl_Reckoner_init : Array (Option Value)} {oc_Reckoner_init kV_Reckoner_init dc_Reckoner_init pm_Reckoner_init cd_Reckoner_init ct_Reckoner_init : Value}
    {f_Reckoner_fact : Addr} {od_Reckoner_fact an_Reckoner_fact : Option Addr} {sl_Reckoner_fact : Array (Option Value)} {oc_Reckoner_fact kV_Reckoner_fact dc_Reckoner_fact pm_Reckoner_fact cd_Reckoner_fact ct_Reckoner_fact : Value}
    {f_Reckoner_plus : Addr} {od_Reckoner_plus an_Reckoner_plus : Option Addr} {sl_Reckoner_plus : Array (Option Value)} {oc_Reckoner_plus kV_Reckoner_plus dc_Reckoner_plus pm_Reckoner_plus cd_Reckoner_plus ct_Reckoner_plus : Value}
    {f_Reckoner_times : Addr} {od_Reckoner_times an_Reckoner_times : Option Addr} {sl_Reckoner_times : Array (Option Value)} {oc_Reckoner_times kV_Reckoner_times dc_Reckoner_times pm_Reckoner_times cd_Reckoner_times ct_Reckoner_times : Value}
    {f_nodes_within : Addr} {od_nodes_within an_nodes_within : Option Addr} {sl_nodes_within : Array (Option Value)} {oc_nodes_within kV_nodes_within dc_nodes_within pm_nodes_within cd_nodes_within ct_nodes_within : Value}
    {f_parts : Addr} {od_parts an_parts : Option Addr} {sl_parts : Array (Option Value)} {oc_parts kV_parts dc_parts pm_parts cd_parts ct_parts : Value}
    {f_all_made : Addr} {od_all_made an_all_made : Option Addr} {sl_all_made : Array (Option Value)} {oc_all_made kV_all_made dc_all_made pm_all_made cd_all_made ct_all_made : Value}
    {f_made : Addr} {od_made an_made : Option Addr} {sl_made : Array (Option Value)} {oc_made kV_made dc_made pm_made cd_made ct_made : Value}
    {f_worth : Addr} {od_worth an_worth : Option Addr} {sl_worth : Array (Option Value)} {oc_worth kV_worth dc_worth pm_worth cd_worth ct_worth : Value}
    {f_is_integer : Addr} {od_is_integer an_is_integer : Option Addr} {sl_is_integer : Array (Option Value)} {oc_is_integer kV_is_integer dc_is_integer pm_is_integer cd_is_integer ct_is_integer : Value}
    {f_is_pair : Addr} {od_is_pair an_is_pair : Option Addr} {sl_is_pair : Array (Option Value)} {oc_is_pair kV_is_pair dc_is_pair pm_is_pair cd_is_pair ct_is_pair : Value}
    {f_Polynomials_zero : Addr} {od_Polynomials_zero an_Polynomials_zero : Option Addr} {sl_Polynomials_zero : Array (Option Value)} {oc_Polynomials_zero kV_Polynomials_zero dc_Polynomials_zero pm_Polynomials_zero cd_Polynomials_zero ct_Polynomials_zero : Value}
    {f_Polynomials_one : Addr} {od_Polynomials_one an_Polynomials_one : Option Addr} {sl_Polynomials_one : Array (Option Value)} {oc_Polynomials_one kV_Polynomials_one dc_Polynomials_one pm_Polynomials_one cd_Polynomials_one ct_Polynomials_one : Value}
    {f_Polynomials_plus : Addr} {od_Polynomials_plus an_Polynomials_plus : Option Addr} {sl_Polynomials_plus : Array (Option Value)} {oc_Polynomials_plus kV_Polynomials_plus dc_Polynomials_plus pm_Polynomials_plus cd_Polynomials_plus ct_Polynomials_plus : Value}
    {f_Polynomials_times : Addr} {od_Polynomials_times an_Polynomials_times : Option Addr} {sl_Polynomials_times : Array (Option Value)} {oc_Polynomials_times kV_Polynomials_times dc_Polynomials_times pm_Polynomials_times cd_Polynomials_times ct_Polynomials_times : Value}
    {f_put : Addr} {od_put an_put : Option Addr} {sl_put : Array (Option Value)} {oc_put kV_put dc_put pm_put cd_put ct_put : Value}
    {f_polynomial_of : Addr} {od_polynomial_of an_polynomial_of : Option Addr} {sl_polynomial_of : Array (Option Value)} {oc_polynomial_of kV_polynomial_of dc_polynomial_of pm_polynomial_of cd_polynomial_of ct_polynomial_of : Value}
    {f_product_of : Addr} {od_product_of an_product_of : Option Addr} {sl_product_of : Array (Option Value)} {oc_product_of kV_product_of dc_product_of pm_product_of cd_product_of ct_product_of : Value}
    {f_variable : Addr} {od_variable an_variable : Option Addr} {sl_variable : Array (Option Value)} {oc_variable kV_variable dc_variable pm_variable cd_variable ct_variable : Value}
    {f_normal : Addr} {od_normal an_normal : Option Addr} {sl_normal : Array (Option Value)} {oc_normal kV_normal dc_normal pm_normal cd_normal ct_normal : Value}
    {f_need_no_star : Addr} {od_need_no_star an_need_no_star : Option Addr} {sl_need_no_star : Array (Option Value)} {oc_need_no_star kV_need_no_star dc_need_no_star pm_need_no_star cd_need_no_star ct_need_no_star : Value}
    {f_Slopes_zero : Addr} {od_Slopes_zero an_Slopes_zero : Option Addr} {sl_Slopes_zero : Array (Option Value)} {oc_Slopes_zero kV_Slopes_zero dc_Slopes_zero pm_Slopes_zero cd_Slopes_zero ct_Slopes_zero : Value}
    {f_Slopes_one : Addr} {od_Slopes_one an_Slopes_one : Option Addr} {sl_Slopes_one : Array (Option Value)} {oc_Slopes_one kV_Slopes_one dc_Slopes_one pm_Slopes_one cd_Slopes_one ct_Slopes_one : Value}
    {f_Slopes_plus : Addr} {od_Slopes_plus an_Slopes_plus : Option Addr} {sl_Slopes_plus : Array (Option Value)} {oc_Slopes_plus kV_Slopes_plus dc_Slopes_plus pm_Slopes_plus cd_Slopes_plus ct_Slopes_plus : Value}
    {f_Slopes_times : Addr} {od_Slopes_times an_Slopes_times : Option Addr} {sl_Slopes_times : Array (Option Value)} {oc_Slopes_times kV_Slopes_times dc_Slopes_times pm_Slopes_times cd_Slopes_times ct_Slopes_times : Value}
    {f_Slopes_star : Addr} {od_Slopes_star an_Slopes_star : Option Addr} {sl_Slopes_star : Array (Option Value)} {oc_Slopes_star kV_Slopes_star dc_Slopes_star pm_Slopes_star cd_Slopes_star ct_Slopes_star : Value}
    {f_Slopes_is_element : Addr} {od_Slopes_is_element an_Slopes_is_element : Option Addr} {sl_Slopes_is_element : Array (Option Value)} {oc_Slopes_is_element kV_Slopes_is_element dc_Slopes_is_element pm_Slopes_is_element cd_Slopes_is_element ct_Slopes_is_element : Value}
    {f_slope : Addr} {od_slope an_slope : Option Addr} {sl_slope : Array (Option Value)} {oc_slope kV_slope dc_slope pm_slope cd_slope ct_slope : Value}
    {f_law_pot : Addr} {od_law_pot an_law_pot : Option Addr} {sl_law_pot : Array (Option Value)} {oc_law_pot kV_law_pot dc_law_pot pm_law_pot cd_law_pot ct_law_pot : Value}
    {f_law_next : Addr} {od_law_next an_law_next : Option Addr} {sl_law_next : Array (Option Value)} {oc_law_next kV_law_next dc_law_next pm_law_next cd_law_next ct_law_next : Value}
    {f_law_is_int : Addr} {od_law_is_int an_law_is_int : Option Addr} {sl_law_is_int : Array (Option Value)} {oc_law_is_int kV_law_is_int dc_law_is_int pm_law_is_int cd_law_is_int ct_law_is_int : Value}
    {f_law_grown : Addr} {od_law_grown an_law_grown : Option Addr} {sl_law_grown : Array (Option Value)} {oc_law_grown kV_law_grown dc_law_grown pm_law_grown cd_law_grown ct_law_grown : Value}
    {f_law_form : Addr} {od_law_form an_law_form : Option Addr} {sl_law_form : Array (Option Value)} {oc_law_form kV_law_form dc_law_form pm_law_form cd_law_form ct_law_form : Value}
    {f_law_power : Addr} {od_law_power an_law_power : Option Addr} {sl_law_power : Array (Option Value)} {oc_law_power kV_law_power dc_law_power pm_law_power cd_law_power ct_law_power : Value}
    {f_law_due : Addr} {od_law_due an_law_due : Option Addr} {sl_law_due : Array (Option Value)} {oc_law_due kV_law_due dc_law_due pm_law_due cd_law_due ct_law_due : Value}
    {f_law_refused : Addr} {od_law_refused an_law_refused : Option Addr} {sl_law_refused : Array (Option Value)} {oc_law_refused kV_law_refused dc_law_refused pm_law_refused cd_law_refused ct_law_refused : Value}
    {f_law : Addr} {od_law an_law : Option Addr} {sl_law : Array (Option Value)} {oc_law kV_law dc_law pm_law cd_law ct_law : Value}
    {tk_MOST_NODES : Tok}
    {tk_MOST_IN_ONE : Tok}
    {tk_ZERO : Tok}
    {tk_ONE : Tok}
    {tk_MOST_MONOMIALS : Tok}
    (aC_WorthError : PySem.W.nsIn K mainGlobals "WorthError" = some (some (.ref C_WorthError)))
    (aC_NoStar : PySem.W.nsIn K mainGlobals "NoStar" = some (some (.ref C_NoStar)))
    (aC_TooLarge : PySem.W.nsIn K mainGlobals "TooLarge" = some (some (.ref C_TooLarge)))
    (aC_Circuits : PySem.W.nsIn K mainGlobals "Circuits" = some (some (.ref C_Circuits)))
    (aC_Reckoner : PySem.W.nsIn K mainGlobals "Reckoner" = some (some (.ref C_Reckoner)))
    (aC_Polynomials : PySem.W.nsIn K mainGlobals "Polynomials" = some (some (.ref C_Polynomials)))
    (aC_Slopes : PySem.W.nsIn K mainGlobals "Slopes" = some (some (.ref C_Slopes)))
    (a_Circuits_init : PySem.W.findIn K (.ref C_Circuits) "__init__" = some (some (.ref f_Circuits_init)))
    (i_Circuits_init : PySem.W.isFn K (.ref f_Circuits_init) = true)
    (l_Circuits_init : K.lookup f_Circuits_init = some ⟨oc_Circuits_init, od_Circuits_init, .func (PySem.W.fnOf "__init__" "Circuits.__init__" (defArgs s_Circuits_init) (defBody s_Circuits_init) (defScope s_Circuits_init) .none kV_Circuits_init dc_Circuits_init pm_Circuits_init an_Circuits_init cd_Circuits_init ct_Circuits_init), sl_Circuits_init⟩)
    (c_Circuits_init : PySem.W.codeIn K cd_Circuits_init "Circuits.__init__" = true)
    (k_Circuits_init : PySem.W.keepIn K (.ref f_Circuits_init) = true)
    (a_Circuits_fact : PySem.W.findIn K (.ref C_Circuits) "fact" = some (some (.ref f_Circuits_fact)))
    (i_Circuits_fact : PySem.W.isFn K (.ref f_Circuits_fact) = true)
    (l_Circuits_fact : K.lookup f_Circuits_fact = some ⟨oc_Circuits_fact, od_Circuits_fact, .func (PySem.W.fnOf "fact" "Circuits.fact" (defArgs s_Circuits_fact) (defBody s_Circuits_fact) (defScope s_Circuits_fact) .none kV_Circuits_fact dc_Circuits_fact pm_Circuits_fact an_Circuits_fact cd_Circuits_fact ct_Circuits_fact), sl_Circuits_fact⟩)
    (c_Circuits_fact : PySem.W.codeIn K cd_Circuits_fact "Circuits.fact" = true)
    (k_Circuits_fact : PySem.W.keepIn K (.ref f_Circuits_fact) = true)
    (a_Circuits_plus : PySem.W.findIn K (.ref C_Circuits) "plus" = some (some (.ref f_Circuits_plus)))
    (i_Circuits_plus : PySem.W.isFn K (.ref f_Circuits_plus) = true)
    (l_Circuits_plus : K.lookup f_Circuits_plus = some ⟨oc_Circuits_plus, od_Circuits_plus, .func (PySem.W.fnOf "plus" "Circuits.plus" (defArgs s_Circuits_plus) (defBody s_Circuits_plus) (defScope s_Circuits_plus) .none kV_Circuits_plus dc_Circuits_plus pm_Circuits_plus an_Circuits_plus cd_Circuits_plus ct_Circuits_plus), sl_Circuits_plus⟩)
    (c_Circuits_plus : PySem.W.codeIn K cd_Circuits_plus "Circuits.plus" = true)
    (k_Circuits_plus : PySem.W.keepIn K (.ref f_Circuits_plus) = true)
    (a_Circuits_times : PySem.W.findIn K (.ref C_Circuits) "times" = some (some (.ref f_Circuits_times)))
    (i_Circuits_times : PySem.W.isFn K (.ref f_Circuits_times) = true)
    (l_Circuits_times : K.lookup f_Circuits_times = some ⟨oc_Circuits_times, od_Circuits_times, .func (PySem.W.fnOf "times" "Circuits.times" (defArgs s_Circuits_times) (defBody s_Circuits_times) (defScope s_Circuits_times) .none kV_Circuits_times dc_Circuits_times pm_Circuits_times an_Circuits_times cd_Circuits_times ct_Circuits_times), sl_Circuits_times⟩)
    (c_Circuits_times : PySem.W.codeIn K cd_Circuits_times "Circuits.times" = true)
    (k_Circuits_times : PySem.W.keepIn K (.ref f_Circuits_times) = true)
    (a_Circuits_star : PySem.W.findIn K (.ref C_Circuits) "star" = some (some (.ref f_Circuits_star)))
    (i_Circuits_star : PySem.W.isFn K (.ref f_Circuits_star) = true)
    (l_Circuits_star : K.lookup f_Circuits_star = some ⟨oc_Circuits_star, od_Circuits_star, .func (PySem.W.fnOf "star" "Circuits.star" (defArgs s_Circuits_star) (defBody s_Circuits_star) (defScope s_Circuits_star) .none kV_Circuits_star dc_Circuits_star pm_Circuits_star an_Circuits_star cd_Circuits_star ct_Circuits_star), sl_Circuits_star⟩)
    (c_Circuits_star : PySem.W.codeIn K cd_Circuits_star "Circuits.star" = true)
    (k_Circuits_star : PySem.W.keepIn K (.ref f_Circuits_star) = true)
    (a_Circuits_shown : PySem.W.findIn K (.ref C_Circuits) "shown" = some (some (.ref f_Circuits_shown)))
    (i_Circuits_shown : PySem.W.isFn K (.ref f_Circuits_shown) = true)
    (l_Circuits_shown : K.lookup f_Circuits_shown = some ⟨oc_Circuits_shown, od_Circuits_shown, .func (PySem.W.fnOf "shown" "Circuits.shown" (defArgs s_Circuits_shown) (defBody s_Circuits_shown) (defScope s_Circuits_shown) .none kV_Circuits_shown dc_Circuits_shown pm_Circuits_shown an_Circuits_shown cd_Circuits_shown ct_Circuits_shown), sl_Circuits_shown⟩)
    (c_Circuits_shown : PySem.W.codeIn K cd_Circuits_shown "Circuits.shown" = true)
    (k_Circuits_shown : PySem.W.keepIn K (.ref f_Circuits_shown) = true)
    (a_Circuits_count : PySem.W.findIn K (.ref C_Circuits) "count" = some (some (.ref f_Circuits_count)))
    (i_Circuits_count : PySem.W.isFn K (.ref f_Circuits_count) = true)
    (l_Circuits_count : K.lookup f_Circuits_count = some ⟨oc_Circuits_count, od_Circuits_count, .func (PySem.W.fnOf "count" "Circuits.count" (defArgs s_Circuits_count) (defBody s_Circuits_count) (defScope s_Circuits_count) .none kV_Circuits_count dc_Circuits_count pm_Circuits_count an_Circuits_count cd_Circuits_count ct_Circuits_count), sl_Circuits_count⟩)
    (c_Circuits_count : PySem.W.codeIn K cd_Circuits_count "Circuits.count" = true)
    (k_Circuits_count : PySem.W.keepIn K (.ref f_Circuits_count) = true)
    (a_Circuits_facts_in : PySem.W.findIn K (.ref C_Circuits) "facts_in" = some (some (.ref f_Circuits_facts_in)))
    (i_Circuits_facts_in : PySem.W.isFn K (.ref f_Circuits_facts_in) = true)
    (l_Circuits_facts_in : K.lookup f_Circuits_facts_in = some ⟨oc_Circuits_facts_in, od_Circuits_facts_in, .func (PySem.W.fnOf "facts_in" "Circuits.facts_in" (defArgs s_Circuits_facts_in) (defBody s_Circuits_facts_in) (defScope s_Circuits_facts_in) .none kV_Circuits_facts_in dc_Circuits_facts_in pm_Circuits_facts_in an_Circuits_facts_in cd_Circuits_facts_in ct_Circuits_facts_in), sl_Circuits_facts_in⟩)
    (c_Circuits_facts_in : PySem.W.codeIn K cd_Circuits_facts_in "Circuits.facts_in" = true)
    (k_Circuits_facts_in : PySem.W.keepIn K (.ref f_Circuits_facts_in) = true)
    (a_Circuits_several : PySem.W.findIn K (.ref C_Circuits) "_several" = some (some (.ref f_Circuits_several)))
    (i_Circuits_several : PySem.W.isFn K (.ref f_Circuits_several) = true)
    (l_Circuits_several : K.lookup f_Circuits_several = some ⟨oc_Circuits_several, od_Circuits_several, .func (PySem.W.fnOf "_several" "Circuits._several" (defArgs s_Circuits_several) (defBody s_Circuits_several) (defScope s_Circuits_several) .none kV_Circuits_several dc_Circuits_several pm_Circuits_several an_Circuits_several cd_Circuits_several ct_Circuits_several), sl_Circuits_several⟩)
    (c_Circuits_several : PySem.W.codeIn K cd_Circuits_several "Circuits._several" = true)
    (k_Circuits_several : PySem.W.keepIn K (.ref f_Circuits_several) = true)
    (a_Circuits_node : PySem.W.findIn K (.ref C_Circuits) "_node" = some (some (.ref f_Circuits_node)))
    (i_Circuits_node : PySem.W.isFn K (.ref f_Circuits_node) = true)
    (l_Circuits_node : K.lookup f_Circuits_node = some ⟨oc_Circuits_node, od_Circuits_node, .func (PySem.W.fnOf "_node" "Circuits._node" (defArgs s_Circuits_node) (defBody s_Circuits_node) (defScope s_Circuits_node) .none kV_Circuits_node dc_Circuits_node pm_Circuits_node an_Circuits_node cd_Circuits_node ct_Circuits_node), sl_Circuits_node⟩)
    (c_Circuits_node : PySem.W.codeIn K cd_Circuits_node "Circuits._node" = true)
    (k_Circuits_node : PySem.W.keepIn K (.ref f_Circuits_node) = true)
    (a_Reckoner_init : PySem.W.findIn K (.ref C_Reckoner) "__init__" = some (some (.ref f_Reckoner_init)))
    (i_Reckoner_init : PySem.W.isFn K (.ref f_Reckoner_init) = true)
    (l_Reckoner_init : K.lookup f_Reckoner_init = some ⟨oc_Reckoner_init, od_Reckoner_init, .func (PySem.W.fnOf "__init__" "Reckoner.__init__" (defArgs s_Reckoner_init) (defBody s_Reckoner_init) (defScope s_Reckoner_init) .none kV_Reckoner_init dc_Reckoner_init pm_Reckoner_init an_Reckoner_init cd_Reckoner_init ct_Reckoner_init), sl_Reckoner_init⟩)
    (c_Reckoner_init : PySem.W.codeIn K cd_Reckoner_init "Reckoner.__init__" = true)
    (k_Reckoner_init : PySem.W.keepIn K (.ref f_Reckoner_init) = true)
    (a_Reckoner_fact : PySem.W.findIn K (.ref C_Reckoner) "fact" = some (some (.ref f_Reckoner_fact)))
    (i_Reckoner_fact : PySem.W.isFn K (.ref f_Reckoner_fact) = true)
    (l_Reckoner_fact : K.lookup f_Reckoner_fact = some ⟨oc_Reckoner_fact, od_Reckoner_fact, .func (PySem.W.fnOf "fact" "Reckoner.fact" (defArgs s_Reckoner_fact) (defBody s_Reckoner_fact) (defScope s_Reckoner_fact) .none kV_Reckoner_fact dc_Reckoner_fact pm_Reckoner_fact an_Reckoner_fact cd_Reckoner_fact ct_Reckoner_fact), sl_Reckoner_fact⟩)
    (c_Reckoner_fact : PySem.W.codeIn K cd_Reckoner_fact "Reckoner.fact" = true)
    (k_Reckoner_fact : PySem.W.keepIn K (.ref f_Reckoner_fact) = true)
    (a_Reckoner_plus : PySem.W.findIn K (.ref C_Reckoner) "plus" = some (some (.ref f_Reckoner_plus)))
    (i_Reckoner_plus : PySem.W.isFn K (.ref f_Reckoner_plus) = true)
    (l_Reckoner_plus : K.lookup f_Reckoner_plus = some ⟨oc_Reckoner_plus, od_Reckoner_plus, .func (PySem.W.fnOf "plus" "Reckoner.plus" (defArgs s_Reckoner_plus) (defBody s_Reckoner_plus) (defScope s_Reckoner_plus) .none kV_Reckoner_plus dc_Reckoner_plus pm_Reckoner_plus an_Reckoner_plus cd_Reckoner_plus ct_Reckoner_plus), sl_Reckoner_plus⟩)
    (c_Reckoner_plus : PySem.W.codeIn K cd_Reckoner_plus "Reckoner.plus" = true)
    (k_Reckoner_plus : PySem.W.keepIn K (.ref f_Reckoner_plus) = true)
    (a_Reckoner_times : PySem.W.findIn K (.ref C_Reckoner) "times" = some (some (.ref f_Reckoner_times)))
    (i_Reckoner_times : PySem.W.isFn K (.ref f_Reckoner_times) = true)
    (l_Reckoner_times : K.lookup f_Reckoner_times = some ⟨oc_Reckoner_times, od_Reckoner_times, .func (PySem.W.fnOf "times" "Reckoner.times" (defArgs s_Reckoner_times) (defBody s_Reckoner_times) (defScope s_Reckoner_times) .none kV_Reckoner_times dc_Reckoner_times pm_Reckoner_times an_Reckoner_times cd_Reckoner_times ct_Reckoner_times), sl_Reckoner_times⟩)
    (c_Reckoner_times : PySem.W.codeIn K cd_Reckoner_times "Reckoner.times" = true)
    (k_Reckoner_times : PySem.W.keepIn K (.ref f_Reckoner_times) = true)
    (a_nodes_within : PySem.W.nsIn K mainGlobals "nodes_within" = some (some (.ref f_nodes_within)))
    (l_nodes_within : K.lookup f_nodes_within = some ⟨oc_nodes_within, od_nodes_within, .func (PySem.W.fnOf "nodes_within" "nodes_within" (defArgs s_nodes_within) (defBody s_nodes_within) (defScope s_nodes_within) .none kV_nodes_within dc_nodes_within pm_nodes_within an_nodes_within cd_nodes_within ct_nodes_within), sl_nodes_within⟩)
    (c_nodes_within : PySem.W.codeIn K cd_nodes_within "nodes_within" = true)
    (k_nodes_within : PySem.W.keepIn K (.ref f_nodes_within) = true)
    (a_parts : PySem.W.nsIn K mainGlobals "_parts" = some (some (.ref f_parts)))
    (l_parts : K.lookup f_parts = some ⟨oc_parts, od_parts, .func (PySem.W.fnOf "_parts" "_parts" (defArgs s_parts) (defBody s_parts) (defScope s_parts) .none kV_parts dc_parts pm_parts an_parts cd_parts ct_parts), sl_parts⟩)
    (c_parts : PySem.W.codeIn K cd_parts "_parts" = true)
    (k_parts : PySem.W.keepIn K (.ref f_parts) = true)
    (a_all_made : PySem.W.nsIn K mainGlobals "all_made" = some (some (.ref f_all_made)))
    (l_all_made : K.lookup f_all_made = some ⟨oc_all_made, od_all_made, .func (PySem.W.fnOf "all_made" "all_made" (defArgs s_all_made) (defBody s_all_made) (defScope s_all_made) .none kV_all_made dc_all_made pm_all_made an_all_made cd_all_made ct_all_made), sl_all_made⟩)
    (c_all_made : PySem.W.codeIn K cd_all_made "all_made" = true)
    (k_all_made : PySem.W.keepIn K (.ref f_all_made) = true)
    (a_made : PySem.W.nsIn K mainGlobals "_made" = some (some (.ref f_made)))
    (l_made : K.lookup f_made = some ⟨oc_made, od_made, .func (PySem.W.fnOf "_made" "_made" (defArgs s_made) (defBody s_made) (defScope s_made) .none kV_made dc_made pm_made an_made cd_made ct_made), sl_made⟩)
    (c_made : PySem.W.codeIn K cd_made "_made" = true)
    (k_made : PySem.W.keepIn K (.ref f_made) = true)
    (a_worth : PySem.W.nsIn K mainGlobals "worth" = some (some (.ref f_worth)))
    (l_worth : K.lookup f_worth = some ⟨oc_worth, od_worth, .func (PySem.W.fnOf "worth" "worth" (defArgs s_worth) (defBody s_worth) (defScope s_worth) .none kV_worth dc_worth pm_worth an_worth cd_worth ct_worth), sl_worth⟩)
    (c_worth : PySem.W.codeIn K cd_worth "worth" = true)
    (k_worth : PySem.W.keepIn K (.ref f_worth) = true)
    (a_is_integer : PySem.W.nsIn K mainGlobals "is_integer" = some (some (.ref f_is_integer)))
    (l_is_integer : K.lookup f_is_integer = some ⟨oc_is_integer, od_is_integer, .func (PySem.W.fnOf "is_integer" "is_integer" (defArgs s_is_integer) (defBody s_is_integer) (defScope s_is_integer) .none kV_is_integer dc_is_integer pm_is_integer an_is_integer cd_is_integer ct_is_integer), sl_is_integer⟩)
    (c_is_integer : PySem.W.codeIn K cd_is_integer "is_integer" = true)
    (k_is_integer : PySem.W.keepIn K (.ref f_is_integer) = true)
    (a_is_pair : PySem.W.nsIn K mainGlobals "is_pair" = some (some (.ref f_is_pair)))
    (l_is_pair : K.lookup f_is_pair = some ⟨oc_is_pair, od_is_pair, .func (PySem.W.fnOf "is_pair" "is_pair" (defArgs s_is_pair) (defBody s_is_pair) (defScope s_is_pair) .none kV_is_pair dc_is_pair pm_is_pair an_is_pair cd_is_pair ct_is_pair), sl_is_pair⟩)
    (c_is_pair : PySem.W.codeIn K cd_is_pair "is_pair" = true)
    (k_is_pair : PySem.W.keepIn K (.ref f_is_pair) = true)
    (a_Polynomials_zero : PySem.W.findIn K (.ref C_Polynomials) "zero" = some (some (.ref f_Polynomials_zero)))
    (i_Polynomials_zero : PySem.W.isFn K (.ref f_Polynomials_zero) = true)
    (l_Polynomials_zero : K.lookup f_Polynomials_zero = some ⟨oc_Polynomials_zero, od_Polynomials_zero, .func (PySem.W.fnOf "zero" "Polynomials.zero" (defArgs s_Polynomials_zero) (defBody s_Polynomials_zero) (defScope s_Polynomials_zero) .none kV_Polynomials_zero dc_Polynomials_zero pm_Polynomials_zero an_Polynomials_zero cd_Polynomials_zero ct_Polynomials_zero), sl_Polynomials_zero⟩)
    (c_Polynomials_zero : PySem.W.codeIn K cd_Polynomials_zero "Polynomials.zero" = true)
    (k_Polynomials_zero : PySem.W.keepIn K (.ref f_Polynomials_zero) = true)
    (a_Polynomials_one : PySem.W.findIn K (.ref C_Polynomials) "one" = some (some (.ref f_Polynomials_one)))
    (i_Polynomials_one : PySem.W.isFn K (.ref f_Polynomials_one) = true)
    (l_Polynomials_one : K.lookup f_Polynomials_one = some ⟨oc_Polynomials_one, od_Polynomials_one, .func (PySem.W.fnOf "one" "Polynomials.one" (defArgs s_Polynomials_one) (defBody s_Polynomials_one) (defScope s_Polynomials_one) .none kV_Polynomials_one dc_Polynomials_one pm_Polynomials_one an_Polynomials_one cd_Polynomials_one ct_Polynomials_one), sl_Polynomials_one⟩)
    (c_Polynomials_one : PySem.W.codeIn K cd_Polynomials_one "Polynomials.one" = true)
    (k_Polynomials_one : PySem.W.keepIn K (.ref f_Polynomials_one) = true)
    (a_Polynomials_plus : PySem.W.findIn K (.ref C_Polynomials) "plus" = some (some (.ref f_Polynomials_plus)))
    (i_Polynomials_plus : PySem.W.isFn K (.ref f_Polynomials_plus) = true)
    (l_Polynomials_plus : K.lookup f_Polynomials_plus = some ⟨oc_Polynomials_plus, od_Polynomials_plus, .func (PySem.W.fnOf "plus" "Polynomials.plus" (defArgs s_Polynomials_plus) (defBody s_Polynomials_plus) (defScope s_Polynomials_plus) .none kV_Polynomials_plus dc_Polynomials_plus pm_Polynomials_plus an_Polynomials_plus cd_Polynomials_plus ct_Polynomials_plus), sl_Polynomials_plus⟩)
    (c_Polynomials_plus : PySem.W.codeIn K cd_Polynomials_plus "Polynomials.plus" = true)
    (k_Polynomials_plus : PySem.W.keepIn K (.ref f_Polynomials_plus) = true)
    (a_Polynomials_times : PySem.W.findIn K (.ref C_Polynomials) "times" = some (some (.ref f_Polynomials_times)))
    (i_Polynomials_times : PySem.W.isFn K (.ref f_Polynomials_times) = true)
    (l_Polynomials_times : K.lookup f_Polynomials_times = some ⟨oc_Polynomials_times, od_Polynomials_times, .func (PySem.W.fnOf "times" "Polynomials.times" (defArgs s_Polynomials_times) (defBody s_Polynomials_times) (defScope s_Polynomials_times) .none kV_Polynomials_times dc_Polynomials_times pm_Polynomials_times an_Polynomials_times cd_Polynomials_times ct_Polynomials_times), sl_Polynomials_times⟩)
    (c_Polynomials_times : PySem.W.codeIn K cd_Polynomials_times "Polynomials.times" = true)
    (k_Polynomials_times : PySem.W.keepIn K (.ref f_Polynomials_times) = true)
    (a_put : PySem.W.nsIn K mainGlobals "_put" = some (some (.ref f_put)))
    (l_put : K.lookup f_put = some ⟨oc_put, od_put, .func (PySem.W.fnOf "_put" "_put" (defArgs s_put) (defBody s_put) (defScope s_put) .none kV_put dc_put pm_put an_put cd_put ct_put), sl_put⟩)
    (c_put : PySem.W.codeIn K cd_put "_put" = true)
    (k_put : PySem.W.keepIn K (.ref f_put) = true)
    (a_polynomial_of : PySem.W.nsIn K mainGlobals "_polynomial_of" = some (some (.ref f_polynomial_of)))
    (l_polynomial_of : K.lookup f_polynomial_of = some ⟨oc_polynomial_of, od_polynomial_of, .func (PySem.W.fnOf "_polynomial_of" "_polynomial_of" (defArgs s_polynomial_of) (defBody s_polynomial_of) (defScope s_polynomial_of) .none kV_polynomial_of dc_polynomial_of pm_polynomial_of an_polynomial_of cd_polynomial_of ct_polynomial_of), sl_polynomial_of⟩)
    (c_polynomial_of : PySem.W.codeIn K cd_polynomial_of "_polynomial_of" = true)
    (k_polynomial_of : PySem.W.keepIn K (.ref f_polynomial_of) = true)
    (a_product_of : PySem.W.nsIn K mainGlobals "_product_of" = some (some (.ref f_product_of)))
    (l_product_of : K.lookup f_product_of = some ⟨oc_product_of, od_product_of, .func (PySem.W.fnOf "_product_of" "_product_of" (defArgs s_product_of) (defBody s_product_of) (defScope s_product_of) .none kV_product_of dc_product_of pm_product_of an_product_of cd_product_of ct_product_of), sl_product_of⟩)
    (c_product_of : PySem.W.codeIn K cd_product_of "_product_of" = true)
    (k_product_of : PySem.W.keepIn K (.ref f_product_of) = true)
    (a_variable : PySem.W.nsIn K mainGlobals "variable" = some (some (.ref f_variable)))
    (l_variable : K.lookup f_variable = some ⟨oc_variable, od_variable, .func (PySem.W.fnOf "variable" "variable" (defArgs s_variable) (defBody s_variable) (defScope s_variable) .none kV_variable dc_variable pm_variable an_variable cd_variable ct_variable), sl_variable⟩)
    (c_variable : PySem.W.codeIn K cd_variable "variable" = true)
    (k_variable : PySem.W.keepIn K (.ref f_variable) = true)
    (a_normal : PySem.W.nsIn K mainGlobals "normal" = some (some (.ref f_normal)))
    (l_normal : K.lookup f_normal = some ⟨oc_normal, od_normal, .func (PySem.W.fnOf "normal" "normal" (defArgs s_normal) (defBody s_normal) (defScope s_normal) .none kV_normal dc_normal pm_normal an_normal cd_normal ct_normal), sl_normal⟩)
    (c_normal : PySem.W.codeIn K cd_normal "normal" = true)
    (k_normal : PySem.W.keepIn K (.ref f_normal) = true)
    (a_need_no_star : PySem.W.nsIn K mainGlobals "need_no_star" = some (some (.ref f_need_no_star)))
    (l_need_no_star : K.lookup f_need_no_star = some ⟨oc_need_no_star, od_need_no_star, .func (PySem.W.fnOf "need_no_star" "need_no_star" (defArgs s_need_no_star) (defBody s_need_no_star) (defScope s_need_no_star) .none kV_need_no_star dc_need_no_star pm_need_no_star an_need_no_star cd_need_no_star ct_need_no_star), sl_need_no_star⟩)
    (c_need_no_star : PySem.W.codeIn K cd_need_no_star "need_no_star" = true)
    (k_need_no_star : PySem.W.keepIn K (.ref f_need_no_star) = true)
    (a_Slopes_zero : PySem.W.findIn K (.ref C_Slopes) "zero" = some (some (.ref f_Slopes_zero)))
    (i_Slopes_zero : PySem.W.isFn K (.ref f_Slopes_zero) = true)
    (l_Slopes_zero : K.lookup f_Slopes_zero = some ⟨oc_Slopes_zero, od_Slopes_zero, .func (PySem.W.fnOf "zero" "Slopes.zero" (defArgs s_Slopes_zero) (defBody s_Slopes_zero) (defScope s_Slopes_zero) .none kV_Slopes_zero dc_Slopes_zero pm_Slopes_zero an_Slopes_zero cd_Slopes_zero ct_Slopes_zero), sl_Slopes_zero⟩)
    (c_Slopes_zero : PySem.W.codeIn K cd_Slopes_zero "Slopes.zero" = true)
    (k_Slopes_zero : PySem.W.keepIn K (.ref f_Slopes_zero) = true)
    (a_Slopes_one : PySem.W.findIn K (.ref C_Slopes) "one" = some (some (.ref f_Slopes_one)))
    (i_Slopes_one : PySem.W.isFn K (.ref f_Slopes_one) = true)
    (l_Slopes_one : K.lookup f_Slopes_one = some ⟨oc_Slopes_one, od_Slopes_one, .func (PySem.W.fnOf "one" "Slopes.one" (defArgs s_Slopes_one) (defBody s_Slopes_one) (defScope s_Slopes_one) .none kV_Slopes_one dc_Slopes_one pm_Slopes_one an_Slopes_one cd_Slopes_one ct_Slopes_one), sl_Slopes_one⟩)
    (c_Slopes_one : PySem.W.codeIn K cd_Slopes_one "Slopes.one" = true)
    (k_Slopes_one : PySem.W.keepIn K (.ref f_Slopes_one) = true)
    (a_Slopes_plus : PySem.W.findIn K (.ref C_Slopes) "plus" = some (some (.ref f_Slopes_plus)))
    (i_Slopes_plus : PySem.W.isFn K (.ref f_Slopes_plus) = true)
    (l_Slopes_plus : K.lookup f_Slopes_plus = some ⟨oc_Slopes_plus, od_Slopes_plus, .func (PySem.W.fnOf "plus" "Slopes.plus" (defArgs s_Slopes_plus) (defBody s_Slopes_plus) (defScope s_Slopes_plus) .none kV_Slopes_plus dc_Slopes_plus pm_Slopes_plus an_Slopes_plus cd_Slopes_plus ct_Slopes_plus), sl_Slopes_plus⟩)
    (c_Slopes_plus : PySem.W.codeIn K cd_Slopes_plus "Slopes.plus" = true)
    (k_Slopes_plus : PySem.W.keepIn K (.ref f_Slopes_plus) = true)
    (a_Slopes_times : PySem.W.findIn K (.ref C_Slopes) "times" = some (some (.ref f_Slopes_times)))
    (i_Slopes_times : PySem.W.isFn K (.ref f_Slopes_times) = true)
    (l_Slopes_times : K.lookup f_Slopes_times = some ⟨oc_Slopes_times, od_Slopes_times, .func (PySem.W.fnOf "times" "Slopes.times" (defArgs s_Slopes_times) (defBody s_Slopes_times) (defScope s_Slopes_times) .none kV_Slopes_times dc_Slopes_times pm_Slopes_times an_Slopes_times cd_Slopes_times ct_Slopes_times), sl_Slopes_times⟩)
    (c_Slopes_times : PySem.W.codeIn K cd_Slopes_times "Slopes.times" = true)
    (k_Slopes_times : PySem.W.keepIn K (.ref f_Slopes_times) = true)
    (a_Slopes_star : PySem.W.findIn K (.ref C_Slopes) "star" = some (some (.ref f_Slopes_star)))
    (i_Slopes_star : PySem.W.isFn K (.ref f_Slopes_star) = true)
    (l_Slopes_star : K.lookup f_Slopes_star = some ⟨oc_Slopes_star, od_Slopes_star, .func (PySem.W.fnOf "star" "Slopes.star" (defArgs s_Slopes_star) (defBody s_Slopes_star) (defScope s_Slopes_star) .none kV_Slopes_star dc_Slopes_star pm_Slopes_star an_Slopes_star cd_Slopes_star ct_Slopes_star), sl_Slopes_star⟩)
    (c_Slopes_star : PySem.W.codeIn K cd_Slopes_star "Slopes.star" = true)
    (k_Slopes_star : PySem.W.keepIn K (.ref f_Slopes_star) = true)
    (a_Slopes_is_element : PySem.W.findIn K (.ref C_Slopes) "is_element" = some (some (.ref f_Slopes_is_element)))
    (i_Slopes_is_element : PySem.W.isFn K (.ref f_Slopes_is_element) = true)
    (l_Slopes_is_element : K.lookup f_Slopes_is_element = some ⟨oc_Slopes_is_element, od_Slopes_is_element, .func (PySem.W.fnOf "is_element" "Slopes.is_element" (defArgs s_Slopes_is_element) (defBody s_Slopes_is_element) (defScope s_Slopes_is_element) .none kV_Slopes_is_element dc_Slopes_is_element pm_Slopes_is_element an_Slopes_is_element cd_Slopes_is_element ct_Slopes_is_element), sl_Slopes_is_element⟩)
    (c_Slopes_is_element : PySem.W.codeIn K cd_Slopes_is_element "Slopes.is_element" = true)
    (k_Slopes_is_element : PySem.W.keepIn K (.ref f_Slopes_is_element) = true)
    (a_slope : PySem.W.nsIn K mainGlobals "slope" = some (some (.ref f_slope)))
    (l_slope : K.lookup f_slope = some ⟨oc_slope, od_slope, .func (PySem.W.fnOf "slope" "slope" (defArgs s_slope) (defBody s_slope) (defScope s_slope) .none kV_slope dc_slope pm_slope an_slope cd_slope ct_slope), sl_slope⟩)
    (c_slope : PySem.W.codeIn K cd_slope "slope" = true)
    (k_slope : PySem.W.keepIn K (.ref f_slope) = true)
    (a_law_pot : PySem.W.nsIn K mainGlobals "_law_pot" = some (some (.ref f_law_pot)))
    (l_law_pot : K.lookup f_law_pot = some ⟨oc_law_pot, od_law_pot, .func (PySem.W.fnOf "_law_pot" "_law_pot" (defArgs s_law_pot) (defBody s_law_pot) (defScope s_law_pot) .none kV_law_pot dc_law_pot pm_law_pot an_law_pot cd_law_pot ct_law_pot), sl_law_pot⟩)
    (c_law_pot : PySem.W.codeIn K cd_law_pot "_law_pot" = true)
    (k_law_pot : PySem.W.keepIn K (.ref f_law_pot) = true)
    (a_law_next : PySem.W.nsIn K mainGlobals "_law_next" = some (some (.ref f_law_next)))
    (l_law_next : K.lookup f_law_next = some ⟨oc_law_next, od_law_next, .func (PySem.W.fnOf "_law_next" "_law_next" (defArgs s_law_next) (defBody s_law_next) (defScope s_law_next) .none kV_law_next dc_law_next pm_law_next an_law_next cd_law_next ct_law_next), sl_law_next⟩)
    (c_law_next : PySem.W.codeIn K cd_law_next "_law_next" = true)
    (k_law_next : PySem.W.keepIn K (.ref f_law_next) = true)
    (a_law_is_int : PySem.W.nsIn K mainGlobals "_law_is_int" = some (some (.ref f_law_is_int)))
    (l_law_is_int : K.lookup f_law_is_int = some ⟨oc_law_is_int, od_law_is_int, .func (PySem.W.fnOf "_law_is_int" "_law_is_int" (defArgs s_law_is_int) (defBody s_law_is_int) (defScope s_law_is_int) .none kV_law_is_int dc_law_is_int pm_law_is_int an_law_is_int cd_law_is_int ct_law_is_int), sl_law_is_int⟩)
    (c_law_is_int : PySem.W.codeIn K cd_law_is_int "_law_is_int" = true)
    (k_law_is_int : PySem.W.keepIn K (.ref f_law_is_int) = true)
    (a_law_grown : PySem.W.nsIn K mainGlobals "_law_grown" = some (some (.ref f_law_grown)))
    (l_law_grown : K.lookup f_law_grown = some ⟨oc_law_grown, od_law_grown, .func (PySem.W.fnOf "_law_grown" "_law_grown" (defArgs s_law_grown) (defBody s_law_grown) (defScope s_law_grown) .none kV_law_grown dc_law_grown pm_law_grown an_law_grown cd_law_grown ct_law_grown), sl_law_grown⟩)
    (c_law_grown : PySem.W.codeIn K cd_law_grown "_law_grown" = true)
    (k_law_grown : PySem.W.keepIn K (.ref f_law_grown) = true)
    (a_law_form : PySem.W.nsIn K mainGlobals "_law_form" = some (some (.ref f_law_form)))
    (l_law_form : K.lookup f_law_form = some ⟨oc_law_form, od_law_form, .func (PySem.W.fnOf "_law_form" "_law_form" (defArgs s_law_form) (defBody s_law_form) (defScope s_law_form) .none kV_law_form dc_law_form pm_law_form an_law_form cd_law_form ct_law_form), sl_law_form⟩)
    (c_law_form : PySem.W.codeIn K cd_law_form "_law_form" = true)
    (k_law_form : PySem.W.keepIn K (.ref f_law_form) = true)
    (a_law_power : PySem.W.nsIn K mainGlobals "_law_power" = some (some (.ref f_law_power)))
    (l_law_power : K.lookup f_law_power = some ⟨oc_law_power, od_law_power, .func (PySem.W.fnOf "_law_power" "_law_power" (defArgs s_law_power) (defBody s_law_power) (defScope s_law_power) .none kV_law_power dc_law_power pm_law_power an_law_power cd_law_power ct_law_power), sl_law_power⟩)
    (c_law_power : PySem.W.codeIn K cd_law_power "_law_power" = true)
    (k_law_power : PySem.W.keepIn K (.ref f_law_power) = true)
    (a_law_due : PySem.W.nsIn K mainGlobals "_law_due" = some (some (.ref f_law_due)))
    (l_law_due : K.lookup f_law_due = some ⟨oc_law_due, od_law_due, .func (PySem.W.fnOf "_law_due" "_law_due" (defArgs s_law_due) (defBody s_law_due) (defScope s_law_due) .none kV_law_due dc_law_due pm_law_due an_law_due cd_law_due ct_law_due), sl_law_due⟩)
    (c_law_due : PySem.W.codeIn K cd_law_due "_law_due" = true)
    (k_law_due : PySem.W.keepIn K (.ref f_law_due) = true)
    (a_law_refused : PySem.W.nsIn K mainGlobals "_law_refused" = some (some (.ref f_law_refused)))
    (l_law_refused : K.lookup f_law_refused = some ⟨oc_law_refused, od_law_refused, .func (PySem.W.fnOf "_law_refused" "_law_refused" (defArgs s_law_refused) (defBody s_law_refused) (defScope s_law_refused) .none kV_law_refused dc_law_refused pm_law_refused an_law_refused cd_law_refused ct_law_refused), sl_law_refused⟩)
    (c_law_refused : PySem.W.codeIn K cd_law_refused "_law_refused" = true)
    (k_law_refused : PySem.W.keepIn K (.ref f_law_refused) = true)
    (a_law : PySem.W.nsIn K mainGlobals "law" = some (some (.ref f_law)))
    (l_law : K.lookup f_law = some ⟨oc_law, od_law, .func (PySem.W.fnOf "law" "law" (defArgs s_law) (defBody s_law) (defScope s_law) .none kV_law dc_law pm_law an_law cd_law ct_law), sl_law⟩)
    (c_law : PySem.W.codeIn K cd_law "law" = true)
    (k_law : PySem.W.keepIn K (.ref f_law) = true)
    (x_WorthError : PySem.W.excIn K C_WorthError [.type "ValueError", .type "Exception", .type "BaseException", .type "object"] "ValueError.__new__" = true)
    (kp_WorthError : PySem.W.keepIn K (.ref C_WorthError) = true)
    (b_WorthError : PySem.W.subIn K (.ref C_WorthError) (.type "BaseException") = some true)
    (t_WorthError : PySem.W.typeIn K (.ref C_WorthError) = some (.type "type"))
    (hd_WorthError : PySem.W.hasDictIn K C_WorthError = true)
    (ga_WorthError : PySem.W.findIn K (.ref C_WorthError) "__getattribute__" = some (some (.builtin "BaseException.__getattribute__")))
    (gg_WorthError : PySem.W.findIn K (.ref C_WorthError) "__getattr__" = some none)
    (cc_WorthError : PySem.W.findIn K (.ref C_WorthError) "__class__" = some (some (.builtin "object.__class__")))
    (mo_WorthError : PySem.W.mroIn K C_WorthError (.type "object") = some true)
    (x_NoStar : PySem.W.excIn K C_NoStar [.type "ValueError", .type "Exception", .type "BaseException", .type "object"] "ValueError.__new__" = true)
    (kp_NoStar : PySem.W.keepIn K (.ref C_NoStar) = true)
    (b_NoStar : PySem.W.subIn K (.ref C_NoStar) (.type "BaseException") = some true)
    (t_NoStar : PySem.W.typeIn K (.ref C_NoStar) = some (.type "type"))
    (hd_NoStar : PySem.W.hasDictIn K C_NoStar = true)
    (ga_NoStar : PySem.W.findIn K (.ref C_NoStar) "__getattribute__" = some (some (.builtin "BaseException.__getattribute__")))
    (gg_NoStar : PySem.W.findIn K (.ref C_NoStar) "__getattr__" = some none)
    (cc_NoStar : PySem.W.findIn K (.ref C_NoStar) "__class__" = some (some (.builtin "object.__class__")))
    (mo_NoStar : PySem.W.mroIn K C_NoStar (.type "object") = some true)
    (s_NoStar_WorthError : PySem.W.subIn K (.ref C_NoStar) (.ref C_WorthError) = some true)
    (x_TooLarge : PySem.W.excIn K C_TooLarge [.type "ValueError", .type "Exception", .type "BaseException", .type "object"] "ValueError.__new__" = true)
    (kp_TooLarge : PySem.W.keepIn K (.ref C_TooLarge) = true)
    (b_TooLarge : PySem.W.subIn K (.ref C_TooLarge) (.type "BaseException") = some true)
    (t_TooLarge : PySem.W.typeIn K (.ref C_TooLarge) = some (.type "type"))
    (hd_TooLarge : PySem.W.hasDictIn K C_TooLarge = true)
    (ga_TooLarge : PySem.W.findIn K (.ref C_TooLarge) "__getattribute__" = some (some (.builtin "BaseException.__getattribute__")))
    (gg_TooLarge : PySem.W.findIn K (.ref C_TooLarge) "__getattr__" = some none)
    (cc_TooLarge : PySem.W.findIn K (.ref C_TooLarge) "__class__" = some (some (.builtin "object.__class__")))
    (mo_TooLarge : PySem.W.mroIn K C_TooLarge (.type "object") = some true)
    (s_TooLarge_WorthError : PySem.W.subIn K (.ref C_TooLarge) (.ref C_WorthError) = some true)
    (pg_Circuits : PySem.W.plainGet K C_Circuits Str.empty = true)
    (hd_Circuits : PySem.W.hasDictIn K C_Circuits = true)
    (po_Circuits : PySem.W.plainOver K C_Circuits = true)
    (sa_Circuits : PySem.W.findIn K (.ref C_Circuits) "__setattr__" = some (some (.builtin "object.__setattr__")))
    (mk_Circuits : PySem.W.makesIn K C_Circuits = true)
    (kc_Circuits : PySem.W.keepIn K (.ref C_Circuits) = true)
    (pg_Reckoner : PySem.W.plainGet K C_Reckoner Str.empty = true)
    (hd_Reckoner : PySem.W.hasDictIn K C_Reckoner = true)
    (po_Reckoner : PySem.W.plainOver K C_Reckoner = true)
    (sa_Reckoner : PySem.W.findIn K (.ref C_Reckoner) "__setattr__" = some (some (.builtin "object.__setattr__")))
    (mk_Reckoner : PySem.W.makesIn K C_Reckoner = true)
    (kc_Reckoner : PySem.W.keepIn K (.ref C_Reckoner) = true)
    (pg_Polynomials : PySem.W.plainGet K C_Polynomials Str.empty = true)
    (hd_Polynomials : PySem.W.hasDictIn K C_Polynomials = true)
    (po_Polynomials : PySem.W.plainOver K C_Polynomials = true)
    (sa_Polynomials : PySem.W.findIn K (.ref C_Polynomials) "__setattr__" = some (some (.builtin "object.__setattr__")))
    (mk_Polynomials : PySem.W.makesIn K C_Polynomials = true)
    (kc_Polynomials : PySem.W.keepIn K (.ref C_Polynomials) = true)
    (ini_Polynomials : PySem.W.findIn K (.ref C_Polynomials) "__init__" = some (some (.builtin "object.__init__")))
    (pg_Slopes : PySem.W.plainGet K C_Slopes Str.empty = true)
    (hd_Slopes : PySem.W.hasDictIn K C_Slopes = true)
    (po_Slopes : PySem.W.plainOver K C_Slopes = true)
    (sa_Slopes : PySem.W.findIn K (.ref C_Slopes) "__setattr__" = some (some (.builtin "object.__setattr__")))
    (mk_Slopes : PySem.W.makesIn K C_Slopes = true)
    (kc_Slopes : PySem.W.keepIn K (.ref C_Slopes) = true)
    (ini_Slopes : PySem.W.findIn K (.ref C_Slopes) "__init__" = some (some (.builtin "object.__init__")))
    (spc : PySem.W.specialIn K (.builtin "object.__class__") "__get__" = some (some (.builtin "getset_descriptor.__get__")))
    (tki : PySem.W.takesIn K (.builtin "object.__class__") = some true)
    (n_Circuits__shown : PySem.W.findIn K (.ref C_Circuits) "_shown" = some none)
    (n_Circuits__numbers : PySem.W.findIn K (.ref C_Circuits) "_numbers" = some none)
    (n_Reckoner__semiring : PySem.W.findIn K (.ref C_Reckoner) "_semiring" = some none)
    (n_Reckoner__worths : PySem.W.findIn K (.ref C_Reckoner) "_worths" = some none)
    (g_MOST_NODES : PySem.W.nsIn K mainGlobals "MOST_NODES" = some (some (.int 20000 tk_MOST_NODES)))
    (g_MOST_IN_ONE : PySem.W.nsIn K mainGlobals "MOST_IN_ONE" = some (some (.int 2000 tk_MOST_IN_ONE)))
    (g_ZERO : PySem.W.nsIn K mainGlobals "ZERO" = some (some (.int 0 tk_ZERO)))
    (g_ONE : PySem.W.nsIn K mainGlobals "ONE" = some (some (.int 1 tk_ONE)))
    (g_MOST_MONOMIALS : PySem.W.nsIn K mainGlobals "MOST_MONOMIALS" = some (some (.int 400 tk_MOST_MONOMIALS)))
    (z_isinstance : PySem.W.nsIn K mainGlobals "isinstance" = some none)
    (z_int : PySem.W.nsIn K mainGlobals "int" = some none)
    (z_bool : PySem.W.nsIn K mainGlobals "bool" = some none)
    (z_list : PySem.W.nsIn K mainGlobals "list" = some none)
    (z_tuple : PySem.W.nsIn K mainGlobals "tuple" = some none)
    (z_min : PySem.W.nsIn K mainGlobals "min" = some none)
    (z_abs : PySem.W.nsIn K mainGlobals "abs" = some none)
    (z_len : PySem.W.nsIn K mainGlobals "len" = some none)
    (z_range : PySem.W.nsIn K mainGlobals "range" = some none)
    (z_all : PySem.W.nsIn K mainGlobals "all" = some none)
    (z_any : PySem.W.nsIn K mainGlobals "any" = some none)
    (z_dict : PySem.W.nsIn K mainGlobals "dict" = some none)
    (z_sorted : PySem.W.nsIn K mainGlobals "sorted" = some none)
    (z_sum : PySem.W.nsIn K mainGlobals "sum" = some none)
    : ∃ fd : FuncData, (∀ (s : Shared) (v : Value), BindsTo s fd ⟨[v], []⟩ [("script", v)]) ∧ ∀ base : Heap, K.In base → base.Ns mainGlobals mg → FnOk l.prog w K mg base (L2.CX l.prog w) 101 fa fd ["script"] (spLaw K) := by
  have e := hfa.symm.trans (PySem.W.mg_of X G a_law)
  cases e
  have F_Circuits_init := fun_mk (st := s_Circuits_init) l_Circuits_init c_Circuits_init k_Circuits_init
  have b_Circuits_init := F_Circuits_init.binds (ps := ["self"]) fun _ _ _ _ _ _ us hl => match us, hl with | [_], _ => rfl
  have F_Circuits_fact := fun_mk (st := s_Circuits_fact) l_Circuits_fact c_Circuits_fact k_Circuits_fact
  have b_Circuits_fact := F_Circuits_fact.binds (ps := ["self", "k"]) fun _ _ _ _ _ _ us hl => match us, hl with | [_, _], _ => rfl
  have F_Circuits_plus := fun_mk (st := s_Circuits_plus) l_Circuits_plus c_Circuits_plus k_Circuits_plus
  have b_Circuits_plus := F_Circuits_plus.binds (ps := ["self", "nodes"]) fun _ _ _ _ _ _ us hl => match us, hl with | [_, _], _ => rfl
  have F_Circuits_times := fun_mk (st := s_Circuits_times) l_Circuits_times c_Circuits_times k_Circuits_times
  have b_Circuits_times := F_Circuits_times.binds (ps := ["self", "nodes"]) fun _ _ _ _ _ _ us hl => match us, hl with | [_, _], _ => rfl
  have F_Circuits_star := fun_mk (st := s_Circuits_star) l_Circuits_star c_Circuits_star k_Circuits_star
  have b_Circuits_star := F_Circuits_star.binds (ps := ["self", "node"]) fun _ _ _ _ _ _ us hl => match us, hl with | [_, _], _ => rfl
  have F_Circuits_shown := fun_mk (st := s_Circuits_shown) l_Circuits_shown c_Circuits_shown k_Circuits_shown
  have b_Circuits_shown := F_Circuits_shown.binds (ps := ["self", "node"]) fun _ _ _ _ _ _ us hl => match us, hl with | [_, _], _ => rfl
  have F_Circuits_count := fun_mk (st := s_Circuits_count) l_Circuits_count c_Circuits_count k_Circuits_count
  have b_Circuits_count := F_Circuits_count.binds (ps := ["self"]) fun _ _ _ _ _ _ us hl => match us, hl with | [_], _ => rfl
  have F_Circuits_facts_in := fun_mk (st := s_Circuits_facts_in) l_Circuits_facts_in c_Circuits_facts_in k_Circuits_facts_in
  have b_Circuits_facts_in := F_Circuits_facts_in.binds (ps := ["self", "node"]) fun _ _ _ _ _ _ us hl => match us, hl with | [_, _], _ => rfl
  have F_Circuits_several := fun_mk (st := s_Circuits_several) l_Circuits_several c_Circuits_several k_Circuits_several
  have b_Circuits_several := F_Circuits_several.binds (ps := ["self", "word", "nodes", "neutral"]) fun _ _ _ _ _ _ us hl => match us, hl with | [_, _, _, _], _ => rfl
  have F_Circuits_node := fun_mk (st := s_Circuits_node) l_Circuits_node c_Circuits_node k_Circuits_node
  have b_Circuits_node := F_Circuits_node.binds (ps := ["self", "shown"]) fun _ _ _ _ _ _ us hl => match us, hl with | [_, _], _ => rfl
  have F_Reckoner_init := fun_mk (st := s_Reckoner_init) l_Reckoner_init c_Reckoner_init k_Reckoner_init
  have b_Reckoner_init := F_Reckoner_init.binds (ps := ["self", "semiring", "worths"]) fun _ _ _ _ _ _ us hl => match us, hl with | [_, _, _], _ => rfl
  have F_Reckoner_fact := fun_mk (st := s_Reckoner_fact) l_Reckoner_fact c_Reckoner_fact k_Reckoner_fact
  have b_Reckoner_fact := F_Reckoner_fact.binds (ps := ["self", "k"]) fun _ _ _ _ _ _ us hl => match us, hl with | [_, _], _ => rfl
  have F_Reckoner_plus := fun_mk (st := s_Reckoner_plus) l_Reckoner_plus c_Reckoner_plus k_Reckoner_plus
  have b_Reckoner_plus := F_Reckoner_plus.binds (ps := ["self", "parts"]) fun _ _ _ _ _ _ us hl => match us, hl with | [_, _], _ => rfl
  have F_Reckoner_times := fun_mk (st := s_Reckoner_times) l_Reckoner_times c_Reckoner_times k_Reckoner_times
  have b_Reckoner_times := F_Reckoner_times.binds (ps := ["self", "parts"]) fun _ _ _ _ _ _ us hl => match us, hl with | [_, _], _ => rfl
  have F_nodes_within := fun_mk (st := s_nodes_within) l_nodes_within c_nodes_within k_nodes_within
  have b_nodes_within := F_nodes_within.binds (ps := ["circuits", "nodes"]) fun _ _ _ _ _ _ us hl => match us, hl with | [_, _], _ => rfl
  have F_parts := fun_mk (st := s_parts) l_parts c_parts k_parts
  have b_parts := F_parts.binds (ps := ["shown"]) fun _ _ _ _ _ _ us hl => match us, hl with | [_], _ => rfl
  have F_all_made := fun_mk (st := s_all_made) l_all_made c_all_made k_all_made
  have b_all_made := F_all_made.binds (ps := ["circuits", "nodes", "maker"]) fun _ _ _ _ _ _ us hl => match us, hl with | [_, _, _], _ => rfl
  have F_made := fun_mk (st := s_made) l_made c_made k_made
  have b_made := F_made.binds (ps := ["shown", "made", "maker"]) fun _ _ _ _ _ _ us hl => match us, hl with | [_, _, _], _ => rfl
  have F_worth := fun_mk (st := s_worth) l_worth c_worth k_worth
  have b_worth := F_worth.binds (ps := ["circuits", "node", "semiring", "worths"]) fun _ _ _ _ _ _ us hl => match us, hl with | [_, _, _, _], _ => rfl
  have F_is_integer := fun_mk (st := s_is_integer) l_is_integer c_is_integer k_is_integer
  have b_is_integer := F_is_integer.binds (ps := ["thing"]) fun _ _ _ _ _ _ us hl => match us, hl with | [_], _ => rfl
  have F_is_pair := fun_mk (st := s_is_pair) l_is_pair c_is_pair k_is_pair
  have b_is_pair := F_is_pair.binds (ps := ["thing"]) fun _ _ _ _ _ _ us hl => match us, hl with | [_], _ => rfl
  have F_Polynomials_zero := fun_mk (st := s_Polynomials_zero) l_Polynomials_zero c_Polynomials_zero k_Polynomials_zero
  have b_Polynomials_zero := F_Polynomials_zero.binds (ps := ["self"]) fun _ _ _ _ _ _ us hl => match us, hl with | [_], _ => rfl
  have F_Polynomials_one := fun_mk (st := s_Polynomials_one) l_Polynomials_one c_Polynomials_one k_Polynomials_one
  have b_Polynomials_one := F_Polynomials_one.binds (ps := ["self"]) fun _ _ _ _ _ _ us hl => match us, hl with | [_], _ => rfl
  have F_Polynomials_plus := fun_mk (st := s_Polynomials_plus) l_Polynomials_plus c_Polynomials_plus k_Polynomials_plus
  have b_Polynomials_plus := F_Polynomials_plus.binds (ps := ["self", "a", "b"]) fun _ _ _ _ _ _ us hl => match us, hl with | [_, _, _], _ => rfl
  have F_Polynomials_times := fun_mk (st := s_Polynomials_times) l_Polynomials_times c_Polynomials_times k_Polynomials_times
  have b_Polynomials_times := F_Polynomials_times.binds (ps := ["self", "a", "b"]) fun _ _ _ _ _ _ us hl => match us, hl with | [_, _, _], _ => rfl
  have F_put := fun_mk (st := s_put) l_put c_put k_put
  have b_put := F_put.binds (ps := ["found", "monomial", "coefficient"]) fun _ _ _ _ _ _ us hl => match us, hl with | [_, _, _], _ => rfl
  have F_polynomial_of := fun_mk (st := s_polynomial_of) l_polynomial_of c_polynomial_of k_polynomial_of
  have b_polynomial_of := F_polynomial_of.binds (ps := ["found"]) fun _ _ _ _ _ _ us hl => match us, hl with | [_], _ => rfl
  have F_product_of := fun_mk (st := s_product_of) l_product_of c_product_of k_product_of
  have b_product_of := F_product_of.binds (ps := ["first", "second"]) fun _ _ _ _ _ _ us hl => match us, hl with | [_, _], _ => rfl
  have F_variable := fun_mk (st := s_variable) l_variable c_variable k_variable
  have b_variable := F_variable.binds (ps := ["fact"]) fun _ _ _ _ _ _ us hl => match us, hl with | [_], _ => rfl
  have F_normal := fun_mk (st := s_normal) l_normal c_normal k_normal
  have b_normal := F_normal.binds (ps := ["circuits", "node"]) fun _ _ _ _ _ _ us hl => match us, hl with | [_, _], _ => rfl
  have F_need_no_star := fun_mk (st := s_need_no_star) l_need_no_star c_need_no_star k_need_no_star
  have b_need_no_star := F_need_no_star.binds (ps := ["circuits", "node"]) fun _ _ _ _ _ _ us hl => match us, hl with | [_, _], _ => rfl
  have F_Slopes_zero := fun_mk (st := s_Slopes_zero) l_Slopes_zero c_Slopes_zero k_Slopes_zero
  have b_Slopes_zero := F_Slopes_zero.binds (ps := ["self"]) fun _ _ _ _ _ _ us hl => match us, hl with | [_], _ => rfl
  have F_Slopes_one := fun_mk (st := s_Slopes_one) l_Slopes_one c_Slopes_one k_Slopes_one
  have b_Slopes_one := F_Slopes_one.binds (ps := ["self"]) fun _ _ _ _ _ _ us hl => match us, hl with | [_], _ => rfl
  have F_Slopes_plus := fun_mk (st := s_Slopes_plus) l_Slopes_plus c_Slopes_plus k_Slopes_plus
  have b_Slopes_plus := F_Slopes_plus.binds (ps := ["self", "a", "b"]) fun _ _ _ _ _ _ us hl => match us, hl with | [_, _, _], _ => rfl
  have F_Slopes_times := fun_mk (st := s_Slopes_times) l_Slopes_times c_Slopes_times k_Slopes_times
  have b_Slopes_times := F_Slopes_times.binds (ps := ["self", "a", "b"]) fun _ _ _ _ _ _ us hl => match us, hl with | [_, _, _], _ => rfl
  have F_Slopes_star := fun_mk (st := s_Slopes_star) l_Slopes_star c_Slopes_star k_Slopes_star
  have b_Slopes_star := F_Slopes_star.binds (ps := ["self", "a"]) fun _ _ _ _ _ _ us hl => match us, hl with | [_, _], _ => rfl
  have F_Slopes_is_element := fun_mk (st := s_Slopes_is_element) l_Slopes_is_element c_Slopes_is_element k_Slopes_is_element
  have b_Slopes_is_element := F_Slopes_is_element.binds (ps := ["self", "a"]) fun _ _ _ _ _ _ us hl => match us, hl with | [_, _], _ => rfl
  have F_slope := fun_mk (st := s_slope) l_slope c_slope k_slope
  have b_slope := F_slope.binds (ps := ["circuits", "node", "fact", "numbers"]) fun _ _ _ _ _ _ us hl => match us, hl with | [_, _, _, _], _ => rfl
  have F_law_pot := fun_mk (st := s_law_pot) l_law_pot c_law_pot k_law_pot
  have b_law_pot := F_law_pot.binds (ps := ["script"]) fun _ _ _ _ _ _ us hl => match us, hl with | [_], _ => rfl
  have F_law_next := fun_mk (st := s_law_next) l_law_next c_law_next k_law_next
  have b_law_next := F_law_next.binds (ps := ["pot", "limit"]) fun _ _ _ _ _ _ us hl => match us, hl with | [_, _], _ => rfl
  have F_law_is_int := fun_mk (st := s_law_is_int) l_law_is_int c_law_is_int k_law_is_int
  have b_law_is_int := F_law_is_int.binds (ps := ["value"]) fun _ _ _ _ _ _ us hl => match us, hl with | [_], _ => rfl
  have F_law_grown := fun_mk (st := s_law_grown) l_law_grown c_law_grown k_law_grown
  have b_law_grown := F_law_grown.binds (ps := ["pot", "circuits", "facts", "stars"]) fun _ _ _ _ _ _ us hl => match us, hl with | [_, _, _, _], _ => rfl
  have F_law_form := fun_mk (st := s_law_form) l_law_form c_law_form k_law_form
  have b_law_form := F_law_form.binds (ps := ["circuits", "node"]) fun _ _ _ _ _ _ us hl => match us, hl with | [_, _], _ => rfl
  have F_law_power := fun_mk (st := s_law_power) l_law_power c_law_power k_law_power
  have b_law_power := F_law_power.binds (ps := ["number", "exponent"]) fun _ _ _ _ _ _ us hl => match us, hl with | [_, _], _ => rfl
  have F_law_due := fun_mk (st := s_law_due) l_law_due c_law_due k_law_due
  have b_law_due := F_law_due.binds (ps := ["form", "fact", "numbers"]) fun _ _ _ _ _ _ us hl => match us, hl with | [_, _, _], _ => rfl
  have F_law_refused := fun_mk (st := s_law_refused) l_law_refused c_law_refused k_law_refused
  have b_law_refused := F_law_refused.binds (ps := ["circuits", "node"]) fun _ _ _ _ _ _ us hl => match us, hl with | [_, _], _ => rfl
  have F_law := fun_mk (st := s_law) l_law c_law k_law
  have b_law := F_law.binds (ps := ["script"]) fun _ _ _ _ _ _ us hl => match us, hl with | [_], _ => rfl
  have cl_Circuits : Cls K C_Circuits := ⟨pg_Circuits, hd_Circuits, po_Circuits, sa_Circuits⟩
  have cl_Reckoner : Cls K C_Reckoner := ⟨pg_Reckoner, hd_Reckoner, po_Reckoner, sa_Reckoner⟩
  have cl_Slopes : Cls K C_Slopes := ⟨pg_Slopes, hd_Slopes, po_Slopes, sa_Slopes⟩
  have cl_Polynomials : Cls K C_Polynomials := ⟨pg_Polynomials, hd_Polynomials, po_Polynomials, sa_Polynomials⟩
  have kself : ∀ c : Addr, PySem.W.kitOne K (.ref c) (.ref c) = some true := fun c => if_pos (beq_iff_eq.mpr rfl)
  let ad : Ad := ⟨C_WorthError, C_NoStar, C_TooLarge, C_Circuits, C_Reckoner, C_Polynomials, C_Slopes⟩
  have T : Txt K mg ad :=
    { z_isinstance := PySem.W.mg_none_of X G z_isinstance, z_int := PySem.W.mg_none_of X G z_int, z_bool := PySem.W.mg_none_of X G z_bool, z_list := PySem.W.mg_none_of X G z_list, z_tuple := PySem.W.mg_none_of X G z_tuple,
      z_min := PySem.W.mg_none_of X G z_min, z_abs := PySem.W.mg_none_of X G z_abs, z_len := PySem.W.mg_none_of X G z_len, z_range := PySem.W.mg_none_of X G z_range, z_all := PySem.W.mg_none_of X G z_all, z_any := PySem.W.mg_none_of X G z_any, z_dict := PySem.W.mg_none_of X G z_dict, z_sorted := PySem.W.mg_none_of X G z_sorted, z_sum := PySem.W.mg_none_of X G z_sum,
      g_MOST_NODES := ⟨_, PySem.W.mg_of X G g_MOST_NODES⟩, g_MOST_IN_ONE := ⟨_, PySem.W.mg_of X G g_MOST_IN_ONE⟩, g_MOST_MONOMIALS := ⟨_, PySem.W.mg_of X G g_MOST_MONOMIALS⟩, g_ZERO := ⟨_, PySem.W.mg_of X G g_ZERO⟩, g_ONE := ⟨_, PySem.W.mg_of X G g_ONE⟩, g_TooLarge := PySem.W.mg_of X G aC_TooLarge,
      x_TooLarge := x_TooLarge, k_TooLarge := kp_TooLarge, b_TooLarge := b_TooLarge, t_TooLarge := t_TooLarge,
      g_WorthError := PySem.W.mg_of X G aC_WorthError, g_NoStar := PySem.W.mg_of X G aC_NoStar,
      x_NoStar := x_NoStar, k_NoStar := kp_NoStar, b_NoStar := b_NoStar, t_NoStar := t_NoStar,
      ec_NoStar := ⟨ga_NoStar, gg_NoStar, b_NoStar, hd_NoStar, cc_NoStar, spc, tki, mo_NoStar⟩,
      em_NoStar := PySem.W.exm_ref b_WorthError hd_WorthError t_WorthError s_NoStar_WorthError, ki_NoStar := kself _,
      c_Circuits := cl_Circuits, c_Reckoner := cl_Reckoner, c_Polynomials := cl_Polynomials, c_Slopes := cl_Slopes,
      ki_TooLarge := kself _, em_TooLarge := PySem.W.exm_ref b_WorthError hd_WorthError t_WorthError s_TooLarge_WorthError, ec_TooLarge := ⟨ga_TooLarge, gg_TooLarge, b_TooLarge, hd_TooLarge, cc_TooLarge, spc, tki, mo_TooLarge⟩,
      n_shown := n_Circuits__shown, n_numbers := n_Circuits__numbers, n_semiring := n_Reckoner__semiring, n_worths := n_Reckoner__worths }
  refine ⟨PySem.W.fnOf "law" "law" (defArgs s_law) (defBody s_law) (defScope s_law) .none kV_law dc_law pm_law an_law cd_law ct_law, fun s v => .of_eq rfl, fun base _ _ => ?_⟩
  have c_law_pot := cal_mk (x := "_law_pot") (ok_law_pot (P := l.prog) (w := w) (K := K) (mg := mg) (base := base) (ad := ad) F_law_pot T) (PySem.W.mg_of X G a_law_pot) k_law_pot b_law_pot
  have c_law_next := cal_mk (x := "_law_next") (ok_law_next (P := l.prog) (w := w) (K := K) (mg := mg) (base := base) (ad := ad) F_law_next T) (PySem.W.mg_of X G a_law_next) k_law_next b_law_next
  have c_parts := cal_mk (x := "_parts") (ok_parts (P := l.prog) (w := w) (K := K) (mg := mg) (base := base) (ad := ad) F_parts T) (PySem.W.mg_of X G a_parts) k_parts b_parts
  have m_count1 : MetX l.prog w K mg base 1 C_Circuits "count" (spCount C_Circuits) := (met_mk cl_Circuits ⟨a_Circuits_count, i_Circuits_count, k_Circuits_count⟩ ((ok_Circuits_count (P := l.prog) (w := w) (K := K) (mg := mg) (base := base) (ad := ad) F_Circuits_count T).mono (by decide)) b_Circuits_count)
  have m_shown1 : MetX l.prog w K mg base 1 C_Circuits "shown" (spShown l.prog w C_Circuits) := (met_mk cl_Circuits ⟨a_Circuits_shown, i_Circuits_shown, k_Circuits_shown⟩ ((ok_Circuits_shown (P := l.prog) (w := w) (K := K) (mg := mg) (base := base) (ad := ad) F_Circuits_shown T).mono (by decide)) b_Circuits_shown)
  have m_node2 : MetX l.prog w K mg base 2 C_Circuits "_node" (spNode l.prog w C_Circuits) := (met_mk cl_Circuits ⟨a_Circuits_node, i_Circuits_node, k_Circuits_node⟩ ((ok_Circuits_node (P := l.prog) (w := w) (K := K) (mg := mg) (base := base) (ad := ad) m_count1 F_Circuits_node T).mono (by decide)) b_Circuits_node)
  have m_several3 : MetX l.prog w K mg base 3 C_Circuits "_several" (spSev l.prog w C_Circuits) := (met_mk cl_Circuits ⟨a_Circuits_several, i_Circuits_several, k_Circuits_several⟩ ((ok_Circuits_several (P := l.prog) (w := w) (K := K) (mg := mg) (base := base) (ad := ad) m_node2 F_Circuits_several T).mono (by decide)) b_Circuits_several)
  have m_fact : MetX l.prog w K mg base 4 C_Circuits "fact" (spFact l.prog w C_Circuits) := (met_mk cl_Circuits ⟨a_Circuits_fact, i_Circuits_fact, k_Circuits_fact⟩ ((ok_Circuits_fact (P := l.prog) (w := w) (K := K) (mg := mg) (base := base) (ad := ad) m_node2 F_Circuits_fact T).mono (by decide)) b_Circuits_fact)
  have m_star : MetX l.prog w K mg base 4 C_Circuits "star" (spStar l.prog w C_Circuits) := (met_mk cl_Circuits ⟨a_Circuits_star, i_Circuits_star, k_Circuits_star⟩ ((ok_Circuits_star (P := l.prog) (w := w) (K := K) (mg := mg) (base := base) (ad := ad) m_node2 F_Circuits_star T).mono (by decide)) b_Circuits_star)
  have m_plus : MetX l.prog w K mg base 4 C_Circuits "plus" (spPlus l.prog w C_Circuits .plus 0) := (met_mk cl_Circuits ⟨a_Circuits_plus, i_Circuits_plus, k_Circuits_plus⟩ ((ok_Circuits_plus (P := l.prog) (w := w) (K := K) (mg := mg) (base := base) (ad := ad) m_several3 F_Circuits_plus T).mono (by decide)) b_Circuits_plus)
  have m_times : MetX l.prog w K mg base 4 C_Circuits "times" (spPlus l.prog w C_Circuits .times 1) := (met_mk cl_Circuits ⟨a_Circuits_times, i_Circuits_times, k_Circuits_times⟩ ((ok_Circuits_times (P := l.prog) (w := w) (K := K) (mg := mg) (base := base) (ad := ad) m_several3 F_Circuits_times T).mono (by decide)) b_Circuits_times)
  have c_nodes_within := cal_mk (x := "nodes_within") (ok_nodes_within (P := l.prog) (w := w) (K := K) (mg := mg) (base := base) (ad := ad) c_parts m_shown1 F_nodes_within T) (PySem.W.mg_of X G a_nodes_within) k_nodes_within b_nodes_within
  have m_facts_in : MetX l.prog w K mg base 3 C_Circuits "facts_in" (spFactsIn l.prog w C_Circuits) := (met_mk cl_Circuits ⟨a_Circuits_facts_in, i_Circuits_facts_in, k_Circuits_facts_in⟩ ((ok_Circuits_facts_in (P := l.prog) (w := w) (K := K) (mg := mg) (base := base) (ad := ad) c_nodes_within F_Circuits_facts_in T).mono (by decide)) b_Circuits_facts_in)
  have mCirc : MakX l.prog w K mg base 1 "Circuits" C_Circuits (spInit l.prog w C_Circuits) := (mak_mk ⟨mk_Circuits, a_Circuits_init, i_Circuits_init, kc_Circuits⟩ (PySem.W.mg_of X G aC_Circuits) (ok_Circuits_init (P := l.prog) (w := w) (K := K) (mg := mg) (base := base) (ad := ad) F_Circuits_init T) b_Circuits_init)
  have mReck : MakX l.prog w K mg base 1 "Reckoner" C_Reckoner (spRI C_Reckoner) := (mak_mk ⟨mk_Reckoner, a_Reckoner_init, i_Reckoner_init, kc_Reckoner⟩ (PySem.W.mg_of X G aC_Reckoner) (ok_Reckoner_init (P := l.prog) (w := w) (K := K) (mg := mg) (base := base) (ad := ad) F_Reckoner_init T) b_Reckoner_init)
  have c_put := cal_mk (x := "_put") (ok_put (P := l.prog) (w := w) (K := K) (mg := mg) (base := base) (ad := ad) F_put T) (PySem.W.mg_of X G a_put) k_put b_put
  have c_polynomial_of := cal_mk (x := "_polynomial_of") (ok_polynomial_of (P := l.prog) (w := w) (K := K) (mg := mg) (base := base) (ad := ad) F_polynomial_of T) (PySem.W.mg_of X G a_polynomial_of) k_polynomial_of b_polynomial_of
  have c_product_of := cal_mk (x := "_product_of") (ok_product_of (P := l.prog) (w := w) (K := K) (mg := mg) (base := base) (ad := ad) F_product_of T) (PySem.W.mg_of X G a_product_of) k_product_of b_product_of
  have c_variable := cal_mk (x := "variable") (ok_variable (P := l.prog) (w := w) (K := K) (mg := mg) (base := base) (ad := ad) F_variable T) (PySem.W.mg_of X G a_variable) k_variable b_variable
  have m_zero : MetX l.prog w K mg base 3 C_Polynomials "zero" (spNulR Rp C_Polynomials []) := (met_mk cl_Polynomials ⟨a_Polynomials_zero, i_Polynomials_zero, k_Polynomials_zero⟩ ((ok_Polynomials_zero (P := l.prog) (w := w) (K := K) (mg := mg) (base := base) (ad := ad) F_Polynomials_zero T).mono (by decide)) b_Polynomials_zero)
  have m_one : MetX l.prog w K mg base 3 C_Polynomials "one" (spNulR Rp C_Polynomials [([], 1)]) := (met_mk cl_Polynomials ⟨a_Polynomials_one, i_Polynomials_one, k_Polynomials_one⟩ ((ok_Polynomials_one (P := l.prog) (w := w) (K := K) (mg := mg) (base := base) (ad := ad) F_Polynomials_one T).mono (by decide)) b_Polynomials_one)
  have m_pplus : MetX l.prog w K mg base 3 C_Polynomials "plus" (spBinR (some C_TooLarge) Rp C_Polynomials okPl (fun a b => a ++ b)) := (met_mk cl_Polynomials ⟨a_Polynomials_plus, i_Polynomials_plus, k_Polynomials_plus⟩ ((ok_Polynomials_plus (P := l.prog) (w := w) (K := K) (mg := mg) (base := base) (ad := ad) c_put c_polynomial_of F_Polynomials_plus T).mono (by decide)) b_Polynomials_plus)
  have m_ptimes : MetX l.prog w K mg base 3 C_Polynomials "times" (spBinR (some C_TooLarge) Rp C_Polynomials okTm PM.tmul) := (met_mk cl_Polynomials ⟨a_Polynomials_times, i_Polynomials_times, k_Polynomials_times⟩ ((ok_Polynomials_times (P := l.prog) (w := w) (K := K) (mg := mg) (base := base) (ad := ad) c_put c_product_of c_polynomial_of F_Polynomials_times T).mono (by decide)) b_Polynomials_times)
  have rk : ∀ fa, RkG l.prog w K mg base ad (some C_TooLarge) Rp C_Polynomials okPl okTm (fun a b => a ++ b) PM.tmul [] [([], 1)] fa varP := fun fa =>
    { mono := Rp_mono
      fact := (met_mk cl_Reckoner ⟨a_Reckoner_fact, i_Reckoner_fact, k_Reckoner_fact⟩ ((ok_Reckoner_fact (P := l.prog) (w := w) (K := K) (mg := mg) (base := base) (ad := ad) F_Reckoner_fact T).mono (by decide)) b_Reckoner_fact)
      plus := (met_mk cl_Reckoner ⟨a_Reckoner_plus, i_Reckoner_plus, k_Reckoner_plus⟩ ((ok_Reckoner_plus (P := l.prog) (w := w) (K := K) (mg := mg) (base := base) (ad := ad) Rp_mono m_zero m_pplus F_Reckoner_plus T).mono (by decide)) b_Reckoner_plus)
      times := (met_mk cl_Reckoner ⟨a_Reckoner_times, i_Reckoner_times, k_Reckoner_times⟩ ((ok_Reckoner_times (P := l.prog) (w := w) (K := K) (mg := mg) (base := base) (ad := ad) Rp_mono m_one m_ptimes F_Reckoner_times T).mono (by decide)) b_Reckoner_times) }
  have c_worth : ∀ fa, CalX l.prog w K mg base 9 "worth" (spWorth l.prog w ad (some C_TooLarge) Rp C_Polynomials okPl okTm (fun a b => a ++ b) PM.tmul [] [([], 1)] fa varP) := fun fa =>
    cal_mk (ok_worth (ad := ad) mReck (rk fa) (cal_mk (ok_all_made (ad := ad) (rk fa).maker (cal_mk (ok_made (ad := ad) (rk fa).maker c_parts F_made T) (PySem.W.mg_of X G a_made) k_made b_made) c_nodes_within m_shown1 F_all_made T) (PySem.W.mg_of X G a_all_made) k_all_made b_all_made) F_worth T) (PySem.W.mg_of X G a_worth) k_worth b_worth
  have c_is_integer := cal_mk (x := "is_integer") (ok_is_integer (P := l.prog) (w := w) (K := K) (mg := mg) (base := base) (ad := ad) F_is_integer T) (PySem.W.mg_of X G a_is_integer) k_is_integer b_is_integer
  have c_is_pair := cal_mk (x := "is_pair") (ok_is_pair (P := l.prog) (w := w) (K := K) (mg := mg) (base := base) (ad := ad) F_is_pair T) (PySem.W.mg_of X G a_is_pair) k_is_pair b_is_pair
  have m_szero : MetX l.prog w K mg base 3 C_Slopes "zero" (spNulR Rs C_Slopes (0, 0)) := (met_mk cl_Slopes ⟨a_Slopes_zero, i_Slopes_zero, k_Slopes_zero⟩ ((ok_Slopes_zero (P := l.prog) (w := w) (K := K) (mg := mg) (base := base) (ad := ad) F_Slopes_zero T).mono (by decide)) b_Slopes_zero)
  have m_sone : MetX l.prog w K mg base 3 C_Slopes "one" (spNulR Rs C_Slopes (1, 0)) := (met_mk cl_Slopes ⟨a_Slopes_one, i_Slopes_one, k_Slopes_one⟩ ((ok_Slopes_one (P := l.prog) (w := w) (K := K) (mg := mg) (base := base) (ad := ad) F_Slopes_one T).mono (by decide)) b_Slopes_one)
  have m_splus : MetX l.prog w K mg base 3 C_Slopes "plus" (spBinR none Rs C_Slopes okSp sAdd) := (met_mk cl_Slopes ⟨a_Slopes_plus, i_Slopes_plus, k_Slopes_plus⟩ ((ok_Slopes_plus (P := l.prog) (w := w) (K := K) (mg := mg) (base := base) (ad := ad) F_Slopes_plus T).mono (by decide)) b_Slopes_plus)
  have m_stimes : MetX l.prog w K mg base 3 C_Slopes "times" (spBinR none Rs C_Slopes okSt sMul) := (met_mk cl_Slopes ⟨a_Slopes_times, i_Slopes_times, k_Slopes_times⟩ ((ok_Slopes_times (P := l.prog) (w := w) (K := K) (mg := mg) (base := base) (ad := ad) F_Slopes_times T).mono (by decide)) b_Slopes_times)
  have m_sstar : MetX l.prog w K mg base 3 C_Slopes "star" (spStarS C_Slopes) := (met_mk cl_Slopes ⟨a_Slopes_star, i_Slopes_star, k_Slopes_star⟩ ((ok_Slopes_star (P := l.prog) (w := w) (K := K) (mg := mg) (base := base) (ad := ad) F_Slopes_star T).mono (by decide)) b_Slopes_star)
  have m_selem : MetX l.prog w K mg base 3 C_Slopes "is_element" (spElS C_Slopes) := (met_mk cl_Slopes ⟨a_Slopes_is_element, i_Slopes_is_element, k_Slopes_is_element⟩ ((ok_Slopes_is_element (P := l.prog) (w := w) (K := K) (mg := mg) (base := base) (ad := ad) c_is_pair c_is_integer F_Slopes_is_element T).mono (by decide)) b_Slopes_is_element)
  have rks : ∀ fa wf, RkG l.prog w K mg base ad none Rs C_Slopes okSp okSt sAdd sMul (0, 0) (1, 0) fa wf := fun fa wf =>
    { mono := Rs_mono
      fact := (met_mk cl_Reckoner ⟨a_Reckoner_fact, i_Reckoner_fact, k_Reckoner_fact⟩ ((ok_Reckoner_fact (P := l.prog) (w := w) (K := K) (mg := mg) (base := base) (ad := ad) F_Reckoner_fact T).mono (by decide)) b_Reckoner_fact)
      plus := (met_mk cl_Reckoner ⟨a_Reckoner_plus, i_Reckoner_plus, k_Reckoner_plus⟩ ((ok_Reckoner_plus (P := l.prog) (w := w) (K := K) (mg := mg) (base := base) (ad := ad) Rs_mono m_szero m_splus F_Reckoner_plus T).mono (by decide)) b_Reckoner_plus)
      times := (met_mk cl_Reckoner ⟨a_Reckoner_times, i_Reckoner_times, k_Reckoner_times⟩ ((ok_Reckoner_times (P := l.prog) (w := w) (K := K) (mg := mg) (base := base) (ad := ad) Rs_mono m_sone m_stimes F_Reckoner_times T).mono (by decide)) b_Reckoner_times) }
  have c_worthS : ∀ fa φ f, CalX l.prog w K mg base 9 "worth" (spWorth l.prog w ad none Rs C_Slopes okSp okSt sAdd sMul (0, 0) (1, 0) fa (wS φ f)) := fun fa φ f =>
    cal_mk (ok_worth (ad := ad) mReck (rks fa (wS φ f)) (cal_mk (ok_all_made (ad := ad) (rks fa (wS φ f)).maker (cal_mk (ok_made (ad := ad) (rks fa (wS φ f)).maker c_parts F_made T) (PySem.W.mg_of X G a_made) k_made b_made) c_nodes_within m_shown1 F_all_made T) (PySem.W.mg_of X G a_all_made) k_all_made b_all_made) F_worth T) (PySem.W.mg_of X G a_worth) k_worth b_worth
  have c_need_no_star := cal_mk (x := "need_no_star") (ok_need_no_star (P := l.prog) (w := w) (K := K) (mg := mg) (base := base) (ad := ad) c_nodes_within m_shown1 F_need_no_star T) (PySem.W.mg_of X G a_need_no_star) k_need_no_star b_need_no_star
  have mkP : Mk0 K mg "Polynomials" C_Polynomials := ⟨PySem.W.mg_of X G aC_Polynomials, mk_Polynomials, ini_Polynomials, kc_Polynomials⟩
  have c_normal := cal_mk (x := "normal") (ok_normal (P := l.prog) (w := w) (K := K) (mg := mg) (base := base) (ad := ad) mkP c_need_no_star c_variable m_facts_in c_worth F_normal T) (PySem.W.mg_of X G a_normal) k_normal b_normal
  have c_law_grown := cal_mk (x := "_law_grown") (ok_law_grown (P := l.prog) (w := w) (K := K) (mg := mg) (base := base) (ad := ad) m_fact m_star m_plus m_times c_law_next F_law_grown T) (PySem.W.mg_of X G a_law_grown) k_law_grown b_law_grown
  have mkS : Mk0 K mg "Slopes" C_Slopes := ⟨PySem.W.mg_of X G aC_Slopes, mk_Slopes, ini_Slopes, kc_Slopes⟩
  have c_slope := cal_mk (x := "slope") (ok_slope (P := l.prog) (w := w) (K := K) (mg := mg) (base := base) (ad := ad) mkS c_need_no_star m_facts_in c_worthS F_slope T) (PySem.W.mg_of X G a_slope) k_slope b_slope
  have c_law_form := cal_mk (x := "_law_form") (ok_law_form (P := l.prog) (w := w) (K := K) (mg := mg) (base := base) (ad := ad) c_normal F_law_form T) (PySem.W.mg_of X G a_law_form) k_law_form b_law_form
  have c_law_power := cal_mk (x := "_law_power") (ok_law_power (P := l.prog) (w := w) (K := K) (mg := mg) (base := base) (ad := ad) F_law_power T) (PySem.W.mg_of X G a_law_power) k_law_power b_law_power
  have c_law_due := cal_mk (x := "_law_due") (ok_law_due (P := l.prog) (w := w) (K := K) (mg := mg) (base := base) (ad := ad) c_law_power F_law_due T) (PySem.W.mg_of X G a_law_due) k_law_due b_law_due
  have c_law_refused := cal_mk (x := "_law_refused") (ok_law_refused (P := l.prog) (w := w) (K := K) (mg := mg) (base := base) (ad := ad) c_slope F_law_refused T) (PySem.W.mg_of X G a_law_refused) k_law_refused b_law_refused
  have c_law_is_int := cal_mk (x := "_law_is_int") (ok_law_is_int (P := l.prog) (w := w) (K := K) (mg := mg) (base := base) (ad := ad) F_law_is_int T) (PySem.W.mg_of X G a_law_is_int) k_law_is_int b_law_is_int
  exact ok_law (P := l.prog) (w := w) (base := base) (ad := ad) c_law_pot c_law_next mCirc c_law_grown c_law_form c_slope c_law_is_int c_law_due mkS c_law_refused m_fact m_star m_szero m_sone m_splus m_stimes m_sstar m_selem F_law T
theorem walk {l : PySem.W.OpenLaw} {q : Program} {loose : List Str} {XP : (Str → Option Value) → Heap → Prop} {YP : World → Heap → Prop} {d : DefRec} {K : Params → PySem.W.Frag} (hn : l.most = some 63) (hdf : d.params.defaults = [])
    (hY : ∀ (w : World) (h : Heap), YP w h → (K w.params).In h)
    (F : ∀ (w : World) (mg : Str → Option Value) (fa : Addr) (h : Heap), (K w.params).In h → h.Ns mainGlobals mg → mg d.name = some (.ref fa) →
      ∃ fd : FuncData, (∀ (s : Shared) (u : Value), BindsTo s fd ⟨[u], []⟩ [("script", u)]) ∧ ∀ base : Heap, (K w.params).In base → base.Ns mainGlobals mg → FnOk l.prog w (K w.params) mg base (L2.CX l.prog w) 101 fa fd ["script"] (spLaw (K w.params))) :
    PySem.W.WalkO q loose XP YP l.row.toRowW d [] (fun f vs => PySem.call f vs) :=
  L2.walk_of (n := 63) (k := 101) (x := "script") (CX := fun w => L2.CX l.prog w) (sp := fun w => spLaw (K w.params)) hn (by decide) hdf ⟨rfl, by decide, by decide⟩ hY F (fun _ _ a ns hl _ hS => ⟨a, ns, rfl, hS, hl, fun _ => rfl⟩) fun _ _ _ _ _ h => by
    obtain ⟨_, _, _, _, _, _, _, _, _, _, _, _, z⟩ := h
    exact z
end K34
open PySem PySem.W PyProof.Rows
set_option maxRecDepth 100000 in
set_option maxHeartbeats 0 in
theorem PySem.Challenge.cw_everyworth_k34_slopes_holds : PySem.Challenge.rw_everyworth_k34_slopes.Holds := by
  w_on; o_law; k_head; (case hw => w_witness2)
  k_fill
  refine K34.walk (l := PySem.Challenge.rw_everyworth_k34_slopes) rfl rfl (fun w h Y => PySem.W.kIn_of Y) ?F
  case F =>
    intro w mg fa h KX G hmg
    refine' K34.all_mk KX G hmg ?aC_WorthError ?aC_NoStar ?aC_TooLarge ?aC_Circuits ?aC_Reckoner ?aC_Polynomials ?aC_Slopes ?a_Circuits_init ?i_Circuits_init ?l_Circuits_init ?c_Circuits_init ?k_Circuits_init ?a_Circuits_fact ?i_Circuits_fact ?l_Circuits_fact ?c_Circuits_fact ?k_Circuits_fact ?a_Circuits_plus ?i_Circuits_plus ?l_Circuits_plus ?c_Circuits_plus ?k_Circuits_plus ?a_Circuits_times ?i_Circuits_times ?l_Circuits_times ?c_Circuits_times ?k_Circuits_times ?a_Circuits_star ?i_Circuits_star ?l_Circuits_star ?c_Circuits_star ?k_Circuits_star ?a_Circuits_shown ?i_Circuits_shown ?l_Circuits_shown ?c_Circuits_shown ?k_Circuits_shown ?a_Circuits_count ?i_Circuits_count ?l_Circuits_count ?c_Circuits_count ?k_Circuits_count ?a_Circuits_facts_in ?i_Circuits_facts_in ?l_Circuits_facts_in ?c_Circuits_facts_in ?k_Circuits_facts_in ?a_Circuits_several ?i_Circuits_several ?l_Circuits_several ?c_Circuits_several ?k_Circuits_several ?a_Circuits_node ?i_Circuits_node ?l_Circuits_node ?c_Circuits_node ?k_Circuits_node ?a_Reckoner_init ?i_Reckoner_init ?l_Reckoner_init ?c_Reckoner_init ?k_Reckoner_init ?a_Reckoner_fact ?i_Reckoner_fact ?l_Reckoner_fact ?c_Reckoner_fact ?k_Reckoner_fact ?a_Reckoner_plus ?i_Reckoner_plus ?l_Reckoner_plus ?c_Reckoner_plus ?k_Reckoner_plus ?a_Reckoner_times ?i_Reckoner_times ?l_Reckoner_times ?c_Reckoner_times ?k_Reckoner_times ?a_nodes_within ?l_nodes_within ?c_nodes_within ?k_nodes_within ?a_parts ?l_parts ?c_parts ?k_parts ?a_all_made ?l_all_made ?c_all_made ?k_all_made ?a_made ?l_made ?c_made ?k_made ?a_worth ?l_worth ?c_worth ?k_worth ?a_is_integer ?l_is_integer ?c_is_integer ?k_is_integer ?a_is_pair ?l_is_pair ?c_is_pair ?k_is_pair ?a_Polynomials_zero ?i_Polynomials_zero ?l_Polynomials_zero ?c_Polynomials_zero ?k_Polynomials_zero ?a_Polynomials_one ?i_Polynomials_one ?l_Polynomials_one ?c_Polynomials_one ?k_Polynomials_one ?a_Polynomials_plus ?i_Polynomials_plus ?l_Polynomials_plus ?c_Polynomials_plus ?k_Polynomials_plus ?a_Polynomials_times ?i_Polynomials_times ?l_Polynomials_times ?c_Polynomials_times ?k_Polynomials_times ?a_put ?l_put ?c_put ?k_put ?a_polynomial_of ?l_polynomial_of ?c_polynomial_of ?k_polynomial_of ?a_product_of ?l_product_of ?c_product_of ?k_product_of ?a_variable ?l_variable ?c_variable ?k_variable ?a_normal ?l_normal ?c_normal ?k_normal ?a_need_no_star ?l_need_no_star ?c_need_no_star ?k_need_no_star ?a_Slopes_zero ?i_Slopes_zero ?l_Slopes_zero ?c_Slopes_zero ?k_Slopes_zero ?a_Slopes_one ?i_Slopes_one ?l_Slopes_one ?c_Slopes_one ?k_Slopes_one ?a_Slopes_plus ?i_Slopes_plus ?l_Slopes_plus ?c_Slopes_plus ?k_Slopes_plus ?a_Slopes_times ?i_Slopes_times ?l_Slopes_times ?c_Slopes_times ?k_Slopes_times ?a_Slopes_star ?i_Slopes_star ?l_Slopes_star ?c_Slopes_star ?k_Slopes_star ?a_Slopes_is_element ?i_Slopes_is_element ?l_Slopes_is_element ?c_Slopes_is_element ?k_Slopes_is_element ?a_slope ?l_slope ?c_slope ?k_slope ?a_law_pot ?l_law_pot ?c_law_pot ?k_law_pot ?a_law_next ?l_law_next ?c_law_next ?k_law_next ?a_law_is_int ?l_law_is_int ?c_law_is_int ?k_law_is_int ?a_law_grown ?l_law_grown ?c_law_grown ?k_law_grown ?a_law_form ?l_law_form ?c_law_form ?k_law_form ?a_law_power ?l_law_power ?c_law_power ?k_law_power ?a_law_due ?l_law_due ?c_law_due ?k_law_due ?a_law_refused ?l_law_refused ?c_law_refused ?k_law_refused ?a_law ?l_law ?c_law ?k_law ?x_WorthError ?kp_WorthError ?b_WorthError ?t_WorthError ?hd_WorthError ?ga_WorthError ?gg_WorthError ?cc_WorthError ?mo_WorthError ?x_NoStar ?kp_NoStar ?b_NoStar ?t_NoStar ?hd_NoStar ?ga_NoStar ?gg_NoStar ?cc_NoStar ?mo_NoStar ?s_NoStar_WorthError ?x_TooLarge ?kp_TooLarge ?b_TooLarge ?t_TooLarge ?hd_TooLarge ?ga_TooLarge ?gg_TooLarge ?cc_TooLarge ?mo_TooLarge ?s_TooLarge_WorthError ?pg_Circuits ?hd_Circuits ?po_Circuits ?sa_Circuits ?mk_Circuits ?kc_Circuits ?pg_Reckoner ?hd_Reckoner ?po_Reckoner ?sa_Reckoner ?mk_Reckoner ?kc_Reckoner ?pg_Polynomials ?hd_Polynomials ?po_Polynomials ?sa_Polynomials ?mk_Polynomials ?kc_Polynomials ?ini_Polynomials ?pg_Slopes ?hd_Slopes ?po_Slopes ?sa_Slopes ?mk_Slopes ?kc_Slopes ?ini_Slopes ?spc ?tki ?n_Circuits__shown ?n_Circuits__numbers ?n_Reckoner__semiring ?n_Reckoner__worths ?g_MOST_NODES ?g_MOST_IN_ONE ?g_ZERO ?g_ONE ?g_MOST_MONOMIALS ?z_isinstance ?z_int ?z_bool ?z_list ?z_tuple ?z_min ?z_abs ?z_len ?z_range ?z_all ?z_any ?z_dict ?z_sorted ?z_sum
    (case aC_WorthError => k_is)
    (case aC_NoStar => k_is)
    (case aC_TooLarge => k_is)
    (case aC_Circuits => k_is)
    (case aC_Reckoner => k_is)
    (case aC_Polynomials => k_is)
    (case aC_Slopes => k_is)
    (case a_Circuits_init => k_is)
    (case i_Circuits_init => k_is)
    (case l_Circuits_init => k_is)
    (case c_Circuits_init => k_is)
    (case k_Circuits_init => k_is)
    (case a_Circuits_fact => k_is)
    (case i_Circuits_fact => k_is)
    (case l_Circuits_fact => k_is)
    (case c_Circuits_fact => k_is)
    (case k_Circuits_fact => k_is)
    (case a_Circuits_plus => k_is)
    (case i_Circuits_plus => k_is)
    (case l_Circuits_plus => k_is)
    (case c_Circuits_plus => k_is)
    (case k_Circuits_plus => k_is)
    (case a_Circuits_times => k_is)
    (case i_Circuits_times => k_is)
    (case l_Circuits_times => k_is)
    (case c_Circuits_times => k_is)
    (case k_Circuits_times => k_is)
    (case a_Circuits_star => k_is)
    (case i_Circuits_star => k_is)
    (case l_Circuits_star => k_is)
    (case c_Circuits_star => k_is)
    (case k_Circuits_star => k_is)
    (case a_Circuits_shown => k_is)
    (case i_Circuits_shown => k_is)
    (case l_Circuits_shown => k_is)
    (case c_Circuits_shown => k_is)
    (case k_Circuits_shown => k_is)
    (case a_Circuits_count => k_is)
    (case i_Circuits_count => k_is)
    (case l_Circuits_count => k_is)
    (case c_Circuits_count => k_is)
    (case k_Circuits_count => k_is)
    (case a_Circuits_facts_in => k_is)
    (case i_Circuits_facts_in => k_is)
    (case l_Circuits_facts_in => k_is)
    (case c_Circuits_facts_in => k_is)
    (case k_Circuits_facts_in => k_is)
    (case a_Circuits_several => k_is)
    (case i_Circuits_several => k_is)
    (case l_Circuits_several => k_is)
    (case c_Circuits_several => k_is)
    (case k_Circuits_several => k_is)
    (case a_Circuits_node => k_is)
    (case i_Circuits_node => k_is)
    (case l_Circuits_node => k_is)
    (case c_Circuits_node => k_is)
    (case k_Circuits_node => k_is)
    (case a_Reckoner_init => k_is)
    (case i_Reckoner_init => k_is)
    (case l_Reckoner_init => k_is)
    (case c_Reckoner_init => k_is)
    (case k_Reckoner_init => k_is)
    (case a_Reckoner_fact => k_is)
    (case i_Reckoner_fact => k_is)
    (case l_Reckoner_fact => k_is)
    (case c_Reckoner_fact => k_is)
    (case k_Reckoner_fact => k_is)
    (case a_Reckoner_plus => k_is)
    (case i_Reckoner_plus => k_is)
    (case l_Reckoner_plus => k_is)
    (case c_Reckoner_plus => k_is)
    (case k_Reckoner_plus => k_is)
    (case a_Reckoner_times => k_is)
    (case i_Reckoner_times => k_is)
    (case l_Reckoner_times => k_is)
    (case c_Reckoner_times => k_is)
    (case k_Reckoner_times => k_is)
    (case a_nodes_within => k_is)
    (case l_nodes_within => k_is)
    (case c_nodes_within => k_is)
    (case k_nodes_within => k_is)
    (case a_parts => k_is)
    (case l_parts => k_is)
    (case c_parts => k_is)
    (case k_parts => k_is)
    (case a_all_made => k_is)
    (case l_all_made => k_is)
    (case c_all_made => k_is)
    (case k_all_made => k_is)
    (case a_made => k_is)
    (case l_made => k_is)
    (case c_made => k_is)
    (case k_made => k_is)
    (case a_worth => k_is)
    (case l_worth => k_is)
    (case c_worth => k_is)
    (case k_worth => k_is)
    (case a_is_integer => k_is)
    (case l_is_integer => k_is)
    (case c_is_integer => k_is)
    (case k_is_integer => k_is)
    (case a_is_pair => k_is)
    (case l_is_pair => k_is)
    (case c_is_pair => k_is)
    (case k_is_pair => k_is)
    (case a_Polynomials_zero => k_is)
    (case i_Polynomials_zero => k_is)
    (case l_Polynomials_zero => k_is)
    (case c_Polynomials_zero => k_is)
    (case k_Polynomials_zero => k_is)
    (case a_Polynomials_one => k_is)
    (case i_Polynomials_one => k_is)
    (case l_Polynomials_one => k_is)
    (case c_Polynomials_one => k_is)
    (case k_Polynomials_one => k_is)
    (case a_Polynomials_plus => k_is)
    (case i_Polynomials_plus => k_is)
    (case l_Polynomials_plus => k_is)
    (case c_Polynomials_plus => k_is)
    (case k_Polynomials_plus => k_is)
    (case a_Polynomials_times => k_is)
    (case i_Polynomials_times => k_is)
    (case l_Polynomials_times => k_is)
    (case c_Polynomials_times => k_is)
    (case k_Polynomials_times => k_is)
    (case a_put => k_is)
    (case l_put => k_is)
    (case c_put => k_is)
    (case k_put => k_is)
    (case a_polynomial_of => k_is)
    (case l_polynomial_of => k_is)
    (case c_polynomial_of => k_is)
    (case k_polynomial_of => k_is)
    (case a_product_of => k_is)
    (case l_product_of => k_is)
    (case c_product_of => k_is)
    (case k_product_of => k_is)
    (case a_variable => k_is)
    (case l_variable => k_is)
    (case c_variable => k_is)
    (case k_variable => k_is)
    (case a_normal => k_is)
    (case l_normal => k_is)
    (case c_normal => k_is)
    (case k_normal => k_is)
    (case a_need_no_star => k_is)
    (case l_need_no_star => k_is)
    (case c_need_no_star => k_is)
    (case k_need_no_star => k_is)
    (case a_Slopes_zero => k_is)
    (case i_Slopes_zero => k_is)
    (case l_Slopes_zero => k_is)
    (case c_Slopes_zero => k_is)
    (case k_Slopes_zero => k_is)
    (case a_Slopes_one => k_is)
    (case i_Slopes_one => k_is)
    (case l_Slopes_one => k_is)
    (case c_Slopes_one => k_is)
    (case k_Slopes_one => k_is)
    (case a_Slopes_plus => k_is)
    (case i_Slopes_plus => k_is)
    (case l_Slopes_plus => k_is)
    (case c_Slopes_plus => k_is)
    (case k_Slopes_plus => k_is)
    (case a_Slopes_times => k_is)
    (case i_Slopes_times => k_is)
    (case l_Slopes_times => k_is)
    (case c_Slopes_times => k_is)
    (case k_Slopes_times => k_is)
    (case a_Slopes_star => k_is)
    (case i_Slopes_star => k_is)
    (case l_Slopes_star => k_is)
    (case c_Slopes_star => k_is)
    (case k_Slopes_star => k_is)
    (case a_Slopes_is_element => k_is)
    (case i_Slopes_is_element => k_is)
    (case l_Slopes_is_element => k_is)
    (case c_Slopes_is_element => k_is)
    (case k_Slopes_is_element => k_is)
    (case a_slope => k_is)
    (case l_slope => k_is)
    (case c_slope => k_is)
    (case k_slope => k_is)
    (case a_law_pot => k_is)
    (case l_law_pot => k_is)
    (case c_law_pot => k_is)
    (case k_law_pot => k_is)
    (case a_law_next => k_is)
    (case l_law_next => k_is)
    (case c_law_next => k_is)
    (case k_law_next => k_is)
    (case a_law_is_int => k_is)
    (case l_law_is_int => k_is)
    (case c_law_is_int => k_is)
    (case k_law_is_int => k_is)
    (case a_law_grown => k_is)
    (case l_law_grown => k_is)
    (case c_law_grown => k_is)
    (case k_law_grown => k_is)
    (case a_law_form => k_is)
    (case l_law_form => k_is)
    (case c_law_form => k_is)
    (case k_law_form => k_is)
    (case a_law_power => k_is)
    (case l_law_power => k_is)
    (case c_law_power => k_is)
    (case k_law_power => k_is)
    (case a_law_due => k_is)
    (case l_law_due => k_is)
    (case c_law_due => k_is)
    (case k_law_due => k_is)
    (case a_law_refused => k_is)
    (case l_law_refused => k_is)
    (case c_law_refused => k_is)
    (case k_law_refused => k_is)
    (case a_law => k_is)
    (case l_law => k_is)
    (case c_law => k_is)
    (case k_law => k_is)
    (case x_WorthError => k_exc)
    (case kp_WorthError => k_is)
    (case b_WorthError => k_is)
    (case t_WorthError => k_is)
    (case hd_WorthError => k_is)
    (case ga_WorthError => k_is)
    (case gg_WorthError => k_is)
    (case cc_WorthError => k_is)
    (case mo_WorthError => k_is)
    (case x_NoStar => k_exc)
    (case kp_NoStar => k_is)
    (case b_NoStar => k_is)
    (case t_NoStar => k_is)
    (case hd_NoStar => k_is)
    (case ga_NoStar => k_is)
    (case gg_NoStar => k_is)
    (case cc_NoStar => k_is)
    (case mo_NoStar => k_is)
    (case s_NoStar_WorthError => k_is)
    (case x_TooLarge => k_exc)
    (case kp_TooLarge => k_is)
    (case b_TooLarge => k_is)
    (case t_TooLarge => k_is)
    (case hd_TooLarge => k_is)
    (case ga_TooLarge => k_is)
    (case gg_TooLarge => k_is)
    (case cc_TooLarge => k_is)
    (case mo_TooLarge => k_is)
    (case s_TooLarge_WorthError => k_is)
    (case pg_Circuits => k_is)
    (case hd_Circuits => k_is)
    (case po_Circuits => k_is)
    (case sa_Circuits => k_is)
    (case mk_Circuits => k_is)
    (case kc_Circuits => k_is)
    (case pg_Reckoner => k_is)
    (case hd_Reckoner => k_is)
    (case po_Reckoner => k_is)
    (case sa_Reckoner => k_is)
    (case mk_Reckoner => k_is)
    (case kc_Reckoner => k_is)
    (case pg_Polynomials => k_is)
    (case hd_Polynomials => k_is)
    (case po_Polynomials => k_is)
    (case sa_Polynomials => k_is)
    (case mk_Polynomials => k_is)
    (case kc_Polynomials => k_is)
    (case ini_Polynomials => k_is)
    (case pg_Slopes => k_is)
    (case hd_Slopes => k_is)
    (case po_Slopes => k_is)
    (case sa_Slopes => k_is)
    (case mk_Slopes => k_is)
    (case kc_Slopes => k_is)
    (case ini_Slopes => k_is)
    (case spc => k_is)
    (case tki => k_is)
    (case n_Circuits__shown => k_is)
    (case n_Circuits__numbers => k_is)
    (case n_Reckoner__semiring => k_is)
    (case n_Reckoner__worths => k_is)
    (case g_MOST_NODES => k_is)
    (case g_MOST_IN_ONE => k_is)
    (case g_ZERO => k_is)
    (case g_ONE => k_is)
    (case g_MOST_MONOMIALS => k_is)
    (case z_isinstance => k_is)
    (case z_int => k_is)
    (case z_bool => k_is)
    (case z_list => k_is)
    (case z_tuple => k_is)
    (case z_min => k_is)
    (case z_abs => k_is)
    (case z_len => k_is)
    (case z_range => k_is)
    (case z_all => k_is)
    (case z_any => k_is)
    (case z_dict => k_is)
    (case z_sorted => k_is)
    (case z_sum => k_is)
