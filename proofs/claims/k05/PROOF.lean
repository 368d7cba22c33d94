import PyProof.Rows.All
import Wide.All
import OpenK.AllK
import Wide.FinOn
import HandS.ForMost
import HandS.ForExc
import HandS.IsInst
import HandS.ExcIs
import HandS.CallSlots
import HandS.Wide
import HandS.EndBits
import HandS.Flow
import HandS.AnyAll
import HandS.SortKw
import HandS.GenOver
import HandS.GenList
import PyProof.GenRules
import PyProof.GenQ
import HandS.Steps
import HandS.Codes
import HandS.NestedK
import HandS.ExcInit
import HandS.ExcField
import HandS.FStr
import KE.KExcSuper
import KE.KExcIs
import HandS.TupAny
import HandS.TupMul
import PySem.Challenge.RW_everyworth_k05_finite_semirings
import HandS.Style
import HandS.Defaults
import HandS.EndTab
import HandS.EndOwn
set_option Elab.async false
set_option linter.all false
set_option maxRecDepth 100000
set_option maxHeartbeats 4000000
/-! Rules whose callee is told by the reading: calls of defs, methods, classes by what stands in the heap. -/
namespace Ew
open PySem PySem.Spec PyProof.Rows L2

/-- a def under its name keeps sp at level k -/
structure CalX (P : Program) (w : World) (K : PySem.W.Frag) (mg : Str → Option Value) (base : Heap) (k : Nat) (x : Str) (sp : Sp) : Prop where
  ex : ∃ (f : Addr) (fd : FuncData) (ps : List Str) (ds : List Value) (dvs : List V) (sp0 : Sp), FnOk P w K mg base (L2.CX P w) k f fd ps sp0 ∧ mg x = some (.ref f) ∧ PySem.W.keepIn K (.ref f) = true ∧ Binds K fd ps ds ∧ Vals dvs ds ∧
    ∀ vs H Q E, sp vs H Q E → sp0 (vs ++ dvs) H Q E
/-- a method m of the class at C keeps sp at level k -/
structure MetX (P : Program) (w : World) (K : PySem.W.Frag) (mg : Str → Option Value) (base : Heap) (k : Nat) (C : Addr) (m : Str) (sp : Sp) : Prop where
  ex : ∃ (f : Addr) (fd : FuncData) (ps : List Str) (ds : List Value) (dvs : List V) (sp0 : Sp), Cls K C ∧ Meth K C m f ∧ FnOk P w K mg base (L2.CX P w) k f fd ps sp0 ∧ Binds K fd ps ds ∧ Vals dvs ds ∧
    ∀ vs H Q E, sp vs H Q E → sp0 (vs ++ dvs) H Q E
/-- a class under its name, its __init__ keeps sp at level k -/
structure MakX (P : Program) (w : World) (K : PySem.W.Frag) (mg : Str → Option Value) (base : Heap) (k : Nat) (x : Str) (C : Addr) (sp : Sp) : Prop where
  ex : ∃ (f : Addr) (fd : FuncData) (ps : List Str) (ds : List Value) (dvs : List V) (sp0 : Sp), Mk K C f ∧ mg x = some (.ref C) ∧ FnOk P w K mg base (L2.CX P w) k f fd ps sp0 ∧ Binds K fd ps ds ∧ Vals dvs ds ∧
    ∀ vs H Q E, sp vs H Q E → sp0 (vs ++ dvs) H Q E

def tCallD (P : Program) (w : World) (K : PySem.W.Frag) (mg : Str → Option Value) (base : Heap) (j : Nat) (x : Str) (W : WX) (t : TA) : TE := fun σ H Q =>
  ∃ (k : Nat) (sp : Sp), k ≤ j ∧ CalX P w K mg base k x sp ∧ t σ H fun vs H1 => sp vs H1 Q (WE W σ)
def tMethD (P : Program) (w : World) (K : PySem.W.Frag) (mg : Str → Option Value) (base : Heap) (j : Nat) (m : Str) (W : WX) (ta : TE) (t : TA) : TE := fun σ H Q => ta σ H fun x H1 =>
  ∃ (a C dx : Addr) (fs : List (Str × V)) (k : Nat) (sp : Sp), x = .ref a ∧ H1 a = some (.ins C dx fs) ∧ fs.lookup m = none ∧ k ≤ j ∧ MetX P w K mg base k C m sp ∧ t σ H1 fun vs H2 => sp (x :: vs) H2 Q (WE W σ)
def tMakeD (P : Program) (w : World) (K : PySem.W.Frag) (mg : Str → Option Value) (base : Heap) (j : Nat) (x : Str) (W : WX) (t : TA) : TE := fun σ H Q =>
  ∃ (k : Nat) (C : Addr) (sp : Sp), k + 1 ≤ j ∧ MakX P w K mg base k x C sp ∧ t σ H fun vs H1 => ∀ y dy, H1 y = none → H1 dy = none → dy ≠ y →
    sp (.ref y :: vs) (upd (upd H1 dy (.own y)) y (.ins C dy [])) (fun v H2 => v = .non ∧ Q (.ref y) H2) (WE W σ)

section
variable {X : Cx} {j : Nat} {x m : Str} {p pos apos : Pos} {e o : Expr} {es : List Expr} {ta : TE} {t : TA} {W : WX}

theorem pd_call (hr : Room j X.A) (tk : Takes X W) (hg : Gl X x) (ha : PA X (e :: es) t)
    (hdb : (x == ("__debug__" : Str)) = false := by decide) (he : starEach (e :: es) X.env = (false, eval e X.env) :: starEach es X.env := by rfl) (hpl : (backTo pos (starEach es X.env)).any (·.1) = false := by rfl) :
    PE X (.Call (.Name x p) (e :: es) [] pos) (tCallD X.prog X.w X.K X.mg X.base j x W t) := by
  refine ⟨fun pins s σ H Q I h => ?_⟩
  obtain ⟨k, sp, hk, c, h⟩ := h
  obtain ⟨f, fd, ps, ds, dvs, sp0, F, hm, kp, b, d, imp⟩ := c.ex
  refine wpAny_Call_Name_kw (ld_glob I hg hm ?_ hdb)
  refine PySem.W.callWith_K (h₀ := X.base) I.ok.mod.kin kp (thn (ha.run pos pins s σ H _ I h) fun us s1 ⟨vs, H1, I1, r, q⟩ => ⟨I1.kIn, ?_⟩) he hpl
  exact run_fnSD (E := WE W) F (hr.mono hk) b d (passAt tk σ) I1 r (imp _ _ _ _ q)
theorem pd_call0 (hr : Room j X.A) (tk : Takes X W) (hg : Gl X x) (hdb : (x == ("__debug__" : Str)) = false := by decide) :
    PE X (.Call (.Name x p) [] [] pos) (tCallD X.prog X.w X.K X.mg X.base j x W tNil) := by
  refine ⟨fun pins s σ H Q I h => ?_⟩
  obtain ⟨k, sp, hk, c, h⟩ := h
  obtain ⟨f, fd, ps, ds, dvs, sp0, F, hm, kp, b, d, imp⟩ := c.ex
  refine wpAny_Call_Name_kw (ld_glob I hg hm ?_ hdb)
  exact PySem.W.callWith_K0 I.kIn kp (run_fnSD (us := []) (E := WE W) F (hr.mono hk) b d (passAt tk σ) I .nil (imp _ _ _ _ h))

theorem pd_meth {pl : Sem Bool} (hr : Room j X.A) (tk : Takes X W) (he : PE X o ta) (ha : PA X (e :: es) t)
    (hst : starEach (e :: es) X.env = (false, eval e X.env) :: starEach es X.env := by rfl) (hpl : (backTo pos (starEach es X.env)).any (·.1) = false := by rfl)
    (ht : eval (.Call (.Attribute o m apos) (e :: es) [] pos) X.env = (do
      let ov ← eval o X.env
      standAt apos.atName
      let (f, first) ← holding [ov] (getMethod ov m pl)
      callWith pos f first (backTo pos (starEach (e :: es) X.env)) (backToKw pos (keywordEach [] X.env))) := by rfl) :
    PE X (.Call (.Attribute o m apos) (e :: es) [] pos) (tMethD X.prog X.w X.K X.mg X.base j m W ta t) := by
  refine ⟨fun pins s σ H Q I h => ?_⟩
  refine PySem.W.methodCall_KW (pl := pl) (thn (he.run pins s σ H _ I h) fun u s1 hh => ?_) ht
  obtain ⟨x, H1, I1, rx, a, C, dx, fs, k, sp, ex, ea, l, hk, c, q⟩ := hh
  obtain ⟨f, fd, ps, ds, dvs, sp0, hc, hm, F, b, d, imp⟩ := c.ex
  subst ex
  obtain rfl : u = Value.ref a := rx
  refine getmeth_ok I1 ea hc hm l ?_
  refine PySem.W.callWith_K (first := [.ref a]) (h₀ := X.base) I.ok.mod.kin hm.kp (thn (ha.run pos pins s1 σ H1 _ I1 q) fun us s2 ⟨vs, H2, I2, r, q2⟩ => ⟨I2.kIn, ?_⟩) hst hpl
  exact run_fnSD (us := .ref a :: us) (vs := .ref a :: vs) (E := WE W) F (hr.mono hk) b d (passAt tk σ) I2 (.cons rfl r) (imp _ _ _ _ q2)
theorem pd_meth0 {pl : Sem Bool} (hr : Room j X.A) (tk : Takes X W) (he : PE X o ta)
    (ht : eval (.Call (.Attribute o m apos) [] [] pos) X.env = (do
      let ov ← eval o X.env
      standAt apos.atName
      let (f, first) ← holding [ov] (getMethod ov m pl)
      callWith pos f first (backTo pos (starEach [] X.env)) (backToKw pos (keywordEach [] X.env))) := by rfl) :
    PE X (.Call (.Attribute o m apos) [] [] pos) (tMethD X.prog X.w X.K X.mg X.base j m W ta tNil) := by
  refine ⟨fun pins s σ H Q I h => ?_⟩
  refine PySem.W.methodCall_KW (pl := pl) (thn (he.run pins s σ H _ I h) fun u s1 hh => ?_) ht
  obtain ⟨x, H1, I1, rx, a, C, dx, fs, k, sp, ex, ea, l, hk, c, q⟩ := hh
  obtain ⟨f, fd, ps, ds, dvs, sp0, hc, hm, F, b, d, imp⟩ := c.ex
  subst ex
  obtain rfl : u = Value.ref a := rx
  refine getmeth_ok I1 ea hc hm l ?_
  exact PySem.W.callWith_K0 (first := [.ref a]) I1.kIn hm.kp (run_fnSD (us := [.ref a]) (vs := [.ref a]) (E := WE W) F (hr.mono hk) b d (passAt tk σ) I1 (.cons rfl .nil) (imp _ _ _ _ q))

theorem run_makeD {pins : List (Addr × Obj)} {σ : L2.St} {H : Hp} {s : Shared} {Q : VK} {us : List Value} {vs : List V} {k : Nat} {C f : Addr} {fd : FuncData} {ps : List Str} {ds : List Value} {dvs : List V} {sp : Sp} {E : L2.St → XK}
    (M : Mk X.K C f) (F : FnOk X.prog X.w X.K X.mg X.base (L2.CX X.prog X.w) k f fd ps sp) (hr : Room (k + 1) X.A) (hb : Binds X.K fd ps ds) (hd : Vals dvs ds)
    (hx : PassesAt (L2.CX X.prog X.w) X σ (E σ)) (I : Inv X pins σ H s) (r : Vals vs us)
    (h : ∀ x dx, H x = none → H dx = none → dx ≠ x → sp (.ref x :: (vs ++ dvs)) (upd (upd H dx (.own x)) x (.ins C dx [])) (fun v H2 => v = .non ∧ Q (.ref x) H2) (E σ)) :
    wpAny (model X.prog X.w) X.A (call (.ref C) us) (EP X pins σ Q) X.xe s := by
  have hq := h (s.heap.objs.size + 1) s.heap.objs.size (I.hok.fresh (Nat.le_succ _)) (I.hok.fresh (Nat.le_refl _)) (Nat.ne_of_lt (Nat.lt_succ_self _))
  have I2 := Inv.made (C := C) I
  have r2 : Vals (V.ref (s.heap.objs.size + 1) :: (vs ++ dvs)) (Value.ref (s.heap.objs.size + 1) :: (us ++ ds)) := .cons rfl (r.append hd)
  have hl : (Value.ref (s.heap.objs.size + 1) :: us ++ ds).length = ps.length := by
    have e := r2.length
    rw [F.len _ _ _ _ hq] at e
    exact e.symm
  refine wpAny_call (make_map (f := f) I.kIn M.makes M.init (beq_iff_eq.mp M.fn) (codeAny_mono (F.run _ X.stack _ _ ⟨Value.ref (s.heap.objs.size + 1) :: us, []⟩ (Value.ref (s.heap.objs.size + 1) :: (us ++ ds)) _ _ (E σ) (hr.make C us [])
    (I2.env0.make C us []) (hb _ (Value.ref (s.heap.objs.size + 1) :: us) I2.kIn hl) r2 hq) fun r s' hq' => ?_))
  cases r with
  | error e => exact hx pins _ _ e s' I2 hq'
  | ok fl =>
    cases fl with
    | ret u =>
      obtain ⟨v, H', I3, rv, ev, q3⟩ := I2.after hq'
      subst ev
      exact ⟨rv, ⟨V.ref (s.heap.objs.size + 1), H', I3, rfl, q3⟩⟩
    | next => exact False.elim hq'
    | brk => exact False.elim hq'
    | cont => exact False.elim hq'
theorem pd_make (hr : Room j X.A) (tk : Takes X W) (hg : Gl X x) (ha : PA X (e :: es) t)
    (hdb : (x == ("__debug__" : Str)) = false := by decide) (he : starEach (e :: es) X.env = (false, eval e X.env) :: starEach es X.env := by rfl) (hpl : (backTo pos (starEach es X.env)).any (·.1) = false := by rfl) :
    PE X (.Call (.Name x p) (e :: es) [] pos) (tMakeD X.prog X.w X.K X.mg X.base j x W t) := by
  refine ⟨fun pins s σ H Q I h => ?_⟩
  obtain ⟨k, C, sp, hk, c, h⟩ := h
  obtain ⟨f, fd, ps, ds, dvs, sp0, M, hm, F, b, d, imp⟩ := c.ex
  refine wpAny_Call_Name_kw (ld_glob I hg hm ?_ hdb)
  refine PySem.W.callWith_K (h₀ := X.base) I.ok.mod.kin M.kp (thn (ha.run pos pins s σ H _ I h) fun us s1 ⟨vs, H1, I1, r, q⟩ => ⟨I1.kIn, ?_⟩) he hpl
  exact run_makeD (E := WE W) M F (hr.mono hk) b d (passAt tk σ) I1 r fun y dy h1 h2 h3 => imp _ _ _ _ (q y dy h1 h2 h3)
theorem pd_make0 (hr : Room j X.A) (tk : Takes X W) (hg : Gl X x)
    (hdb : (x == ("__debug__" : Str)) = false := by decide) :
    PE X (.Call (.Name x p) [] [] pos) (tMakeD X.prog X.w X.K X.mg X.base j x W tNil) := by
  refine ⟨fun pins s σ H Q I h => ?_⟩
  obtain ⟨k, C, sp, hk, c, h⟩ := h
  obtain ⟨f, fd, ps, ds, dvs, sp0, M, hm, F, b, d, imp⟩ := c.ex
  refine wpAny_Call_Name_kw (ld_glob I hg hm ?_ hdb)
  exact PySem.W.callWith_K0 I.kIn M.kp (run_makeD (us := []) (E := WE W) M F (hr.mono hk) b d (passAt tk σ) I .nil fun y dy h1 h2 h3 => imp _ _ _ _ (h y dy h1 h2 h3))

/-- a class that has no __init__ of its own -/
structure Mk0 (K : PySem.W.Frag) (mg : Str → Option Value) (x : Str) (C : Addr) : Prop where
  mgC : mg x = some (.ref C)
  makes : PySem.W.makesIn K C = true
  init : PySem.W.findIn K (.ref C) "__init__" = some (some (.builtin "object.__init__"))
  kp : PySem.W.keepIn K (.ref C) = true
def tNew0D (K : PySem.W.Frag) (mg : Str → Option Value) (x : Str) : TE := fun _ H Q =>
  ∃ C, Mk0 K mg x C ∧ ∀ y dy, H y = none → H dy = none → dy ≠ y → Q (.ref y) (upd (upd H dy (.own y)) y (.ins C dy []))
theorem pd_new0 (hg : Gl X x) (hdb : (x == ("__debug__" : Str)) = false := by decide) : PE X (.Call (.Name x p) [] [] pos) (tNew0D X.K X.mg x) := by
  refine ⟨fun pins s σ H Q I h => ?_⟩
  obtain ⟨C, M, h⟩ := h
  refine wpAny_Call_Name_kw (ld_glob I hg M.mgC ?_ hdb)
  have hq := h (s.heap.objs.size + 1) s.heap.objs.size (I.hok.fresh (Nat.le_succ _)) (I.hok.fresh (Nat.le_refl _)) (Nat.ne_of_lt (Nat.lt_succ_self _))
  have I2 := Inv.made (C := C) I
  refine PySem.W.callWith_K0 I.kIn M.kp ?_
  show wpAny (model X.prog X.w) X.A (call (.ref C) []) _ _ _
  have I0 := I
  obtain ⟨hh, g, d, tk, os⟩ := s
  have Y := PySem.W.makes_of (M := model X.prog X.w) I0.kIn M.makes
  refine wpAny_call (PySem.W.make_core Y (PySem.W.looks_findIn I0.kIn M.init) (fun self => PySem.W.Looks.of_pure (PySem.W.oi_bind self)) (.inr ⟨rfl, rfl⟩) ?_)
  have hx : ((hh.push PySem.W.emptyDict).push (PySem.W.instObj C hh.objs.size)).get? (hh.objs.size + 1) = some (PySem.W.instObj C hh.objs.size) := by heap_get
  have t1 : PySem.W.Looks (model X.prog X.w) ((hh.push PySem.W.emptyDict).push (PySem.W.instObj C hh.objs.size)) (typeOf (.ref (hh.objs.size + 1))) (.ref C) := (PySem.W.Looks.ld hx).andThen .now
  have t2 : PySem.W.Looks (model X.prog X.w) ((hh.push PySem.W.emptyDict).push (PySem.W.instObj C hh.objs.size)) (isInstance (.ref (hh.objs.size + 1)) (.type "object")) true := t1.andThen (Y.top.keeps fun b o e => Heap.get?_push_of_some _ (Heap.get?_push_of_some _ e))
  refine codeAny_call_builtin PySem.W.oi_plain PySem.W.entry_oi (@PySem.W.check_slot (model X.prog X.w) _ _ _ "object.__init__" "object" "__init__" (.ref (hh.objs.size + 1)) [] [] _ PySem.W.oi_kind PySem.W.oi_split t2 (PySem.W.oi_args (.ref (hh.objs.size + 1))) ?_)
  rw [PySem.W.oi_run]
  exact wpAny_pure (And.intro rfl ⟨V.ref (hh.objs.size + 1), _, I2, rfl, hq⟩)

/-- f(e, ..) by a known promise -/
def tCallF (sp : Sp) (W : WX) (t : TA) : TE := fun σ H Q => t σ H fun vs H1 => sp vs H1 Q (WE W σ)
theorem pc_call {k : Nat} {sp : Sp} (c : CalX X.prog X.w X.K X.mg X.base k x sp) (hr : Room j X.A) (hk : k ≤ j) (tk : Takes X W) (hg : Gl X x) (ha : PA X (e :: es) t)
    (hdb : (x == ("__debug__" : Str)) = false := by decide) (he : starEach (e :: es) X.env = (false, eval e X.env) :: starEach es X.env := by rfl) (hpl : (backTo pos (starEach es X.env)).any (·.1) = false := by rfl) :
    PE X (.Call (.Name x p) (e :: es) [] pos) (tCallF sp W t) :=
  ⟨fun pins s σ H Q I h => (pd_call (p := p) (pos := pos) hr tk hg ha hdb he hpl).run pins s σ H Q I ⟨k, sp, hk, c, h⟩⟩
theorem pc_call0 {k : Nat} {sp : Sp} (c : CalX X.prog X.w X.K X.mg X.base k x sp) (hr : Room j X.A) (hk : k ≤ j) (tk : Takes X W) (hg : Gl X x) (hdb : (x == ("__debug__" : Str)) = false := by decide) :
    PE X (.Call (.Name x p) [] [] pos) (tCallF sp W tNil) :=
  ⟨fun pins s σ H Q I h => (pd_call0 (p := p) (pos := pos) hr tk hg hdb).run pins s σ H Q I ⟨k, sp, hk, c, h⟩⟩
theorem pe_gint {n : Int} (hg : Gl X x) (h : ∃ t, X.mg x = some (.int n t)) (hdb : (x == ("__debug__" : Str)) = false := by decide) : PE X (.Name x pos) (tC (.int n)) := by
  obtain ⟨t, h⟩ := h
  exact pe_glob hg h ⟨t, rfl⟩ hdb
theorem pe_gcls {C : Addr} (hg : Gl X x) (h : X.mg x = some (.ref C)) (hdb : (x == ("__debug__" : Str)) = false := by decide) : PE X (.Name x pos) (tC (.ref C)) := pe_glob hg h rfl hdb

/-! ### the same rules, the written part named K (within a comprehension's block the reading must not speak of the block) -/
section
variable {K : PySem.W.Frag}
theorem kix_list (hK : X.K = K := by rfl) : IxR X (rIxL K) := hK ▸ ix_list
theorem kix_tup (hK : X.K = K := by rfl) : IxR X (rIxT K) := hK ▸ ix_tup
theorem kix_seq (hK : X.K = K := by rfl) : IxR X (rIx K) := hK ▸ ix_seq
theorem kcall_len (hK : X.K = K := by rfl) : CallR X (.builtin "len") (fun xs H Q => ∃ x n, xs = [x] ∧ LenV K x H n ∧ Q (.int n) H) := hK ▸ call_len
theorem kcall_isi (hK : X.K = K := by rfl) : CallR X (.builtin "isinstance") (rIsi K) := hK ▸ call_isi
theorem kin_seq (hK : X.K = K := by rfl) : OpR X (compareOp .In) (rIn K false) := hK ▸ op_in_seq
theorem knotIn_seq (hK : X.K = K := by rfl) : OpR X (compareOp .NotIn) (rIn K true) := hK ▸ op_notIn_seq
theorem kpe_fld {f : Str} (he : PE X e ta) (hb : attributeBase e f X.env (eval e X.env) = eval e X.env) (hK : X.K = K := by rfl) : PE X (.Attribute e f pos) (tFld K ta f) := hK ▸ pe_fld he hb
theorem kpi_list {tg l : Expr} {tl : TE} (hl : PE X l tl) (hK : X.K = K := by rfl) : PI X tg l (iList K tl) := hK ▸ pi_list hl
theorem kpi_tup {tg l : Expr} {tl : TE} (hl : PE X l tl) (hK : X.K = K := by rfl) : PI X tg l (iTup K tl) := hK ▸ pi_tup hl
end
theorem kpd_meth {P : Program} {w : World} {K : PySem.W.Frag} {mg : Str → Option Value} {base : Heap} {pl : Sem Bool} (hr : Room j X.A) (tk : Takes X W) (he : PE X o ta) (ha : PA X (e :: es) t)
    (hP : X.prog = P := by rfl) (hw : X.w = w := by rfl) (hK : X.K = K := by rfl) (hm : X.mg = mg := by rfl) (hB : X.base = base := by rfl)
    (hst : starEach (e :: es) X.env = (false, eval e X.env) :: starEach es X.env := by rfl) (hpl : (backTo pos (starEach es X.env)).any (·.1) = false := by rfl)
    (ht : eval (.Call (.Attribute o m apos) (e :: es) [] pos) X.env = (do
      let ov ← eval o X.env
      standAt apos.atName
      let (f, first) ← holding [ov] (getMethod ov m pl)
      callWith pos f first (backTo pos (starEach (e :: es) X.env)) (backToKw pos (keywordEach [] X.env))) := by rfl) :
    PE X (.Call (.Attribute o m apos) (e :: es) [] pos) (tMethD P w K mg base j m W ta t) := by
  subst hP hw hK hm hB
  exact pd_meth (pl := pl) hr tk he ha hst hpl ht
theorem kpd_meth0 {P : Program} {w : World} {K : PySem.W.Frag} {mg : Str → Option Value} {base : Heap} {pl : Sem Bool} (hr : Room j X.A) (tk : Takes X W) (he : PE X o ta)
    (hP : X.prog = P := by rfl) (hw : X.w = w := by rfl) (hK : X.K = K := by rfl) (hm : X.mg = mg := by rfl) (hB : X.base = base := by rfl)
    (ht : eval (.Call (.Attribute o m apos) [] [] pos) X.env = (do
      let ov ← eval o X.env
      standAt apos.atName
      let (f, first) ← holding [ov] (getMethod ov m pl)
      callWith pos f first (backTo pos (starEach [] X.env)) (backToKw pos (keywordEach [] X.env))) := by rfl) :
    PE X (.Call (.Attribute o m apos) [] [] pos) (tMethD P w K mg base j m W ta tNil) := by
  subst hP hw hK hm hB
  exact pd_meth0 (pl := pl) hr tk he ht

/-! ### both ways of a two-place rule -/
def rOr (r r' : R2) : R2 := fun x y H Q => r x y H Q ∨ r' x y H Q
theorem op_or2 {f : Value → Value → Sem Value} {r r' : R2} (h : OpR X f r) (h' : OpR X f r') : OpR X f (rOr r r') := OpR.or h h'
theorem call_or2 {f : Value} {r r' : List V → Hp → VK → Prop} (h : CallR X f r) (h' : CallR X f r') : CallR X f (fun xs H Q => r xs H Q ∨ r' xs H Q) := by
  intro pins s σ H xs us Q I v q
  rcases q with q | q
  · exact h pins s σ H xs us Q I v q
  · exact h' pins s σ H xs us Q I v q
/-- isinstance(e, c) of what a suite holds, its class told by the reading -/
def rIsED (K : PySem.W.Frag) (a : Addr) (cls : Value) (d : Option Addr) : List V → Hp → VK → Prop := fun xs H Q => ∃ D, cls = .ref D ∧ d = none ∧ ExcC K D ∧ rIsE K D a xs H Q
theorem call_isED {a : Addr} {oe : Obj} {pn : List (Addr × Obj)} {cls : Value} {d : Option Addr} (hz : Zc cls d oe) (hf : ∃ vs, oe.data = .fields vs) : CallR (X.suite a ((a, oe) :: pn)) (.builtin "isinstance") (rIsED X.K a cls d) := by
  intro pins s σ H xs us Q I r h
  obtain ⟨D, rfl, rfl, C, q⟩ := h
  exact call_isE C hz hf pins s σ H xs us Q I r q
/-- text * 0 or 1 -/
def rMulS : R2 := fun x y H Q => ∃ (a : Str) (b : Bool), x = .str a ∧ y = .int (if b then 1 else 0) ∧ Q (.str (if b then a else Str.empty)) H
theorem op_mulS : OpR X (binaryOp .Mult) rMulS := by
  intro pins s σ H x y v u Q I rx ry h
  obtain ⟨a, b, rfl, rfl, q⟩ := h
  obtain ⟨t, rfl⟩ := rx
  obtain ⟨t', rfl⟩ := ry
  cases b with
  | true =>
    refine SB.mul ⟨by decide, fun _ z => absurd z (by simp), fun _ z => absurd z (by simp)⟩ fun t' k => ?_
    refine ⟨.str a, H, I.tok _, ⟨t', ?_⟩, q⟩
    unfold Txt.mul
    rfl
  | false =>
    refine SB.mul ⟨by decide, fun z => absurd (show (0:Int) < 1 by decide) z, fun z => absurd (show (0:Int) < 1 by decide) z⟩ fun t' k => ?_
    refine ⟨.str Str.empty, H, I.tok _, ⟨t', ?_⟩, q⟩
    unfold Txt.mul
    rfl
end
/-! ### try: the body's and the suite's terms are given where the reading stands -/
section
variable {X : Cx} {x n : Str} {c : Value} {i : Nat} {body suite : List Stmt} {b0 : Stmt} {np pos pos' : Pos} {Wout : WX}
def tsD (X : Cx) (b0 : Stmt) (suite : List Stmt) (a : Addr) (cls : Value) (d : Option Addr) : TS := fun D σ H =>
  ∀ (oe : Obj) (pn : List (Addr × Obj)), Zc cls d oe → (∃ vs, oe.data = .fields vs) → ∃ t, PSs (X.suite a ((a, oe) :: pn)) (b0 :: suite) t ∧ t D σ H
def tbD (X : Cx) (body : List Stmt) (W : WX) : TS := fun D σ H =>
  ∀ (pn : List (Addr × Obj)) (xe : Value → Shared → Prop), Takes (X.tr pn xe) W → PassesOwn (model X.prog X.w) X.A X.env xe → ∃ t, PSs (X.tr pn xe) body t ∧ t D σ H
theorem ps_tryD (hs : X.stack = X.env :: X.outer) (hf : X.env.frame = some X.env.locals) (hN : X.N.Nodup) (hi : X.N[i]? = some n) (hln : X.env.kindOf n = some .local) (hc : Names X x c) (tk : Takes X Wout) :
    PS X (.Try body [.ExceptHandler (some (.Name x np)) (some n) (b0 :: suite) pos'] [] [] pos) (fun D σ H => tbD X body (wAs X.K c i (tsD X b0 suite) Wout D) D σ H) :=
  ps_try_as (tb := tbD X body) (ts := tsD X b0 suite) hs hf hN hi hln hc tk
    (fun _ pn xe tk1 po => ⟨fun pins s σ H D I h => let ⟨_, p, q⟩ := h pn xe tk1 po; p.run pins s σ H D I q⟩)
    (fun a oe cls d pn hz hv => ⟨fun pins s σ H D I h => let ⟨_, p, q⟩ := h oe pn hz hv; p.run pins s σ H D I q⟩)
end
/-! ### from a def's own promise -/
section
variable {P : Program} {w : World} {K : PySem.W.Frag} {mg : Str → Option Value} {base : Heap} {k : Nat} {f C : Addr} {fd : FuncData} {ps : List Str} {sp : Sp} {x m : Str}
theorem cal_mk (G : FnOk P w K mg base (L2.CX P w) k f fd ps sp) (hm : mg x = some (.ref f)) (kp : PySem.W.keepIn K (.ref f) = true) (b : Binds K fd ps []) : CalX P w K mg base k x sp :=
  ⟨f, fd, ps, [], [], sp, G, hm, kp, b, .nil, fun _ _ _ _ h => by rw [List.append_nil]; exact h⟩
theorem met_mk (c : Cls K C) (me : Meth K C m f) (G : FnOk P w K mg base (L2.CX P w) k f fd ps sp) (b : Binds K fd ps []) : MetX P w K mg base k C m sp :=
  ⟨f, fd, ps, [], [], sp, c, me, G, b, .nil, fun _ _ _ _ h => by rw [List.append_nil]; exact h⟩
theorem mak_mk (M : Mk K C f) (hm : mg x = some (.ref C)) (G : FnOk P w K mg base (L2.CX P w) k f fd ps sp) (b : Binds K fd ps []) : MakX P w K mg base k x C sp :=
  ⟨f, fd, ps, [], [], sp, M, hm, G, b, .nil, fun _ _ _ _ h => by rw [List.append_nil]; exact h⟩
theorem cal_false (hm : mg x = some (.ref f)) (kp : PySem.W.keepIn K (.ref f) = true) (b : Binds K fd ps []) : CalX P w K mg base 0 x (fun _ _ _ _ => False) :=
  cal_mk ⟨fun _ _ _ _ h => h.elim, fun _ _ _ _ _ _ _ _ _ _ _ _ _ h => h.elim⟩ hm kp b
theorem CalX.imp {sp' : Sp} (c : CalX P w K mg base k x sp) (h : ∀ vs H Q E, sp' vs H Q E → sp vs H Q E) : CalX P w K mg base k x sp' := by
  obtain ⟨f, fd, ps, ds, dvs, sp0, F, hm, kp, b, d, imp⟩ := c.ex
  exact ⟨f, fd, ps, ds, dvs, sp0, F, hm, kp, b, d, fun vs H Q E q => imp vs H Q E (h vs H Q E q)⟩
theorem MetX.imp {sp' : Sp} (c : MetX P w K mg base k C m sp) (h : ∀ vs H Q E, sp' vs H Q E → sp vs H Q E) : MetX P w K mg base k C m sp' := by
  obtain ⟨f, fd, ps, ds, dvs, sp0, F, hm, kp, b, d, imp⟩ := c.ex
  exact ⟨f, fd, ps, ds, dvs, sp0, F, hm, kp, b, d, fun vs H Q E q => imp vs H Q E (h vs H Q E q)⟩
/-- two promises of one def at once -/
theorem FnOk.or {sp' : Sp} (F : FnOk P w K mg base (L2.CX P w) k f fd ps sp) (G : FnOk P w K mg base (L2.CX P w) k f fd ps sp') : FnOk P w K mg base (L2.CX P w) k f fd ps (fun vs H Q E => sp vs H Q E ∨ sp' vs H Q E) :=
  ⟨fun vs H Q E h => h.elim (F.len vs H Q E) (G.len vs H Q E), fun A outer s H args us vs Q E hr he hb hv hs => hs.elim (F.run A outer s H args us vs Q E hr he hb hv) (G.run A outer s H args us vs Q E hr he hb hv)⟩
end
end Ew

set_option Elab.async false
set_option linter.all false
set_option maxRecDepth 100000
set_option maxHeartbeats 4000000
/-! all(.. for ..), any(.. for ..): the element is any expression that the reading serves. -/
namespace EwG
open PySem PySem.Spec PyProof.Rows L2 Ew GxR

/-- the context of a generator expression's frame -/
abbrev gx (X : Cx) (A1 : Around) (s : Shared) (H : Hp) (cenv : Env) (fp : List Addr) (pn : List (Addr × Obj)) : Cx :=
  { X with A := A1, s_0 := s, H_0 := H, env := cenv, outer := X.stack, stack := cenv :: X.stack, ex := fp, fn := fun _ => false, calm := true, pn := pn, xe := fun _ _ => False }

theorem inv_same {X : Cx} {pins : List (Addr × Obj)} {σ : L2.St} {H : Hp} {s s' : Shared} (I : Inv X pins σ H s) (hh : s'.heap = s.heap) (ho : s'.os = s.os) (hb : AllBare s'.gens) : Inv X pins σ H s' := by
  obtain ⟨h', g', d', t', o'⟩ := s'
  have e1 : h' = s.heap := hh
  have e2 : o' = s.os := ho
  subst e1 e2
  exact ⟨I.ok, I.os, hb, I.base, I.loc, I.cell, I.free, I.freeC, I.pin, I.hok, I.len⟩

section
variable {X : Cx} {pins : List (Addr × Obj)} {σ : L2.St} {H : Hp} {s : Shared}
abbrev genv (X : Cx) (scope : Scope) (C : Addr) (code : Value) : Env := genEnv scope (cloFrom X.env.cells scope.names []) C code builtinsNs X.env

theorem gen_start {scope : Scope} {own : List (Str × Nat)} {fp : List Addr} {A1 : Around} {h' : Heap} {obj : Obj} {code : Value} {m : Str → Option Value} {g' : Array GenState} {t' : Nat}
    (I : Inv X pins σ H s) (ok : BlkOk X.N X.env.scope scope own) (hcell : ∀ y ∈ scope.names, y.2 ≠ .cell) (hN : X.N.Nodup) (hfp : ∀ b ∈ fp, FpOk X pins H b ∧ b < s.heap.objs.size)
    (hA : A1.handled = none) (hfr : A1.frames = some (genv X scope s.heap.objs.size code :: X.stack)) (hn' : h'.Ns s.heap.objs.size m) (kp0 : ∀ b o, s.heap.get? b = some o → h'.get? b = some o) (hs : h'.objs.size = s.heap.objs.size + 1)
    (hob : (h'.push obj).get? h'.objs.size = some obj) (hod : ∀ v, obj.data ≠ .cell v) (hg : AllBare g') :
    Inv (gx X A1 s H (genv X scope s.heap.objs.size code) fp [(h'.objs.size, obj)]) [] (wipe σ (own.map (·.2))) H { s with heap := h'.push obj, gens := g', toks := t' } := by
  have hfree : ∀ y ∈ scope.names, y.2 = .free → ∃ c, X.env.cells.lookup y.1 = some c := fun y hy e => by
    rcases ok.free y hy e with k | k
    · exact I.ok.has _ (.inl k)
    · exact I.ok.has _ (.inr k)
  have kp : ∀ b o, s.heap.get? b = some o → (h'.push obj).get? b = some o := fun b o e => Heap.get?_push_of_some _ (kp0 b o e)
  generalize hcenv : genv X scope s.heap.objs.size code = cenv at hfr
  have hL : cenv.locals = s.heap.objs.size := by rw [← hcenv]; rfl
  have hF : cenv.frame = some cenv.locals := by rw [← hcenv]; rfl
  have hcl : cenv.cells = cloFrom X.env.cells scope.names [] := by rw [← hcenv]; rfl
  have hsc : cenv.scope = scope := by rw [← hcenv]; rfl
  have cm : ∀ {y c}, cenv.cells.lookup y = some c → X.env.cells.lookup y = some c ∧ c < s.heap.objs.size := fun {y c} hm => by
    rw [hcl] at hm
    rcases cloFrom_mem (PySem.mem_of_lookup hm) with hm | ⟨h1, rfl⟩
    · cases hm
    · obtain ⟨c, hc⟩ := hfree _ h1 rfl
      rw [hc]
      obtain ⟨w, z⟩ := I.cell _ _ hc
      exact ⟨rfl, z.lt⟩
  have look : ∀ {y}, scope.names.lookup y = some .free → ∃ c, cenv.cells.lookup y = some c ∧ X.env.cells.lookup y = some c := fun {y} hl => by
    have hy : (y, NameKind.free) ∈ scope.names := PySem.mem_of_lookup hl
    obtain ⟨c', e'⟩ := mem_lookup (cloFrom_has (cells := X.env.cells) (acc := []) hy)
    rw [← hcl] at e'
    exact ⟨c', e', (cm e').1⟩
  have okB : (gx X A1 s H cenv fp [(h'.objs.size, obj)]).Ok := by
    refine ⟨I.ok.mod, by show cenv.scope.kind = _; rw [hsc]; exact ok.kind, by show cenv.globals = _; rw [← hcenv]; exact I.ok.glob, by show cenv.builtins = _; rw [← hcenv]; rfl, by show s.heap.objs.size ≤ cenv.locals; rw [hL]; exact Nat.le_refl _,
      fun y z c e1 e2 => I.ok.inj y z c (cm e1).1 (cm e2).1, fun y hy => ?_, fun y c z e => absurd (show false = true from z) Bool.false_ne_true, fun _ => hA, hfr, .inr ⟨rfl, hF⟩, fun b hb => ⟨?_, fun y c e z => ?_⟩, I.bs, Nat.le_trans I.ok.bsz I.sz, fun b o e hb => ?_, fun b hb z => ?_, I.stack, I.stkFree⟩
    · show ∃ c, cenv.cells.lookup y = some c
      rcases hy with hy | hy
      · have hy : cenv.scope.names.lookup y = some .cell := hy
        rw [hsc] at hy
        exact absurd rfl (hcell _ (PySem.mem_of_lookup hy))
      · have hy : cenv.scope.names.lookup y = some .free := hy
        rw [hsc] at hy
        obtain ⟨c, h1, _⟩ := look hy
        exact ⟨c, h1⟩
    · show b ≠ cenv.locals
      rw [hL]; exact Nat.ne_of_lt (hfp b hb).2
    · exact (hfp b hb).1.2.2.2.2.1 y c (cm e).1 z
    · rcases (hfp b hb).1.2.2.2.1 with z | z
      · exact I.ok.noex b o e z
      · exact absurd (Nat.lt_of_lt_of_le (Heap.lt_size e) (Nat.le_trans I.ok.bsz z)) (Nat.lt_irrefl _)
    · rcases List.mem_cons.mp (I.stkSub b z) with z | z
      · exact (hfp b hb).1.2.1 z
      · exact (hfp b hb).1.2.2.1 z
  refine ⟨okB, rfl, hg, Un.kept kp, ⟨m, ?_, fun i y av e1 e2 e3 => ?_⟩, fun y c e => ?_, ?_, fun y c e => ?_, fun p hp => ?_, I.hok.kept kp, by rw [wipe_length]; exact I.len⟩
  · show Heap.Ns _ cenv.locals _
    rw [hL]
    exact hn'.push _
  · obtain ⟨e2, hne⟩ := wipe_some e2
    have hfr : scope.names.lookup y = some .free := by
      have key : ∀ k, scope.names.lookup y = some k → k = .local ∨ k = .cell → False := fun k hk hh => by
        rcases ok.own _ (PySem.mem_of_lookup hk) hh with e' | e'
        · obtain ⟨p, hp, hpy⟩ := List.mem_map.mp e'
          have e3 := ok.ix p hp
          have : p.1 = y := hpy
          rw [this] at e3
          exact hne (List.mem_map.mpr ⟨p, hp, nodup_ix hN e3 e1⟩)
        · exact e' (List.mem_of_getElem? e1)
      have e3 : Vis cenv.scope y := e3
      rw [hsc] at e3
      rcases e3 with e3 | e3 | e3
      · exact (key _ e3 (.inl rfl)).elim
      · exact (key _ e3 (.inr rfl)).elim
      · exact e3
    obtain ⟨m, hn, hl⟩ := I.loc
    have hvis : Vis X.env.scope y := (ok.free _ (PySem.mem_of_lookup hfr) rfl).elim (fun k => .inr (.inl k)) (fun k => .inr (.inr k))
    obtain ⟨w, r, q⟩ := hl i y av e1 e2 hvis
    refine ⟨w, r, .inr ⟨.inr (by show cenv.scope.names.lookup y = _; rw [hsc]; exact hfr), ?_⟩⟩
    obtain ⟨c, h1, h2⟩ := look hfr
    rcases q with ⟨k, _⟩ | ⟨_, c', e', z⟩
    · have k : X.env.scope.names.lookup y = some .local := k
      rcases ok.free _ (PySem.mem_of_lookup hfr) rfl with k' | k' <;> rw [show X.env.scope.names.lookup y = _ from k'] at k <;> cases k
    · rw [h2] at e'; cases e'
      exact ⟨c, h1, z.keeps kp⟩
  · obtain ⟨w, z⟩ := I.cell y c (cm e).1
    exact ⟨w, z.keeps kp⟩
  · show H cenv.locals = none
    rw [hL]; exact I.hok.fresh (Nat.le_refl _)
  · exact I.freeC y c (cm e).1
  · have e : p = (h'.objs.size, obj) := by
      have hp : p ∈ [(h'.objs.size, obj)] ++ [] := hp
      simpa using hp
    subst e
    have le : s.heap.objs.size ≤ h'.objs.size := by omega
    refine ⟨hob, I.hok.fresh le, ?_, fun z => ?_, hod⟩
    · show h'.objs.size ≠ cenv.locals
      rw [hL, hs]; exact Nat.succ_ne_self _
    · rcases List.mem_cons.mp (I.stkSub _ z) with z | z
      · have := I.lt
        rw [← show h'.objs.size = X.env.locals from z] at this
        exact absurd (Nat.lt_of_lt_of_le this le) (Nat.lt_irrefl _)
      · exact I.nofs le z

/-- e: the truth that goes on (all: True, any: False) -/
def GW (J : It) (g : TG) (te : TE) (vs : List Nat) (σ : L2.St) (e : Bool) (Q : VK) (W : Nat → Nat → Hp → Prop) : Prop := ∀ i m H, W i m H →
  (J.stop i H ∧ Q (.bl e) H) ∨ (J.go i H ∧ ∀ x H', J.yld i H x H' → g x (wipe σ vs) H' fun σ2 H2 => wipe σ2 vs = wipe σ vs ∧ te σ2 H2 fun y H3 => ∃ b, y = .bl b ∧ (b = e → ∃ m', m' < m ∧ W (i + 1) m' H3) ∧ (b ≠ e → Q (.bl b) H3))
abbrev GP (Y : Cx) (e : Bool) (Q : VK) : Nat → Shared → Shared → Prop := fun _ _ s => ∃ σ H, Inv Y [] σ H s ∧ Q (.bl e) H
abbrev GRn (Y : Cx) (e : Bool) (Q : VK) : GenEnd := fun n s₀ r s => r = .ok .next ∧ GP Y e Q n s₀ s
def GYp (Y : Cx) (e : Bool) (Q : VK) : Protocol := fun n s₀ v s kap => ∃ b σ H, v = .bool b ∧ Inv Y [] σ H s ∧ (b ≠ e → Q (.bl b) H) ∧ (b = e → ∀ s' : Shared, s'.heap = s.heap → s'.os = s.os → AllBare s'.gens → kap (.send .none) s')

theorem seg_loop {Y : Cx} {A2 : Around} {elt tg iter : Expr} {scope : Scope} {pos : Pos} {it : Addr} {fp : List Addr} {tn : Nat → Heap → Prop} {J : It} {g : TG} {te : TE} {vs : List Nat} {σ : L2.St} {e : Bool} {Q : VK} {W : Nat → Nat → Hp → Prop}
    (hA : Y.A = A2.over (.compLoop (.GeneratorExp elt [⟨tg, iter, [], 0⟩] scope pos) 0 (.ref it) .none Y.env) []) (hex : Y.ex = fp) (hc : Y.calm = true) (hx : Y.xe = fun _ _ => False) (hpn : ∀ b ∈ fp, ∀ p ∈ Y.pn, p.1 ≠ b) (hco : Y.env.scope.isCoroutine = false)
    (T : Turn Y.prog Y.w Y.K tg J fp it tn) (pg : PG Y tg g) (pe : PE Y elt te) (hW : GW J g te vs σ e Q W) :
    ∀ (m i n : Nat) (s₀ s : Shared) (H : Hp), m < n → Inv Y [] (wipe σ vs) H s → tn i s.heap → (∀ b ∈ fp, H b = none) → W i m H →
      Seg (model Y.prog Y.w) A2 (GRn Y e Q) (GYp Y e Q) n s₀ (.compLoop (.GeneratorExp elt [⟨tg, iter, [], 0⟩] scope pos) 0 (.ref it) .none Y.env)
        ((model Y.prog Y.w).den (.compLoop (.GeneratorExp elt [⟨tg, iter, [], 0⟩] scope pos) 0 (.ref it) .none Y.env)) [] s := by
  have stat : ∀ {σ' : L2.St} {H' : Hp} {s' : Shared}, Inv Y [] σ' H' s' → (∀ b ∈ fp, H' b = none) → ∀ b ∈ fp, FpOk Y [] H' b := fun {σ' H' s'} I' hn b hb =>
    have hb' : b ∈ Y.ex := by rw [hex]; exact hb
    ⟨hn b hb, (I'.ok.exf b hb').1, I'.ok.exfs b hb', .inl hb', fun x c e => (I'.ok.exf b hb').2 x c e, fun p hp => hpn b hb p (by simpa using hp)⟩
  intro m
  induction m using Nat.strongRecOn with
  | ind m ih =>
    intro i n s₀ s H hmn I st hn w
    show Seg _ A2 _ _ _ s₀ _ ((compTurn (.GeneratorExp elt [⟨tg, iter, [], 0⟩] scope pos) 0 (.ref it) .none Y.env).onRaise (leaving Y.env)) [] s
    rw [compTurn_gen, Sem.onRaise_eq_wrap]
    refine seg_bind_wrap (wpAny_standAt ?_)
    rcases hW i m H w with ⟨stop, q⟩ | ⟨go, step⟩
    · refine seg_bind_wrap ?_
      rw [← hA]
      refine thnF (T.done Y rfl rfl rfl hc i [] s _ H (fun _ _ => False) I (stat I hn) st stop) fun r s6 ⟨hr, I6⟩ => ?_
      subst hr
      exact seg_end (.ok .next) ⟨rfl, _, H, I6, q⟩
    · refine seg_bind_wrap ?_
      rw [← hA]
      refine thnF (T.item Y rfl rfl rfl hc i [] s _ H (fun _ _ => False) I (stat I hn) st go) fun r s6 ⟨u, hr, h6⟩ => ?_
      subst hr
      refine seg_bind_wrap ?_
      rw [← hA]
      refine thnF h6 fun _ s7 ⟨x, H7, I7, r7, y7, st7, n7⟩ => ?_
      have I7' := I7.pinned (stat I7 n7) (T.obj _ _ st7)
      refine seg_bind_wrap ?_
      rw [← hA]
      have hpg := pg.run _ s7 _ H7 x u _ I7' r7 (step x H7 y7)
      rw [hx] at hpg
      refine thnF hpg fun _ s8 ⟨σ8, H8, I8, hw8, q8⟩ => ?_
      refine seg_bind_wrap ?_
      rw [← hA]
      refine wpAny_tests_nil ?_
      simp only [if_true]
      have hy : ∀ v, yieldOut Y.env v = yieldValue v := fun v => by simp only [yieldOut, hco, Bool.false_eq_true, if_false]
      simp only [hy]
      rw [Sem.bind_eq_wrap', Sem.bind_eq_wrap', Sem.wrap_wrap, Sem.wrap_wrap]
      refine seg_wrap ?_
      rw [← hA]
      have hpe := pe.run _ s8 σ8 H8 _ I8 q8
      rw [hx] at hpe
      refine thnF hpe fun z s9 ⟨y, H9, I9, r9, b, hyb, q9⟩ => ?_
      subst hyb
      have hz : z = .bool b := r9
      subst hz
      have pin' : ∀ c ∈ fp, ∀ o, s7.heap.get? c = some o → s9.heap.get? c = some o ∧ H9 c = none := fun c hb o e =>
        let z := I9.pin (c, o) (List.mem_append_right _ (List.mem_append_right _ (mem_pinsAt hb e)))
        ⟨z.1, z.2.1⟩
      have hl : (wipe σ vs).length = σ8.length := by rw [← hw8, wipe_length]
      have I10 : Inv Y [] (wipe σ vs) H9 s9 := (I9.unpinned (pins := [])).weak hl fun j v e => by
        rw [← hw8] at e
        exact (wipe_some e).1
      obtain ⟨n', rfl⟩ : ∃ n', n = n' + 1 := ⟨n - 1, by omega⟩
      refine seg_at (seg_yield rfl rfl rfl ⟨b, _, H9, rfl, I10, q9.2, fun hb s' hh ho hg => ?_⟩)
      obtain ⟨m', hm, w'⟩ := q9.1 hb
      refine seg_again rfl (ih m' hm (i + 1) n' s' s' H9 (by omega) (inv_same I10 hh ho hg) ?_ (fun c hc => ?_) w')
      · rw [hh]
        exact T.keep _ _ _ st7 fun c hb o e => (pin' c hb o e).1
      · obtain ⟨o, e, _⟩ := T.obj _ _ st7 c hc
        exact (pin' c hc o e).2

theorem seg_start {Y : Cx} {A2 : Around} {elt tg iter : Expr} {scope : Scope} {pos : Pos} {it : Addr} {fp : List Addr} {tn : Nat → Heap → Prop} {J : It} {e : Bool} {Q : VK} {n : Nat} {s₀ s : Shared}
    (T : Turn Y.prog Y.w Y.K tg J fp it tn) (st : tn 0 s.heap)
    (loop : Seg (model Y.prog Y.w) A2 (GRn Y e Q) (GYp Y e Q) n s₀ (.compLoop (.GeneratorExp elt [⟨tg, iter, [], 0⟩] scope pos) 0 (.ref it) .none Y.env)
        ((model Y.prog Y.w).den (.compLoop (.GeneratorExp elt [⟨tg, iter, [], 0⟩] scope pos) 0 (.ref it) .none Y.env)) [] s) :
    Seg (model Y.prog Y.w) A2 (GRn Y e Q) (GYp Y e Q) n s₀ (.compStart (.GeneratorExp elt [⟨tg, iter, [], 0⟩] scope pos) 0 (.ref it) .none Y.env)
        ((model Y.prog Y.w).den (.compStart (.GeneratorExp elt [⟨tg, iter, [], 0⟩] scope pos) 0 (.ref it) .none Y.env)) [] s := by
  show Seg _ A2 _ _ _ s₀ _ ((compStart (.GeneratorExp elt [⟨tg, iter, [], 0⟩] scope pos) 0 (.ref it) .none Y.env).onRaise (leaving Y.env)) [] s
  unfold compStart
  rw [Sem.onRaise_eq_wrap]
  show Seg _ A2 _ _ _ s₀ _ ((ask >>= _).wrap _ _ _ _) [] s
  refine seg_bind_wrap (wpAny_askSetting ?_)
  split
  · exact seg_again rfl loop
  · first
      | exact seg_bind_wrap (wpAny_rule (seg_bind_wrap (wpAny_standAt (seg_bind_wrap (T.self _ 0 s _ _ st (seg_again rfl loop))))))
      | (refine seg_bind_wrap (wpAny_rule ?_); show Seg _ A2 _ _ _ s₀ _ ((standAt iter.pos >>= _).wrap _ _ _ _) [] s; exact seg_bind_wrap (wpAny_standAt (seg_bind_wrap (T.self _ 0 s _ _ st (seg_again rfl loop)))))

theorem fin_heap {Y : Cx} {σ : L2.St} {H : Hp} {s₁ : Shared} {g : Nat} {h' : Heap} (I : Inv Y [] σ H s₁) (k : ∀ b o, s₁.heap.get? b = some o → h'.get? b = some o) : Inv Y [] σ H { s₁.setGen g .finished with heap := h' } :=
  inv_same (s' := { s₁.setGen g .finished with heap := h' }) (Inv.kept (t' := s₁.toks) I k) rfl rfl (allBare_setGen I.bare rfl)

/-- one step of the walk -/
theorem next_gen {Y : Cx} {A : Around} {a : Addr} {g n : Nat} {gs : GenState} {e : Bool} {Q : VK} {s : Shared} {Qo : Option Value → Shared → Prop} {E : Value → Shared → Prop} (hh : A.handled = none) (hroom : A.depth < recursionLimit)
    (hl : s.heap.NoLimit) (hg : s.heap.IsGen a g) (hgs : s.gens[g]? = some gs) (hb : AllBare s.gens)
    (hgo : ∀ s' : Shared, s'.heap = s.heap → s'.os = s.os → AllBare s'.gens → gs.Goes (model Y.prog Y.w) A.in1 (GRn Y e Q) (GYp Y e Q) n (.send .none) s')
    (hE : ∀ σ H s', Inv Y [] σ H s' → Q (.bl e) H → Qo none s')
    (hO : ∀ b σ H s', b ≠ e → Inv Y [] σ H s' → Q (.bl b) H → Qo (some (.bool b)) s')
    (hN : ∀ n' gs' σ H s', n = n' + 1 → Inv Y [] σ H s' → s'.gens[g]? = some gs' → (∀ s'' : Shared, s''.heap = s'.heap → s''.os = s'.os → AllBare s''.gens → gs'.Goes (model Y.prog Y.w) A.in1 (GRn Y e Q) (GYp Y e Q) n' (.send .none) s'') → Qo (some (.bool e)) s') :
    wpAny (model Y.prog Y.w) A (pyNext (.ref a)) Qo E s := by
  have hgl : g < s.gens.size := by
    rcases Nat.lt_or_ge g s.gens.size with h | h
    · exact h
    · rw [Array.getElem?_eq_none h] at hgs; cases hgs
  refine GenW.wpAny_gsz (Nat.le_refl s.gens.size) ?_
  refine wpAny_pyNext_genexpQ (P := GP Y e Q) hh hl hroom hg hgs (hgo _ rfl rfl (allBare_setGen hb rfl)) (fun v s₁ gs' hbr hY => ?_) (fun s₁ hP h' hk => ?_)
  · obtain ⟨b, σ, H, rfl, I, qne, qe⟩ := hY
    intro hsz
    have hsz1 : g < s₁.gens.size := by
      rw [GenW.setGen_size] at hsz
      omega
    have I' : Inv Y [] σ H (s₁.setGen g gs') := inv_same (s' := s₁.setGen g gs') I rfl rfl (allBare_setGen I.bare hbr)
    by_cases hbe : b = e
    · subst hbe
      have k := qe rfl
      cases n with
      | zero => exact False.elim (k s₁ rfl rfl I.bare)
      | succ n' =>
        refine hN n' gs' σ H _ rfl I' (setGen_self (gs := s₁.gens[g]) (Array.getElem?_eq_getElem hsz1)) fun s'' h1 h2 h3 => ?_
        exact k s'' h1 h2 h3
    · exact hO b σ H _ hbe I' (qne hbe)
  · obtain ⟨σ, H, I, q⟩ := hP
    intro _
    exact hE σ H _ (fin_heap I hk) q

theorem drv_all {Y : Cx} {A : Around} {a : Addr} {g : Nat} {Q : VK} {R : Result → Shared → Prop} {og : Obj} (hpn : (a, og) ∈ Y.pn) (hig : ∀ h : Heap, h.get? a = some og → h.IsGen a g)
    (hh : A.in1.handled = none) (hroom : A.in1.depth < recursionLimit) (hR : ∀ b σ H s', Inv Y [] σ H s' → Q (.bl b) H → R (.ok (.ret (.bool b))) s') :
    ∀ (n : Nat) (gs : GenState) (σ : L2.St) (H : Hp) (s : Shared), Inv Y [] σ H s → s.gens[g]? = some gs →
      (∀ s' : Shared, s'.heap = s.heap → s'.os = s.os → AllBare s'.gens → gs.Goes (model Y.prog Y.w) A.in1.in1 (GRn Y true Q) (GYp Y true Q) n (.send .none) s') →
      codeAny (model Y.prog Y.w) A (.builtin "all.loop" ⟨[.ref a], []⟩) R s := by
  intro n
  induction n with
  | zero =>
    intro gs σ H s I hgs hgo
    refine codeAny_builtin F.entry_all_loop ?_
    rw [Around.under_plainId F.plain_all_loop _]
    show wpAny _ A.in1 (pyNext (.ref a) >>= _) _ _ s
    refine wpAny_bind (next_gen hh hroom I.nolimit (hig _ (I.pin _ (List.mem_append_left _ hpn)).1) hgs I.bare hgo (fun σ H s' I' q => ?_) (fun b σ H s' hb I' q => ?_) fun n' gs' σ H s' hn I' h1 h2 => absurd hn (Nat.succ_ne_zero n').symm)
    · exact wpAny_bind (wpAny_rule (wpAny_pure (hR true σ H s' I' q)))
    · have hb : b = false := by cases b <;> simp_all
      subst hb
      refine wpAny_bind (wpAny_holding (wpAny_truthy_bool ?_))
      refine wpAny_bind (wpAny_letGo ?_)
      simp only [Bool.false_eq_true, if_false]
      exact wpAny_bind (wpAny_rule (wpAny_pure (hR false σ H s' I' q)))
  | succ n ih =>
    intro gs σ H s I hgs hgo
    refine codeAny_builtin F.entry_all_loop ?_
    rw [Around.under_plainId F.plain_all_loop _]
    show wpAny _ A.in1 (pyNext (.ref a) >>= _) _ _ s
    refine wpAny_bind (next_gen hh hroom I.nolimit (hig _ (I.pin _ (List.mem_append_left _ hpn)).1) hgs I.bare hgo (fun σ H s' I' q => ?_) (fun b σ H s' hb I' q => ?_) fun n' gs' σ H s' hn I' h1 h2 => ?_)
    · exact wpAny_bind (wpAny_rule (wpAny_pure (hR true σ H s' I' q)))
    · have hb : b = false := by cases b <;> simp_all
      subst hb
      refine wpAny_bind (wpAny_holding (wpAny_truthy_bool ?_))
      refine wpAny_bind (wpAny_letGo ?_)
      simp only [Bool.false_eq_true, if_false]
      exact wpAny_bind (wpAny_rule (wpAny_pure (hR false σ H s' I' q)))
    · cases hn
      refine wpAny_bind (wpAny_holding (wpAny_truthy_bool ?_))
      refine wpAny_bind (wpAny_letGo ?_)
      simp only [if_true]
      exact wpAny_pure ⟨plainId_quiet F.plain_all_loop _, ih gs' σ H s' I' h1 h2⟩
theorem drv_any {Y : Cx} {A : Around} {a : Addr} {g : Nat} {Q : VK} {R : Result → Shared → Prop} {og : Obj} (hpn : (a, og) ∈ Y.pn) (hig : ∀ h : Heap, h.get? a = some og → h.IsGen a g)
    (hh : A.in1.handled = none) (hroom : A.in1.depth < recursionLimit) (hR : ∀ b σ H s', Inv Y [] σ H s' → Q (.bl b) H → R (.ok (.ret (.bool b))) s') :
    ∀ (n : Nat) (gs : GenState) (σ : L2.St) (H : Hp) (s : Shared), Inv Y [] σ H s → s.gens[g]? = some gs →
      (∀ s' : Shared, s'.heap = s.heap → s'.os = s.os → AllBare s'.gens → gs.Goes (model Y.prog Y.w) A.in1.in1 (GRn Y false Q) (GYp Y false Q) n (.send .none) s') →
      codeAny (model Y.prog Y.w) A (.builtin "any.loop" ⟨[.ref a], []⟩) R s := by
  intro n
  induction n with
  | zero =>
    intro gs σ H s I hgs hgo
    refine codeAny_builtin F.entry_any_loop ?_
    rw [Around.under_plainId F.plain_any_loop _]
    show wpAny _ A.in1 (pyNext (.ref a) >>= _) _ _ s
    refine wpAny_bind (next_gen hh hroom I.nolimit (hig _ (I.pin _ (List.mem_append_left _ hpn)).1) hgs I.bare hgo (fun σ H s' I' q => ?_) (fun b σ H s' hb I' q => ?_) fun n' gs' σ H s' hn I' h1 h2 => absurd hn (Nat.succ_ne_zero n').symm)
    · exact wpAny_bind (wpAny_rule (wpAny_pure (hR false σ H s' I' q)))
    · have hb : b = true := by cases b <;> simp_all
      subst hb
      refine wpAny_bind (wpAny_holding (wpAny_truthy_bool ?_))
      refine wpAny_bind (wpAny_letGo ?_)
      simp only [if_true]
      exact wpAny_bind (wpAny_rule (wpAny_pure (hR true σ H s' I' q)))
  | succ n ih =>
    intro gs σ H s I hgs hgo
    refine codeAny_builtin F.entry_any_loop ?_
    rw [Around.under_plainId F.plain_any_loop _]
    show wpAny _ A.in1 (pyNext (.ref a) >>= _) _ _ s
    refine wpAny_bind (next_gen hh hroom I.nolimit (hig _ (I.pin _ (List.mem_append_left _ hpn)).1) hgs I.bare hgo (fun σ H s' I' q => ?_) (fun b σ H s' hb I' q => ?_) fun n' gs' σ H s' hn I' h1 h2 => ?_)
    · exact wpAny_bind (wpAny_rule (wpAny_pure (hR false σ H s' I' q)))
    · have hb : b = true := by cases b <;> simp_all
      subst hb
      refine wpAny_bind (wpAny_holding (wpAny_truthy_bool ?_))
      refine wpAny_bind (wpAny_letGo ?_)
      simp only [if_true]
      exact wpAny_bind (wpAny_rule (wpAny_pure (hR true σ H s' I' q)))
    · cases hn
      refine wpAny_bind (wpAny_holding (wpAny_truthy_bool ?_))
      refine wpAny_bind (wpAny_letGo ?_)
      simp only [Bool.false_eq_true, if_false]
      exact wpAny_pure ⟨plainId_quiet F.plain_any_loop _, ih gs' σ H s' I' h1 h2⟩

/-- the around of the generator's body, of a consumer that is called at A -/
abbrev gA (A : Around) (elt tg iter : Expr) (scope : Scope) (pos : Pos) (it : Addr) (cenv : Env) : Around := A.in1.in1.over (.compLoop (.GeneratorExp elt [⟨tg, iter, [], 0⟩] scope pos) 0 (.ref it) .none cenv) []
theorem gA_room {k : Nat} {A : Around} {elt tg iter : Expr} {scope : Scope} {pos : Pos} {it : Addr} {cenv : Env} (r : Room (k + 1) A) : Room k (gA A elt tg iter scope pos it cenv) :=
  ⟨r.hd, by have := r.dp; show A.depth + 0 + 1 + 3 * k + 5 < _; omega, by have := r.un; show A.units + 1 + 1 + 0 + 3 + 16 * k + 200 < _; omega⟩
theorem gA_frames {A : Around} {elt tg iter : Expr} {scope : Scope} {pos : Pos} {it : Addr} {cenv : Env} {l : List Env} (h : A.frames = some l) : (gA A elt tg iter scope pos it cenv).frames = some (cenv :: l) := by
  show pushEnvs [cenv] (pushEnvs [] A.frames) = _
  rw [h]
  rfl

/-- the generator at a, that has not begun -/
def Ready2 (X : Cx) (pins : List (Addr × Obj)) (σ : L2.St) (e : Bool) (Q : VK) (a : Addr) (s5 : Shared) : Prop :=
  ∃ (A1 : Around) (s4 : Shared) (H4 : Hp) (cenv : Env) (fp : List Addr) (pn : List (Addr × Obj)) (og : Obj) (g : Nat) (gs : GenState) (σ' : L2.St) (H5 : Hp) (n : Nat),
    (a, og) ∈ pn ∧ (∀ h : Heap, h.get? a = some og → h.IsGen a g) ∧ Inv (gx X A1 s4 H4 cenv fp pn) [] σ' H5 s5 ∧ s5.gens[g]? = some gs ∧
    (∀ s' : Shared, s'.heap = s5.heap → s'.os = s5.os → AllBare s'.gens → gs.Goes (model X.prog X.w) X.A.in1.in1 (GRn (gx X A1 s4 H4 cenv fp pn) e Q) (GYp (gx X A1 s4 H4 cenv fp pn) e Q) n (.send .none) s') ∧
    ∀ σ' H' s', Inv (gx X A1 s4 H4 cenv fp pn) [] σ' H' s' → Inv X pins σ H' s'

/-- all(.., any(..: the reading; e: the truth that goes on -/
def tGen (e : Bool) (P : Addr) (wi : TI) (g : TG) (te : TE) (vs : List Nat) : TE := fun σ H Q => wi σ H fun J H1 => TabG H1 P ∧ ∀ H2, Tabbed P H1 H2 → ∃ W : Nat → Nat → Hp → Prop, (∃ m, W 0 m H2) ∧ GW J g te vs σ e Q W

theorem gen_make {c P : Addr} {elt tg iter : Expr} {gpos : Pos} {scope : Scope} {own : List (Str × Nat)} {wi : TI} {g : TG} {te : TE} {k : Nat} {e : Bool} {Q : VK} {Q' : Value → Shared → Prop}
    (hr : Room (k + 1) X.A) (TB : TabB X.base X.mg c P) (hcode : X.env.code = .ref c) (hN : X.N.Nodup) (ok : BlkOk X.N X.env.scope scope own) (hcell : ∀ y ∈ scope.names, y.2 ≠ .cell) (hco : scope.isCoroutine = false) (h0 : scope.names.lookup (".0" : Str) = some NameKind.local)
    (hi : PI X tg iter wi)
    (hpg : ∀ (A1 : Around) (s : Shared) (H : Hp) (C : Addr) (code : Value) (fp : List Addr) (pn : List (Addr × Obj)), PG (gx X A1 s H (genv X scope C code) fp pn) tg g)
    (hpe : ∀ (A1 : Around) (s : Shared) (H : Hp) (C : Addr) (code : Value) (fp : List Addr) (pn : List (Addr × Obj)), Room k A1 → PE (gx X A1 s H (genv X scope C code) fp pn) elt te)
    (hs : ∀ v, genFold iter X.env v = pure v) (I : Inv X pins σ H s) (h : tGen e P wi g te (own.map (·.2)) σ H Q)
    (hQ : ∀ a s5, Ready2 X pins σ e Q a s5 → Q' (.ref a) s5) :
    wpAny (model X.prog X.w) X.A (eval (.GeneratorExp elt [⟨tg, iter, [], 0⟩] scope gpos) X.env) Q' X.xe s := by
  have hfree : ∀ y ∈ scope.names, y.2 = .free → ∃ c, X.env.cells.lookup y.1 = some c := fun y hy e => by
    rcases ok.free y hy e with k | k
    · exact I.ok.has _ (.inl k)
    · exact I.ok.has _ (.inr k)
  refine wpAny_GeneratorExp_make hco (closure_ok hfree) hcell h0 ok.kind (by have := hr.dp; omega) ?_ hs
  refine thn (hi.run pins s σ H _ I h) fun xv s1 hx => thn hx fun itv s2 h2 => ?_
  obtain ⟨it, fp, tn, J, H2, e2, I2, T, st2, f2, ⟨ps, hP, ht⟩, q⟩ := h2
  subst e2
  have hPs : s2.heap.get? P = some { cls := .none, data := .fields ps } := I2.hok P _ hP
  have cd : PySem.W.CodeHd s2.heap c P := TB.code.keeps fun b u e => I2.bk b u e
  have sz : ∀ b ∈ fp, b < s2.heap.objs.size := fun b hb => by
    obtain ⟨o, e, _⟩ := T.obj _ _ st2 b hb
    exact Heap.lt_size e
  have cont : ∀ (code : Value) (h3 : Heap) (tk : Nat) (ps' : Array Value), Heap.ExtBut P s2.heap h3 → s2.heap.objs.size ≤ h3.objs.size → h3.get? P = some { cls := .none, data := .fields ps' } → (∃ more, ps' = ps ++ more) → TriplesOk ps'.toList →
      wpAny (model X.prog X.w) X.A (builtinsFor X.env.globals X.env.builtins) (fun bi s₄ =>
        ∀ h', h'.Ns s₄.heap.objs.size (fun y => if y = ".0" then some (.ref it) else none) → Heap.SameBut s₄.heap.objs.size (s₄.heap.push { cls := .type "frame", data := .dict #[] }) h' →
          Q' (.ref h'.objs.size) { s₄ with
            gens := s₄.gens.push (.fresh (.compStart (.GeneratorExp elt [⟨tg, iter, [], 0⟩] scope gpos) 0 (.ref it) .none (genEnv scope (cloFrom X.env.cells scope.names []) s₄.heap.objs.size code bi X.env))),
            toks := s₄.toks + 1 + 1 + 1,
            heap := h'.push { cls := .type "generator", data := .fields #[.int s₄.gens.size 0, .str "<genexpr>" (s₄.toks + 1), .str (X.env.qual ++ "<genexpr>") (s₄.toks + 1 + 1)] } }) X.xe { s2 with heap := h3, toks := tk } := by
    intro code h3 tk ps' hx hsz hP3 hmore ht3
    obtain ⟨bm, ob, e1, e2, e3, e4, e5, e6, e7, e8⟩ := TB.bm
    have keep3 : ∀ b u, b ≠ P → s2.heap.get? b = some u → h3.get? b = some u := fun b u hb e => hx b u hb e
    refine wpAny_builtinsFor (m := X.mg) (by rw [I2.ok.glob]; exact (I2.mod.glob.keeps I2.bk).extBut hx TB.gP) e1 e2 (keep3 _ _ e4 (I2.bk _ _ e5)) e6 e7 e8 ?_
    obtain ⟨more, em⟩ := hmore
    have I4 : Inv X pins σ (upd H2 P (.tbl (ps ++ more))) { s2 with heap := h3, toks := tk } :=
      inv_tab (more := more) (h' := h3) (g' := s2.gens) (d' := s2.drawn) (t' := tk) I2 hP keep3 (by rw [← em]; exact hP3) I2.bare
    have nP : ∀ b ∈ fp, b ≠ P := fun b hb z => by
      have := (f2 b hb).1
      rw [z, hP] at this
      cases this
    have f4 : ∀ b ∈ fp, FpOk X pins (upd H2 P (.tbl (ps ++ more))) b ∧ b < h3.objs.size := fun b hb =>
      ⟨⟨by rw [upd_ne (nP b hb)]; exact (f2 b hb).1, (f2 b hb).2⟩, Nat.lt_of_lt_of_le (sz b hb) hsz⟩
    have st4 : tn 0 h3 := T.keep _ _ _ st2 fun b hb o e => keep3 b o (nP b hb) e
    obtain ⟨W, ⟨m0, w0⟩, gw⟩ := q _ ⟨⟨ps ++ more, upd_same, by rw [← em]; exact ht3⟩, fun b hb => upd_ne hb⟩
    intro h' hn' hs'
    have hn' : h'.Ns h3.objs.size (fun y => if y = ".0" then some (.ref it) else none) := hn'
    have hs' : Heap.SameBut h3.objs.size (h3.push { cls := .type "frame", data := .dict #[] }) h' := hs'
    have hsz' : h'.objs.size = h3.objs.size + 1 := by rw [hs'.1, Heap.size_push]
    have keep' : ∀ b o, h3.get? b = some o → h'.get? b = some o := fun b o e => hs'.extBut b o (Nat.ne_of_lt (Heap.lt_size e)) (Heap.get?_push_of_some _ e)
    generalize hcenv : genv X scope h3.objs.size code = cenv
    have I5 := gen_start (A1 := gA X.A elt tg iter scope gpos it cenv) (code := code) (t' := tk + 1 + 1 + 1)
      (obj := { cls := .type "generator", data := .fields #[.int s2.gens.size 0, .str "<genexpr>" (tk + 1), .str (X.env.qual ++ "<genexpr>") (tk + 1 + 1)] })
      (g' := s2.gens.push (.fresh (.compStart (.GeneratorExp elt [⟨tg, iter, [], 0⟩] scope gpos) 0 (.ref it) .none cenv)))
      I4 ok hcell hN f4 hr.hd (by rw [hcenv]; exact gA_frames I.ok.frames) hn' keep' hsz' (Heap.get?_push_size _ rfl) (fun v z => by cases z) (I2.bare.push rfl)
    have pg := hpg (gA X.A elt tg iter scope gpos it cenv) { s2 with heap := h3, toks := tk } (upd H2 P (.tbl (ps ++ more))) h3.objs.size code fp [(h'.objs.size, { cls := .type "generator", data := .fields #[.int s2.gens.size 0, .str "<genexpr>" (tk + 1), .str (X.env.qual ++ "<genexpr>") (tk + 1 + 1)] })]
    have pe := hpe (gA X.A elt tg iter scope gpos it cenv) { s2 with heap := h3, toks := tk } (upd H2 P (.tbl (ps ++ more))) h3.objs.size code fp [(h'.objs.size, { cls := .type "generator", data := .fields #[.int s2.gens.size 0, .str "<genexpr>" (tk + 1), .str (X.env.qual ++ "<genexpr>") (tk + 1 + 1)] })] (gA_room hr)
    have I5 : Inv (gx X (gA X.A elt tg iter scope gpos it cenv) { s2 with heap := h3, toks := tk } (upd H2 P (.tbl (ps ++ more))) (genv X scope h3.objs.size code) fp [(h'.objs.size, _)]) [] (wipe σ (own.map (·.2))) _ _ := I5
    rw [hcenv] at I5 pg pe
    have hcoE : cenv.scope.isCoroutine = false := by rw [← hcenv]; exact hco
    generalize hog : ({ cls := .type "generator", data := .fields #[.int s2.gens.size 0, .str "<genexpr>" (tk + 1), .str (X.env.qual ++ "<genexpr>") (tk + 1 + 1)] } : Obj) = og at I5 pg pe
    have hig : ∀ h : Heap, h.get? h'.objs.size = some og → h.IsGen h'.objs.size s2.gens.size := fun hh e => ⟨og, _, _, e, by rw [← hog], by rw [← hog], by rw [← hog]⟩
    have mI5 : ∀ b ∈ fp, (upd H2 P (.tbl (ps ++ more))) b = none := fun b hb => (f4 b hb).1.1
    have back : ∀ σ' H' s', Inv (gx X (gA X.A elt tg iter scope gpos it cenv) { s2 with heap := h3, toks := tk } (upd H2 P (.tbl (ps ++ more))) cenv fp [(h'.objs.size, og)]) [] σ' H' s' → Inv X pins σ H' s' := fun σ' H' s' I6 =>
      I4.call' (ch := fp) I6.os I6.base I6.hok I6.bare fun b hb => ⟨(f4 b hb).1.2.2.2.1, (f4 b hb).1.2.1, (f4 b hb).1.2.2.2.2.1, (f4 b hb).1.2.2.2.2.2⟩
    have goes : ∀ s' : Shared, s'.heap = h'.push og → s'.os = s2.os → AllBare s'.gens →
        Seg (model X.prog X.w) X.A.in1.in1 (GRn (gx X (gA X.A elt tg iter scope gpos it cenv) { s2 with heap := h3, toks := tk } (upd H2 P (.tbl (ps ++ more))) cenv fp [(h'.objs.size, og)]) e Q)
          (GYp (gx X (gA X.A elt tg iter scope gpos it cenv) { s2 with heap := h3, toks := tk } (upd H2 P (.tbl (ps ++ more))) cenv fp [(h'.objs.size, og)]) e Q) (m0 + 1) s'
          (.compStart (.GeneratorExp elt [⟨tg, iter, [], 0⟩] scope gpos) 0 (.ref it) .none cenv) ((model X.prog X.w).den (.compStart (.GeneratorExp elt [⟨tg, iter, [], 0⟩] scope gpos) 0 (.ref it) .none cenv)) [] s' := fun s' hh ho hg => by
      have I6 := inv_same (s' := s') I5 hh ho hg
      have st6 : tn 0 s'.heap := by
        rw [hh]
        exact T.keep _ _ _ st4 fun b _ o e => Heap.get?_push_of_some _ (keep' b o e)
      refine seg_start (Y := gx X (gA X.A elt tg iter scope gpos it cenv) { s2 with heap := h3, toks := tk } (upd H2 P (.tbl (ps ++ more))) cenv fp [(h'.objs.size, og)]) T st6
        (seg_loop rfl rfl rfl rfl (fun b hb p hp z => ?_) hcoE T pg pe gw m0 0 (m0 + 1) s' s' _ (Nat.lt_succ_self _) I6 st6 mI5 w0)
      have hp : p ∈ [(h'.objs.size, og)] := hp
      rw [List.mem_singleton.mp hp] at z
      have z : h'.objs.size = b := z
      have h9 := (f4 b hb).2
      rw [← z, hsz'] at h9
      exact absurd h9 (Nat.not_lt.mpr (Nat.le_succ _))
    have ee : genEnv scope (cloFrom X.env.cells scope.names []) h3.objs.size code builtinsNs X.env = cenv := hcenv
    have fin := hQ h'.objs.size { s2 with heap := h'.push og, gens := s2.gens.push (.fresh (.compStart (.GeneratorExp elt [⟨tg, iter, [], 0⟩] scope gpos) 0 (.ref it) .none cenv)), toks := tk + 1 + 1 + 1 }
      ⟨gA X.A elt tg iter scope gpos it cenv, { s2 with heap := h3, toks := tk }, upd H2 P (.tbl (ps ++ more)), cenv, fp, [(h'.objs.size, og)], og, s2.gens.size, .fresh (.compStart (.GeneratorExp elt [⟨tg, iter, [], 0⟩] scope gpos) 0 (.ref it) .none cenv), wipe σ (own.map (·.2)), upd H2 P (.tbl (ps ++ more)), m0 + 1,
        List.mem_singleton.mpr rfl, hig, I5, Array.getElem?_push_size .., fun s' hh ho hg => ⟨rfl, goes s' hh ho hg⟩, back⟩
    rw [← ee] at fin
    exact fin
  cases hf : codeAmong gpos ps.toList with
  | none =>
    refine ⟨I2.nolimit, ?_⟩
    refine wpAny_genexprCodeX hcode (cd.code hPs ht) (cd.tab hPs) hf fun c' h' tk hx hge hlt hco' _ htab' _ => ?_
    obtain ⟨o1, vs, f1, tf, fl, tg, inF, tx, tt, op, _, _, _, _, _, _, _, _, _, htr, _⟩ := hco'
    exact cont _ h' tk _ hx (Nat.le_trans hge (Nat.le_of_lt hlt)) htab'.2 ⟨_, rfl⟩ htr
  | some cv =>
    refine ⟨I2.nolimit, ?_⟩
    refine wpAny_genexprCode_hit hcode (cd.code hPs ht) hf ?_
    exact cont cv s2.heap s2.toks ps (Heap.ExtBut.refl _ _) (Nat.le_refl _) hPs ⟨#[], by simp⟩ ht

theorem pe_all {c P : Addr} {elt tg iter : Expr} {p pos gpos : Pos} {scope : Scope} {own : List (Str × Nat)} {wi : TI} {g : TG} {te : TE} {k : Nat}
    (hr : Room (k + 1) X.A) (hg : Gl X "all") (hm : X.mg "all" = none) (TB : TabB X.base X.mg c P) (hcode : X.env.code = .ref c) (hN : X.N.Nodup) (ok : BlkOk X.N X.env.scope scope own) (hcell : ∀ y ∈ scope.names, y.2 ≠ .cell) (hco : scope.isCoroutine = false) (h0 : scope.names.lookup (".0" : Str) = some NameKind.local)
    (hi : PI X tg iter wi)
    (hpg : ∀ (A1 : Around) (s : Shared) (H : Hp) (C : Addr) (code : Value) (fp : List Addr) (pn : List (Addr × Obj)), PG (gx X A1 s H (genv X scope C code) fp pn) tg g)
    (hpe : ∀ (A1 : Around) (s : Shared) (H : Hp) (C : Addr) (code : Value) (fp : List Addr) (pn : List (Addr × Obj)), Room k A1 → PE (gx X A1 s H (genv X scope C code) fp pn) elt te)
    (hs : ∀ v, genFold iter X.env v = pure v := by intro _; rfl)
    (he : starEach [.GeneratorExp elt [⟨tg, iter, [], 0⟩] scope gpos] X.env = (false, eval (.GeneratorExp elt [⟨tg, iter, [], 0⟩] scope gpos) X.env) :: starEach [] X.env := by rfl) :
    PE X (.Call (.Name "all" p) [.GeneratorExp elt [⟨tg, iter, [], 0⟩] scope gpos] [] pos) (tGen true P wi g te (own.map (·.2))) := by
  refine ⟨fun pins s σ H Q I h => ?_⟩
  refine wpAny_Call_Name_kw (ld_blt I hg hm boot_all ?_)
  refine PyProof.Rows.callWith_builtin1 ?_ he (by rfl)
  rw [he]
  show wpAny _ _ (spliced ((false, eval (.GeneratorExp elt [⟨tg, iter, [], 0⟩] scope gpos) X.env) :: backTo pos (starEach [] X.env))) _ _ s
  refine Calls.spliced_cons (gen_make (e := true) (Q := Q) hr TB hcode hN ok hcell hco h0 hi hpg hpe hs I h fun a s5 hG => ?_)
  obtain ⟨A1, s4, H4, cenv, fp, pn, og, gi, gs, σ', H5, n, hpn, hig, I5, hgs, hgo, back⟩ := hG
  refine Calls.spliced_nil ?_
  refine call_function_tree F.kind_all F.plain_all F.entry_all (F.args_all1 _) ?_
  unfold Builtin.«all»
  refine wpAny_bind (m := oneArg "all" _) (wpAny_pure ?_)
  refine wpAny_bind (wpAny_pyIter_gen (hig _ (I5.pin _ (List.mem_append_left _ hpn)).1) ?_)
  refine wpAny_pure ⟨plainId_quiet F.plain_all_loop _, drv_all (Y := gx X A1 s4 H4 cenv fp pn) (A := X.A) hpn hig hr.hd (by have := hr.dp; show X.A.depth + 0 < _; omega) (fun b σ6 H6 s6 I6 q => ?_) n gs σ' H5 s5 I5 hgs hgo⟩
  exact ⟨.bl b, H6, back σ6 H6 s6 I6, rfl, q⟩
theorem pe_any {c P : Addr} {elt tg iter : Expr} {p pos gpos : Pos} {scope : Scope} {own : List (Str × Nat)} {wi : TI} {g : TG} {te : TE} {k : Nat}
    (hr : Room (k + 1) X.A) (hg : Gl X "any") (hm : X.mg "any" = none) (TB : TabB X.base X.mg c P) (hcode : X.env.code = .ref c) (hN : X.N.Nodup) (ok : BlkOk X.N X.env.scope scope own) (hcell : ∀ y ∈ scope.names, y.2 ≠ .cell) (hco : scope.isCoroutine = false) (h0 : scope.names.lookup (".0" : Str) = some NameKind.local)
    (hi : PI X tg iter wi)
    (hpg : ∀ (A1 : Around) (s : Shared) (H : Hp) (C : Addr) (code : Value) (fp : List Addr) (pn : List (Addr × Obj)), PG (gx X A1 s H (genv X scope C code) fp pn) tg g)
    (hpe : ∀ (A1 : Around) (s : Shared) (H : Hp) (C : Addr) (code : Value) (fp : List Addr) (pn : List (Addr × Obj)), Room k A1 → PE (gx X A1 s H (genv X scope C code) fp pn) elt te)
    (hs : ∀ v, genFold iter X.env v = pure v := by intro _; rfl)
    (he : starEach [.GeneratorExp elt [⟨tg, iter, [], 0⟩] scope gpos] X.env = (false, eval (.GeneratorExp elt [⟨tg, iter, [], 0⟩] scope gpos) X.env) :: starEach [] X.env := by rfl) :
    PE X (.Call (.Name "any" p) [.GeneratorExp elt [⟨tg, iter, [], 0⟩] scope gpos] [] pos) (tGen false P wi g te (own.map (·.2))) := by
  refine ⟨fun pins s σ H Q I h => ?_⟩
  refine wpAny_Call_Name_kw (ld_blt I hg hm boot_any ?_)
  refine PyProof.Rows.callWith_builtin1 ?_ he (by rfl)
  rw [he]
  show wpAny _ _ (spliced ((false, eval (.GeneratorExp elt [⟨tg, iter, [], 0⟩] scope gpos) X.env) :: backTo pos (starEach [] X.env))) _ _ s
  refine Calls.spliced_cons (gen_make (e := false) (Q := Q) hr TB hcode hN ok hcell hco h0 hi hpg hpe hs I h fun a s5 hG => ?_)
  obtain ⟨A1, s4, H4, cenv, fp, pn, og, gi, gs, σ', H5, n, hpn, hig, I5, hgs, hgo, back⟩ := hG
  refine Calls.spliced_nil ?_
  refine call_function_tree F.kind_any F.plain_any F.entry_any (F.args_any1 _) ?_
  unfold Builtin.«any»
  refine wpAny_bind (m := oneArg "any" _) (wpAny_pure ?_)
  refine wpAny_bind (wpAny_pyIter_gen (hig _ (I5.pin _ (List.mem_append_left _ hpn)).1) ?_)
  refine wpAny_pure ⟨plainId_quiet F.plain_any_loop _, drv_any (Y := gx X A1 s4 H4 cenv fp pn) (A := X.A) hpn hig hr.hd (by have := hr.dp; show X.A.depth + 0 < _; omega) (fun b σ6 H6 s6 I6 q => ?_) n gs σ' H5 s5 I5 hgs hgo⟩
  exact ⟨.bl b, H6, back σ6 H6 s6 I6, rfl, q⟩
end
end EwG

set_option Elab.async false
set_option linter.all false
set_option maxRecDepth 100000
set_option maxHeartbeats 4000000
/-! all(.. for .. for ..): two clauses. -/
namespace EwG
open PySem PySem.Spec PyProof.Rows L2 Ew GxR
open Sem (wp)

theorem eval_GE2 (elt t0 i0 t1 i1 : Expr) (scope : Scope) (pos : Pos) (env : Env) (hco : scope.isCoroutine = false) :
    eval (.GeneratorExp elt [⟨t0, i0, [], 0⟩, ⟨t1, i1, [], 0⟩] scope pos) env = (do
      let x ← eval i0 env
      standAt i0.pos
      let x ← genFold i0 env x
      let it ← holding [x] (pyIter x)
      enterFrame
      let cl ← closureFor scope env
      let code ← genexprCode env pos (env.qual ++ "<genexpr>") scope
      let bi ← builtinsFor env.globals env.builtins
      let cenv ← newFunctionEnv scope env.globals cl [(".0", it)] (env.qual ++ "<genexpr>.") none code none bi
      newGenerator (.compStart (.GeneratorExp elt [⟨t0, i0, [], 0⟩, ⟨t1, i1, [], 0⟩] scope pos) 0 it .none cenv) "<genexpr>" (env.qual ++ "<genexpr>")) := by
  rw [arm_eval_GeneratorExp]
  simp only [hco, Bool.false_eq_true, if_false]
  cases i0 <;> rfl

theorem make_GE2 {M : Model} {A : Around} {E : Value → Shared → Prop} {s : Shared} {env : Env} {elt t0 i0 t1 i1 : Expr} {scope : Scope} {cl : List (Str × Addr)} {pos : Pos} {Q : Value → Shared → Prop}
    (hco : scope.isCoroutine = false) (hclos : closureFor scope env = pure cl) (hcell : ∀ y ∈ scope.names, y.2 ≠ .cell) (h0 : scope.names.lookup (".0" : Str) = some NameKind.local) (hkind : scope.kind = .function)
    (hroom : A.depth < recursionLimit)
    (h : wpAny M A (eval i0 env) (fun xv s₁ => wpAny M A (pyIter xv) (fun it s₂ => s₂.heap.NoLimit ∧
      wpAny M A (genexprCode env pos (env.qual ++ "<genexpr>") scope) (fun code s₃ => wpAny M A (builtinsFor env.globals env.builtins) (fun bi s₄ =>
        ∀ h', h'.Ns s₄.heap.objs.size (fun y => if y = ".0" then some it else none) → Heap.SameBut s₄.heap.objs.size (s₄.heap.push { cls := .type "frame", data := .dict #[] }) h' →
          Q (.ref h'.objs.size) { s₄ with
            gens := s₄.gens.push (.fresh (.compStart (.GeneratorExp elt [⟨t0, i0, [], 0⟩, ⟨t1, i1, [], 0⟩] scope pos) 0 it .none (genEnv scope cl s₄.heap.objs.size code bi env))),
            toks := s₄.toks + 1 + 1 + 1,
            heap := h'.push { cls := .type "generator", data := .fields #[.int s₄.gens.size 0, .str "<genexpr>" (s₄.toks + 1), .str (env.qual ++ "<genexpr>") (s₄.toks + 1 + 1)] } }) E s₃) E s₂) E s₁) E s)
    (hs : ∀ x, genFold i0 env x = pure x) :
    wpAny M A (eval (.GeneratorExp elt [⟨t0, i0, [], 0⟩, ⟨t1, i1, [], 0⟩] scope pos) env) Q E s := by
  rw [eval_GE2 _ _ _ _ _ _ _ _ hco, hclos]
  refine wpAny_bind (wpAny_mono h (fun xv s₁ h₁ => ?_) fun _ _ e => e)
  refine wpAny_bind (wpAny_standAt ?_)
  refine wpAny_bind (wpAny_of_eq (hs xv) ?_)
  refine wpAny_bind (wpAny_holding (wpAny_mono h₁ (fun it s₂ h₂ => ?_) fun _ _ e => e))
  refine wpAny_bind (wpAny_enterFrame h₂.1 hroom ?_)
  refine wpAny_bind (wpAny_pure ?_)
  refine wpAny_bind (wpAny_mono h₂.2 (fun code s₃ h₃ => ?_) fun _ _ e => e)
  refine wpAny_bind (wpAny_mono h₃ (fun bi s₄ h₄ => ?_) fun _ _ e => e)
  have hbinds : ∀ y ∈ ([((".0" : Str), it)] : List (Str × Value)), scope.names.lookup y.1 = some NameKind.local := by
    intro y hy
    rcases List.mem_cons.mp hy with rfl | hy
    · exact h0
    · cases hy
  refine wpAny_bind (wpAny_newFunctionEnv hcell hbinds (fun h' hn' hs' => ?_) hkind)
  have e : (fun y : Str => ([((".0" : Str), it)] : List (Str × Value)).reverse.lookup y) = fun y : Str => if y = (".0" : Str) then some it else none := by
    funext y
    by_cases hy : y = ".0"
    · subst hy; simp
    · have : (y == (".0" : Str)) = false := by simpa using hy
      simp [List.lookup, this, hy]
  rw [e] at hn'
  simp only [newGenerator, newFields]
  refine wpAny_bind (wpAny_newGen (wpAny_bind (wpAny_mkText (wpAny_bind (wpAny_mkText (wpAny_newObj_type ?_ (by size_fits)))))))
  exact h₄ h' hn' hs'

theorem turn2_out (elt t0 i0 t1 i1 : Expr) (scope : Scope) (pos : Pos) (it acc : Value) (env : Env) :
    compTurn (.GeneratorExp elt [⟨t0, i0, [], 0⟩, ⟨t1, i1, [], 0⟩] scope pos) 0 it acc env = (do
      standAt i0.pos
      match ← pyNext it with
      | none => pure (.done .next)
      | some v =>
        letOwnedTupleGo t0 it v
        assign t0 env v
        let mut ok := true
        for c in ([] : List Expr) do
          if ok then ok ← isTrue c env (eval c env)
        if ok then
          let x ← eval i1 env
          standAt i1.pos
          let x ← foldedSetIterable i1 env x
          let _ ← runOwn (.compStart (.GeneratorExp elt [⟨t0, i0, [], 0⟩, ⟨t1, i1, [], 0⟩] scope pos) 1 (← holding [x] (pyIter x)) acc env) env
        again (.compLoop (.GeneratorExp elt [⟨t0, i0, [], 0⟩, ⟨t1, i1, [], 0⟩] scope pos) 0 it acc env)) := by rfl
theorem turn2_in (elt t0 i0 t1 i1 : Expr) (scope : Scope) (pos : Pos) (it acc : Value) (env : Env) :
    compTurn (.GeneratorExp elt [⟨t0, i0, [], 0⟩, ⟨t1, i1, [], 0⟩] scope pos) 1 it acc env = (do
      standAt i1.pos
      match ← pyNext it with
      | none => pure (.done .next)
      | some v =>
        letOwnedTupleGo t1 it v
        assign t1 env v
        let mut ok := true
        for c in ([] : List Expr) do
          if ok then ok ← isTrue c env (eval c env)
        if ok then
          (do let v ← eval elt env; standAt elt.pos; let _ ← yieldOut env v)
        again (.compLoop (.GeneratorExp elt [⟨t0, i0, [], 0⟩, ⟨t1, i1, [], 0⟩] scope pos) 1 it acc env)) := by rfl

def GW2 (J : It) (g : TG) (wi1 : TI) (g1 : TG) (te : TE) (vs vs1 : List Nat) (σ : L2.St) (e : Bool) (Q : VK) (W : Nat → Nat → Hp → Prop) : Prop := ∀ i m H, W i m H →
  (J.stop i H ∧ Q (.bl e) H) ∨ (J.go i H ∧ ∀ x H', J.yld i H x H' → g x (wipe σ vs) H' fun σ2 H2 => wipe σ2 vs = wipe σ vs ∧ wi1 σ2 H2 fun J1 H3 => ∃ W1 : Nat → Nat → Hp → Prop, (∃ k, k < m ∧ W1 0 k H3) ∧ ∀ j k H, W1 j k H →
    (J1.stop j H ∧ ∃ m', m' ≤ k ∧ m' < m ∧ W (i + 1) m' H) ∨ (J1.go j H ∧ ∀ x H', J1.yld j H x H' → g1 x (wipe σ2 vs1) H' fun σ3 H5 => wipe σ3 vs1 = wipe σ2 vs1 ∧ te σ3 H5 fun y H6 => ∃ b, y = .bl b ∧ (b = e → ∃ k', k' < k ∧ W1 (j + 1) k' H6) ∧ (b ≠ e → Q (.bl b) H6)))

section
variable {X : Cx} {pins : List (Addr × Obj)} {σ : L2.St} {H : Hp} {s : Shared}
theorem seg_in {Y : Cx} {A2 : Around} {elt t0 i0 t1 i1 : Expr} {scope : Scope} {pos : Pos} {it1 : Addr} {fp1 : List Addr} {tn1 : Nat → Heap → Prop} {J1 : It} {g1 : TG} {te : TE} {vs1 : List Nat} {σ8 : L2.St} {e : Bool} {Q : VK} {W1 : Nat → Nat → Hp → Prop} {Nx : Nat → Hp → Prop} {fs : List Frame} {pins : List (Addr × Obj)}
    (hA : Y.A = A2.over (.compLoop (.GeneratorExp elt [⟨t0, i0, [], 0⟩, ⟨t1, i1, [], 0⟩] scope pos) 1 (.ref it1) .none Y.env) fs) (hsp : splitAtGen fs = none) (hgd : fs.any Frame.guarded = false) (hc : Y.calm = true) (hx : Y.xe = fun _ _ => False) (hco : Y.env.scope.isCoroutine = false)
    (T1 : Turn Y.prog Y.w Y.K t1 J1 fp1 it1 tn1) (stat1 : ∀ {H' : Hp}, (∀ b ∈ fp1, H' b = none) → ∀ b ∈ fp1, FpOk Y pins H' b) (pg1 : PG Y t1 g1) (pe : PE Y elt te)
    (hW1 : ∀ j k H, W1 j k H → (J1.stop j H ∧ Nx k H) ∨ (J1.go j H ∧ ∀ x H', J1.yld j H x H' → g1 x (wipe σ8 vs1) H' fun σ3 H5 => wipe σ3 vs1 = wipe σ8 vs1 ∧ te σ3 H5 fun y H6 => ∃ b, y = .bl b ∧ (b = e → ∃ k', k' < k ∧ W1 (j + 1) k' H6) ∧ (b ≠ e → Q (.bl b) H6)))
    (leave : ∀ (k n : Nat) (s₀ s : Shared) (H : Hp), k < n → Inv Y pins (wipe σ8 vs1) H s → Nx k H → Seg (model Y.prog Y.w) A2 (GRn Y e Q) (GYp Y e Q) n s₀ (.compLoop (.GeneratorExp elt [⟨t0, i0, [], 0⟩, ⟨t1, i1, [], 0⟩] scope pos) 1 (.ref it1) .none Y.env) (leafOf (.ok .next)) fs s) :
    ∀ (k j n : Nat) (s₀ s : Shared) (H : Hp), k < n → Inv Y pins (wipe σ8 vs1) H s → tn1 j s.heap → (∀ b ∈ fp1, H b = none) → W1 j k H →
      Seg (model Y.prog Y.w) A2 (GRn Y e Q) (GYp Y e Q) n s₀ (.compLoop (.GeneratorExp elt [⟨t0, i0, [], 0⟩, ⟨t1, i1, [], 0⟩] scope pos) 1 (.ref it1) .none Y.env)
        ((model Y.prog Y.w).den (.compLoop (.GeneratorExp elt [⟨t0, i0, [], 0⟩, ⟨t1, i1, [], 0⟩] scope pos) 1 (.ref it1) .none Y.env)) fs s := by
  intro k
  induction k using Nat.strongRecOn with
  | ind k ih =>
    intro j n s₀ s H hkn I st hn w
    show Seg _ A2 _ _ _ s₀ _ ((compTurn (.GeneratorExp elt [⟨t0, i0, [], 0⟩, ⟨t1, i1, [], 0⟩] scope pos) 1 (.ref it1) .none Y.env).onRaise (fun x => do noteFrame x Y.env; theTreesLotGoes x)) fs s
    rw [turn2_in, Sem.onRaise_eq_wrap]
    refine seg_bind_wrap (wpAny_standAt ?_)
    rcases hW1 j k H w with ⟨stop, q⟩ | ⟨go, step⟩
    · refine seg_bind_wrap ?_
      rw [← hA]
      refine thnF (T1.done Y rfl rfl rfl hc j pins s _ H (fun _ _ => False) I (stat1 hn) st stop) fun r s6 ⟨hr, I6⟩ => ?_
      subst hr
      exact leave k n s₀ s6 H hkn I6 q
    · refine seg_bind_wrap ?_
      rw [← hA]
      refine thnF (T1.item Y rfl rfl rfl hc j pins s _ H (fun _ _ => False) I (stat1 hn) st go) fun r s6 ⟨u, hr, h6⟩ => ?_
      subst hr
      refine seg_bind_wrap ?_
      rw [← hA]
      refine thnF h6 fun _ s7 ⟨x, H7, I7, r7, y7, st7, n7⟩ => ?_
      have I7' := I7.pinned (stat1 n7) (T1.obj _ _ st7)
      refine seg_bind_wrap ?_
      rw [← hA]
      have hpg := pg1.run _ s7 _ H7 x u _ I7' r7 (step x H7 y7)
      rw [hx] at hpg
      refine thnF hpg fun _ s8 ⟨σ15, H8, I8, hw8, q8⟩ => ?_
      refine seg_bind_wrap ?_
      rw [← hA]
      refine wpAny_tests_nil ?_
      simp only [if_true]
      have hy : ∀ v, yieldOut Y.env v = yieldValue v := fun v => by simp only [yieldOut, hco, Bool.false_eq_true, if_false]
      simp only [hy]
      rw [Sem.bind_eq_wrap', Sem.bind_eq_wrap', Sem.wrap_wrap, Sem.wrap_wrap]
      refine seg_wrap ?_
      rw [← hA]
      have hpe := pe.run _ s8 σ15 H8 _ I8 q8
      rw [hx] at hpe
      refine thnF hpe fun z s9 ⟨y, H9, I9, r9, b, hyb, q9⟩ => ?_
      subst hyb
      have hz : z = .bool b := r9
      subst hz
      have pin' : ∀ c ∈ fp1, ∀ o, s7.heap.get? c = some o → s9.heap.get? c = some o ∧ H9 c = none := fun c hb o e =>
        let z := I9.pin (c, o) (List.mem_append_right _ (List.mem_append_right _ (mem_pinsAt hb e)))
        ⟨z.1, z.2.1⟩
      have hl : (wipe σ8 vs1).length = σ15.length := by rw [← hw8, wipe_length]
      have I10 : Inv Y pins (wipe σ8 vs1) H9 s9 := (I9.unpinned (pins := pins)).weak hl fun j v e => by
        rw [← hw8] at e
        exact (wipe_some e).1
      obtain ⟨n', rfl⟩ : ∃ n', n = n' + 1 := ⟨n - 1, by omega⟩
      refine seg_at (seg_yield hsp rfl hgd ⟨b, _, H9, rfl, I10.pins_of (pins' := []) (fun p hp => absurd hp (by simp)), q9.2, fun hb s' hh ho hg => ?_⟩)
      obtain ⟨k', hk, w'⟩ := q9.1 hb
      refine seg_again rfl (ih k' hk (j + 1) n' s' s' H9 (by omega) (inv_same I10 hh ho hg) ?_ (fun c hc => ?_) w')
      · rw [hh]
        exact T1.keep _ _ _ st7 fun c hb o e => (pin' c hb o e).1
      · obtain ⟨o, e, _⟩ := T1.obj _ _ st7 c hc
        exact (pin' c hc o e).2

theorem seg_loop2 {Y : Cx} {A2 : Around} {elt t0 i0 t1 i1 : Expr} {scope : Scope} {pos : Pos} {it : Addr} {fp : List Addr} {tn : Nat → Heap → Prop} {J : It} {g g1 : TG} {wi1 : TI} {te : TE} {vs vs1 : List Nat} {σ : L2.St} {e : Bool} {Q : VK} {W : Nat → Nat → Hp → Prop}
    (hA : Y.A = A2.over (.compLoop (.GeneratorExp elt [⟨t0, i0, [], 0⟩, ⟨t1, i1, [], 0⟩] scope pos) 0 (.ref it) .none Y.env) []) (hex : Y.ex = fp) (hc : Y.calm = true) (hx : Y.xe = fun _ _ => False) (hpn : ∀ b ∈ fp, ∀ p ∈ Y.pn, p.1 ≠ b) (hco : Y.env.scope.isCoroutine = false)
    (T : Turn Y.prog Y.w Y.K t0 J fp it tn) (pg : PG Y t0 g) (pi1 : PI Y t1 i1 wi1) (pg1 : PG Y t1 g1) (pe : PE Y elt te) (hs1 : ∀ x, foldedSetIterable i1 Y.env x = pure x) (hv : ∀ i ∈ vs1, i ∈ vs) (hW : GW2 J g wi1 g1 te vs vs1 σ e Q W) :
    ∀ (m i n : Nat) (s₀ s : Shared) (H : Hp), m < n → Inv Y [] (wipe σ vs) H s → tn i s.heap → (∀ b ∈ fp, H b = none) → W i m H →
      Seg (model Y.prog Y.w) A2 (GRn Y e Q) (GYp Y e Q) n s₀ (.compLoop (.GeneratorExp elt [⟨t0, i0, [], 0⟩, ⟨t1, i1, [], 0⟩] scope pos) 0 (.ref it) .none Y.env)
        ((model Y.prog Y.w).den (.compLoop (.GeneratorExp elt [⟨t0, i0, [], 0⟩, ⟨t1, i1, [], 0⟩] scope pos) 0 (.ref it) .none Y.env)) [] s := by
  have stat : ∀ {σ' : L2.St} {H' : Hp} {s' : Shared}, Inv Y [] σ' H' s' → (∀ b ∈ fp, H' b = none) → ∀ b ∈ fp, FpOk Y [] H' b := fun {σ' H' s'} I' hn b hb =>
    have hb' : b ∈ Y.ex := by rw [hex]; exact hb
    ⟨hn b hb, (I'.ok.exf b hb').1, I'.ok.exfs b hb', .inl hb', fun x c e => (I'.ok.exf b hb').2 x c e, fun p hp => hpn b hb p (by simpa using hp)⟩
  intro m
  induction m using Nat.strongRecOn with
  | ind m ih =>
    intro i n s₀ s H hmn I st hn w
    show Seg _ A2 _ _ _ s₀ _ ((compTurn (.GeneratorExp elt [⟨t0, i0, [], 0⟩, ⟨t1, i1, [], 0⟩] scope pos) 0 (.ref it) .none Y.env).onRaise (leaving Y.env)) [] s
    rw [turn2_out, Sem.onRaise_eq_wrap]
    refine seg_bind_wrap (wpAny_standAt ?_)
    rcases hW i m H w with ⟨stop, q⟩ | ⟨go, step⟩
    · refine seg_bind_wrap ?_
      rw [← hA]
      refine thnF (T.done Y rfl rfl rfl hc i [] s _ H (fun _ _ => False) I (stat I hn) st stop) fun r s6 ⟨hr, I6⟩ => ?_
      subst hr
      exact seg_end (.ok .next) ⟨rfl, _, H, I6, q⟩
    · refine seg_bind_wrap ?_
      rw [← hA]
      refine thnF (T.item Y rfl rfl rfl hc i [] s _ H (fun _ _ => False) I (stat I hn) st go) fun r s6 ⟨u, hr, h6⟩ => ?_
      subst hr
      refine seg_bind_wrap ?_
      rw [← hA]
      refine thnF h6 fun _ s7 ⟨x, H7, I7, r7, y7, st7, n7⟩ => ?_
      have I7' := I7.pinned (stat I7 n7) (T.obj _ _ st7)
      refine seg_bind_wrap ?_
      rw [← hA]
      have hpg := pg.run _ s7 _ H7 x u _ I7' r7 (step x H7 y7)
      rw [hx] at hpg
      refine thnF hpg fun _ s8 ⟨σ8, H8, I8, hw8, q8⟩ => ?_
      refine seg_bind_wrap ?_
      rw [← hA]
      refine wpAny_tests_nil ?_
      simp only [if_true]
      refine seg_bind_wrap ?_
      rw [← hA]
      have hpi := pi1.run _ s8 σ8 H8 _ I8 q8
      rw [hx] at hpi
      refine thnF hpi fun xv s9 h9 => ?_
      refine seg_bind_wrap (wpAny_standAt ?_)
      refine seg_bind_wrap (wpAny_of_eq (hs1 xv) ?_)
      refine seg_bind_wrap ?_
      rw [← hA]
      refine wpAny_holding (thnF h9 fun itv s11 h11 => ?_)
      obtain ⟨it1, fp1, tn1, J1, H11, e1, I11, T1, st11, f11, W1, ⟨k1, hk1, w1⟩, turn1⟩ := h11
      subst e1
      rw [Sem.bind_eq_wrap', Sem.wrap_wrap]
      unfold runOwn
      rw [Sem.onRaise_eq_wrap, Sem.wrap_wrap]
      have pin' : ∀ {σ' : L2.St} {H' : Hp} {s' : Shared}, Inv Y ([] ++ pinsAt fp s7.heap) σ' H' s' → ∀ c ∈ fp, ∀ o, s7.heap.get? c = some o → s'.heap.get? c = some o ∧ H' c = none := fun I' c hb o e =>
        let z := I'.pin (c, o) (List.mem_append_right _ (List.mem_append_right _ (mem_pinsAt hb e)))
        ⟨z.1, z.2.1⟩
      have hl : (wipe σ vs).length = (wipe σ8 vs1).length := by rw [← hw8, wipe_length, wipe_length]
      refine seg_call fun pc => ?_
      have hA1 : Y.A = A2.over (.compLoop (.GeneratorExp elt [⟨t0, i0, [], 0⟩, ⟨t1, i1, [], 0⟩] scope pos) 0 (.ref it) .none Y.env) [] := hA
      generalize hK : (fun r : Result => _) = kk
      have loop1 := seg_in (e := e) (Q := Q) (Nx := fun k H => ∃ m', m' ≤ k ∧ m' < m ∧ W (i + 1) m' H) (A2 := A2) (t0 := t0) (i0 := i0) (i1 := i1) (scope := scope) (pos := pos) (fs := [.ret kk none (id false) (id []) (.compLoop (.GeneratorExp elt [⟨t0, i0, [], 0⟩, ⟨t1, i1, [], 0⟩] scope pos) 0 (.ref it) .none Y.env) pc []])
        (hA.trans (GenW.over_loop (c := .compLoop (.GeneratorExp elt [⟨t0, i0, [], 0⟩, ⟨t1, i1, [], 0⟩] scope pos) 0 (.ref it) .none Y.env) rfl rfl).symm) rfl rfl hc hx hco T1 (fun hn b hb => ⟨hn b hb, (f11 b hb).2⟩) pg1 pe turn1 (fun k n s₀ s' H' hkn I' ⟨m', hm1, hm2, w'⟩ => ?_) k1 0 n s₀ s11 H11 (by omega) (I11.weak (wipe_length _ _) fun j v e => (wipe_some e).1) st11 (fun b hb => (f11 b hb).1) w1
      · show Seg _ A2 _ _ _ s₀ _ ((compStart (.GeneratorExp elt [⟨t0, i0, [], 0⟩, ⟨t1, i1, [], 0⟩] scope pos) 1 (.ref it1) .none Y.env).onRaise (fun x => do noteFrame x Y.env; standAt theWindowsPlace)) _ s11
        unfold compStart
        rw [Sem.onRaise_eq_wrap]
        show Seg _ A2 _ _ _ s₀ _ ((ask >>= _).wrap _ _ _ _) _ s11
        refine seg_bind_wrap (wpAny_askSetting ?_)
        split
        · exact seg_again rfl loop1
        · first
            | exact seg_bind_wrap (wpAny_rule (seg_bind_wrap (wpAny_standAt (seg_bind_wrap (T1.self _ 0 s11 _ _ st11 (seg_again rfl loop1))))))
            | (refine seg_bind_wrap (wpAny_rule ?_); show Seg _ A2 _ _ _ s₀ _ ((standAt i1.pos >>= _).wrap _ _ _ _) _ s11; exact seg_bind_wrap (wpAny_standAt (seg_bind_wrap (T1.self _ 0 s11 _ _ st11 (seg_again rfl loop1)))))
      · subst hK
        refine seg_leaf (.ok .next) ?_
        refine seg_again rfl (ih m' hm2 (i + 1) n s₀ s' H' (by omega) ((I'.unpinned (pins := [])).weak hl fun j v e => ?_) (T.keep _ _ _ st7 fun c hb o e => (pin' I' c hb o e).1) (fun c hc => ?_) w')
        · rw [← hw8] at e
          obtain ⟨e1, e2⟩ := wipe_some e
          rw [wipe_out fun z => e2 (hv j z)]
          exact e1
        · obtain ⟨o, e, _⟩ := T.obj _ _ st7 c hc
          exact (pin' I' c hc o e).2
theorem seg_start2 {Y : Cx} {A2 : Around} {elt t0 i0 t1 i1 : Expr} {scope : Scope} {pos : Pos} {it : Addr} {fp : List Addr} {tn : Nat → Heap → Prop} {J : It} {e : Bool} {Q : VK} {n : Nat} {s₀ s : Shared}
    (T : Turn Y.prog Y.w Y.K t0 J fp it tn) (st : tn 0 s.heap)
    (loop : Seg (model Y.prog Y.w) A2 (GRn Y e Q) (GYp Y e Q) n s₀ (.compLoop (.GeneratorExp elt [⟨t0, i0, [], 0⟩, ⟨t1, i1, [], 0⟩] scope pos) 0 (.ref it) .none Y.env)
        ((model Y.prog Y.w).den (.compLoop (.GeneratorExp elt [⟨t0, i0, [], 0⟩, ⟨t1, i1, [], 0⟩] scope pos) 0 (.ref it) .none Y.env)) [] s) :
    Seg (model Y.prog Y.w) A2 (GRn Y e Q) (GYp Y e Q) n s₀ (.compStart (.GeneratorExp elt [⟨t0, i0, [], 0⟩, ⟨t1, i1, [], 0⟩] scope pos) 0 (.ref it) .none Y.env)
        ((model Y.prog Y.w).den (.compStart (.GeneratorExp elt [⟨t0, i0, [], 0⟩, ⟨t1, i1, [], 0⟩] scope pos) 0 (.ref it) .none Y.env)) [] s := by
  show Seg _ A2 _ _ _ s₀ _ ((compStart (.GeneratorExp elt [⟨t0, i0, [], 0⟩, ⟨t1, i1, [], 0⟩] scope pos) 0 (.ref it) .none Y.env).onRaise (leaving Y.env)) [] s
  unfold compStart
  rw [Sem.onRaise_eq_wrap]
  show Seg _ A2 _ _ _ s₀ _ ((ask >>= _).wrap _ _ _ _) [] s
  refine seg_bind_wrap (wpAny_askSetting ?_)
  split
  · exact seg_again rfl loop
  · first
      | exact seg_bind_wrap (wpAny_rule (seg_bind_wrap (wpAny_standAt (seg_bind_wrap (T.self _ 0 s _ _ st (seg_again rfl loop))))))
      | (refine seg_bind_wrap (wpAny_rule ?_); show Seg _ A2 _ _ _ s₀ _ ((standAt i0.pos >>= _).wrap _ _ _ _) [] s; exact seg_bind_wrap (wpAny_standAt (seg_bind_wrap (T.self _ 0 s _ _ st (seg_again rfl loop)))))

/-- the around of the generator's body, of a consumer that is called at A -/
abbrev gB (A : Around) (elt t0 i0 t1 i1 : Expr) (scope : Scope) (pos : Pos) (it : Addr) (cenv : Env) : Around := A.in1.in1.over (.compLoop (.GeneratorExp elt [⟨t0, i0, [], 0⟩, ⟨t1, i1, [], 0⟩] scope pos) 0 (.ref it) .none cenv) []
theorem gB_room {k : Nat} {A : Around} {elt t0 i0 t1 i1 : Expr} {scope : Scope} {pos : Pos} {it : Addr} {cenv : Env} (r : Room (k + 1) A) : Room k (gB A elt t0 i0 t1 i1 scope pos it cenv) :=
  ⟨r.hd, by have := r.dp; show A.depth + 0 + 1 + 3 * k + 5 < _; omega, by have := r.un; show A.units + 1 + 1 + 0 + 3 + 16 * k + 200 < _; omega⟩
theorem gB_frames {A : Around} {elt t0 i0 t1 i1 : Expr} {scope : Scope} {pos : Pos} {it : Addr} {cenv : Env} {l : List Env} (h : A.frames = some l) : (gB A elt t0 i0 t1 i1 scope pos it cenv).frames = some (cenv :: l) := by
  show pushEnvs [cenv] (pushEnvs [] A.frames) = _
  rw [h]
  rfl

def tGen2 (e : Bool) (P : Addr) (wi : TI) (g : TG) (wi1 : TI) (g1 : TG) (te : TE) (vs vs1 : List Nat) : TE := fun σ H Q => wi σ H fun J H1 => TabG H1 P ∧ ∀ H2, Tabbed P H1 H2 → ∃ W : Nat → Nat → Hp → Prop, (∃ m, W 0 m H2) ∧ GW2 J g wi1 g1 te vs vs1 σ e Q W

theorem gen_make2 {c P : Addr} {elt t0 i0 t1 i1 : Expr} {gpos : Pos} {scope : Scope} {own : List (Str × Nat)} {wi wi1 : TI} {g g1 : TG} {vs1 : List Nat} {te : TE} {k : Nat} {e : Bool} {Q : VK} {Q' : Value → Shared → Prop}
    (hr : Room (k + 1) X.A) (TB : TabB X.base X.mg c P) (hcode : X.env.code = .ref c) (hN : X.N.Nodup) (ok : BlkOk X.N X.env.scope scope own) (hcell : ∀ y ∈ scope.names, y.2 ≠ .cell) (hco : scope.isCoroutine = false) (h0 : scope.names.lookup (".0" : Str) = some NameKind.local)
    (hi : PI X t0 i0 wi) (hv : ∀ i ∈ vs1, i ∈ own.map (·.2))
    (hpg : ∀ (A1 : Around) (s : Shared) (H : Hp) (C : Addr) (code : Value) (fp : List Addr) (pn : List (Addr × Obj)), PG (gx X A1 s H (genv X scope C code) fp pn) t0 g)
    (hpi1 : ∀ (A1 : Around) (s : Shared) (H : Hp) (C : Addr) (code : Value) (fp : List Addr) (pn : List (Addr × Obj)), Room k A1 → PI (gx X A1 s H (genv X scope C code) fp pn) t1 i1 wi1)
    (hpg1 : ∀ (A1 : Around) (s : Shared) (H : Hp) (C : Addr) (code : Value) (fp : List Addr) (pn : List (Addr × Obj)), PG (gx X A1 s H (genv X scope C code) fp pn) t1 g1)
    (hpe : ∀ (A1 : Around) (s : Shared) (H : Hp) (C : Addr) (code : Value) (fp : List Addr) (pn : List (Addr × Obj)), Room k A1 → PE (gx X A1 s H (genv X scope C code) fp pn) elt te)
    (hs : ∀ v, genFold i0 X.env v = pure v) (hs1 : ∀ env x, foldedSetIterable i1 env x = pure x) (I : Inv X pins σ H s) (h : tGen2 e P wi g wi1 g1 te (own.map (·.2)) vs1 σ H Q)
    (hQ : ∀ a s5, Ready2 X pins σ e Q a s5 → Q' (.ref a) s5) :
    wpAny (model X.prog X.w) X.A (eval (.GeneratorExp elt [⟨t0, i0, [], 0⟩, ⟨t1, i1, [], 0⟩] scope gpos) X.env) Q' X.xe s := by
  have hfree : ∀ y ∈ scope.names, y.2 = .free → ∃ c, X.env.cells.lookup y.1 = some c := fun y hy e => by
    rcases ok.free y hy e with k | k
    · exact I.ok.has _ (.inl k)
    · exact I.ok.has _ (.inr k)
  refine make_GE2 hco (closure_ok hfree) hcell h0 ok.kind (by have := hr.dp; omega) ?_ hs
  refine thn (hi.run pins s σ H _ I h) fun xv s1 hx => thn hx fun itv s2 h2 => ?_
  obtain ⟨it, fp, tn, J, H2, e2, I2, T, st2, f2, ⟨ps, hP, ht⟩, q⟩ := h2
  subst e2
  have hPs : s2.heap.get? P = some { cls := .none, data := .fields ps } := I2.hok P _ hP
  have cd : PySem.W.CodeHd s2.heap c P := TB.code.keeps fun b u e => I2.bk b u e
  have sz : ∀ b ∈ fp, b < s2.heap.objs.size := fun b hb => by
    obtain ⟨o, e, _⟩ := T.obj _ _ st2 b hb
    exact Heap.lt_size e
  have cont : ∀ (code : Value) (h3 : Heap) (tk : Nat) (ps' : Array Value), Heap.ExtBut P s2.heap h3 → s2.heap.objs.size ≤ h3.objs.size → h3.get? P = some { cls := .none, data := .fields ps' } → (∃ more, ps' = ps ++ more) → TriplesOk ps'.toList →
      wpAny (model X.prog X.w) X.A (builtinsFor X.env.globals X.env.builtins) (fun bi s₄ =>
        ∀ h', h'.Ns s₄.heap.objs.size (fun y => if y = ".0" then some (.ref it) else none) → Heap.SameBut s₄.heap.objs.size (s₄.heap.push { cls := .type "frame", data := .dict #[] }) h' →
          Q' (.ref h'.objs.size) { s₄ with
            gens := s₄.gens.push (.fresh (.compStart (.GeneratorExp elt [⟨t0, i0, [], 0⟩, ⟨t1, i1, [], 0⟩] scope gpos) 0 (.ref it) .none (genEnv scope (cloFrom X.env.cells scope.names []) s₄.heap.objs.size code bi X.env))),
            toks := s₄.toks + 1 + 1 + 1,
            heap := h'.push { cls := .type "generator", data := .fields #[.int s₄.gens.size 0, .str "<genexpr>" (s₄.toks + 1), .str (X.env.qual ++ "<genexpr>") (s₄.toks + 1 + 1)] } }) X.xe { s2 with heap := h3, toks := tk } := by
    intro code h3 tk ps' hx hsz hP3 hmore ht3
    obtain ⟨bm, ob, e1, e2, e3, e4, e5, e6, e7, e8⟩ := TB.bm
    have keep3 : ∀ b u, b ≠ P → s2.heap.get? b = some u → h3.get? b = some u := fun b u hb e => hx b u hb e
    refine wpAny_builtinsFor (m := X.mg) (by rw [I2.ok.glob]; exact (I2.mod.glob.keeps I2.bk).extBut hx TB.gP) e1 e2 (keep3 _ _ e4 (I2.bk _ _ e5)) e6 e7 e8 ?_
    obtain ⟨more, em⟩ := hmore
    have I4 : Inv X pins σ (upd H2 P (.tbl (ps ++ more))) { s2 with heap := h3, toks := tk } :=
      inv_tab (more := more) (h' := h3) (g' := s2.gens) (d' := s2.drawn) (t' := tk) I2 hP keep3 (by rw [← em]; exact hP3) I2.bare
    have nP : ∀ b ∈ fp, b ≠ P := fun b hb z => by
      have := (f2 b hb).1
      rw [z, hP] at this
      cases this
    have f4 : ∀ b ∈ fp, FpOk X pins (upd H2 P (.tbl (ps ++ more))) b ∧ b < h3.objs.size := fun b hb =>
      ⟨⟨by rw [upd_ne (nP b hb)]; exact (f2 b hb).1, (f2 b hb).2⟩, Nat.lt_of_lt_of_le (sz b hb) hsz⟩
    have st4 : tn 0 h3 := T.keep _ _ _ st2 fun b hb o e => keep3 b o (nP b hb) e
    obtain ⟨W, ⟨m0, w0⟩, gw⟩ := q _ ⟨⟨ps ++ more, upd_same, by rw [← em]; exact ht3⟩, fun b hb => upd_ne hb⟩
    intro h' hn' hs'
    have hn' : h'.Ns h3.objs.size (fun y => if y = ".0" then some (.ref it) else none) := hn'
    have hs' : Heap.SameBut h3.objs.size (h3.push { cls := .type "frame", data := .dict #[] }) h' := hs'
    have hsz' : h'.objs.size = h3.objs.size + 1 := by rw [hs'.1, Heap.size_push]
    have keep' : ∀ b o, h3.get? b = some o → h'.get? b = some o := fun b o e => hs'.extBut b o (Nat.ne_of_lt (Heap.lt_size e)) (Heap.get?_push_of_some _ e)
    generalize hcenv : genv X scope h3.objs.size code = cenv
    have I5 := gen_start (A1 := gB X.A elt t0 i0 t1 i1 scope gpos it cenv) (code := code) (t' := tk + 1 + 1 + 1)
      (obj := { cls := .type "generator", data := .fields #[.int s2.gens.size 0, .str "<genexpr>" (tk + 1), .str (X.env.qual ++ "<genexpr>") (tk + 1 + 1)] })
      (g' := s2.gens.push (.fresh (.compStart (.GeneratorExp elt [⟨t0, i0, [], 0⟩, ⟨t1, i1, [], 0⟩] scope gpos) 0 (.ref it) .none cenv)))
      I4 ok hcell hN f4 hr.hd (by rw [hcenv]; exact gB_frames I.ok.frames) hn' keep' hsz' (Heap.get?_push_size _ rfl) (fun v z => by cases z) (I2.bare.push rfl)
    have pg := hpg (gB X.A elt t0 i0 t1 i1 scope gpos it cenv) { s2 with heap := h3, toks := tk } (upd H2 P (.tbl (ps ++ more))) h3.objs.size code fp [(h'.objs.size, { cls := .type "generator", data := .fields #[.int s2.gens.size 0, .str "<genexpr>" (tk + 1), .str (X.env.qual ++ "<genexpr>") (tk + 1 + 1)] })]
    have pi1 := hpi1 (gB X.A elt t0 i0 t1 i1 scope gpos it cenv) { s2 with heap := h3, toks := tk } (upd H2 P (.tbl (ps ++ more))) h3.objs.size code fp [(h'.objs.size, { cls := .type "generator", data := .fields #[.int s2.gens.size 0, .str "<genexpr>" (tk + 1), .str (X.env.qual ++ "<genexpr>") (tk + 1 + 1)] })] (gB_room hr)
    have pg1 := hpg1 (gB X.A elt t0 i0 t1 i1 scope gpos it cenv) { s2 with heap := h3, toks := tk } (upd H2 P (.tbl (ps ++ more))) h3.objs.size code fp [(h'.objs.size, { cls := .type "generator", data := .fields #[.int s2.gens.size 0, .str "<genexpr>" (tk + 1), .str (X.env.qual ++ "<genexpr>") (tk + 1 + 1)] })]
    have pe := hpe (gB X.A elt t0 i0 t1 i1 scope gpos it cenv) { s2 with heap := h3, toks := tk } (upd H2 P (.tbl (ps ++ more))) h3.objs.size code fp [(h'.objs.size, { cls := .type "generator", data := .fields #[.int s2.gens.size 0, .str "<genexpr>" (tk + 1), .str (X.env.qual ++ "<genexpr>") (tk + 1 + 1)] })] (gB_room hr)
    have I5 : Inv (gx X (gB X.A elt t0 i0 t1 i1 scope gpos it cenv) { s2 with heap := h3, toks := tk } (upd H2 P (.tbl (ps ++ more))) (genv X scope h3.objs.size code) fp [(h'.objs.size, _)]) [] (wipe σ (own.map (·.2))) _ _ := I5
    rw [hcenv] at I5 pg pi1 pg1 pe
    have hcoE : cenv.scope.isCoroutine = false := by rw [← hcenv]; exact hco
    generalize hog : ({ cls := .type "generator", data := .fields #[.int s2.gens.size 0, .str "<genexpr>" (tk + 1), .str (X.env.qual ++ "<genexpr>") (tk + 1 + 1)] } : Obj) = og at I5 pg pi1 pg1 pe
    have hig : ∀ h : Heap, h.get? h'.objs.size = some og → h.IsGen h'.objs.size s2.gens.size := fun hh e => ⟨og, _, _, e, by rw [← hog], by rw [← hog], by rw [← hog]⟩
    have mI5 : ∀ b ∈ fp, (upd H2 P (.tbl (ps ++ more))) b = none := fun b hb => (f4 b hb).1.1
    have back : ∀ σ' H' s', Inv (gx X (gB X.A elt t0 i0 t1 i1 scope gpos it cenv) { s2 with heap := h3, toks := tk } (upd H2 P (.tbl (ps ++ more))) cenv fp [(h'.objs.size, og)]) [] σ' H' s' → Inv X pins σ H' s' := fun σ' H' s' I6 =>
      I4.call' (ch := fp) I6.os I6.base I6.hok I6.bare fun b hb => ⟨(f4 b hb).1.2.2.2.1, (f4 b hb).1.2.1, (f4 b hb).1.2.2.2.2.1, (f4 b hb).1.2.2.2.2.2⟩
    have goes : ∀ s' : Shared, s'.heap = h'.push og → s'.os = s2.os → AllBare s'.gens →
        Seg (model X.prog X.w) X.A.in1.in1 (GRn (gx X (gB X.A elt t0 i0 t1 i1 scope gpos it cenv) { s2 with heap := h3, toks := tk } (upd H2 P (.tbl (ps ++ more))) cenv fp [(h'.objs.size, og)]) e Q)
          (GYp (gx X (gB X.A elt t0 i0 t1 i1 scope gpos it cenv) { s2 with heap := h3, toks := tk } (upd H2 P (.tbl (ps ++ more))) cenv fp [(h'.objs.size, og)]) e Q) (m0 + 1) s'
          (.compStart (.GeneratorExp elt [⟨t0, i0, [], 0⟩, ⟨t1, i1, [], 0⟩] scope gpos) 0 (.ref it) .none cenv) ((model X.prog X.w).den (.compStart (.GeneratorExp elt [⟨t0, i0, [], 0⟩, ⟨t1, i1, [], 0⟩] scope gpos) 0 (.ref it) .none cenv)) [] s' := fun s' hh ho hg => by
      have I6 := inv_same (s' := s') I5 hh ho hg
      have st6 : tn 0 s'.heap := by
        rw [hh]
        exact T.keep _ _ _ st4 fun b _ o e => Heap.get?_push_of_some _ (keep' b o e)
      refine seg_start2 (Y := gx X (gB X.A elt t0 i0 t1 i1 scope gpos it cenv) { s2 with heap := h3, toks := tk } (upd H2 P (.tbl (ps ++ more))) cenv fp [(h'.objs.size, og)]) T st6
        (seg_loop2 rfl rfl rfl rfl (fun b hb p hp z => ?_) hcoE T pg pi1 pg1 pe (hs1 _) hv gw m0 0 (m0 + 1) s' s' _ (Nat.lt_succ_self _) I6 st6 mI5 w0)
      have hp : p ∈ [(h'.objs.size, og)] := hp
      rw [List.mem_singleton.mp hp] at z
      have z : h'.objs.size = b := z
      have h9 := (f4 b hb).2
      rw [← z, hsz'] at h9
      exact absurd h9 (Nat.not_lt.mpr (Nat.le_succ _))
    have ee : genEnv scope (cloFrom X.env.cells scope.names []) h3.objs.size code builtinsNs X.env = cenv := hcenv
    have fin := hQ h'.objs.size { s2 with heap := h'.push og, gens := s2.gens.push (.fresh (.compStart (.GeneratorExp elt [⟨t0, i0, [], 0⟩, ⟨t1, i1, [], 0⟩] scope gpos) 0 (.ref it) .none cenv)), toks := tk + 1 + 1 + 1 }
      ⟨gB X.A elt t0 i0 t1 i1 scope gpos it cenv, { s2 with heap := h3, toks := tk }, upd H2 P (.tbl (ps ++ more)), cenv, fp, [(h'.objs.size, og)], og, s2.gens.size, .fresh (.compStart (.GeneratorExp elt [⟨t0, i0, [], 0⟩, ⟨t1, i1, [], 0⟩] scope gpos) 0 (.ref it) .none cenv), wipe σ (own.map (·.2)), upd H2 P (.tbl (ps ++ more)), m0 + 1,
        List.mem_singleton.mpr rfl, hig, I5, Array.getElem?_push_size .., fun s' hh ho hg => ⟨rfl, goes s' hh ho hg⟩, back⟩
    rw [← ee] at fin
    exact fin
  cases hf : codeAmong gpos ps.toList with
  | none =>
    refine ⟨I2.nolimit, ?_⟩
    refine wpAny_genexprCodeX hcode (cd.code hPs ht) (cd.tab hPs) hf fun c' h' tk hx hge hlt hco' _ htab' _ => ?_
    obtain ⟨o1, vs, f1, tf, fl, tg, inF, tx, tt, op, _, _, _, _, _, _, _, _, _, htr, _⟩ := hco'
    exact cont _ h' tk _ hx (Nat.le_trans hge (Nat.le_of_lt hlt)) htab'.2 ⟨_, rfl⟩ htr
  | some cv =>
    refine ⟨I2.nolimit, ?_⟩
    refine wpAny_genexprCode_hit hcode (cd.code hPs ht) hf ?_
    exact cont cv s2.heap s2.toks ps (Heap.ExtBut.refl _ _) (Nat.le_refl _) hPs ⟨#[], by simp⟩ ht

theorem pe_all2 {c P : Addr} {elt t0 i0 t1 i1 : Expr} {p pos gpos : Pos} {scope : Scope} {own : List (Str × Nat)} {wi wi1 : TI} {g g1 : TG} {vs1 : List Nat} {te : TE} {k : Nat}
    (hr : Room (k + 1) X.A) (hg : Gl X "all") (hm : X.mg "all" = none) (TB : TabB X.base X.mg c P) (hcode : X.env.code = .ref c) (hN : X.N.Nodup) (ok : BlkOk X.N X.env.scope scope own) (hcell : ∀ y ∈ scope.names, y.2 ≠ .cell) (hco : scope.isCoroutine = false) (h0 : scope.names.lookup (".0" : Str) = some NameKind.local)
    (hi : PI X t0 i0 wi) (hv : ∀ i ∈ vs1, i ∈ own.map (·.2))
    (hpg : ∀ (A1 : Around) (s : Shared) (H : Hp) (C : Addr) (code : Value) (fp : List Addr) (pn : List (Addr × Obj)), PG (gx X A1 s H (genv X scope C code) fp pn) t0 g)
    (hpi1 : ∀ (A1 : Around) (s : Shared) (H : Hp) (C : Addr) (code : Value) (fp : List Addr) (pn : List (Addr × Obj)), Room k A1 → PI (gx X A1 s H (genv X scope C code) fp pn) t1 i1 wi1)
    (hpg1 : ∀ (A1 : Around) (s : Shared) (H : Hp) (C : Addr) (code : Value) (fp : List Addr) (pn : List (Addr × Obj)), PG (gx X A1 s H (genv X scope C code) fp pn) t1 g1)
    (hpe : ∀ (A1 : Around) (s : Shared) (H : Hp) (C : Addr) (code : Value) (fp : List Addr) (pn : List (Addr × Obj)), Room k A1 → PE (gx X A1 s H (genv X scope C code) fp pn) elt te)
    (hs : ∀ v, genFold i0 X.env v = pure v := by intro _; rfl)
    (hs1 : ∀ env x, foldedSetIterable i1 env x = pure x := by intro _ _; rfl)
    (he : starEach [.GeneratorExp elt [⟨t0, i0, [], 0⟩, ⟨t1, i1, [], 0⟩] scope gpos] X.env = (false, eval (.GeneratorExp elt [⟨t0, i0, [], 0⟩, ⟨t1, i1, [], 0⟩] scope gpos) X.env) :: starEach [] X.env := by rfl) :
    PE X (.Call (.Name "all" p) [.GeneratorExp elt [⟨t0, i0, [], 0⟩, ⟨t1, i1, [], 0⟩] scope gpos] [] pos) (tGen2 true P wi g wi1 g1 te (own.map (·.2)) vs1) := by
  refine ⟨fun pins s σ H Q I h => ?_⟩
  refine wpAny_Call_Name_kw (ld_blt I hg hm boot_all ?_)
  refine PyProof.Rows.callWith_builtin1 ?_ he (by rfl)
  rw [he]
  show wpAny _ _ (spliced ((false, eval (.GeneratorExp elt [⟨t0, i0, [], 0⟩, ⟨t1, i1, [], 0⟩] scope gpos) X.env) :: backTo pos (starEach [] X.env))) _ _ s
  refine Calls.spliced_cons (gen_make2 (e := true) (Q := Q) hr TB hcode hN ok hcell hco h0 hi hv hpg hpi1 hpg1 hpe hs hs1 I h fun a s5 hG => ?_)
  obtain ⟨A1, s4, H4, cenv, fp, pn, og, gi, gs, σ', H5, n, hpn, hig, I5, hgs, hgo, back⟩ := hG
  refine Calls.spliced_nil ?_
  refine call_function_tree F.kind_all F.plain_all F.entry_all (F.args_all1 _) ?_
  unfold Builtin.«all»
  refine wpAny_bind (m := oneArg "all" _) (wpAny_pure ?_)
  refine wpAny_bind (wpAny_pyIter_gen (hig _ (I5.pin _ (List.mem_append_left _ hpn)).1) ?_)
  refine wpAny_pure ⟨plainId_quiet F.plain_all_loop _, drv_all (Y := gx X A1 s4 H4 cenv fp pn) (A := X.A) hpn hig hr.hd (by have := hr.dp; show X.A.depth + 0 < _; omega) (fun b σ6 H6 s6 I6 q => ?_) n gs σ' H5 s5 I5 hgs hgo⟩
  exact ⟨.bl b, H6, back σ6 H6 s6 I6, rfl, q⟩
end
end EwG

set_option Elab.async false
set_option linter.all false
set_option maxRecDepth 100000
set_option maxHeartbeats 4000000
/-! Finite commutative semirings given by tables. -/
namespace SRm
structure SR (n : Nat) (p t : Nat → Nat → Nat) (o : Nat) : Prop where
  pos : 0 < n
  oo : o < n
  pc : ∀ a, a < n → ∀ b, b < n → p a b < n
  tc : ∀ a, a < n → ∀ b, b < n → t a b < n
  p0 : ∀ a, a < n → p 0 a = a
  ps : ∀ a, a < n → ∀ b, b < n → p a b = p b a
  pa : ∀ a, a < n → ∀ b, b < n → ∀ c, c < n → p a (p b c) = p (p a b) c
  t1 : ∀ a, a < n → t o a = a
  t0 : ∀ a, a < n → t 0 a = 0
  ts : ∀ a, a < n → ∀ b, b < n → t a b = t b a
  ta : ∀ a, a < n → ∀ b, b < n → ∀ c, c < n → t a (t b c) = t (t a b) c
  ds : ∀ a, a < n → ∀ b, b < n → ∀ c, c < n → t a (p b c) = p (t a b) (t a c)
abbrev SRp (n : Nat) (p t : Nat → Nat → Nat) (o : Nat) : Prop :=
  0 < n ∧ o < n ∧ (∀ a, a < n → p 0 a = a ∧ t o a = a ∧ t 0 a = 0 ∧ ∀ b, b < n → p a b < n ∧ t a b < n ∧ p a b = p b a ∧ t a b = t b a ∧ ∀ c, c < n → p a (p b c) = p (p a b) c ∧ t a (t b c) = t (t a b) c ∧ t a (p b c) = p (t a b) (t a c))
theorem SR.of {n : Nat} {p t : Nat → Nat → Nat} {o : Nat} (h : SRp n p t o) : SR n p t o where
  pos := h.1
  oo := h.2.1
  pc := fun a ha b hb => ((h.2.2 a ha).2.2.2 b hb).1
  tc := fun a ha b hb => ((h.2.2 a ha).2.2.2 b hb).2.1
  p0 := fun a ha => (h.2.2 a ha).1
  ps := fun a ha b hb => ((h.2.2 a ha).2.2.2 b hb).2.2.1
  pa := fun a ha b hb c hc => (((h.2.2 a ha).2.2.2 b hb).2.2.2.2 c hc).1
  t1 := fun a ha => (h.2.2 a ha).2.1
  t0 := fun a ha => (h.2.2 a ha).2.2.1
  ts := fun a ha b hb => ((h.2.2 a ha).2.2.2 b hb).2.2.2.1
  ta := fun a ha b hb c hc => (((h.2.2 a ha).2.2.2 b hb).2.2.2.2 c hc).2.1
  ds := fun a ha b hb c hc => (((h.2.2 a ha).2.2.2 b hb).2.2.2.2 c hc).2.2
/-- equal within the range -/
theorem SR.congr {n : Nat} {p t p' t' : Nat → Nat → Nat} {o : Nat} (h : SR n p t o) (hp : ∀ a, a < n → ∀ b, b < n → p' a b = p a b) (ht : ∀ a, a < n → ∀ b, b < n → t' a b = t a b) : SR n p' t' o := by
  refine SR.of ⟨h.pos, h.oo, fun a ha => ⟨by rw [hp _ h.pos _ ha]; exact h.p0 a ha, by rw [ht _ h.oo _ ha]; exact h.t1 a ha, by rw [ht _ h.pos _ ha]; exact h.t0 a ha, fun b hb => ?_⟩⟩
  have e1 := hp _ ha _ hb
  have e2 := hp _ hb _ ha
  have e3 := ht _ ha _ hb
  have e4 := ht _ hb _ ha
  refine ⟨by rw [e1]; exact h.pc a ha b hb, by rw [e3]; exact h.tc a ha b hb, by rw [e1, e2]; exact h.ps a ha b hb, by rw [e3, e4]; exact h.ts a ha b hb, fun c hc => ?_⟩
  have pbc := h.pc b hb c hc
  have pab := h.pc a ha b hb
  have tbc := h.tc b hb c hc
  have tab := h.tc a ha b hb
  have tac := h.tc a ha c hc
  refine ⟨?_, ?_, ?_⟩
  · rw [hp _ hb _ hc, e1, hp _ ha _ pbc, hp _ pab _ hc]; exact h.pa a ha b hb c hc
  · rw [ht _ hb _ hc, e3, ht _ ha _ tbc, ht _ tab _ hc]; exact h.ta a ha b hb c hc
  · rw [hp _ hb _ hc, e3, ht _ ha _ pbc, ht _ ha _ hc, hp _ tab _ tac]; exact h.ds a ha b hb c hc
/-- the drawn families -/
def fP (kind n : Nat) : Nat → Nat → Nat := fun a b => match kind with
  | 0 => (a + b) % n
  | 1 => min (a + b) (n - 1)
  | 2 => max a b
  | 3 => a ||| b
  | 4 => a ^^^ b
  | _ => if a * b = 0 then max a b else min a b
def fT (kind n : Nat) : Nat → Nat → Nat := fun a b => match kind with
  | 0 => (a * b) % n
  | 1 => min (a * b) (n - 1)
  | 2 => min a b
  | 3 => a &&& b
  | 4 => a &&& b
  | _ => if a * b = 0 then 0 else min (a + b - 1) (n - 1)
def fO (kind n : Nat) : Nat := match kind with
  | 0 => 1 % n
  | 1 => min 1 (n - 1)
  | 2 => n - 1
  | 3 => n - 1
  | 4 => n - 1
  | _ => 1
def SRb (n : Nat) (p t : Nat → Nat → Nat) (o : Nat) : Bool :=
  Nat.blt 0 n && Nat.blt o n && (List.range n).all fun a => p 0 a == a && t o a == a && t 0 a == 0 && (List.range n).all fun b => Nat.blt (p a b) n && Nat.blt (t a b) n && p a b == p b a && t a b == t b a &&
    (List.range n).all fun c => p a (p b c) == p (p a b) c && t a (t b c) == t (t a b) c && t a (p b c) == p (t a b) (t a c)
theorem SR.ofb {n : Nat} {p t : Nat → Nat → Nat} {o : Nat} (h : SRb n p t o = true) : SR n p t o := by
  unfold SRb at h
  simp only [Bool.and_eq_true, List.all_eq_true, List.mem_range, beq_iff_eq, Nat.blt_eq] at h
  obtain ⟨⟨h1, h2⟩, h3⟩ := h
  refine SR.of ⟨h1, h2, fun a ha => ?_⟩
  obtain ⟨⟨⟨a1, a2⟩, a3⟩, a4⟩ := h3 a ha
  refine ⟨a1, a2, a3, fun b hb => ?_⟩
  obtain ⟨⟨⟨⟨b1, b2⟩, b3⟩, b4⟩, b5⟩ := a4 b hb
  refine ⟨b1, b2, b3, b4, fun c hc => ?_⟩
  obtain ⟨⟨c1, c2⟩, c3⟩ := b5 c hc
  exact ⟨c1, c2, c3⟩
theorem sr_smallb : ((List.range 3).all fun k => (List.range 6).all fun n => SRb (n + 1) (fP k (n + 1)) (fT k (n + 1)) (fO k (n + 1))) = true := by decide +kernel
theorem sr_bitsb : ((List.range 3).all fun k => (List.range 3).all fun m => SRb (2 ^ (m + 1)) (fP (k + 3) (2 ^ (m + 1))) (fT (k + 3) (2 ^ (m + 1))) (fO (k + 3) (2 ^ (m + 1)))) = true := by decide +kernel
theorem sr_small {k n : Nat} (hk : k < 3) (h0 : 0 < n) (hn : n < 7) : SR n (fP k n) (fT k n) (fO k n) := by
  have h := sr_smallb
  simp only [List.all_eq_true, List.mem_range] at h
  have q := h k hk (n - 1) (by omega)
  rw [show n - 1 + 1 = n by omega] at q
  exact SR.ofb q
theorem sr_bits {k m : Nat} (hk : k < 3) (hm : m < 3) : SR (2 ^ (m + 1)) (fP (k + 3) (2 ^ (m + 1))) (fT (k + 3) (2 ^ (m + 1))) (fO (k + 3) (2 ^ (m + 1))) := by
  have h := sr_bitsb
  simp only [List.all_eq_true, List.mem_range] at h
  exact SR.ofb (h k hk m hm)

theorem dm {m x y : Nat} (h : y < m) : (x * m + y) / m = x ∧ (x * m + y) % m = y := by
  have hm : 0 < m := Nat.lt_of_le_of_lt (Nat.zero_le _) h
  refine ⟨?_, ?_⟩
  · rw [Nat.mul_comm, Nat.mul_add_div hm, Nat.div_eq_of_lt h]; rfl
  · rw [Nat.mul_comm, Nat.mul_add_mod, Nat.mod_eq_of_lt h]
theorem lt_mul {n m x y : Nat} (hx : x < n) (hy : y < m) : x * m + y < n * m := by
  have : (x + 1) * m ≤ n * m := Nat.mul_le_mul_right m hx
  rw [Nat.succ_mul] at this
  omega
/-- both at once -/
def pr2 (m : Nat) (f g : Nat → Nat → Nat) : Nat → Nat → Nat := fun a b => f (a / m) (b / m) * m + g (a % m) (b % m)
theorem sr_pair {n m o o' : Nat} {p t p' t' : Nat → Nat → Nat} (x : SR n p t o) (y : SR m p' t' o') : SR (n * m) (pr2 m p p') (pr2 m t t') (o * m + o') := by
  have hm := y.pos
  have dl : ∀ {a}, a < n * m → a / m < n := fun h => Nat.div_lt_of_lt_mul (by rw [Nat.mul_comm]; exact h)
  have ml : ∀ a, a % m < m := fun a => Nat.mod_lt _ hm
  have eq : ∀ a, a / m * m + a % m = a := fun a => by rw [Nat.mul_comm]; exact Nat.div_add_mod a m
  have z : 0 / m = 0 ∧ 0 % m = 0 := ⟨Nat.zero_div _, Nat.zero_mod _⟩
  refine SR.of ⟨Nat.mul_pos x.pos hm, lt_mul x.oo y.oo, fun a ha => ⟨?_, ?_, ?_, fun b hb => ⟨?_, ?_, ?_, ?_, fun c hc => ⟨?_, ?_, ?_⟩⟩⟩⟩
  · unfold pr2; rw [z.1, z.2, x.p0 _ (dl ha), y.p0 _ (ml a), eq]
  · unfold pr2; rw [(dm y.oo).1, (dm y.oo).2, x.t1 _ (dl ha), y.t1 _ (ml a), eq]
  · unfold pr2; rw [z.1, z.2, x.t0 _ (dl ha), y.t0 _ (ml a)]; simp
  · exact lt_mul (x.pc _ (dl ha) _ (dl hb)) (y.pc _ (ml a) _ (ml b))
  · exact lt_mul (x.tc _ (dl ha) _ (dl hb)) (y.tc _ (ml a) _ (ml b))
  · unfold pr2; rw [x.ps _ (dl ha) _ (dl hb), y.ps _ (ml a) _ (ml b)]
  · unfold pr2; rw [x.ts _ (dl ha) _ (dl hb), y.ts _ (ml a) _ (ml b)]
  · unfold pr2
    rw [(dm (y.pc _ (ml b) _ (ml c))).1, (dm (y.pc _ (ml b) _ (ml c))).2, (dm (y.pc _ (ml a) _ (ml b))).1, (dm (y.pc _ (ml a) _ (ml b))).2, x.pa _ (dl ha) _ (dl hb) _ (dl hc), y.pa _ (ml a) _ (ml b) _ (ml c)]
  · unfold pr2
    rw [(dm (y.tc _ (ml b) _ (ml c))).1, (dm (y.tc _ (ml b) _ (ml c))).2, (dm (y.tc _ (ml a) _ (ml b))).1, (dm (y.tc _ (ml a) _ (ml b))).2, x.ta _ (dl ha) _ (dl hb) _ (dl hc), y.ta _ (ml a) _ (ml b) _ (ml c)]
  · unfold pr2
    rw [(dm (y.pc _ (ml b) _ (ml c))).1, (dm (y.pc _ (ml b) _ (ml c))).2, (dm (y.tc _ (ml a) _ (ml b))).1, (dm (y.tc _ (ml a) _ (ml b))).2, (dm (y.tc _ (ml a) _ (ml c))).1, (dm (y.tc _ (ml a) _ (ml c))).2, x.ds _ (dl ha) _ (dl hb) _ (dl hc), y.ds _ (ml a) _ (ml b) _ (ml c)]
/-- renamed by s, back by b -/
theorem sr_ren {n o : Nat} {p t : Nat → Nat → Nat} {s b : Nat → Nat} (x : SR n p t o) (hs : ∀ i, i < n → s i < n) (hb : ∀ i, i < n → b i < n) (sb : ∀ i, i < n → s (b i) = i) (bs : ∀ i, i < n → b (s i) = i) (s0 : s 0 = 0) :
    SR n (fun i j => s (p (b i) (b j))) (fun i j => s (t (b i) (b j))) (s o) := by
  have b0 : b 0 = 0 := by have := bs 0 x.pos; rw [s0] at this; exact this
  refine SR.of ⟨x.pos, hs _ x.oo, fun i hi => ⟨?_, ?_, ?_, fun j hj => ⟨?_, ?_, ?_, ?_, fun k hk => ⟨?_, ?_, ?_⟩⟩⟩⟩
  · show s (p (b 0) (b i)) = i
    rw [b0, x.p0 _ (hb i hi), sb i hi]
  · show s (t (b (s o)) (b i)) = i
    rw [bs _ x.oo, x.t1 _ (hb i hi), sb i hi]
  · show s (t (b 0) (b i)) = 0
    rw [b0, x.t0 _ (hb i hi), s0]
  · exact hs _ (x.pc _ (hb i hi) _ (hb j hj))
  · exact hs _ (x.tc _ (hb i hi) _ (hb j hj))
  · show s (p (b i) (b j)) = s (p (b j) (b i))
    rw [x.ps _ (hb i hi) _ (hb j hj)]
  · show s (t (b i) (b j)) = s (t (b j) (b i))
    rw [x.ts _ (hb i hi) _ (hb j hj)]
  · show s (p (b i) (b (s (p (b j) (b k))))) = s (p (b (s (p (b i) (b j)))) (b k))
    rw [bs _ (x.pc _ (hb j hj) _ (hb k hk)), bs _ (x.pc _ (hb i hi) _ (hb j hj)), x.pa _ (hb i hi) _ (hb j hj) _ (hb k hk)]
  · show s (t (b i) (b (s (t (b j) (b k))))) = s (t (b (s (t (b i) (b j)))) (b k))
    rw [bs _ (x.tc _ (hb j hj) _ (hb k hk)), bs _ (x.tc _ (hb i hi) _ (hb j hj)), x.ta _ (hb i hi) _ (hb j hj) _ (hb k hk)]
  · show s (t (b i) (b (s (p (b j) (b k))))) = s (p (b (s (t (b i) (b j)))) (b (s (t (b i) (b k)))))
    rw [bs _ (x.pc _ (hb j hj) _ (hb k hk)), bs _ (x.tc _ (hb i hi) _ (hb j hj)), bs _ (x.tc _ (hb i hi) _ (hb k hk)), x.ds _ (hb i hi) _ (hb j hj) _ (hb k hk)]
end SRm

set_option Elab.async false
set_option linter.all false
set_option maxRecDepth 100000
set_option maxHeartbeats 4000000
/-! Readings of comprehensions and loops over tables. -/
namespace Tb
open PySem PySem.Spec PyProof.Rows L2 Ew EwG GxR

theorem yes_then {σ : L2.St} {H : Hp} {Q : Bool → Hp → Prop} (q : Q true H) : tYes σ H Q := q
/-- all but what stands at a is as it was -/
def But (a : Addr) (H H' : Hp) : Prop := ∀ b o, b ≠ a → H b = some o → H' b = some o
theorem but_app {D : Addr} {H : Hp} {o : HO} : But D H (upd H D o) := fun b u n e => by rw [upd_ne n]; exact e
theorem But.of {D : Addr} {H H' : Hp} (s : Same H H') : But D H H' := fun b o _ e => s b o e
theorem But.trans {D : Addr} {H H' H'' : Hp} (x : But D H H') (y : But D H' H'') : But D H H'' := fun b o n e => y b o n (x b o n e)
theorem same_but {D : Addr} {H1 H H' : Hp} (hD : H1 D = none) (s : Same H1 H) (b : But D H H') : Same H1 H' := fun c o e => b c o (ne_of_none e hD) (s c o e)
theorem same_new {p : Addr} {H H1 : Hp} {o : HO} (x : Same H H1) (h : H p = none) : Same H (L2.upd H1 p o) := fun b u e => by rw [upd_ne (ne_of_none e h)]; exact x b u e
theorem ext_of {xs : List V} {n : Nat} {f : Nat → V} (hl : xs.length = n) (h : ∀ (i : Nat) v, xs[i]? = some v → v = f i) : xs = (List.range n).map f := by
  refine List.ext_getElem? fun i => ?_
  rw [List.getElem?_map]
  by_cases c : i < n
  · have e : (List.range n)[i]? = some i := by rw [List.getElem?_eq_getElem (by simpa using c), List.getElem_range]
    rw [e]
    obtain ⟨v, hv⟩ : ∃ v, xs[i]? = some v := ⟨_, List.getElem?_eq_getElem (by omega)⟩
    rw [hv, h i v hv]
    rfl
  · rw [List.getElem?_eq_none (by omega), List.getElem?_eq_none (by simpa using c)]
    rfl
theorem at_map {n i : Nat} {f : Nat → V} (h : i < n) : ((List.range n).map f)[i]? = some (f i) := by
  rw [List.getElem?_map, List.getElem?_eq_getElem (by simpa using h), List.getElem_range]
  rfl

/-- [e for x in range(lo, lo + n)]: the heap grows; each element satisfies R -/
theorem lc_rng {lo : Int} {n k : Nat} {te : TE} {vs : List Nat} {σ : L2.St} {H1 : Hp} {D : Addr} {Qd : Hp → Prop} (R : Nat → V → Hp → Prop) (hD : H1 D = none)
    (NR : ∀ i v H H', But D H H' → R i v H → R i v H') (hn : n ≤ 100000) (hw : ∀ x, wipe ((wipe σ vs).set k (some x)) vs = wipe σ vs)
    (hs : ∀ (i : Nat) (H : Hp) (acc : List V) (Kt : VK), i < n → Same H1 H → H D = some (.lst acc) → (∀ y H4, Same H H4 → R i y H4 → Kt y H4) → te ((wipe σ vs).set k (some (.int (lo + i)))) H Kt)
    (hd : ∀ H rows, Same H1 H → H D = some (.lst rows) → rows.length = n → (∀ (i : Nat) v, rows[i]? = some v → R i v H) → Qd H) :
    ∃ W : Nat → Nat → Hp → Prop, (∃ m, W 0 m (upd H1 D (.lst []))) ∧ ∀ i m H, W i m H →
      ((Itr lo n).stop i H ∧ Qd H) ∨ ((Itr lo n).go i H ∧ ∃ Nx : Hp → Prop, (∀ H', Nx H' → ∃ m', m' < m ∧ W (i + 1) m' H') ∧ ∀ x H', (Itr lo n).yld i H x H' → gName k x (wipe σ vs) H' fun σ2 H2 => wipe σ2 vs = wipe σ vs ∧ tYes σ2 H2 fun b H3 =>
        if b = true then te σ2 H3 fun y H4 => ∃ acc, H4 D = some (.lst acc) ∧ acc.length < sizeLine ∧ Nx (upd H4 D (.lst (acc ++ [y]))) else Nx H3) := by
  refine lc_range (fun i H => Same H1 H ∧ ∃ rows, H D = some (.lst rows) ∧ rows.length = i ∧ ∀ (j : Nat) v, rows[j]? = some v → R j v H) ⟨same_new (Same.refl _) hD, [], upd_same, rfl, fun j v e => by simp at e⟩ (fun i H hi ⟨s1, rows, e1, e2, e3⟩ => ?_) (fun H ⟨s1, rows, e1, e2, e3⟩ => hd H rows s1 e1 e2 e3)
  refine ⟨hw _, ?_⟩
  refine yes_then ?_
  refine iteT ?_
  refine hs i H rows _ hi s1 e1 fun y H4 s4 r4 => ⟨rows, s4 _ _ e1, ?_, same_but hD (fun b o e => s4 b o (s1 b o e)) but_app, rows ++ [y], upd_same, by rw [List.length_append, e2]; rfl, fun j v e => ?_⟩
  · rw [e2]
    exact Nat.lt_of_lt_of_le hi (Nat.le_trans hn (by decide))
  · by_cases c : j < rows.length
    · rw [List.getElem?_append_left c] at e
      exact NR _ _ _ _ (But.trans (But.of s4) but_app) (e3 j v e)
    · rw [List.getElem?_append_right (by omega)] at e
      have hj : j = i := by
        have : j - rows.length < [y].length := by
          rcases Nat.lt_or_ge (j - rows.length) [y].length with h | h
          · exact h
          · rw [List.getElem?_eq_none h] at e; cases e
        have h1 : [y].length = 1 := rfl
        omega
      subst hj
      rw [e2, Nat.sub_self] at e
      have : y = v := by simpa using e
      subst this
      exact NR _ _ _ _ but_app r4
/-- .. whose elements are plain values -/
theorem lc_vals {lo : Int} {n k : Nat} {te : TE} {vs : List Nat} {σ : L2.St} {H1 : Hp} {D : Addr} {Qd : Hp → Prop} (f : Nat → V) (hD : H1 D = none)
    (hn : n ≤ 100000) (hw : ∀ x, wipe ((wipe σ vs).set k (some x)) vs = wipe σ vs)
    (hs : ∀ (i : Nat) (H : Hp) (Kt : VK), i < n → Same H1 H → (∀ H4, Same H H4 → Kt (f i) H4) → te ((wipe σ vs).set k (some (.int (lo + i)))) H Kt)
    (hd : ∀ H, Same H1 H → H D = some (.lst ((List.range n).map f)) → Qd H) :
    ∃ W : Nat → Nat → Hp → Prop, (∃ m, W 0 m (upd H1 D (.lst []))) ∧ ∀ i m H, W i m H →
      ((Itr lo n).stop i H ∧ Qd H) ∨ ((Itr lo n).go i H ∧ ∃ Nx : Hp → Prop, (∀ H', Nx H' → ∃ m', m' < m ∧ W (i + 1) m' H') ∧ ∀ x H', (Itr lo n).yld i H x H' → gName k x (wipe σ vs) H' fun σ2 H2 => wipe σ2 vs = wipe σ vs ∧ tYes σ2 H2 fun b H3 =>
        if b = true then te σ2 H3 fun y H4 => ∃ acc, H4 D = some (.lst acc) ∧ acc.length < sizeLine ∧ Nx (upd H4 D (.lst (acc ++ [y]))) else Nx H3) :=
  lc_rng (fun i v _ => v = f i) hD (fun _ _ _ _ _ h => h) hn hw (fun i H _ Kt hi s _ k => hs i H Kt hi s fun H4 s4 => k _ H4 s4 rfl) fun H rows s e l h => hd H s (by rw [e, ext_of l h])

/-- a list (at D) of n lists of n ints; none of them at a -/
def LL (a : Addr) (H : Hp) (D : Addr) (n : Nat) (F : Nat → Nat → Int) : Prop :=
  ∃ rows : List V, D ≠ a ∧ H D = some (.lst rows) ∧ rows.length = n ∧ ∀ i, i < n → ∃ r, rows[i]? = some (.ref r) ∧ r ≠ a ∧ H r = some (.lst ((List.range n).map fun j => V.int (F i j)))
theorem LL.but {a D : Addr} {H H' : Hp} {n : Nat} {F : Nat → Nat → Int} (x : LL a H D n F) (b : But a H H') : LL a H' D n F := by
  obtain ⟨rows, h1, h2, h3, h4⟩ := x
  exact ⟨rows, h1, b _ _ h1 h2, h3, fun i hi => let ⟨r, e1, e2, e3⟩ := h4 i hi; ⟨r, e1, e2, b _ _ e2 e3⟩⟩
theorem LL.congr {a D : Addr} {H : Hp} {n : Nat} {F G : Nat → Nat → Int} (x : LL a H D n F) (e : ∀ i, i < n → ∀ j, j < n → F i j = G i j) : LL a H D n G := by
  obtain ⟨rows, h1, h2, h3, h4⟩ := x
  refine ⟨rows, h1, h2, h3, fun i hi => ?_⟩
  obtain ⟨r, e1, e2, e3⟩ := h4 i hi
  refine ⟨r, e1, e2, ?_⟩
  rw [e3]
  refine congrArg (fun z => some (HO.lst z)) (List.map_congr_left fun j hj => ?_)
  rw [e i hi j (List.mem_range.mp hj)]
/-- a tuple of n tuples of n ints -/
def TT (H : Hp) (D : Addr) (n : Nat) (F : Nat → Nat → Int) : Prop :=
  ∃ rows : List V, H D = some (.tup rows) ∧ rows.length = n ∧ ∀ i, i < n → ∃ r, rows[i]? = some (.ref r) ∧ H r = some (.tup ((List.range n).map fun j => V.int (F i j)))
theorem TT.same {D : Addr} {H H' : Hp} {n : Nat} {F : Nat → Nat → Int} (x : TT H D n F) (b : ∀ c xs, H c = some (.tup xs) → H' c = some (.tup xs)) : TT H' D n F := by
  obtain ⟨rows, h2, h3, h4⟩ := x
  exact ⟨rows, b _ _ h2, h3, fun i hi => let ⟨r, e1, e3⟩ := h4 i hi; ⟨r, e1, b _ _ e3⟩⟩
/-- [[e for b in range(n)] for a in range(n)] : the outer one -/
theorem lc_LL {a : Addr} {ao : HO} {n k : Nat} {te : TE} {vs : List Nat} {σ : L2.St} {H1 : Hp} {D : Addr} {Qd : Hp → Prop} (F : Nat → Nat → Int) (hD : H1 D = none) (ha : H1 a = some ao)
    (hn : n ≤ 100000) (hw : ∀ x, wipe ((wipe σ vs).set k (some x)) vs = wipe σ vs)
    (hs : ∀ (i : Nat) (H : Hp) (Kt : VK), i < n → Same H1 H → (∀ r H4, Same H H4 → H r = none → H4 r = some (.lst ((List.range n).map fun j => V.int (F i j))) → Kt (.ref r) H4) → te ((wipe σ vs).set k (some (.int (0 + i)))) H Kt)
    (hd : ∀ H, Same H1 H → LL a H D n F → Qd H) :
    ∃ W : Nat → Nat → Hp → Prop, (∃ m, W 0 m (upd H1 D (.lst []))) ∧ ∀ i m H, W i m H →
      ((Itr 0 n).stop i H ∧ Qd H) ∨ ((Itr 0 n).go i H ∧ ∃ Nx : Hp → Prop, (∀ H', Nx H' → ∃ m', m' < m ∧ W (i + 1) m' H') ∧ ∀ x H', (Itr 0 n).yld i H x H' → gName k x (wipe σ vs) H' fun σ2 H2 => wipe σ2 vs = wipe σ vs ∧ tYes σ2 H2 fun b H3 =>
        if b = true then te σ2 H3 fun y H4 => ∃ acc, H4 D = some (.lst acc) ∧ acc.length < sizeLine ∧ Nx (upd H4 D (.lst (acc ++ [y]))) else Nx H3) := by
  refine lc_rng (fun i v H => ∃ r, v = .ref r ∧ r ≠ D ∧ r ≠ a ∧ H r = some (.lst ((List.range n).map fun j => V.int (F i j)))) hD (fun i v H H' b ⟨r, e1, e2, e3, e4⟩ => ⟨r, e1, e2, e3, b _ _ e2 e4⟩) hn hw
    (fun i H acc Kt hi s e k => hs i H Kt hi s fun r H4 s4 hr h4 => k _ H4 s4 ⟨r, rfl, (fun z => by rw [z, e] at hr; cases hr), (fun z => by rw [z, s _ _ ha] at hr; cases hr), h4⟩) fun H rows s e l h => hd H s ⟨rows, (fun z => by rw [z, ha] at hD; cases hD), e, l, fun i hi => ?_⟩
  obtain ⟨v, hv⟩ : ∃ v, rows[i]? = some v := ⟨_, List.getElem?_eq_getElem (by omega)⟩
  obtain ⟨r, rfl, _, h1, h2⟩ := h i v hv
  exact ⟨r, hv, h1, h2⟩

/-- [[e for b in range(n)] for a in range(n)] as a reading -/
theorem tab_lc {a : Addr} {ao : HO} {n ns ka kb : Nat} {te : TE} {σ : L2.St} {H : Hp} {Q : VK} (F : Nat → Nat → Int) (ha : H a = some ao) (hn : n ≤ 100000)
    (hs : ∀ (i j : Nat) (H' : Hp) (Kt : VK), i < n → j < n → Same H H' → (∀ H4, Same H' H4 → Kt (.int (F i j)) H4) → te ((wipe ((wipe σ [ka]).set ka (some (.int (i : Int)))) [kb]).set kb (some (.int (j : Int)))) H' Kt)
    (hd : ∀ H' D, Same H H' → H D = none → LL a H' D n F → Q (.ref D) H')
    (h1 : σ[ns]? = some (some (.int (n : Int))) := by rfl) (h2 : ∀ x, ((wipe σ [ka]).set ka (some x))[ns]? = some (some (.int (n : Int))) := by intro _; rfl)
    (w1 : ∀ x, wipe ((wipe σ [ka]).set ka (some x)) [ka] = wipe σ [ka] := by intro _; rfl) (w2 : ∀ y x, wipe ((wipe ((wipe σ [ka]).set ka (some y)) [kb]).set kb (some x)) [kb] = wipe ((wipe σ [ka]).set ka (some y)) [kb] := by intro _ _; rfl) :
    tLc (iRng1 (tCons (tVar ns) tNil)) (gName ka) tYes (tLc (iRng1 (tCons (tVar ns) tNil)) (gName kb) tYes te [kb]) [ka] σ H Q := by
  refine ⟨_, h1, _, rfl, by omega, by omega, fun D hD => ?_⟩
  refine lc_LL (a := a) F hD ha hn w1 (fun i H' Kt hi s k => ?_) (fun H' s l => hd H' D s hD l)
  refine ⟨_, h2 _, _, rfl, by omega, by omega, fun D' hD' => ?_⟩
  refine lc_vals (fun j => V.int (F i j)) hD' hn (w2 _) (fun j H4 Kt4 hj s4 k4 => ?_) (fun H4 s4 e4 => k D' H4 s4 hD' e4)
  rw [Int.zero_add, Int.zero_add]
  exact hs i j H4 Kt4 hi hj (fun b o e => s4 b o (s b o e)) k4

/-- [e for x in l], l a list that the turns leave as it is -/
theorem lc_lst {K : PySem.W.Frag} {L : Addr} {xs : List V} {k : Nat} {te : TE} {vs : List Nat} {σ : L2.St} {H1 : Hp} {D : Addr} {Qd : Hp → Prop} (R : Nat → V → Hp → Prop) (hD : H1 D = none) (hL : SqL K H1 L xs) (hLs : ∀ H, Same H1 H → SqL K H L xs)
    (NR : ∀ i v H H', But D H H' → R i v H → R i v H') (hn : xs.length ≤ 100000) (hw : ∀ x, wipe ((wipe σ vs).set k (some x)) vs = wipe σ vs)
    (hs : ∀ (i : Nat) (x : V) (H : Hp) (acc : List V) (Kt : VK), xs[i]? = some x → Same H1 H → H D = some (.lst acc) → (∀ y H4, Same H H4 → R i y H4 → Kt y H4) → te ((wipe σ vs).set k (some x)) H Kt)
    (hd : ∀ H rows, Same H1 H → H D = some (.lst rows) → rows.length = xs.length → (∀ (i : Nat) v, rows[i]? = some v → R i v H) → Qd H) :
    ∃ W : Nat → Nat → Hp → Prop, (∃ m, W 0 m (upd H1 D (.lst []))) ∧ ∀ i m H, W i m H →
      ((Itl K L).stop i H ∧ Qd H) ∨ ((Itl K L).go i H ∧ ∃ Nx : Hp → Prop, (∀ H', Nx H' → ∃ m', m' < m ∧ W (i + 1) m' H') ∧ ∀ x H', (Itl K L).yld i H x H' → gName k x (wipe σ vs) H' fun σ2 H2 => wipe σ2 vs = wipe σ vs ∧ tYes σ2 H2 fun b H3 =>
        if b = true then te σ2 H3 fun y H4 => ∃ acc, H4 D = some (.lst acc) ∧ acc.length < sizeLine ∧ Nx (upd H4 D (.lst (acc ++ [y]))) else Nx H3) := by
  refine lc_list (fun i H => Same H1 H ∧ ∃ rows, H D = some (.lst rows) ∧ rows.length = i ∧ ∀ (j : Nat) v, rows[j]? = some v → R j v H) ⟨same_new (Same.refl _) hD, [], upd_same, rfl, fun j v e => by simp at e⟩ (fun i H _ ⟨s1, _⟩ => hLs H s1) (fun i x H hx ⟨s1, rows, e1, e2, e3⟩ => ?_) (fun H ⟨s1, rows, e1, e2, e3⟩ => hd H rows s1 e1 e2 e3)
  refine ⟨hw _, ?_⟩
  refine yes_then ?_
  refine iteT ?_
  have hi : i < xs.length := by
    rcases Nat.lt_or_ge i xs.length with h | h
    · exact h
    · rw [List.getElem?_eq_none h] at hx; cases hx
  refine hs i x H rows _ hx s1 e1 fun y H4 s4 r4 => ⟨rows, s4 _ _ e1, ?_, same_but hD (fun b o e => s4 b o (s1 b o e)) but_app, rows ++ [y], upd_same, by rw [List.length_append, e2]; rfl, fun j v e => ?_⟩
  · rw [e2]
    exact Nat.lt_of_lt_of_le hi (Nat.le_trans hn (by decide))
  · by_cases c : j < rows.length
    · rw [List.getElem?_append_left c] at e
      exact NR _ _ _ _ (But.trans (But.of s4) but_app) (e3 j v e)
    · rw [List.getElem?_append_right (by omega)] at e
      have hj : j = i := by
        have : j - rows.length < [y].length := by
          rcases Nat.lt_or_ge (j - rows.length) [y].length with h | h
          · exact h
          · rw [List.getElem?_eq_none h] at e; cases e
        have h1 : [y].length = 1 := rfl
        omega
      subst hj
      rw [e2, Nat.sub_self] at e
      have : y = v := by simpa using e
      subst this
      exact NR _ _ _ _ but_app r4
/-- [[e for b in l] for a in l], l a list of n things, as a reading: a list of n lists of n ints -/
theorem tab_lst {K : PySem.W.Frag} {a L : Addr} {ao : HO} {xs : List V} {n ns ka kb : Nat} {te : TE} {σ : L2.St} {H : Hp} {Q : VK} (F : Nat → Nat → Int) (ha : H a = some ao) (hL : H L = some (.lst xs)) (hxl : xs.length = n) (hn : n ≤ 100000)
    (hs : ∀ (i j : Nat) (x y : V) (H' : Hp) (Kt : VK), i < n → j < n → xs[i]? = some x → xs[j]? = some y → Same H H' → (∀ H4, Same H' H4 → Kt (.int (F i j)) H4) → te ((wipe ((wipe σ [ka]).set ka (some x)) [kb]).set kb (some y)) H' Kt)
    (hd : ∀ H' D, Same H H' → H D = none → LL a H' D n F → Q (.ref D) H')
    (h1 : σ[ns]? = some (some (.ref L)) := by rfl) (h2 : ∀ x, ((wipe σ [ka]).set ka (some x))[ns]? = some (some (.ref L)) := by intro _; rfl)
    (w1 : ∀ x, wipe ((wipe σ [ka]).set ka (some x)) [ka] = wipe σ [ka] := by intro _; rfl) (w2 : ∀ y x, wipe ((wipe ((wipe σ [ka]).set ka (some y)) [kb]).set kb (some x)) [kb] = wipe ((wipe σ [ka]).set ka (some y)) [kb] := by intro _ _; rfl) :
    tLc (iList K (tVar ns)) (gName ka) tYes (tLc (iList K (tVar ns)) (gName kb) tYes te [kb]) [ka] σ H Q := by
  have at_ : ∀ {i : Nat} {x : V}, xs[i]? = some x → i < n := fun {i x} h => by
    rcases Nat.lt_or_ge i xs.length with h' | h'
    · omega
    · rw [List.getElem?_eq_none h'] at h; cases h
  refine ⟨_, h1, L, rfl, ⟨xs, SqL.of hL⟩, fun D hD => ?_⟩
  refine lc_lst (K := K) (xs := xs) (fun i v H => ∃ r, v = .ref r ∧ r ≠ D ∧ r ≠ a ∧ H r = some (.lst ((List.range n).map fun j => V.int (F i j)))) hD (SqL.of hL) (fun H' s => SqL.of (s _ _ hL)) (fun i v H H' b ⟨r, e1, e2, e3, e4⟩ => ⟨r, e1, e2, e3, b _ _ e2 e4⟩) (by omega) w1 (fun i x H' acc Kt hx s e k => ?_) (fun H' rows s e l h => ?_)
  · refine ⟨_, h2 _, L, rfl, ⟨xs, SqL.of (s _ _ hL)⟩, fun D' hD' => ?_⟩
    refine lc_lst (K := K) (xs := xs) (fun j v _ => v = V.int (F i j)) hD' (SqL.of (s _ _ hL)) (fun H4 s4 => SqL.of (s4 _ _ (s _ _ hL))) (fun _ _ _ _ _ h => h) (by omega) (w2 _) (fun j y H4 acc' Kt4 hy s4 e4 k4 => ?_) (fun H4 rows s4 e4 l4 h4 => ?_)
    · exact hs i j x y H4 Kt4 (at_ hx) (at_ hy) hx hy (fun b o e => s4 b o (s b o e)) fun H5 s5 => k4 _ H5 s5 rfl
    · refine k _ H4 s4 ⟨D', rfl, (fun z => by rw [z, e] at hD'; cases hD'), (fun z => by rw [z, s _ _ ha] at hD'; cases hD'), ?_⟩
      rw [e4, ext_of (l4.trans hxl) h4]
  · refine hd H' D s hD ⟨rows, (fun z => by rw [z, ha] at hD; cases hD), e, l.trans hxl, fun i hi => ?_⟩
    obtain ⟨v, hv⟩ : ∃ v, rows[i]? = some v := ⟨_, List.getElem?_eq_getElem (by omega)⟩
    obtain ⟨r, rfl, _, h1, h2⟩ := h i v hv
    exact ⟨r, hv, h1, h2⟩
abbrev rTupOf (K : PySem.W.Frag) : List V → Hp → VK → Prop := fun xs H Q => ∃ p ys, xs = [.ref p] ∧ ((SqL K H p ys ∧ ∀ l, H l = none → Q (.ref l) (upd H l (.tup ys))) ∨ (SqT K H p ys ∧ Q (.ref p) H))
/-- tuple([tuple([e for b in range(n)]) for a in range(n)]) as a reading -/
theorem tab_tt {K : PySem.W.Frag} {n ns ka kb : Nat} {te : TE} {σ : L2.St} {H : Hp} {Q : VK} (F : Nat → Nat → Int) (hn : n ≤ 100000)
    (hs : ∀ (i j : Nat) (H' : Hp) (Kt : VK), i < n → j < n → Same H H' → (∀ H4, Same H' H4 → Kt (.int (F i j)) H4) → te ((wipe ((wipe σ [ka]).set ka (some (.int (i : Int)))) [kb]).set kb (some (.int (j : Int)))) H' Kt)
    (hd : ∀ H' D, Same H H' → TT H' D n F → Q (.ref D) H')
    (h1 : σ[ns]? = some (some (.int (n : Int))) := by rfl) (h2 : ∀ x, ((wipe σ [ka]).set ka (some x))[ns]? = some (some (.int (n : Int))) := by intro _; rfl)
    (w1 : ∀ x, wipe ((wipe σ [ka]).set ka (some x)) [ka] = wipe σ [ka] := by intro _; rfl) (w2 : ∀ y x, wipe ((wipe ((wipe σ [ka]).set ka (some y)) [kb]).set kb (some x)) [kb] = wipe ((wipe σ [ka]).set ka (some y)) [kb] := by intro _ _; rfl) :
    tCB (rTupOf K) (tCons (tLc (iRng1 (tCons (tVar ns) tNil)) (gName ka) tYes (tCB (rTupOf K) (tCons (tLc (iRng1 (tCons (tVar ns) tNil)) (gName kb) tYes te [kb]) tNil)) [ka]) tNil) σ H Q := by
  refine ⟨_, h1, _, rfl, by omega, by omega, fun D hD => ?_⟩
  rw [Int.toNat_natCast]
  refine lc_rng (lo := 0) (n := n) (fun i v H => ∃ r, v = .ref r ∧ r ≠ D ∧ H r = some (.tup ((List.range n).map fun j => V.int (F i j)))) hD (fun i v H H' b ⟨r, e1, e2, e3⟩ => ⟨r, e1, e2, b _ _ e2 e3⟩) hn w1 (fun i H' acc Kt hi s e k => ?_) (fun H' rows s e l h => ?_)
  · rw [Int.zero_add]
    refine ⟨_, h2 _, _, rfl, by omega, by omega, fun D' hD' => ?_⟩
    rw [Int.toNat_natCast]
    refine lc_vals (lo := 0) (n := n) (fun j => V.int (F i j)) hD' hn (w2 _) (fun j H4 Kt4 hj s4 k4 => ?_) (fun H4 s4 e4 => ?_)
    · rw [Int.zero_add]
      exact hs i j H4 Kt4 hi hj (fun b o e => s4 b o (s b o e)) k4
    · refine ⟨D', _, rfl, .inl ⟨SqL.of e4, fun r hr => ?_⟩⟩
      exact k _ _ (fun b o e => same_new (Same.refl _) hr b o (s4 b o e)) ⟨r, rfl, (fun z => by rw [z, s4 _ _ e] at hr; cases hr), upd_same⟩
  · refine ⟨D, rows, rfl, .inl ⟨SqL.of e, fun q hq => ?_⟩⟩
    have sq : Same H' (upd H' q (.tup rows)) := same_new (Same.refl _) hq
    refine hd _ q (fun b o e => sq b o (s b o e)) ⟨rows, upd_same, l, fun i hi => ?_⟩
    obtain ⟨v, hv⟩ : ∃ v, rows[i]? = some v := ⟨_, List.getElem?_eq_getElem (by omega)⟩
    obtain ⟨r, rfl, _, h2⟩ := h i v hv
    exact ⟨r, hv, sq _ _ h2⟩
section
variable {X : Cx} {o e : Expr} {es : List Expr} {to : TE} {t : TA} {name : Str} {apos cpos : Pos} {T id : String} {r : V → List V → Hp → VK → Prop}
theorem kpe_bm {K : PySem.W.Frag} (pa : PlainAttrs T) (slot : Slot T name id) (hty : typeOf (.builtin id) = pure (.type "method_descriptor")) (hm : MtR X id r) (ho : PE X o to) (ha : PA X (e :: es) t) (hK : X.K = K := by rfl)
    (hbase : attributeBase o name X.env (eval o X.env) = eval o X.env := by rfl)
    (hfew : ((backTo cpos (starEach (e :: es) X.env)).all (fun x => !x.1) && (backToKw cpos (keywordEach [] X.env)).all (fun x => x.1.isSome)
      && decide ((e :: es).length + ([] : List Keyword).length + (if ([] : List Keyword).isEmpty then 0 else 1) < 30)) = true := by rfl)
    (hline : (apos.endLine == cpos.line) = true := by rfl) (hs : starEach (e :: es) X.env = (false, eval e X.env) :: starEach es X.env := by rfl) (hplain : (backTo cpos (starEach es X.env)).any (·.1) = false := by rfl) :
    PE X (.Call (.Attribute o name apos) (e :: es) [] cpos) (tBM K T r to t) := hK ▸ pe_bm pa slot hty hm ho ha hbase hfew hline hs hplain
theorem kmt_index {K : PySem.W.Frag} (hK : X.K = K := by rfl) : MtR X "list.index" (rIndex K) := hK ▸ mt_index
theorem kcall_tuple_of {K : PySem.W.Frag} (hK : X.K = K := by rfl) : CallR X (.type "tuple") (rTupOf K) := hK ▸ call_tuple_of
end
theorem erase_perm {α : Type} : ∀ (l : List α) (i : Nat) (y : α), l[i]? = some y → (y :: l.eraseIdx i).Perm l
  | [], i, y, e => by simp at e
  | a :: l, 0, y, e => by
    have q : a = y := by simpa using e
    subst q
    exact List.Perm.refl _
  | a :: l, i + 1, y, e => by
    have q := erase_perm l i y (by simpa using e)
    show (y :: a :: l.eraseIdx i).Perm (a :: l)
    exact (List.Perm.swap a y _).trans (q.cons a)
/-- names: a renaming of 0 .. n - 1 that keeps 0, and its inverse -/
theorem ren_of {n : Nat} {ns : List Nat} (p : ns.Perm (List.range n)) (h0 : ns[0]? = some 0) :
    (∀ i, i < n → ns[i]? = some (ns.getD i 0)) ∧ (∀ i, i < n → ns.getD i 0 < n) ∧ (∀ k, k < n → ns.idxOf k < n) ∧ (∀ k, k < n → ns.getD (ns.idxOf k) 0 = k) ∧ (∀ i, i < n → ns.idxOf (ns.getD i 0) = i) ∧ ns.getD 0 0 = 0 := by
  have hl : ns.length = n := by rw [p.length_eq, List.length_range]
  have nd : ns.Nodup := p.nodup_iff.mpr List.nodup_range
  have at_ : ∀ i, i < n → ns[i]? = some (ns.getD i 0) := fun i hi => by
    rw [List.getD_eq_getElem?_getD, List.getElem?_eq_getElem (by omega)]
    rfl
  have mem : ∀ k, k < n → k ∈ ns := fun k hk => p.mem_iff.mpr (List.mem_range.mpr hk)
  have ix : ∀ k, k < n → ns.idxOf k < n := fun k hk => by
    have := List.idxOf_lt_length_iff.mpr (mem k hk)
    omega
  refine ⟨at_, fun i hi => List.mem_range.mp (p.mem_iff.mp (List.mem_of_getElem? (at_ i hi))), ix, fun k hk => ?_, fun i hi => ?_, ?_⟩
  · have h := ix k hk
    rw [← hl] at h
    rw [List.getD_eq_getElem?_getD, List.getElem?_eq_getElem h, List.getElem_idxOf h]
    rfl
  · have h : i < ns.length := by omega
    rw [List.getD_eq_getElem?_getD, List.getElem?_eq_getElem h]
    exact nd.idxOf_getElem i h
  · rw [List.getD_eq_getElem?_getD, h0]
    rfl
theorem idx_first {n : Nat} {ns : List Nat} (p : ns.Perm (List.range n)) {k m z : Nat} (h : m < ns.idxOf k) (e : ns[m]? = some z) : z ≠ k := fun q => by
  have nd : ns.Nodup := p.nodup_iff.mpr List.nodup_range
  obtain ⟨hm, e⟩ := List.getElem?_eq_some_iff.mp e
  have := nd.idxOf_getElem m hm
  rw [e, q] at this
  omega
theorem go_seq {te : TE} {g : TG} {u : TS} {D : Ends} {σ : L2.St} {H : Hp} (h : te σ H fun x H1 => g x σ H1 fun σ' H' => u D σ' H') : tSeq (tAsg te g) u D σ H := h
theorem go_next {f : L2.St → Hp → Prop} {rt : VK} {bk ct : L2.St → Hp → Prop} {σ : L2.St} {H : Hp} (h : f σ H) : tNext ⟨f, rt, bk, ct⟩ σ H := h
theorem go_nx {f : L2.St → Hp → Prop} {rt : VK} {bk ct : L2.St → Hp → Prop} {σ : L2.St} {H : Hp} (h : f σ H) : (Ends.mk f rt bk ct).nx σ H := h
theorem go_ret {te : TE} {D : Ends} {σ : L2.St} {H : Hp} (h : te σ H D.rt) : tRet te D σ H := h
theorem go_tup {t : TA} {σ : L2.St} {H : Hp} {Q : VK} (h : t σ H fun xs H1 => xs.length ≤ sizeLine ∧ ∀ p, H1 p = none → Q (.ref p) (upd H1 p (.tup xs))) : tTup t σ H Q := h
theorem go_lst {t : TA} {σ : L2.St} {H : Hp} {Q : VK} (h : t σ H fun xs H1 => xs.length ≤ sizeLine ∧ ∀ p, H1 p = none → Q (.ref p) (upd H1 p (.lst xs))) : tLst t σ H Q := h
theorem go_cons {t : TE} {u : TA} {σ : L2.St} {H : Hp} {Q : List V → Hp → Prop} (h : t σ H fun x H1 => u σ H1 fun xs H2 => Q (x :: xs) H2) : tCons t u σ H Q := h
theorem go_nil {σ : L2.St} {H : Hp} {Q : List V → Hp → Prop} (h : Q [] H) : tNil σ H Q := h
theorem go_var {i : Nat} {v : V} {σ : L2.St} {H : Hp} {Q : VK} (e : σ[i]? = some (some v)) (h : Q v H) : tVar i σ H Q := ⟨v, e, h⟩
theorem go_name {i : Nat} {v v' : V} {σ : L2.St} {H : Hp} {Q : L2.St → Hp → Prop} (e : v = v') (h : Q (σ.set i (some v')) H) : gName i v σ H Q := e ▸ h
end Tb

set_option Elab.async false
set_option linter.all false
set_option maxRecDepth 100000
set_option maxHeartbeats 4000000
/-! Defs that hold a generator expression; readings of all(..), any(..) where every turn goes on. -/
namespace Tb
open PySem PySem.Spec PyProof.Rows L2 Ew EwG GxR

/-- a def whose code object stands at c -/
structure FunC (K : PySem.W.Frag) (x qual : Str) (st : Stmt) (f : Addr) (fd : FuncData) (c : Addr) : Prop where
  ex : ∃ (oc : Value) (od : Option Addr) (kV doc pm : Value) (an : Option Addr) (ct : Value) (osl : Array (Option Value)),
    fd = PySem.W.fnOf x qual (defArgs st) (defBody st) (defScope st) .none kV doc pm an (.ref c) ct ∧ K.lookup f = some ⟨oc, od, .func fd, osl⟩ ∧ PySem.W.codeIn K (.ref c) qual = true
  kp : PySem.W.keepIn K (.ref f) = true
section
variable {P : Program} {w : World} {K : PySem.W.Frag} {mg : Str → Option Value} {base : Heap}
theorem FunC.okX {x qual : Str} {st : Stmt} {f c : Addr} {fd : FuncData} {N ps : List Str} {k : Nat} {sp : Sp} (F : FunC K x qual st f fd c) (S : FnScope N ps (defScope st)) (len : ∀ vs H Q E, sp vs H Q E → vs.length = ps.length)
    (hbody : ∀ (A : Around) (outer : List Env) (s : Shared) (H : Hp) (vs : List V) (Q : VK) (E : XK), Room k (A.deeper (envOfC qual (defScope st) s.heap.objs.size f (.ref c))) → sp vs H Q E →
      ∃ t, PSs (cxOf (L2.CX P w) P w K mg base N qual (defScope st) f (.ref c) A outer s H E) (defBody st) t ∧ t { nx := fun _ H' => Q .non H', rt := Q } (start N vs) H) : FnOk P w K mg base (L2.CX P w) (k + 1) f fd ps sp := by
  obtain ⟨oc, od, kV, doc, pm, an, ct, osl, rfl, lk, hcd⟩ := F.ex
  exact fn_of lk hcd S len fun A outer s H vs Q E hr hsp => hbody A outer s H vs Q E hr hsp
theorem FunC.fun_ {x qual : Str} {st : Stmt} {f c : Addr} {fd : FuncData} (F : FunC K x qual st f fd c) : Fun K x qual st f fd := by
  obtain ⟨oc, od, kV, doc, pm, an, ct, osl, rfl, lk, hcd⟩ := F.ex
  exact ⟨⟨oc, od, kV, doc, pm, an, .ref c, ct, osl, rfl, lk, hcd⟩, F.kp⟩
theorem func_mk {x qual : Str} {st : Stmt} {f c : Addr} {oc : Value} {od an : Option Addr} {osl : Array (Option Value)} {kV doc pm ct : Value} (l : K.lookup f = some ⟨oc, od, .func (PySem.W.fnOf x qual (defArgs st) (defBody st) (defScope st) .none kV doc pm an (.ref c) ct), osl⟩)
    (cc : PySem.W.codeIn K (.ref c) qual = true) (k : PySem.W.keepIn K (.ref f) = true) : FunC K x qual st f (PySem.W.fnOf x qual (defArgs st) (defBody st) (defScope st) .none kV doc pm an (.ref c) ct) c := ⟨⟨oc, od, kV, doc, pm, an, ct, osl, rfl, l, cc⟩, k⟩
end
def rAnyT (K : PySem.W.Frag) : List V → Hp → VK → Prop := fun vs H Q => ∃ (a : Addr) (ns : List Int), vs = [V.ref a] ∧ SqT K H a (ns.map V.int) ∧ Q (.bl (ns.any fun i => i != 0)) H
theorem cr_anyT {X : Cx} (hc : X.calm = true) : CallR X (.builtin "any") (rAnyT X.K) := by
  intro pins s σ H vs us Q I r h
  obtain ⟨a, ns, rfl, hs, q⟩ := h
  obtain ⟨its, rv, hl, _⟩ := I.tuple hs
  rw [Vals.ref1 r]
  have hlt : a < s.heap.objs.size := hl.lt
  refine call_any_walk ?_
  refine wpAny_pyIter_tuple (show s.heap.IsTuple a its.toArray from hl) ?_
  refine ⟨_, _, _, _, _, _, fun i => (ns.getD i 0) != 0, rfl, Walks.tuple (A := X.A.in1) (I.ok.hd hc) _ a (Nat.ne_of_lt hlt) its.toArray, ⟨⟨_, Heap.get?_push_size _ rfl, rfl, rfl⟩, (show s.heap.IsTuple a its.toArray from hl).push _⟩, fun i v s' Q' E' hv hq => ?_, fun h' tk hk => ?_⟩
  · have hv' : its[i]? = some v := by simpa using hv
    obtain ⟨n, hn⟩ : ∃ n, ns[i]? = some n := by
      have l := rv.length
      rw [List.length_map] at l
      have : i < its.length := by
        rcases Nat.lt_or_ge i its.length with h | h
        · exact h
        · rw [List.getElem?_eq_none h] at hv'; cases hv'
      exact ⟨_, List.getElem?_eq_getElem (by omega)⟩
    obtain ⟨u, e1, e2⟩ := rv.get (x := V.int n) (i := i) (by rw [List.getElem?_map, hn]; rfl)
    rw [hv'] at e1
    cases e1
    obtain ⟨t, rfl⟩ := e2
    have hq' : Q' ((ns.getD i 0) != 0) s' := hq
    rw [List.getD_eq_getElem?_getD, hn] at hq'
    first | exact PySem.truthy_int hq' | exact PySem.P.truthy_int hq' | exact truthy_int hq'
  · refine ⟨.bl _, H, I.kept fun b o eo => hk b o (fun hmem => ?_) (Heap.get?_push_of_some _ eo), ?_, q⟩
    · rcases List.mem_cons.mp hmem with e1 | hmem
      · exact absurd (e1 ▸ Heap.lt_size eo) (Nat.lt_irrefl _)
      · cases hmem
    · show Value.bool _ = Value.bool _
      have l := rv.length
      rw [List.length_map] at l
      rw [List.size_toArray, ← l]
      have key : ∀ ns : List Int, (List.range ns.length).any (fun i => ns.getD i 0 != 0) = ns.any fun i => i != 0 := fun ns => by
        induction ns with
        | nil => rfl
        | cons b bs ih =>
          rw [List.length_cons, List.range_succ_eq_map, List.any_cons, List.any_map, List.any_cons, ← ih]
          rfl
      rw [key]
/-- a statement that is never reached -/
def tNever : TS := fun _ _ _ => False
theorem ps_never {X : Cx} {st : Stmt} : PS X st tNever := ⟨fun _ _ _ _ _ _ h => h.elim⟩

/-- the heap has grown; tables too -/
structure FrT (H H' : Hp) : Prop where
  keep : ∀ b o, H b = some o → (∀ ps, o ≠ .tbl ps) → H' b = some o
  tabs : ∀ P, TabG H P → TabG H' P
theorem FrT.refl (H : Hp) : FrT H H := ⟨fun _ _ h _ => h, fun _ h => h⟩
theorem FrT.trans {H H' H'' : Hp} (x : FrT H H') (y : FrT H' H'') : FrT H H'' := ⟨fun b o h n => y.keep b o (x.keep b o h n) n, fun P h => y.tabs P (x.tabs P h)⟩
theorem FrT.of {H H' : Hp} (s : Same H H') : FrT H H' := ⟨fun b o h _ => s b o h, fun P h => let ⟨ps, e, t⟩ := h; ⟨ps, s _ _ e, t⟩⟩
theorem FrT.tab {P : Addr} {H H' : Hp} (t : TabG H P) (x : Tabbed P H H') : FrT H H' := by
  refine ⟨fun b o h n => ?_, fun P' h => ?_⟩
  · by_cases e : b = P
    · obtain ⟨ps, e2, _⟩ := t
      rw [e, e2] at h
      cases h
      exact absurd rfl (n ps)
    · rw [x.2 b e]; exact h
  · by_cases e : P' = P
    · rw [e]; exact x.1
    · obtain ⟨ps, e2, e3⟩ := h
      exact ⟨ps, by rw [x.2 P' e]; exact e2, e3⟩
theorem FrT.tup {H H' : Hp} (x : FrT H H') {b : Addr} {xs : List V} (h : H b = some (.tup xs)) : H' b = some (.tup xs) := x.keep b _ h fun ps z => by cases z
theorem FrT.lst {H H' : Hp} (x : FrT H H') {b : Addr} {xs : List V} (h : H b = some (.lst xs)) : H' b = some (.lst xs) := x.keep b _ h fun ps z => by cases z
theorem FrT.ins {H H' : Hp} (x : FrT H H') {b C d : Addr} {fs : List (Str × V)} (h : H b = some (.ins C d fs)) : H' b = some (.ins C d fs) := x.keep b _ h fun ps z => by cases z

theorem gw_rng {n k : Nat} {te : TE} {vs : List Nat} {σ : L2.St} {e : Bool} {Q : VK} {H2 : Hp} (hw : ∀ x, wipe ((wipe σ vs).set k (some x)) vs = wipe σ vs)
    (hs : ∀ (i : Nat) (Kt : VK), i < n → Kt (.bl e) H2 → te ((wipe σ vs).set k (some (.int (i : Int)))) H2 Kt) (hd : Q (.bl e) H2) :
    ∃ W : Nat → Nat → Hp → Prop, (∃ m, W 0 m H2) ∧ GW (Itr 0 n) (gName k) te vs σ e Q W := by
  refine ⟨fun i m H => m = n - i ∧ i ≤ n ∧ H = H2, ⟨n, by simp, Nat.zero_le _, rfl⟩, ?_⟩
  rintro i m H ⟨rfl, hi, rfl⟩
  by_cases hlt : i < n
  · refine .inr ⟨hlt, fun x H' y => ?_⟩
    obtain ⟨e1, y⟩ := y
    subst e1 y
    refine ⟨hw _, ?_⟩
    rw [Int.zero_add]
    exact hs i _ hlt ⟨e, rfl, fun _ => ⟨n - (i + 1), by omega, rfl, hlt, rfl⟩, fun z => absurd rfl z⟩
  · have e1 : i = n := by omega
    subst e1
    exact .inl ⟨Nat.le_refl _, hd⟩
theorem gw_lst {K : PySem.W.Frag} {L : Addr} {xs : List V} {k : Nat} {te : TE} {vs : List Nat} {σ : L2.St} {e : Bool} {Q : VK} {H2 : Hp} (hL : SqL K H2 L xs) (hw : ∀ x, wipe ((wipe σ vs).set k (some x)) vs = wipe σ vs)
    (hs : ∀ (i : Nat) (x : V) (Kt : VK), xs[i]? = some x → Kt (.bl e) H2 → te ((wipe σ vs).set k (some x)) H2 Kt) (hd : Q (.bl e) H2) :
    ∃ W : Nat → Nat → Hp → Prop, (∃ m, W 0 m H2) ∧ GW (Itl K L) (gName k) te vs σ e Q W := by
  refine ⟨fun i m H => m = xs.length - i ∧ i ≤ xs.length ∧ H = H2, ⟨xs.length, by simp, Nat.zero_le _, rfl⟩, ?_⟩
  rintro i m H ⟨rfl, hi, rfl⟩
  by_cases hlt : i < xs.length
  · refine .inr ⟨⟨xs, xs[i], hL, by simp [hlt]⟩, fun x H' y => ?_⟩
    obtain ⟨e1, y⟩ := y
    subst e1
    refine ⟨hw _, ?_⟩
    exact hs i x _ (y xs hL) ⟨e, rfl, fun _ => ⟨xs.length - (i + 1), by omega, rfl, hlt, rfl⟩, fun z => absurd rfl z⟩
  · have e1 : i = xs.length := by omega
    subst e1
    exact .inl ⟨⟨xs, hL, Nat.le_refl _⟩, hd⟩
theorem gw_tup {K : PySem.W.Frag} {L : Addr} {xs : List V} {k : Nat} {te : TE} {vs : List Nat} {σ : L2.St} {e : Bool} {Q : VK} {H2 : Hp} (hL : SqT K H2 L xs) (hw : ∀ x, wipe ((wipe σ vs).set k (some x)) vs = wipe σ vs)
    (hs : ∀ (i : Nat) (x : V) (Kt : VK), xs[i]? = some x → Kt (.bl e) H2 → te ((wipe σ vs).set k (some x)) H2 Kt) (hd : Q (.bl e) H2) :
    ∃ W : Nat → Nat → Hp → Prop, (∃ m, W 0 m H2) ∧ GW (Itt K L) (gName k) te vs σ e Q W := by
  refine ⟨fun i m H => m = xs.length - i ∧ i ≤ xs.length ∧ H = H2, ⟨xs.length, by simp, Nat.zero_le _, rfl⟩, ?_⟩
  rintro i m H ⟨rfl, hi, rfl⟩
  by_cases hlt : i < xs.length
  · refine .inr ⟨⟨xs, xs[i], hL, by simp [hlt]⟩, fun x H' y => ?_⟩
    obtain ⟨e1, y⟩ := y
    subst e1
    refine ⟨hw _, ?_⟩
    exact hs i x _ (y xs hL) ⟨e, rfl, fun _ => ⟨xs.length - (i + 1), by omega, rfl, hlt, rfl⟩, fun z => absurd rfl z⟩
  · have e1 : i = xs.length := by omega
    subst e1
    exact .inl ⟨⟨xs, hL, Nat.le_refl _⟩, hd⟩
/-- .. for a in range(n) for b in range(a) -/
theorem gw2_rng {n ka kb : Nat} {te : TE} {vs : List Nat} {σ : L2.St} {e : Bool} {Q : VK} {H2 : Hp} (hn : n ≤ 100000) (h2 : ∀ x, ((wipe σ vs).set ka (some x))[ka]? = some (some x)) (w1 : ∀ x, wipe ((wipe σ vs).set ka (some x)) vs = wipe σ vs)
    (w2 : ∀ y x, wipe ((wipe ((wipe σ vs).set ka (some y)) [kb]).set kb (some x)) [kb] = wipe ((wipe σ vs).set ka (some y)) [kb])
    (hs : ∀ (i j : Nat) (Kt : VK), i < n → j < i → Kt (.bl e) H2 → te ((wipe ((wipe σ vs).set ka (some (.int (i : Int)))) [kb]).set kb (some (.int (j : Int)))) H2 Kt) (hd : Q (.bl e) H2) :
    ∃ W : Nat → Nat → Hp → Prop, (∃ m, W 0 m H2) ∧ GW2 (Itr 0 n) (gName ka) (iRng1 (tCons (tVar ka) tNil)) (gName kb) te vs [kb] σ e Q W := by
  have step : ∀ i, i < n → (n - i) * (n + 1) = (n - (i + 1)) * (n + 1) + n + 1 := fun i hi => by
    have : n - i = (n - (i + 1)) + 1 := by omega
    rw [this, Nat.succ_mul]
    omega
  refine ⟨fun i m H => m = (n - i) * (n + 1) ∧ i ≤ n ∧ H = H2, ⟨_, rfl, Nat.zero_le _, rfl⟩, ?_⟩
  rintro i m H ⟨rfl, hi, rfl⟩
  by_cases hlt : i < n
  · have st := step i hlt
    refine .inr ⟨hlt, fun x HH y => ?_⟩
    obtain ⟨e1, y⟩ := y
    subst e1 y
    refine ⟨w1 _, ?_⟩
    rw [Int.zero_add]
    refine ⟨_, h2 _, _, rfl, by omega, by omega, ?_⟩
    rw [Int.toNat_natCast]
    refine ⟨fun j k H' => k = (n - i) * (n + 1) - 1 - j ∧ j ≤ i ∧ H' = HH, ⟨_, ?_, rfl, Nat.zero_le _, rfl⟩, ?_⟩
    · omega
    rintro j k H' ⟨rfl, hj, rfl⟩
    by_cases hlj : j < i
    · refine .inr ⟨hlj, fun x H4 y => ?_⟩
      obtain ⟨e1, y⟩ := y
      subst e1 y
      refine ⟨w2 _ _, ?_⟩
      rw [Int.zero_add]
      exact hs i j _ hlt hlj ⟨e, rfl, fun _ => ⟨(n - i) * (n + 1) - 1 - (j + 1), by omega, rfl, hlj, rfl⟩, fun z => absurd rfl z⟩
    · have e1 : j = i := by omega
      subst e1
      exact .inl ⟨Nat.le_refl _, (n - (j + 1)) * (n + 1), by omega, by omega, rfl, hlt, rfl⟩
  · have e1 : i = n := by omega
    subst e1
    exact .inl ⟨Nat.le_refl _, hd⟩
/-- [e for x in l], l a list that the turns leave as it is -/
theorem lc_tupR {K : PySem.W.Frag} {L : Addr} {xs : List V} {k : Nat} {te : TE} {vs : List Nat} {σ : L2.St} {H1 : Hp} {D : Addr} {Qd : Hp → Prop} (R : Nat → V → Hp → Prop) (hD : H1 D = none) (hL : SqT K H1 L xs) (hLs : ∀ H, Same H1 H → SqT K H L xs)
    (NR : ∀ i v H H', But D H H' → R i v H → R i v H') (hn : xs.length ≤ 100000) (hw : ∀ x, wipe ((wipe σ vs).set k (some x)) vs = wipe σ vs)
    (hs : ∀ (i : Nat) (x : V) (H : Hp) (acc : List V) (Kt : VK), xs[i]? = some x → Same H1 H → H D = some (.lst acc) → (∀ y H4, Same H H4 → R i y H4 → Kt y H4) → te ((wipe σ vs).set k (some x)) H Kt)
    (hd : ∀ H rows, Same H1 H → H D = some (.lst rows) → rows.length = xs.length → (∀ (i : Nat) v, rows[i]? = some v → R i v H) → Qd H) :
    ∃ W : Nat → Nat → Hp → Prop, (∃ m, W 0 m (upd H1 D (.lst []))) ∧ ∀ i m H, W i m H →
      ((Itt K L).stop i H ∧ Qd H) ∨ ((Itt K L).go i H ∧ ∃ Nx : Hp → Prop, (∀ H', Nx H' → ∃ m', m' < m ∧ W (i + 1) m' H') ∧ ∀ x H', (Itt K L).yld i H x H' → gName k x (wipe σ vs) H' fun σ2 H2 => wipe σ2 vs = wipe σ vs ∧ tYes σ2 H2 fun b H3 =>
        if b = true then te σ2 H3 fun y H4 => ∃ acc, H4 D = some (.lst acc) ∧ acc.length < sizeLine ∧ Nx (upd H4 D (.lst (acc ++ [y]))) else Nx H3) := by
  refine lc_tup (fun i H => Same H1 H ∧ ∃ rows, H D = some (.lst rows) ∧ rows.length = i ∧ ∀ (j : Nat) v, rows[j]? = some v → R j v H) ⟨same_new (Same.refl _) hD, [], upd_same, rfl, fun j v e => by simp at e⟩ (fun i H _ ⟨s1, _⟩ => hLs H s1) (fun i x H hx ⟨s1, rows, e1, e2, e3⟩ => ?_) (fun H ⟨s1, rows, e1, e2, e3⟩ => hd H rows s1 e1 e2 e3)
  refine ⟨hw _, ?_⟩
  refine yes_then ?_
  refine iteT ?_
  have hi : i < xs.length := by
    rcases Nat.lt_or_ge i xs.length with h | h
    · exact h
    · rw [List.getElem?_eq_none h] at hx; cases hx
  refine hs i x H rows _ hx s1 e1 fun y H4 s4 r4 => ⟨rows, s4 _ _ e1, ?_, same_but hD (fun b o e => s4 b o (s1 b o e)) but_app, rows ++ [y], upd_same, by rw [List.length_append, e2]; rfl, fun j v e => ?_⟩
  · rw [e2]
    exact Nat.lt_of_lt_of_le hi (Nat.le_trans hn (by decide))
  · by_cases c : j < rows.length
    · rw [List.getElem?_append_left c] at e
      exact NR _ _ _ _ (But.trans (But.of s4) but_app) (e3 j v e)
    · rw [List.getElem?_append_right (by omega)] at e
      have hj : j = i := by
        have : j - rows.length < [y].length := by
          rcases Nat.lt_or_ge (j - rows.length) [y].length with h | h
          · exact h
          · rw [List.getElem?_eq_none h] at e; cases e
        have h1 : [y].length = 1 := rfl
        omega
      subst hj
      rw [e2, Nat.sub_self] at e
      have : y = v := by simpa using e
      subst this
      exact NR _ _ _ _ but_app r4
end Tb

set_option Elab.async false
set_option linter.all false
set_option maxRecDepth 100000
set_option maxHeartbeats 4000000
/-! An own error class below an own error class over ValueError, whose __init__ says super().__init__(..): its __init__ as a def. -/
namespace ExS
open PySem PySem.Spec PyProof.Rows L2 NdefX

/-- what the written part says of the class at C, the code object at cda and the cell at cc of its __init__ -/
structure SupC (P : Program) (K : PySem.W.Frag) (C cda cc : Addr) (qual : Str) : Prop where
  ox : OexC K C
  sup : PySem.W.ks_superIn K C C "__init__" = some (some (.builtin "ValueError.__init__"))
  vB : PySem.W.subIn K (.ref C) (.type "ValueError") = some true
  own : PySem.W.mroIn K C (.ref C) = some true
  opq : PySem.W.nsIn K cStatics "thirdparty.any" = some none
  cell : ∃ cl cld csl, K.lookup cc = some ⟨cl, cld, .cell (some (.ref C)), csl⟩
  code : ∃ (ccl : Value) (cdd : Option Addr) (vs : Array Value) (ccs : Array (Option Value)) (file : Str) (tf : Tok), K.lookup cda = some ⟨ccl, cdd, .fields vs, ccs⟩ ∧ vs[2]? = some (.str file tf) ∧ ((P.main.file : Str) == file) = true
  cin : PySem.W.codeIn K (.ref cda) qual = true
  top : (P.main.scope.names.lookup ("super" : Str)).isSome = false

section
variable {P : Program} {w : World} {K : PySem.W.Frag} {mg : Str → Option Value} {base : Heap}
/-- super().__init__(..) called: the method-wrapper at u of the exception at a -/
theorem call_sup {X : Cx} {pins : List (Addr × Obj)} {σ : L2.St} {H : Hp} {s : Shared} {a u C : Addr} {us : List Value} {A : Around} {E : Value → Shared → Prop} {Q : Value → Shared → Prop} (T : OexC X.K C) (I : Inv X pins σ H s) (e : H a = some (exo a C none))
    (hu : s.heap.get? u = some (PySem.W.kxs_mw "ValueError.__init__" a)) (hl : us.length ≤ sizeLine) (h : ∀ s', Inv X pins σ H s' → Q .none s') :
    wpAny (model X.prog X.w) A (call (.ref u) us) Q E s := by
  obtain ⟨nm, q, N, bs, bm, sn, sub, ab, col, dd, k0, k1, k2, k3, k5, hC, hbm⟩ := T.cls
  obtain ⟨t1, ho⟩ := exo_at I.hok e
  have hC' := I.kIn _ _ hC
  obtain ⟨hp, g, d, t, os⟩ := s
  refine wpAny_call (codeAny_of_tree ?_)
  show wpAny _ A.in1 (callAny (.ref u) ⟨us, []⟩) _ _ _
  simp only [callAny]
  refine wpAny_bind (wpAny_load hu ?_)
  simp only [PySem.W.kxs_mw, show (Value.type "method-wrapper" == Value.type "method" || Value.type "method-wrapper" == Value.type "builtin_function_or_method" || Value.type "method-wrapper" == Value.type "method-wrapper") = true by decide, if_true]
  refine PySem.W.KFB.if_so (by decide) ?_
  refine wpAny_bind (PySem.W.check_bound_init F.excBase_ValueError.toExcCallFacts hC' ho rfl ?_)
  refine wpAny_bind (wpAny_pure (wpAny_pure ?_))
  refine ⟨plainId_quiet F.excBase_ValueError.init.plain _, codeAny_builtin F.excBase_ValueError.initEntry ?_⟩
  refine PySem.W.exc_init_tree (cls := .ref C) (t0 := t1) (dv := none) (c2 := .none) (c3 := .none) (b4 := .bool false) ho hl fun h' k hx _ => ?_
  have J := I.write (t' := t) (x := a) (e := a) (o := exo a C none) (by rw [e]; exact True.intro) (.inl rfl) k ⟨_, hx⟩ (exo_ok hx)
  have eu : upd H a (exo a C none) = H := by
    funext b
    by_cases hb : b = a
    · rw [hb, upd_same, e]
    · rw [upd_ne hb]
  rw [eu] at J
  exact h _ J
/-- its __init__ as a def: super().__init__(arg); self.f = .. -/
theorem fn_sup {CX : CXT} {k : Nat} {f C cda cc : Addr} {name qual : Str} {params : Arguments} {scope : Scope} {dV kV doc pm ct oc : Value} {an od : Option Addr} {osl : Array (Option Value)} {p0 p1 p2 p3 p4 : Pos} {arg : Expr} {rest : List Stmt} {N : List Str} {sp : Sp} {ar : Arg}
    (S : SupC P K C cda cc qual) (hmg : mg "super" = none)
    (lk : K.lookup f = some ⟨oc, od, .func (PySem.W.fnX name qual params (.Expr (.Call (.Attribute (.Call (.Name "super" p0) [] [] p1) "__init__" p2) [arg] [] p3) p4 :: rest) scope [("__class__", cc)] dV kV doc pm an (.ref cda) ct), osl⟩)
    (NS : NScope N ["self", "code"] ["__class__"] scope) (hsup : scope.names.lookup ("super" : Str) = some .globalImplicit) (hp : (params.posonlyargs ++ params.args).head? = some ar) (har : ar.arg = "self")
    (len : ∀ vs H Q E, sp vs H Q E → vs.length = 2) {pl : Env → Sem Bool} (hev : ∀ env : Env, eval (.Call (.Attribute (.Call (.Name "super" p0) [] [] p1) "__init__" p2) [arg] [] p3) env = (do
      let ov ← attributeBase (.Call (.Name "super" p0) [] [] p1) "__init__" env (eval (.Call (.Name "super" p0) [] [] p1) env)
      standAt p2.atName
      let (f, first) ← holding [ov] (getMethod ov "__init__" (pl env))
      callWith p3 f first (backTo p3 (starEach [arg] env)) [])) (hsw : ∀ env : Env, swapsWith (.Call (.Attribute (.Call (.Name "super" p0) [] [] p1) "__init__" p2) [arg] [] p3) none p4.line env = pure false)
    (hst : ∀ env : Env, starEach [arg] env = (false, eval arg env) :: starEach [] env)
    (hbody : ∀ (A : Around) (outer : List Env) (s : Shared) (H : Hp) (vs : List V) (Q : VK) (E : XK) (X : Cx), X = ncx CX P w K mg base N ⟨name, qual, params, [], scope, [("__class__", cc)], cda⟩ f A outer s H E → Room k X.A → sp vs H Q E →
      ∃ (a : Addr) (c : V) (te : TE) (t2 : TS), vs = [.ref a, c] ∧ H a = some (exo a C none) ∧ PE X arg te ∧ PSs X rest t2 ∧ te (startF N vs [some (.ref C)]) H fun v H1 => [v].length ≤ 1000 ∧ H1 a = some (exo a C none) ∧ t2 { nx := fun _ H' => Q .non H', rt := Q } (startF N vs [some (.ref C)]) H1) :
    FnOk P w K mg base CX (k + 1) f (PySem.W.fnX name qual params (.Expr (.Call (.Attribute (.Call (.Name "super" p0) [] [] p1) "__init__" p2) [arg] [] p3) p4 :: rest) scope [("__class__", cc)] dV kV doc pm an (.ref cda) ct) ["self", "code"] sp := by
  refine ⟨len, fun A outer s H args us vs Q E hr e0 hb r hsp => ?_⟩
  have hl := len _ _ _ _ hsp
  have KX : K.In s.heap := e0.mod.kin.keeps fun b o e => (e0.bs b o e).1
  have lim : s.heap.NoLimit := e0.mod.nolimit.keeps fun b o e => (e0.bs b o e).1
  refine PySem.ks_codeAny_call_defAt hr.depth (KX _ _ lk) rfl lim (PySem.W.codeRec_of KX S.cin) rfl hb NS.nocell (fun ⟨n, _⟩ hy => NS.par n (List.of_mem_zip hy).1) (fun h₁ hns kp => ?_) NS.co NS.gen NS.kind
  obtain ⟨cl, cld, csl, hcell⟩ := S.cell
  have hH : H cc = none := (e0.bs cc _ (e0.mod.kin _ _ hcell)).2
  have C1 : CellsAt [("__class__", cc)] ["__class__"] [some (V.ref C)] s.heap H := by
    refine ⟨rfl, fun y c e => ?_, fun x y c e1 e2 => ?_, fun i y e => ?_⟩
    · have : c = cc := by
        unfold List.lookup at e
        split at e
        · exact (Option.some.inj e).symm
        · cases e
      subst this
      exact ⟨hH, _, _, KX _ _ hcell, rfl⟩
    · have key : ∀ z : Str, List.lookup z [(("__class__" : Str), cc)] = some c → z = ("__class__" : Str) := fun z e => by
        unfold List.lookup at e
        split at e
        · rename_i h
          exact beq_iff_eq.mp h
        · cases e
      rw [key x e1, key y e2]
    · cases i with
      | zero =>
        have : y = ("__class__" : Str) := by simpa using e.symm
        subst this
        refine ⟨cc, by simp [List.lookup], fun v hv => ⟨.ref C, ?_, _, KX _ _ hcell, rfl⟩⟩
        have : v = .ref C := by simpa using hv.symm
        subst this
        rfl
      | succ i => simp at e
  have I := inv_startN (CX := CX) (f := f) (E := E) (F := ⟨name, qual, params, [], scope, [("__class__", cc)], cda⟩) (tk := s.toks + ((["self", "code"] : List Str).zip us).length) NS hr.hd e0 hl r C1 hns kp
  obtain ⟨a, c, te, t2, ev, ha, pe, ps, hq⟩ := hbody A outer s H vs Q E _ rfl (hr.deeper _) hsp
  show PySem.wpAt (model P w) (A.deeper (envF ⟨name, qual, params, [], scope, [("__class__", cc)], cda⟩ f s.heap.objs.size)) (.func _ (envF ⟨name, qual, params, [], scope, [("__class__", cc)], cda⟩ f s.heap.objs.size)) (execs _ (envF ⟨name, qual, params, [], scope, [("__class__", cc)], cda⟩ f s.heap.objs.size)) _ _ _
  have hint : interactive (envF ⟨name, qual, params, [], scope, [("__class__", cc)], cda⟩ f s.heap.objs.size) = false := by
    show (scope.kind == .module && _) = false
    rw [NS.kind]
    rfl
  refine PySem.ks_wpAt_execs_cons (PySem.ks_wpAt_Expr_any (PySem.ks_wpAt_MethodCall ?_ (hev _)) hint (hsw _))
  obtain ⟨ccl, cdd, fvs, ccs, file, tf, hcode, hfv, hfile⟩ := S.code
  have KX1 : K.In h₁ := KX.keeps kp
  obtain ⟨nm, q, Nd, bs, bm, sn, sub, ab, col, dd, k0, k1, k2, k3, k5, hC, hbm⟩ := S.ox.cls
  have hC1 := KX1 _ _ hC
  have hcls : PySem.W.clsIn K C = some { name := nm, bases := bs, mro := .ref C :: bm, ns := Nd, qualname := q, hasDict := true, slotNames := sn, subclasses := sub, abstract := ab, collection := col, hasDel := false } := by unfold PySem.W.clsIn; rw [hC] <;> rfl
  have hkc : scope.names.lookup ("__class__" : Str) = some .free := NS.frk _ (by simp)
  have hka : scope.names.lookup ("self" : Str) = some .local := NS.par _ (by simp)
  refine PySem.ks_wpAt_super_base (env := envF ⟨name, qual, params, [], scope, [("__class__", cc)], cda⟩ f s.heap.objs.size) (ar := ar) (file := file) (tf := tf) hsup hkc (by decide) rfl (KX1 _ _ lk) rfl hp rfl (KX1 _ _ hcode) rfl hfv hfile S.top ?_
  obtain ⟨mb, hb1, hb2⟩ := e0.mod.blt
  have bk1 : ∀ b o, base.get? b = some o → h₁.get? b = some o := fun b o e => kp b o (e0.bs b o e).1
  refine PySem.W.ks_loadName_global NS.kind hsup (Calls.loadGlobal_builtin (e0.mod.glob.keeps bk1) hmg (hb1.keeps bk1) ((hb2 _ (by decide)).trans PyProof.Rows.Boot.«super») ⟨rfl, ?_⟩)
  refine wpAny_loadName_free NS.kind hkc rfl ⟨_, KX1 _ _ hcell, rfl⟩ ?_
  obtain ⟨t1, hoe⟩ := exo_at (P := P) (w := w) (H := H) (h := h₁) I.hok ha
  obtain ⟨m, hnsm, hloc⟩ := I.loc
  have hself : m ("self" : Str) = some (.ref a) := by
    obtain ⟨u, ru, hu⟩ := hloc 0 ("self" : Str) (.ref a) (by
      have z := congrArg (fun l : List Str => l[0]?) NS.pre
      have z2 : N[0]? = some ("self" : Str) := by simpa [List.getElem?_take] using z
      exact z2) (by rw [ev]; rfl) (.inl hka)
    obtain rfl : u = Value.ref a := ru
    rcases hu with ⟨_, z⟩ | ⟨z, _⟩
    · exact z
    · rcases z with z | z
      · exact absurd (show some NameKind.local = some NameKind.cell from hka.symm.trans z) (by decide)
      · exact absurd (show some NameKind.local = some NameKind.free from hka.symm.trans z) (by decide)
  rw [har]
  refine wpAny_loadName_local NS.kind hka hnsm hself ?_
  refine PySem.ks_wpAny_isType_cls hC1 rfl ⟨rfl, ?_⟩
  refine PySem.ks_wpAny_call_super hC1 rfl hoe rfl (fun c e => by cases e) (PySem.W.looks_mroIn KX1 S.own) (fun h₂ e2 k2 => ?_)
  have I2 := I.kept (t' := s.toks + ((["self", "code"] : List Str).zip us).length) k2
  have KX2 : K.In h₂ := KX1.keeps k2
  have hoe2 := k2 _ _ hoe
  have hI2 : PySem.W.Looks (model P w) h₂ (isInstance (.ref a) (.type "ValueError")) true := (show PySem.W.InstAt h₂ a _ C none from ⟨hoe2, rfl, rfl, trivial⟩).type.andThen (PySem.W.looks_subIn KX2 S.vB)
  have hne : a ≠ C := fun z => by
    rw [z, hC1] at hoe
    have z2 := congrArg Obj.data (Option.some.inj hoe)
    cases z2
  have hsupE : PySem.W.alongIn K "__init__" (((Value.ref C :: bm).dropWhile (· != .ref C)).drop 1) = some (some (.builtin "ValueError.__init__")) := by
    have z := S.sup
    unfold PySem.W.ks_superIn at z
    rw [hcls] at z
    exact z
  refine PySem.W.kxs_getMethod PySem.W.kxs_ValueError e2 (PySem.W.looks_opaque KX2 S.opq) (l₀ := .ref C :: bm) (fun A Q E s k q => wpAny_bind ((PySem.W.looks_clsIn KX2 hcls) A _ E s k (wpAny_pure q))) rfl KX2 hsupE hI2 hne (by decide) ?_
  have k3 : ∀ b o, h₂.get? b = some o → (h₂.push (PySem.W.kxs_mw "ValueError.__init__" a)).get? b = some o := fun b o e => Heap.get?_push_of_some _ e
  have I3 := I2.kept (t' := s.toks + ((["self", "code"] : List Str).zip us).length + 1) k3
  have hu : (h₂.push (PySem.W.kxs_mw "ValueError.__init__" a)).get? h₂.objs.size = some (PySem.W.kxs_mw "ValueError.__init__" a) := Heap.get?_push_size _ rfl
  have I4 := I3.pins_of (pins' := [(h₂.objs.size, PySem.W.kxs_mw "ValueError.__init__" a)]) fun p hp => by
    obtain rfl := List.mem_singleton.mp hp
    refine ⟨hu, I2.hok.fresh (Nat.le_refl _), Nat.ne_of_gt I2.lt, fun z => I2.nofs (Nat.le_refl _) z, fun v z => by cases z⟩
  show wpAny _ _ (callWith p3 (.ref h₂.objs.size) [] (backTo p3 (starEach [arg] _)) []) _ _ _
  rw [hst]
  refine PySem.W.kxs_callWith (i := "ValueError.__init__") (x := a) rfl (Calls.evalArgs_plain ?_)
  have hpa := (pa_cons pe pa_nil (hst _)).run p3 _ _ _ _ (fun vs' H1 => vs'.length ≤ 1000 ∧ H1 a = some (exo a C none) ∧ t2 { nx := fun _ H' => Q .non H', rt := Q } (startF N vs [some (.ref C)]) H1) I4 hq
  have est : starEach [arg] (ncx CX P w K mg base N ⟨name, qual, params, [], scope, [("__class__", cc)], cda⟩ f A outer s H E).env = _ := hst _
  rw [est] at hpa
  let env1 := envF ⟨name, qual, params, [], scope, [("__class__", cc)], cda⟩ f s.heap.objs.size
  let E1 := (ncx CX P w K mg base N ⟨name, qual, params, [], scope, [("__class__", cc)], cda⟩ f A outer s H E).xe
  have hpb : wpAny (model P w) (A.deeper env1) (spliced (backTo p3 ((false, eval arg env1) :: starEach [] env1))) (AP (ncx CX P w K mg base N ⟨name, qual, params, [], scope, [("__class__", cc)], cda⟩ f A outer s H E) [(h₂.objs.size, PySem.W.kxs_mw "ValueError.__init__" a)] (startF N vs [some (.ref C)]) (fun vs' H1 => vs'.length ≤ 1000 ∧ H1 a = some (exo a C none) ∧ t2 { nx := fun _ H' => Q .non H', rt := Q } (startF N vs [some (.ref C)]) H1)) E1 ⟨h₂.push (PySem.W.kxs_mw "ValueError.__init__" a), s.gens, s.drawn, s.toks + ((["self", "code"] : List Str).zip us).length + 1, s.os⟩ := hpa
  show wpAny (model P w) (A.deeper env1) (spliced (backTo p3 ((false, eval arg env1) :: starEach [] env1))) _ _ ⟨h₂.push (PySem.W.kxs_mw "ValueError.__init__" a), s.gens, s.drawn, s.toks + ((["self", "code"] : List Str).zip us).length + 1, s.os⟩
  refine wpAny_mono hpb (fun us' s1 h1 => ?_) fun e s' hs => hs
  obtain ⟨vs', H1, I5, r5, hl5, ha5, q5⟩ := h1
  have hu5 := (I5.pin (h₂.objs.size, PySem.W.kxs_mw "ValueError.__init__" a) (List.mem_append_right _ (List.mem_singleton.mpr rfl))).1
  refine ⟨hu5, ?_⟩
  refine call_sup (us := us') S.ox I5 ha5 hu5 (by rw [← r5.length, sizeLine_eq]; omega) fun s2 J => ?_
  refine wpAt_of_wpAny ?_
  refine wpAny_mono (ps.run [] s2 _ H1 _ (J.pins_of fun p hp => nomatch hp) q5) (fun fl s' hs => ?_) fun e s' hs => hs
  have fin : ∀ {σ' : L2.St} {H' : Hp} {v : V} {u : Value}, Inv (ncx CX P w K mg base N ⟨name, qual, params, [], scope, [("__class__", cc)], cda⟩ f A outer s H E) [] σ' H' s' → L2.RelV v u → Q v H' → CE outer P w H s Q u s' :=
    fun {σ' H' v u} J rv q => ⟨v, H', J.os, J.bare, J.base, J.hok, rv, q⟩
  cases fl with
  | ret u =>
    obtain ⟨v, σ', H', J, rv, q⟩ := hs
    exact fin J rv q
  | next =>
    obtain ⟨σ', H', J, q⟩ := hs
    exact fin (v := V.non) (u := Value.none) J rfl q
  | brk =>
    obtain ⟨_, _, _, q⟩ := hs
    exact False.elim q
  | cont =>
    obtain ⟨_, _, _, q⟩ := hs
    exact False.elim q
/-! ### C(text) raised -/
/-- the promise of such an __init__: self.code = code -/
def spXI (C : Addr) : Sp := fun vs H Q _ => ∃ (a : Addr) (c : Str), vs = [.ref a, .str c] ∧ c.length ≤ 1000 ∧ H a = some (exo a C none) ∧ ∀ dx, H dx = none → dx ≠ a → Q .non (upd (upd H dx (exd dx [("code", .str c)])) a (exo a C (some dx)))
structure RaiX (P : Program) (w : World) (K : PySem.W.Frag) (mg : Str → Option Value) (base : Heap) (k : Nat) (x : Str) (C : Addr) : Prop where
  ex : ∃ (f : Addr) (fd : FuncData), OexC K C ∧ PySem.W.findIn K (.ref C) "__init__" = some (some (.ref f)) ∧ PySem.W.typeIn K (.ref f) = some (.type "function") ∧ FnOk P w K mg base (L2.CX P w) k f fd ["self", "code"] (spXI C) ∧ Binds K fd ["self", "code"] [] ∧ mg x = some (.ref C)
def tRai (C : Addr) (t : TA) : L2.St → Hp → XK → Prop := fun σ H Q => t σ H fun vs H1 => ∃ c : Str, vs = [.str c] ∧ c.length ≤ 1000 ∧ ∀ d, H1 d = none → Q (.ref C) (some d) (upd H1 d (.xd [("code", .str c)]))
theorem pmk_rai {X : Cx} {k j : Nat} {x : Str} {C : Addr} {e : Expr} {es : List Expr} {t : TA} {p pos : Pos} (R : RaiX X.prog X.w X.K X.mg X.base k x C) (hr : Room j X.A) (hk : k + 1 ≤ j) (hg : Gl X x) (ha : PA X (e :: es) t)
    (hdb : (x == ("__debug__" : Str)) = false := by decide) (he : starEach (e :: es) X.env = (false, eval e X.env) :: starEach es X.env := by rfl) (hpl : (backTo pos (starEach es X.env)).any (·.1) = false := by rfl) :
    PMk X (.Call (.Name x p) (e :: es) [] pos) (tRai C t) := by
  obtain ⟨f, fd, T, iC, tI, F1, b, hm⟩ := R.ex
  intro pins s σ H Q I h
  have ha' : PA X (e :: es) (fun σ H Q' => ∃ Q, t σ H Q ∧ ∀ vs H1, Q vs H1 → Q' vs H1) :=
    ⟨fun pos pins s σ H Q' I ⟨Q, h, m⟩ => thn (ha.run pos pins s σ H Q I h) fun us s1 ⟨vs, H1, I1, r, q⟩ => ⟨vs, H1, I1, r, m _ _ q⟩⟩
  refine pmk_oex (sp := spXI C) (dvs := []) (CX := L2.CX X.prog X.w) T iC tI F1 (hr.mono hk) b .nil (fun _ _ _ _ _ _ _ c => ?_) hg hm ha' hdb he hpl pins s σ H Q I ⟨_, h, fun vs H1 q => ?_⟩
  · obtain ⟨_, _, _, _, _, _, _, _, _, _, _, _, z⟩ := c
    exact z.elim
  · obtain ⟨c, rfl, hc, q⟩ := q
    refine ⟨by simp, fun a ha0 => ⟨a, c, rfl, hc, upd_same, fun dx hd hda => ⟨rfl, dx, [("code", .str c)], upd_same, ?_, ?_, ?_⟩⟩⟩
    · rw [upd_ne hda, upd_same]
    · rw [upd_ne hda] at hd
      exact hd
    · rw [upd_ne hda] at hd
      have e : upd (del (upd (upd (upd H1 a (exo a C none)) dx (exd dx [("code", .str c)])) a (exo a C (some dx))) a) dx (.xd [("code", .str c)]) = upd H1 dx (.xd [("code", .str c)]) := by
        funext b
        by_cases h1 : b = dx
        · rw [h1, upd_same, upd_same]
        · rw [upd_ne h1, upd_ne h1]
          by_cases h2 : b = a
          · rw [h2, del_same, ha0]
          · rw [del_ne h2, upd_ne h2, upd_ne h1, upd_ne h2]
      rw [e]
      exact q dx hd
end
/-! ### isinstance(e, C) of what a suite holds, with or without a dict -/
def rIsEX (K : PySem.W.Frag) (a : Addr) (cls : Value) (d : Option Addr) : List V → Hp → VK → Prop := fun xs H Q => ∃ D, cls = .ref D ∧ ExcC K D ∧ (d = none ∨ ∃ (dd : Addr) (fs : List (Str × V)), d = some dd ∧ H dd = some (.xd fs)) ∧ rIsE K D a xs H Q
theorem call_isEX {X : Cx} {a : Addr} {oe : Obj} {pn : List (Addr × Obj)} {cls : Value} {d : Option Addr} (hz : Zc cls d oe) (hf : ∃ vs, oe.data = .fields vs) : CallR (X.suite a ((a, oe) :: pn)) (.builtin "isinstance") (rIsEX X.K a cls d) := by
  intro pins s σ H xs us Q I r h
  obtain ⟨D, rfl, C, hd, h⟩ := h
  rcases hd with rfl | ⟨dd, fs, rfl, ea⟩
  · exact call_isE C hz hf pins s σ H xs us Q I r h
  obtain ⟨c, cv, b, rfl, hcv, e, q⟩ := h
  cases r with
  | cons rx rr =>
    cases rr with
    | cons rt rr =>
      cases rr
      cases rx
      have ec := hcv _ rt
      subst ec
      obtain ⟨hget, _⟩ := I.pin (a, oe) (List.mem_append.mpr (.inl List.mem_cons_self))
      obtain ⟨vs, hv⟩ := hf
      have hx : ObjOk X.prog X.w H s.heap dd (.xd fs) := I.hok dd _ ea
      obtain ⟨mA, hns, hr⟩ := hx
      obtain ⟨od, ho, hl⟩ := lookIn_ns hns
      have J : PySem.W.InstAt s.heap a oe D (some od) := by
        obtain ⟨oc, odx, oda, osl⟩ := oe
        obtain ⟨h1, h2⟩ := hz
        dsimp only at h1 h2 hv
        subst h1 h2 hv
        exact ⟨hget, rfl, rfl, ho⟩
      have hcl : (PySem.W.clsIn X.K D).isSome = true := by
        obtain ⟨cd, hc, _⟩ := PySem.W.any_some C.hd
        rw [hc]
        rfl
      exact PySem.W.kia_one (PySem.W.kitx_exc hcl C.hg C.hk C.hs C.ha C.hn C.ht C.hm) I.kIn J e (fun z => nomatch z) fun tk => ⟨.bl b, H, I.kept (t' := tk) fun _ _ z => z, rfl, q⟩
end ExS

set_option Elab.async false
set_option linter.all false
set_option maxRecDepth 100000
set_option maxHeartbeats 4000000
/-! all(..), any(..) whose turns may end it; tables of any form. -/
namespace Tb
open PySem PySem.Spec PyProof.Rows L2 Ew EwG GxR
theorem ne_not {a e : Bool} (h : a ≠ e) : a = !e := by cases a <;> cases e <;> simp_all
theorem gwb_rng {n k : Nat} {te : TE} {vs : List Nat} {σ : L2.St} {e : Bool} {Q : VK} {H2 : Hp} (b : Nat → Bool) (hw : ∀ x, wipe ((wipe σ vs).set k (some x)) vs = wipe σ vs)
    (hs : ∀ (i : Nat) (Kt : VK), i < n → Kt (.bl (b i)) H2 → te ((wipe σ vs).set k (some (.int (i : Int)))) H2 Kt) (hd : (∀ i, i < n → b i = e) → Q (.bl e) H2) (hx : ∀ i, i < n → b i = (!e) → Q (.bl (!e)) H2) :
    ∃ W : Nat → Nat → Hp → Prop, (∃ m, W 0 m H2) ∧ GW (Itr 0 n) (gName k) te vs σ e Q W := by
  refine ⟨fun i m H => m = n - i ∧ i ≤ n ∧ H = H2 ∧ ∀ j, j < i → b j = e, ⟨n, by simp, Nat.zero_le _, rfl, fun j h => absurd h (Nat.not_lt_zero _)⟩, ?_⟩
  rintro i m H ⟨rfl, hi, rfl, ha⟩
  by_cases hlt : i < n
  · refine .inr ⟨hlt, fun x H' y => ?_⟩
    obtain ⟨e1, y⟩ := y
    subst e1 y
    refine ⟨hw _, ?_⟩
    rw [Int.zero_add]
    refine hs i _ hlt ⟨b i, rfl, fun z => ⟨n - (i + 1), by omega, rfl, hlt, rfl, fun j hj => ?_⟩, fun z => ?_⟩
    · by_cases h : j < i
      · exact ha j h
      · rw [show j = i by omega]; exact z
    · have z' := ne_not z
      rw [z']
      exact hx i hlt z'
  · have e1 : i = n := by omega
    subst e1
    exact .inl ⟨Nat.le_refl _, hd ha⟩
theorem gwb_tup {K : PySem.W.Frag} {L : Addr} {xs : List V} {k : Nat} {te : TE} {vs : List Nat} {σ : L2.St} {e : Bool} {Q : VK} {H2 : Hp} (b : Nat → Bool) (hL : SqT K H2 L xs) (hw : ∀ x, wipe ((wipe σ vs).set k (some x)) vs = wipe σ vs)
    (hs : ∀ (i : Nat) (x : V) (Kt : VK), xs[i]? = some x → Kt (.bl (b i)) H2 → te ((wipe σ vs).set k (some x)) H2 Kt) (hd : (∀ i, i < xs.length → b i = e) → Q (.bl e) H2) (hx : ∀ i, i < xs.length → b i = (!e) → Q (.bl (!e)) H2) :
    ∃ W : Nat → Nat → Hp → Prop, (∃ m, W 0 m H2) ∧ GW (Itt K L) (gName k) te vs σ e Q W := by
  refine ⟨fun i m H => m = xs.length - i ∧ i ≤ xs.length ∧ H = H2 ∧ ∀ j, j < i → b j = e, ⟨xs.length, by simp, Nat.zero_le _, rfl, fun j h => absurd h (Nat.not_lt_zero _)⟩, ?_⟩
  rintro i m H ⟨rfl, hi, rfl, ha⟩
  by_cases hlt : i < xs.length
  · refine .inr ⟨⟨xs, xs[i], hL, by simp [hlt]⟩, fun x H' y => ?_⟩
    obtain ⟨e1, y⟩ := y
    subst e1
    refine ⟨hw _, ?_⟩
    refine hs i x _ (y xs hL) ⟨b i, rfl, fun z => ⟨xs.length - (i + 1), by omega, rfl, hlt, rfl, fun j hj => ?_⟩, fun z => ?_⟩
    · by_cases h : j < i
      · exact ha j h
      · rw [show j = i by omega]; exact z
    · have z' := ne_not z
      rw [z']
      exact hx i hlt z'
  · have e1 : i = xs.length := by omega
    subst e1
    exact .inl ⟨⟨xs, hL, Nat.le_refl _⟩, hd ha⟩
theorem gwb_lst {K : PySem.W.Frag} {L : Addr} {xs : List V} {k : Nat} {te : TE} {vs : List Nat} {σ : L2.St} {e : Bool} {Q : VK} {H2 : Hp} (b : Nat → Bool) (hL : SqL K H2 L xs) (hw : ∀ x, wipe ((wipe σ vs).set k (some x)) vs = wipe σ vs)
    (hs : ∀ (i : Nat) (x : V) (Kt : VK), xs[i]? = some x → Kt (.bl (b i)) H2 → te ((wipe σ vs).set k (some x)) H2 Kt) (hd : (∀ i, i < xs.length → b i = e) → Q (.bl e) H2) (hx : ∀ i, i < xs.length → b i = (!e) → Q (.bl (!e)) H2) :
    ∃ W : Nat → Nat → Hp → Prop, (∃ m, W 0 m H2) ∧ GW (Itl K L) (gName k) te vs σ e Q W := by
  refine ⟨fun i m H => m = xs.length - i ∧ i ≤ xs.length ∧ H = H2 ∧ ∀ j, j < i → b j = e, ⟨xs.length, by simp, Nat.zero_le _, rfl, fun j h => absurd h (Nat.not_lt_zero _)⟩, ?_⟩
  rintro i m H ⟨rfl, hi, rfl, ha⟩
  by_cases hlt : i < xs.length
  · refine .inr ⟨⟨xs, xs[i], hL, by simp [hlt]⟩, fun x H' y => ?_⟩
    obtain ⟨e1, y⟩ := y
    subst e1
    refine ⟨hw _, ?_⟩
    refine hs i x _ (y xs hL) ⟨b i, rfl, fun z => ⟨xs.length - (i + 1), by omega, rfl, hlt, rfl, fun j hj => ?_⟩, fun z => ?_⟩
    · by_cases h : j < i
      · exact ha j h
      · rw [show j = i by omega]; exact z
    · have z' := ne_not z
      rw [z']
      exact hx i hlt z'
  · have e1 : i = xs.length := by omega
    subst e1
    exact .inl ⟨⟨xs, hL, Nat.le_refl _⟩, hd ha⟩
/-- .. for a in range(n) for b in range(a) -/
theorem gwb2_rng {n ka kb : Nat} {te : TE} {vs : List Nat} {σ : L2.St} {e : Bool} {Q : VK} {H2 : Hp} (c : Nat → Nat → Bool) (hn : n ≤ 100000) (h2 : ∀ x, ((wipe σ vs).set ka (some x))[ka]? = some (some x)) (w1 : ∀ x, wipe ((wipe σ vs).set ka (some x)) vs = wipe σ vs)
    (w2 : ∀ y x, wipe ((wipe ((wipe σ vs).set ka (some y)) [kb]).set kb (some x)) [kb] = wipe ((wipe σ vs).set ka (some y)) [kb])
    (hs : ∀ (i j : Nat) (Kt : VK), i < n → j < i → Kt (.bl (c i j)) H2 → te ((wipe ((wipe σ vs).set ka (some (.int (i : Int)))) [kb]).set kb (some (.int (j : Int)))) H2 Kt) (hd : (∀ i j, i < n → j < i → c i j = e) → Q (.bl e) H2) (hx : ∀ i j, i < n → j < i → c i j = (!e) → Q (.bl (!e)) H2) :
    ∃ W : Nat → Nat → Hp → Prop, (∃ m, W 0 m H2) ∧ GW2 (Itr 0 n) (gName ka) (iRng1 (tCons (tVar ka) tNil)) (gName kb) te vs [kb] σ e Q W := by
  have step : ∀ i, i < n → (n - i) * (n + 1) = (n - (i + 1)) * (n + 1) + n + 1 := fun i hi => by
    have : n - i = (n - (i + 1)) + 1 := by omega
    rw [this, Nat.succ_mul]
    omega
  refine ⟨fun i m H => m = (n - i) * (n + 1) ∧ i ≤ n ∧ H = H2 ∧ ∀ a b, a < i → b < a → c a b = e, ⟨_, rfl, Nat.zero_le _, rfl, fun a b h => absurd h (Nat.not_lt_zero _)⟩, ?_⟩
  rintro i m H ⟨rfl, hi, rfl, ha⟩
  by_cases hlt : i < n
  · have st := step i hlt
    refine .inr ⟨hlt, fun x HH y => ?_⟩
    obtain ⟨e1, y⟩ := y
    subst e1 y
    refine ⟨w1 _, ?_⟩
    rw [Int.zero_add]
    refine ⟨_, h2 _, _, rfl, by omega, by omega, ?_⟩
    rw [Int.toNat_natCast]
    refine ⟨fun j k H' => k = (n - i) * (n + 1) - 1 - j ∧ j ≤ i ∧ H' = HH ∧ ∀ b, b < j → c i b = e, ⟨_, ?_, rfl, Nat.zero_le _, rfl, fun b h => absurd h (Nat.not_lt_zero _)⟩, ?_⟩
    · omega
    rintro j k H' ⟨rfl, hj, rfl, hb⟩
    by_cases hlj : j < i
    · refine .inr ⟨hlj, fun x H4 y => ?_⟩
      obtain ⟨e1, y⟩ := y
      subst e1 y
      refine ⟨w2 _ _, ?_⟩
      rw [Int.zero_add]
      refine hs i j _ hlt hlj ⟨c i j, rfl, fun z => ⟨(n - i) * (n + 1) - 1 - (j + 1), by omega, rfl, hlj, rfl, fun b hb' => ?_⟩, fun z => ?_⟩
      · by_cases h : b < j
        · exact hb b h
        · rw [show b = j by omega]; exact z
      · have z' := ne_not z
        rw [z']
        exact hx i j hlt hlj z'
    · have e1 : j = i := by omega
      subst e1
      refine .inl ⟨Nat.le_refl _, (n - (j + 1)) * (n + 1), by omega, by omega, rfl, hlt, rfl, fun a b h1 h2 => ?_⟩
      by_cases h : a < j
      · exact ha a b h h2
      · rw [show a = j by omega] at h2 ⊢
        exact hb b h2
  · have e1 : i = n := by omega
    subst e1
    exact .inl ⟨Nat.le_refl _, hd fun a b h1 h2 => ha a b h1 h2⟩
/-- a tuple of tuples of ints -/
def RR (H : Hp) (p : Addr) (P : List (List Int)) : Prop := ∃ rows : List V, H p = some (.tup rows) ∧ rows.length = P.length ∧ ∀ (i : Nat) row, P[i]? = some row → ∃ r, rows[i]? = some (.ref r) ∧ H r = some (.tup (row.map V.int))
theorem RR.same {H H' : Hp} {p : Addr} {P : List (List Int)} (x : RR H p P) (s : ∀ b xs, H b = some (.tup xs) → H' b = some (.tup xs)) : RR H' p P := by
  obtain ⟨rows, e1, e2, e3⟩ := x
  refine ⟨rows, s _ _ e1, e2, fun i row h => ?_⟩
  obtain ⟨r, h1, h2⟩ := e3 i row h
  exact ⟨r, h1, s _ _ h2⟩
theorem RR.len {H : Hp} {p : Addr} {P : List (List Int)} (x : RR H p P) : ∃ rows, H p = some (.tup rows) ∧ rows.length = P.length := by
  obtain ⟨rows, e1, e2, e3⟩ := x
  exact ⟨rows, e1, e2⟩
theorem RR.at {H : Hp} {p : Addr} {P : List (List Int)} {rows : List V} {i : Nat} {v : V} (x : RR H p P) (e : H p = some (.tup rows)) (h : rows[i]? = some v) : ∃ r row, v = .ref r ∧ P[i]? = some row ∧ H r = some (.tup (row.map V.int)) := by
  obtain ⟨rows', e1, e2, e3⟩ := x
  rw [e] at e1
  cases e1
  have hi : i < P.length := by
    rcases Nat.lt_or_ge i rows.length with h' | h'
    · omega
    · rw [List.getElem?_eq_none h'] at h; cases h
  obtain ⟨r, h1, h2⟩ := e3 i P[i] (List.getElem?_eq_getElem hi)
  rw [h] at h1
  cases h1
  exact ⟨r, _, rfl, List.getElem?_eq_getElem hi, h2⟩
/-- both tables' rows, one behind the other -/
theorem RR.app {H : Hp} {p m q : Addr} {P T : List (List Int)} {rp rm : List V} (x : RR H p P) (y : RR H m T) (ep : H p = some (.tup rp)) (em : H m = some (.tup rm)) (eq : H q = some (.tup (rp ++ rm))) : RR H q (P ++ T) := by
  obtain ⟨rp', a1, a2, a3⟩ := x
  obtain ⟨rm', b1, b2, b3⟩ := y
  rw [ep] at a1
  cases a1
  rw [em] at b1
  cases b1
  refine ⟨_, eq, by rw [List.length_append, List.length_append, a2, b2], fun i row h => ?_⟩
  by_cases c : i < P.length
  · rw [List.getElem?_append_left c] at h
    rw [List.getElem?_append_left (by omega)]
    exact a3 i row h
  · rw [List.getElem?_append_right (by omega)] at h
    rw [List.getElem?_append_right (by omega), a2]
    exact b3 _ row h
/-- the entry at a, b -/
def fnI (P : List (List Int)) (a b : Nat) : Int := (P.getD a []).getD b 0
def fnN (P : List (List Int)) (a b : Nat) : Nat := (fnI P a b).toNat
theorem RR.tt {H : Hp} {p : Addr} {P : List (List Int)} (x : RR H p P) (hl : ∀ row ∈ P, row.length = P.length) : TT H p P.length (fnI P) := by
  obtain ⟨rows, e1, e2, e3⟩ := x
  refine ⟨rows, e1, e2, fun i hi => ?_⟩
  obtain ⟨r, h1, h2⟩ := e3 i P[i] (List.getElem?_eq_getElem hi)
  refine ⟨r, h1, ?_⟩
  have hrow := hl P[i] (List.getElem_mem hi)
  have : P[i].map V.int = (List.range P.length).map fun j => V.int (fnI P i j) := by
    refine ext_of (by rw [List.length_map, hrow]) fun j v hv => ?_
    rw [List.getElem?_map] at hv
    cases hj : P[i][j]? with
    | none => rw [hj] at hv; cases hv
    | some z =>
      rw [hj] at hv
      have hv' : V.int z = v := Option.some.inj hv
      rw [← hv']
      unfold fnI
      rw [List.getD_eq_getElem?_getD, List.getD_eq_getElem?_getD, List.getElem?_eq_getElem hi]
      show V.int z = V.int (P[i][j]?.getD 0)
      rw [hj]
      rfl
  rw [this] at h2
  exact h2
theorem TT.congr {H : Hp} {p : Addr} {n : Nat} {F G : Nat → Nat → Int} (x : TT H p n F) (h : ∀ i j, i < n → j < n → F i j = G i j) : TT H p n G := by
  obtain ⟨rows, e1, e2, e3⟩ := x
  refine ⟨rows, e1, e2, fun i hi => ?_⟩
  obtain ⟨r, h1, h2⟩ := e3 i hi
  refine ⟨r, h1, h2.trans (congrArg (fun l => some (HO.tup l)) (List.map_congr_left fun j hj => ?_))⟩
  rw [h i j hi (List.mem_range.mp hj)]
theorem fn_mem {P : List (List Int)} {n i j : Nat} (hP : P.length = n) (hl : ∀ row ∈ P, row.length = n) (hi : i < n) (hj : j < n) : ∃ row, row ∈ P ∧ fnI P i j ∈ row := by
  have h1 : i < P.length := by omega
  have hr := hl P[i] (List.getElem_mem h1)
  refine ⟨P[i], List.getElem_mem h1, ?_⟩
  unfold fnI
  rw [List.getD_eq_getElem?_getD, List.getD_eq_getElem?_getD, List.getElem?_eq_getElem h1]
  show (P[i][j]?).getD 0 ∈ P[i]
  rw [List.getElem?_eq_getElem (by omega)]
  exact List.getElem_mem _
end Tb

set_option Elab.async false
set_option linter.all false
set_option maxRecDepth 100000
set_option maxHeartbeats 4000000
/-! tuple * 1: the tuple itself. -/
namespace Ew
open PySem PySem.Spec PyProof.Rows L2
theorem tuple_mulW1 (l : Addr) (items : Array Value) (n : Nat) (dd : Option Addr) (sl : Array (Option Value)) (u : Tok) :
    Meets (Builtin.«tuple.__mul__» ⟨[.ref l, .int 1 u], []⟩) (fun _ R s => s.heap.get? l = some { cls := .type "tuple", dict := dd, data := .seq items n, slots := sl } ∧ R (.ok (.ret (Value.ref l))) s) :=
  .of_wp fun prog w A R s h => by
    obtain ⟨hp, g, d, tk, os⟩ := s
    obtain ⟨hl, h⟩ := h
    have f1 := AutoSeq1.idx_int
    have c1 : (items.isEmpty || (1 : Int) == 1) = true := by simp
    wp_walk using wpAny_loadPart' hl
    repeat (first
      | (refine wpAny_ite_false (decide_eq_false (by decide)) ?_; wp_walk using wpAny_loadPart' hl)
      | (refine wpAny_ite_true (decide_eq_true (by simp)) ?_; wp_walk using wpAny_loadPart' hl))
    exact ⟨_, rfl, h⟩
def rRepT1 (K : PySem.W.Frag) : R2 := fun x y H Q => ∃ l xs, x = .ref l ∧ y = .int 1 ∧ SqT K H l xs ∧ Q (.ref l) H
theorem op_repT1 {X : Cx} : OpR X (binaryOp .Mult) (rRepT1 X.K) := by
  intro pins s σ H x y v u Q I rx ry h
  obtain ⟨l, xs, rfl, rfl, hT, q⟩ := h
  cases rx
  obtain ⟨t, rfl⟩ := ry
  obtain ⟨its, r, ⟨⟨cls, dd, data, sl⟩, ho, hc, n, hd⟩, hs⟩ := I.tuple hT
  simp only at hc hd
  subst hc hd
  refine wpAny_binaryOp_repeat_ref (T := "tuple") (U := "int") (by decide) ⟨_, ho, rfl⟩ (fun s' => typeIs_int s' 1 t) noFill_tuple_mul F.fills_int_mul F.slot_int_rmul repeat_tuple F.slot_int_index.lookup
    (call_meets F.slot_int_rmul (typeIs_int s 1 t) F.entry_int_rmul (F.args_int_rmul_2 _ _) (int_rmul_tuple 1 t l its.toArray n dd sl)
      ⟨ho, rfl, ⟨_, ho, rfl⟩, call_meets F.slot_tuple_mul ⟨_, ho, rfl⟩ F.entry_tuple_mul (F.args_tuple_mul_2 _ _) (tuple_mulW1 l its.toArray n dd sl t) ⟨ho, ?_⟩⟩)
  exact ⟨.ref l, H, I, rfl, q⟩
end Ew

set_option Elab.async false
set_option linter.all false
set_option maxRecDepth 100000
set_option maxHeartbeats 4000000
namespace K05
open PySem L2 Ew
def topS (i : Nat) : Stmt := PySem.Challenge.pw_everyworth_k05_finite_semirings.main.body.getD i (.Pass ⟨0, 0, 0, 0⟩)
abbrev s_is_integer : Stmt := (topS 5)
theorem sc_is_integer : FnScope ["thing"] ["thing"] (defScope s_is_integer) := ⟨rfl, rfl, rfl, by decide +kernel, rfl, by decide +kernel, by decide +kernel⟩
abbrev s_is_between : Stmt := (topS 6)
theorem sc_is_between : FnScope ["thing", "low", "high"] ["thing", "low", "high"] (defScope s_is_between) := ⟨rfl, rfl, rfl, by decide +kernel, rfl, by decide +kernel, by decide +kernel⟩
abbrev s_Finite_init : Stmt := (inClass (topS 9) 0)
theorem sc_Finite_init : FnScope ["self", "plus_table", "times_table", "one", "stars", "plus", "times", "told", "code"] ["self", "plus_table", "times_table", "one", "stars"] (defScope s_Finite_init) := ⟨rfl, rfl, rfl, by decide +kernel, rfl, by decide +kernel, by decide +kernel⟩
abbrev s_Finite_zero : Stmt := (inClass (topS 9) 1)
theorem sc_Finite_zero : FnScope ["self"] ["self"] (defScope s_Finite_zero) := ⟨rfl, rfl, rfl, by decide +kernel, rfl, by decide +kernel, by decide +kernel⟩
abbrev s_Finite_one : Stmt := (inClass (topS 9) 2)
theorem sc_Finite_one : FnScope ["self"] ["self"] (defScope s_Finite_one) := ⟨rfl, rfl, rfl, by decide +kernel, rfl, by decide +kernel, by decide +kernel⟩
abbrev s_Finite_plus : Stmt := (inClass (topS 9) 3)
theorem sc_Finite_plus : FnScope ["self", "a", "b"] ["self", "a", "b"] (defScope s_Finite_plus) := ⟨rfl, rfl, rfl, by decide +kernel, rfl, by decide +kernel, by decide +kernel⟩
abbrev s_Finite_times : Stmt := (inClass (topS 9) 4)
theorem sc_Finite_times : FnScope ["self", "a", "b"] ["self", "a", "b"] (defScope s_Finite_times) := ⟨rfl, rfl, rfl, by decide +kernel, rfl, by decide +kernel, by decide +kernel⟩
abbrev s_Finite_star : Stmt := (inClass (topS 9) 5)
theorem sc_Finite_star : FnScope ["self", "a", "star"] ["self", "a"] (defScope s_Finite_star) := ⟨rfl, rfl, rfl, by decide +kernel, rfl, by decide +kernel, by decide +kernel⟩
abbrev s_Finite_is_element : Stmt := (inClass (topS 9) 6)
theorem sc_Finite_is_element : FnScope ["self", "a"] ["self", "a"] (defScope s_Finite_is_element) := ⟨rfl, rfl, rfl, by decide +kernel, rfl, by decide +kernel, by decide +kernel⟩
abbrev s_Finite_size : Stmt := (inClass (topS 9) 7)
theorem sc_Finite_size : FnScope ["self"] ["self"] (defScope s_Finite_size) := ⟨rfl, rfl, rfl, by decide +kernel, rfl, by decide +kernel, by decide +kernel⟩
abbrev s_copied : Stmt := (topS 10)
theorem sc_copied : FnScope ["table", "row"] ["table"] (defScope s_copied) := ⟨rfl, rfl, rfl, by decide +kernel, rfl, by decide +kernel, by decide +kernel⟩
abbrev s_first_failure : Stmt := (topS 11)
theorem sc_first_failure : FnScope ["plus", "times", "one", "stars"] ["plus", "times", "one", "stars"] (defScope s_first_failure) := ⟨rfl, rfl, rfl, by decide +kernel, rfl, by decide +kernel, by decide +kernel⟩
abbrev s_sizes_fit : Stmt := (topS 12)
theorem sc_sizes_fit : FnScope ["plus", "times", "stars", "n", "row"] ["plus", "times", "stars"] (defScope s_sizes_fit) := ⟨rfl, rfl, rfl, by decide +kernel, rfl, by decide +kernel, by decide +kernel⟩
abbrev s_entries_fit : Stmt := (topS 13)
theorem sc_entries_fit : FnScope ["plus", "times", "one", "stars", "top", "entries", "told", "row", "entry", "star"] ["plus", "times", "one", "stars"] (defScope s_entries_fit) := ⟨rfl, rfl, rfl, by decide +kernel, rfl, by decide +kernel, by decide +kernel⟩
abbrev s_is_symmetric : Stmt := (topS 14)
theorem sc_is_symmetric : FnScope ["table", "n", "a", "b"] ["table"] (defScope s_is_symmetric) := ⟨rfl, rfl, rfl, by decide +kernel, rfl, by decide +kernel, by decide +kernel⟩
abbrev s_is_associative : Stmt := (topS 15)
theorem sc_is_associative : FnScope ["table", "n", "a", "b", "left", "c"] ["table"] (defScope s_is_associative) := ⟨rfl, rfl, rfl, by decide +kernel, rfl, by decide +kernel, by decide +kernel⟩
abbrev s_is_neutral : Stmt := (topS 16)
theorem sc_is_neutral : FnScope ["table", "number", "a"] ["table", "number"] (defScope s_is_neutral) := ⟨rfl, rfl, rfl, by decide +kernel, rfl, by decide +kernel, by decide +kernel⟩
abbrev s_is_distributive : Stmt := (topS 17)
theorem sc_is_distributive : FnScope ["plus", "times", "n", "a", "row", "b", "c"] ["plus", "times"] (defScope s_is_distributive) := ⟨rfl, rfl, rfl, by decide +kernel, rfl, by decide +kernel, by decide +kernel⟩
abbrev s_stars_fit : Stmt := (topS 18)
theorem sc_stars_fit : FnScope ["plus", "times", "one", "stars", "a", "star"] ["plus", "times", "one", "stars"] (defScope s_stars_fit) := ⟨rfl, rfl, rfl, by decide +kernel, rfl, by decide +kernel, by decide +kernel⟩
abbrev s_law_pot : Stmt := (topS 20)
theorem sc_law_pot : FnScope ["script", "seed", "cell"] ["script"] (defScope s_law_pot) := ⟨rfl, rfl, rfl, by decide +kernel, rfl, by decide +kernel, by decide +kernel⟩
abbrev s_law_next : Stmt := (topS 21)
theorem sc_law_next : FnScope ["pot", "limit", "cell", "found", "mixed"] ["pot", "limit"] (defScope s_law_next) := ⟨rfl, rfl, rfl, by decide +kernel, rfl, by decide +kernel, by decide +kernel⟩
abbrev s_law_family : Stmt := (topS 22)
theorem sc_law_family : FnScope ["pot", "kind", "small", "size", "plus", "a", "b"] ["pot", "kind", "small"] (defScope s_law_family) := ⟨rfl, rfl, rfl, by decide +kernel, rfl, by decide +kernel, by decide +kernel⟩
abbrev s_law_paired : Stmt := (topS 23)
theorem sc_law_paired : FnScope ["one", "other", "many", "pairs", "a", "plus", "times", "b"] ["one", "other"] (defScope s_law_paired) := ⟨rfl, rfl, rfl, by decide +kernel, rfl, by decide +kernel, by decide +kernel⟩
abbrev s_law_renamed : Stmt := (topS 24)
theorem sc_law_renamed : FnScope ["pot", "told", "size", "left", "names", "k", "back", "plus", "times", "a", "b"] ["pot", "told"] (defScope s_law_renamed) := ⟨rfl, rfl, rfl, by decide +kernel, rfl, by decide +kernel, by decide +kernel⟩
abbrev s_law_stars : Stmt := (topS 25)
theorem sc_law_stars : FnScope ["pot", "told", "plus", "times", "one", "found", "a", "fits", "drawn", "s"] ["pot", "told"] (defScope s_law_stars) := ⟨rfl, rfl, rfl, by decide +kernel, rfl, by decide +kernel, by decide +kernel⟩
abbrev s_law_ring : Stmt := (topS 26)
theorem sc_law_ring : FnScope ["pot", "kind", "told"] ["pot"] (defScope s_law_ring) := ⟨rfl, rfl, rfl, by decide +kernel, rfl, by decide +kernel, by decide +kernel⟩
abbrev s_law_is_ring : Stmt := (topS 27)
theorem sc_law_is_ring : FnScope ["ring", "plus", "times", "one", "stars", "size", "a", "b", "c"] ["ring"] (defScope s_law_is_ring) := ⟨rfl, rfl, rfl, by decide +kernel, rfl, by decide +kernel, by decide +kernel⟩
abbrev s_law_made : Stmt := (topS 28)
theorem sc_law_made : FnScope ["ring", "e"] ["ring"] (defScope s_law_made) := ⟨rfl, rfl, rfl, by decide +kernel, rfl, by decide +kernel, by decide +kernel⟩
abbrev s_law_group : Stmt := (topS 29)
theorem sc_law_group : FnScope ["table", "neutral", "codes", "size", "a", "b", "c"] ["table", "neutral", "codes"] (defScope s_law_group) := ⟨rfl, rfl, rfl, by decide +kernel, rfl, by decide +kernel, by decide +kernel⟩
abbrev s_law_code : Stmt := (topS 30)
theorem sc_law_code : FnScope ["ring", "plus", "times", "one", "stars", "size", "entries", "row", "code", "a", "b", "c", "entry"] ["ring"] (defScope s_law_code) := ⟨rfl, rfl, rfl, by decide +kernel, rfl, by decide +kernel, by decide +kernel⟩
abbrev s_law_changed : Stmt := (topS 31)
theorem sc_law_changed : FnScope ["pot", "ring", "plus", "times", "one", "stars", "size", "kind", "a", "b", "entry", "row"] ["pot", "ring"] (defScope s_law_changed) := ⟨rfl, rfl, rfl, by decide +kernel, rfl, by decide +kernel, by decide +kernel⟩
abbrev s_law_star : Stmt := (topS 32)
theorem sc_law_star : FnScope ["ring", "a", "e"] ["ring", "a"] (defScope s_law_star) := ⟨rfl, rfl, rfl, by decide +kernel, rfl, by decide +kernel, by decide +kernel⟩
abbrev s_law : Stmt := (topS 33)
theorem sc_law : FnScope ["script", "pot", "told", "ring", "a", "b", "k", "changed", "found", "due", "plain", "line", "thing"] ["script"] (defScope s_law) := ⟨rfl, rfl, rfl, by decide +kernel, rfl, by decide +kernel, by decide +kernel⟩
local macro_rules | `(tactic| walk_at "len") => `(tactic| first | (intro h; obtain ⟨_, e, _⟩ := h; rw [e]; rfl) | (intro h; obtain ⟨_, _, e, _⟩ := h; rw [e]; rfl) | (intro h; obtain ⟨_, _, _, e, _⟩ := h; rw [e]; rfl) | (intro h; obtain ⟨_, _, _, _, e, _⟩ := h; rw [e]; rfl) | (intro h; obtain ⟨_, _, _, _, _, e, _⟩ := h; rw [e]; rfl) | (intro h; obtain ⟨_, _, _, _, _, _, e, _⟩ := h; rw [e]; rfl) | (intro h; obtain ⟨_, _, _, _, _, _, _, e, _⟩ := h; rw [e]; rfl) | (intro h; obtain ⟨_, _, _, _, _, _, _, _, e, _⟩ := h; rw [e]; rfl) | (intro h; obtain ⟨_, _, _, _, _, _, _, _, _, e, _⟩ := h; rw [e]; rfl) | (intro h; exact h.elim))
structure Ad where
  WorthError : Addr
  NoStar : Addr
  AxiomError : Addr
  Finite : Addr
structure Txt (K : PySem.W.Frag) (mg : Str → Option Value) (ad : Ad) : Prop where
  z_isinstance : mg "isinstance" = none
  z_int : mg "int" = none
  z_bool : mg "bool" = none
  z_str : mg "str" = none
  z_list : mg "list" = none
  z_tuple : mg "tuple" = none
  z_min : mg "min" = none
  z_max : mg "max" = none
  z_abs : mg "abs" = none
  z_len : mg "len" = none
  z_range : mg "range" = none
  z_all : mg "all" = none
  z_any : mg "any" = none
  g_MOST_NUMBERS : ∃ t, mg "MOST_NUMBERS" = some (.int 32 t)
  g_WorthError : mg "WorthError" = some (.ref ad.WorthError)
  g_NoStar : mg "NoStar" = some (.ref ad.NoStar)
  x_NoStar : PySem.W.excIn K ad.NoStar [.type "ValueError", .type "Exception", .type "BaseException", .type "object"] "ValueError.__new__" = true
  k_NoStar : PySem.W.keepIn K (.ref ad.NoStar) = true
  b_NoStar : PySem.W.subIn K (.ref ad.NoStar) (.type "BaseException") = some true
  t_NoStar : PySem.W.typeIn K (.ref ad.NoStar) = some (.type "type")
  ec_NoStar : ExcC K ad.NoStar
  em_NoStar : PySem.W.exmOne K (.ref ad.NoStar) (.ref ad.WorthError) = some true
  ki_NoStar : PySem.W.kitOne K (.ref ad.NoStar) (.ref ad.NoStar) = some true
  em_AxiomError : PySem.W.exmOne K (.ref ad.AxiomError) (.ref ad.WorthError) = some true
  ec_AxiomError : ExcC K ad.AxiomError
  g_AxiomError : mg "AxiomError" = some (.ref ad.AxiomError)
  ki_AxiomError : PySem.W.kitOne K (.ref ad.AxiomError) (.ref ad.AxiomError) = some true
  xf_AxiomError : XfC K ad.AxiomError
  xn_AxiomError : PySem.W.findIn K (.ref ad.AxiomError) "code" = some none
  c_Finite : Cls K ad.Finite
  n_plus : NoAttr K ad.Finite "_plus"
  n_times : NoAttr K ad.Finite "_times"
  n_one : NoAttr K ad.Finite "_one"
  n_stars : NoAttr K ad.Finite "_stars"

/-! ### things and numbers -/
def isI : V → Bool
  | .int _ => true
  | _ => false
/-- a thing whose type isinstance tells -/
inductive Thg (H : Hp) : V → Prop where
  | non : Thg H .non
  | bl (b : Bool) : Thg H (.bl b)
  | int (i : Int) : Thg H (.int i)
  | str (x : Str) : Thg H (.str x)
  | lst {a : Addr} {xs : List V} (e : H a = some (.lst xs)) : Thg H (.ref a)
  | tup {a : Addr} {xs : List V} (e : H a = some (.tup xs)) : Thg H (.ref a)
/-- (isinstance(x, int), isinstance(x, bool)) -/
theorem thg_ty {K : PySem.W.Frag} {H : Hp} {x : V} (h : Thg H x) : ∃ t, TyX K H x t ∧ (∃ b1 b2, PySem.W.kitOne K t (.type "int") = some b1 ∧ PySem.W.kitOne K t (.type "bool") = some b2 ∧ (b1 && !b2) = isI x ∧ (b1 = false → isI x = false)) := by
  cases h with
  | non => exact ⟨_, .base .non, false, false, kit_ty (by decide +kernel), kit_ty (by decide +kernel), rfl, fun _ => rfl⟩
  | bl b => exact ⟨_, .base (.bl b), true, true, kit_ty (by decide +kernel), kit_ty (by decide +kernel), rfl, fun _ => rfl⟩
  | int i => exact ⟨_, .base (.int i), true, false, kit_ty (by decide +kernel), kit_ty (by decide +kernel), rfl, fun z => by cases z⟩
  | str b => exact ⟨_, .base (.str b), false, false, kit_ty (by decide +kernel), kit_ty (by decide +kernel), rfl, fun _ => rfl⟩
  | lst e => exact ⟨_, .base (.lst e), false, false, kit_ty (by decide +kernel), kit_ty (by decide +kernel), rfl, fun _ => rfl⟩
  | tup e => exact ⟨_, .base (.tup e), false, false, kit_ty (by decide +kernel), kit_ty (by decide +kernel), rfl, fun _ => rfl⟩
def spIsInt : Sp := fun vs H Q _ => ∃ x, vs = [x] ∧ Thg H x ∧ Q (.bl (isI x)) H
def natV : V → Bool
  | .int i => decide (0 ≤ i)
  | _ => false
def betV (lo hi : Int) : V → Bool
  | .int i => decide (lo ≤ i ∧ i ≤ hi)
  | _ => false
def spIsNat : Sp := fun vs H Q _ => ∃ x, vs = [x] ∧ Thg H x ∧ Q (.bl (natV x)) H
def spIsBet : Sp := fun vs H Q _ => ∃ x lo hi, vs = [x, .int lo, .int hi] ∧ Thg H x ∧ Q (.bl (betV lo hi x)) H
section
variable {P : Program} {w : World} {K : PySem.W.Frag} {mg : Str → Option Value} {base : Heap} {ad : Ad}
theorem ok_is_integer  {f : Addr} {fd : FuncData} (F : Fun K "is_integer" "is_integer" s_is_integer f fd) (T : Txt K mg ad) : FnOk P w K mg base (L2.CX P w) 1 f fd ["thing"] (spIsInt) := by
  refine F.okX sc_is_integer (fun vs H Q E => ?_) (fun cdv A outer s H vs Q E hr h => ?_)
  · walk_at "len"
  ·
    obtain ⟨x, rfl, hx, k⟩ := h
    refine ⟨_, (pss_one (ps_ret (pe_and (pe_callB call_isi (by rfl) T.z_isinstance (by decide +kernel) (pa_cons (pv 0) (pa_cons (pe_bltn (v := .ty "int") (by rfl) T.z_int (by decide +kernel) rfl) pa_nil))) (pe_one (pe_not (pe_callB call_isi (by rfl) T.z_isinstance (by decide +kernel) (pa_cons (pv 0) (pa_cons (pe_bltn (v := .ty "bool") (by rfl) T.z_bool (by decide +kernel) rfl) pa_nil)))))))), ?_⟩
    obtain ⟨t, ty, b1, b2, e1, e2, e3, e4⟩ := thg_ty (K := K) hx
    refine ⟨_, rfl, _, _, _, _, b1, rfl, .ty _, ty, e1, b1, rfl, ?_⟩
    refine ite2 (fun c => ?_) (fun c => ?_)
    · refine ⟨_, rfl, _, _, _, _, b2, rfl, .ty _, ty, e2, b2, rfl, ?_⟩
      subst c
      rw [Bool.true_and] at e3
      rw [e3]
      exact k
    · have c' : b1 = false := by simpa using c
      have := e4 c'
      rw [this] at k
      exact k
theorem ok_is_between (c_is_integer : CalX P w K mg base 1 "is_integer" spIsInt) {f : Addr} {fd : FuncData} (F : Fun K "is_between" "is_between" s_is_between f fd) (T : Txt K mg ad) : FnOk P w K mg base (L2.CX P w) 2 f fd ["thing", "low", "high"] (spIsBet) := by
  refine F.okX sc_is_between (fun vs H Q E => ?_) (fun cdv A outer s H vs Q E hr h => ?_)
  · walk_at "len"
  ·
    obtain ⟨x, lo, hi, rfl, hx, k⟩ := h
    refine ⟨_, (pss_one (ps_ret (pe_and (pc_call c_is_integer hr (by first | decide | omega) (takes_of rfl rfl rfl rfl) (by rfl) (pa_cons (pv 0) pa_nil)) (pe_one (pe_chain op_le op_le (pv 1) (pv 0) (pv 2)))))), ?_⟩
    refine ⟨_, rfl, _, rfl, hx, _, rfl, ?_⟩
    refine ite2 (fun c => ?_) (fun c => ?_)
    · cases x <;> first | exact absurd c Bool.false_ne_true | skip
      rename_i i
      refine ⟨_, rfl, _, rfl, _, _, rfl, rfl, _, rfl, ?_⟩
      refine ite2 (fun c1 => ?_) (fun c1 => ?_)
      · refine ⟨_, rfl, _, _, rfl, rfl, ?_⟩
        have c1' : lo ≤ i := by simpa using c1
        have e : betV lo hi (.int i) = decide (i ≤ hi) := by simp [betV, c1']
        rw [e] at k
        exact k
      · have c1' : ¬ lo ≤ i := by simpa using c1
        have e : betV lo hi (.int i) = false := by simp [betV, c1']
        rw [e] at k
        exact k
    · cases x <;> first | exact k | exact absurd rfl c

/-! ### a semiring object: what its methods promise -/
/-- plus, times: of elements x, y of the object at p (class C, fields fs) -/
def spBin (C : Addr) (fs : List (Str × V)) (el : V → Prop) (f : V → V → V) : Sp := fun vs H Q _ => ∃ p dx x y, vs = [.ref p, x, y] ∧ H p = some (.ins C dx fs) ∧ el x ∧ el y ∧ Q (f x y) H
def spNul (C : Addr) (fs : List (Str × V)) (z : V) : Sp := fun vs H Q _ => ∃ p dx, vs = [.ref p] ∧ H p = some (.ins C dx fs) ∧ Q z H
def spSt (C ns : Addr) (fs : List (Str × V)) (el : V → Prop) (st : V → Option V) : Sp := fun vs H Q E => ∃ p dx x, vs = [.ref p, x] ∧ H p = some (.ins C dx fs) ∧ el x ∧ (∀ s, st x = some s → Q s H) ∧ (st x = none → E (.ref ns) none H)
def spEl (C : Addr) (fs : List (Str × V)) (t : V → Bool) : Sp := fun vs H Q _ => ∃ p dx x, vs = [.ref p, x] ∧ H p = some (.ins C dx fs) ∧ Thg H x ∧ Q (.bl (t x)) H
end
/-! ### draws -/
/-! ### the law's own draws -/
/-- all but what stands at a is as it was -/
def Fr1 (a : Addr) (H H' : Hp) : Prop := ∀ b o, b ≠ a → H b = some o → H' b = some o
theorem Fr1.refl (a : Addr) (H : Hp) : Fr1 a H H := fun _ _ _ h => h
theorem Fr1.trans {a : Addr} {H H1 H2 : Hp} (x : Fr1 a H H1) (y : Fr1 a H1 H2) : Fr1 a H H2 := fun b o n h => y b o n (x b o n h)
theorem Fr1.upd {a : Addr} {H H1 : Hp} {o : HO} (x : Fr1 a H H1) : Fr1 a H (upd H1 a o) := fun b u n h => by rw [upd_ne n]; exact x b u n h
theorem Fr1.of {a : Addr} {H H1 : Hp} (x : Same H H1) : Fr1 a H H1 := fun b o _ h => x b o h
theorem Fr1.new {a p : Addr} {H H1 : Hp} {o : HO} (x : Fr1 a H H1) (h : H p = none) : Fr1 a H (L2.upd H1 p o) := fun b u n e => by rw [upd_ne (ne_of_none e h)]; exact x b u n e
theorem same_new {p : Addr} {H H1 : Hp} {o : HO} (x : Same H H1) (h : H p = none) : Same H (L2.upd H1 p o) := fun b u e => by rw [upd_ne (ne_of_none e h)]; exact x b u e
/-- the pot: what is drawn from -/
def PotAt (H : Hp) (a : Addr) : Prop := ∃ (b : Addr) (ns : List Int) (i c sd : Int), H a = some (.lst [.ref b, .int i, .int c, .int sd]) ∧ H b = some (.lst (ns.map V.int)) ∧ b ≠ a ∧ 0 ≤ i ∧ 0 ≤ c ∧ 0 ≤ sd
theorem PotAt.same {H H' : Hp} {a : Addr} (p : PotAt H a) (s : Same H H') : PotAt H' a := by
  obtain ⟨b, ns, i, c, sd, h1, h2, h3, h4⟩ := p
  exact ⟨b, ns, i, c, sd, s _ _ h1, s _ _ h2, h3, h4⟩
/-- the same, its list at b -/
def PotB (H : Hp) (a b : Addr) : Prop := ∃ (ns : List Int) (i c sd : Int), H a = some (.lst [.ref b, .int i, .int c, .int sd]) ∧ H b = some (.lst (ns.map V.int)) ∧ b ≠ a ∧ 0 ≤ i ∧ 0 ≤ c ∧ 0 ≤ sd
theorem PotB.at_ {H : Hp} {a b : Addr} (p : PotB H a b) : PotAt H a := let ⟨ns, i, c, sd, h⟩ := p; ⟨b, ns, i, c, sd, h⟩
theorem PotAt.b_ {H : Hp} {a : Addr} (p : PotAt H a) : ∃ b, PotB H a b := let ⟨b, ns, i, c, sd, h⟩ := p; ⟨b, ns, i, c, sd, h⟩
theorem PotB.same {H H' : Hp} {a b : Addr} (p : PotB H a b) (s : Same H H') : PotB H' a b := by
  obtain ⟨ns, i, c, sd, h1, h2, h3⟩ := p
  exact ⟨ns, i, c, sd, s _ _ h1, s _ _ h2, h3⟩
theorem PotB.but {H H' : Hp} {a b : Addr} (p : PotB H a b) (h1 : H' a = H a) (h2 : H' b = H b) : PotB H' a b := by
  obtain ⟨ns, i, c, sd, e1, e2, h3⟩ := p
  exact ⟨ns, i, c, sd, h1.trans e1, h2.trans e2, h3⟩
theorem PotAt.some {H : Hp} {a : Addr} (p : PotAt H a) : ∃ o, H a = some o := by
  obtain ⟨b, ns, i, c, sd, h1, _⟩ := p
  exact ⟨_, h1⟩
def spPot (K : PySem.W.Frag) : Sp := fun vs H Q _ => ∃ (a : Addr) (ns : List Int), vs = [.ref a] ∧ SqL K H a (ns.map V.int) ∧ ns.length ≤ 63 ∧ ∀ H' p, Same H H' → H p = none → PotAt H' p → Q (.ref p) H'
def spNext : Sp := fun vs H Q _ => ∃ a lim, vs = [.ref a, .int lim] ∧ PotAt H a ∧ 0 < lim ∧ lim.natAbs < 2 ^ 250 ∧ ∀ H' r, Fr1 a H H' → PotAt H' a → 0 ≤ r → r < lim → (∀ b, PotB H a b → PotB H' a b) → Q (.int r) H'
section
variable {P : Program} {w : World} {K : PySem.W.Frag} {mg : Str → Option Value} {base : Heap} {ad : Ad}
theorem ok_law_pot  {f : Addr} {fd : FuncData} (F : Fun K "_law_pot" "_law_pot" s_law_pot f fd) (T : Txt K mg ad) : FnOk P w K mg base (L2.CX P w) 1 f fd ["script"] (spPot K) := by
  refine F.okX sc_law_pot (fun vs H Q E => ?_) (fun cdv A outer s H vs Q E hr h => ?_)
  · walk_at "len"
  ·
    obtain ⟨a, ns, rfl, hS, hl, k⟩ := h
    refine ⟨_, (pss_cons (ps_set (i := 1) sc_law_pot.nd rfl (by first | exact Or.inl rfl | exact Or.inr rfl) pe_int)
      (pss_cons (ps_for (passes_of rfl) rfl (pi_list (pv 0)) (pg_name (i := 2) sc_law_pot.nd rfl (by first | exact Or.inl rfl | exact Or.inr rfl)) (pss_one (ps_set (i := 1) sc_law_pot.nd rfl (by first | exact Or.inl rfl | exact Or.inr rfl) (pe_op op_mod (pe_callTy call_int1 (by rfl) T.z_int (by decide +kernel) (pa_cons (pe_op op_add (pe_op op_mul (pv 1) pe_int) (pv 2)) pa_nil)) pe_int))))
      (pss_one (ps_ret (pe_lst (pa_cons (pe_callTy call_list_of (by rfl) T.z_list (by decide +kernel) (pa_cons (pv 0) pa_nil)) (pa_cons pe_int (pa_cons pe_int (pa_cons (pv 1) pa_nil))))))))), ?_⟩
    refine ⟨_, rfl, a, rfl, ⟨_, hS⟩, for_list (K := K) (a := a) (xs := ns.map V.int) (fun i σ H2 => ∃ (sd : Int) (v : Option V), σ = [some (.ref a), some (.int sd), v] ∧ 0 ≤ sd ∧ H2 = H)
      ⟨1, none, rfl, by decide, rfl⟩ (fun i σ H2 _ ⟨_, _, _, _, e⟩ => by rw [e]; exact hS) ?_ ?_⟩
    · rintro i y σ H2 hi ⟨sd, v, rfl, hsd, rfl⟩
      obtain ⟨z, rfl⟩ : ∃ z, y = V.int z := by
        rw [List.getElem?_map] at hi
        cases e : ns[i]? with
        | none =>
          rw [e] at hi
          cases hi
        | some z =>
          rw [e] at hi
          exact ⟨z, (Option.some.inj hi).symm⟩
      refine ⟨_, rfl, _, _, rfl, rfl, .inr ⟨by decide, by decide⟩, _, rfl, _, _, rfl, rfl, .inl ⟨_, rfl, _, _, rfl, rfl, (by show (0 : Int) < 2147483647; decide), ?_⟩⟩
      exact ⟨_, _, rfl, Int.emod_nonneg _ (by decide), rfl⟩
    · rintro σ H2 ⟨sd, v, rfl, hsd, rfl⟩
      refine ⟨_, rfl, a, _, rfl, .inl hS, fun l hl1 => ⟨_, rfl, (by show 4 ≤ sizeLine; decide), fun p hp => ?_⟩⟩
      have npl : p ≠ l := by
        intro z
        subst z
        rw [upd_same] at hp
        cases hp
      have hp0 : H2 p = none := by rw [upd_ne npl] at hp; exact hp
      exact k _ p (same_new (same_new (Same.refl _) hl1) hp0) hp0 ⟨l, ns, 0, 0, sd, upd_same, by rw [upd_ne (Ne.symm npl), upd_same], Ne.symm npl, by decide, by decide, hsd⟩
theorem ok_law_next  {f : Addr} {fd : FuncData} (F : Fun K "_law_next" "_law_next" s_law_next f fd) (T : Txt K mg ad) : FnOk P w K mg base (L2.CX P w) 1 f fd ["pot", "limit"] (spNext) := by
  refine F.okX sc_law_next (fun vs H Q E => ?_) (fun cdv A outer s H vs Q E hr h => ?_)
  · walk_at "len"
  ·
    obtain ⟨a, lim, rfl, ⟨b, ns, i, c, sd, h1, h2, h3, h4, h5, h6⟩, hl0, hl1, k⟩ := h
    have k2 : ∀ H' r, Fr1 a H H' → PotB H' a b → 0 ≤ r → r < lim → Q (.int r) H' := fun H' r fr hpb r0 r1 => k H' r fr hpb.at_ r0 r1 fun b' hb' => by
      obtain ⟨ns', i', c', sd', e1, _⟩ := hb'
      rw [h1] at e1
      injection e1 with e1
      injection e1 with e1
      injection e1 with e1 _
      injection e1 with e1
      subst e1
      exact hpb
    have hr1 : ∀ x : Int, 0 ≤ x % lim ∧ x % lim < lim := fun x => ⟨Int.emod_nonneg _ (by omega), Int.emod_lt_of_pos _ hl0⟩
    refine ⟨_, (C8.pss_cut (ps_if (PW.pt (pw_and (pt_cmpR op_eq (pe_ix ix_list (pv 0) pe_int (fun _ _ => rfl)) pe_int (nomark _)) (pw_and1 (pt_cmpR op_lt (pe_ix ix_list (pv 0) pe_int (fun _ _ => rfl)) (pe_callB call_len (by rfl) T.z_len (by decide +kernel) (pa_cons (pe_ix ix_list (pv 0) pe_int (fun _ _ => rfl)) pa_nil)) (nomark _))))) (pss_cons (ps_set (i := 2) sc_law_next.nd rfl (by first | exact Or.inl rfl | exact Or.inr rfl) (pe_callB call_abs (by rfl) T.z_abs (by decide +kernel) (pa_cons (pe_callTy call_int1 (by rfl) T.z_int (by decide +kernel) (pa_cons (pe_ix ix_list (pe_ix ix_list (pv 0) pe_int (fun _ _ => rfl)) (pe_ix ix_list (pv 0) pe_int (fun _ _ => rfl)) (fun _ _ => rfl)) pa_nil)) pa_nil)))
      (pss_cons (ps_asg (pe_op op_add (pe_ix ix_list (pv 0) pe_int (fun _ _ => rfl)) pe_int) (pg_sub (pv 0) pe_int set_list))
      (pss_cons (ps_if (pt_cmpR op_lt (pv 2) (pe_op op_pow pe_int pe_int) (nomark _)) (pss_one (ps_ret (pe_op op_mod (pe_callTy call_int1 (by rfl) T.z_int (by decide +kernel) (pa_cons (pv 2) pa_nil)) (pv 1)))) pss_nil)
      (pss_one (ps_asg (pv 2) (pg_sub (pv 0) pe_int set_list)))))) pss_nil)
      (C8.pss_cut (ps_if (pt_cmpR op_gt (pe_ix ix_list (pv 0) pe_int (fun _ _ => rfl)) pe_int (nomark _)) (pss_cons (ps_set (i := 3) sc_law_next.nd rfl (by first | exact Or.inl rfl | exact Or.inr rfl) (pe_op op_mod (pe_callTy call_int1 (by rfl) T.z_int (by decide +kernel) (pa_cons (pe_ix ix_list (pv 0) pe_int (fun _ _ => rfl)) pa_nil)) (pv 1)))
      (pss_cons (ps_asg (pe_op op_fdivW (pe_ix ix_list (pv 0) pe_int (fun _ _ => rfl)) (pv 1)) (pg_sub (pv 0) pe_int set_list))
      (pss_one (ps_ret (pv 3))))) pss_nil)
      (pss_cons (ps_asg (pe_op op_mod (pe_callTy call_int1 (by rfl) T.z_int (by decide +kernel) (pa_cons (pe_op op_add (pe_op op_mul (pe_ix ix_list (pv 0) pe_int (fun _ _ => rfl)) pe_int) pe_int) pa_nil)) pe_int) (pg_sub (pv 0) pe_int set_list))
      (pss_cons (ps_set (i := 4) sc_law_next.nd rfl (by first | exact Or.inl rfl | exact Or.inr rfl) (pe_op op_mod (pe_callTy call_int1 (by rfl) T.z_int (by decide +kernel) (pa_cons (pe_op op_add (pe_op op_mul (pe_ix ix_list (pv 0) pe_int (fun _ _ => rfl)) pe_int) (pe_op op_fdiv (pe_ix ix_list (pv 0) pe_int (fun _ _ => rfl)) pe_int)) pa_nil)) pe_int))
      (pss_one (ps_ret (pe_op op_mod (pe_callTy call_int1 (by rfl) T.z_int (by decide +kernel) (pa_cons (pv 4) pa_nil)) (pv 1)))))))), ?_⟩
    refine ⟨fun σ H' => ∃ (i' c' : Int) (v : Option V), σ = [some (.ref a), some (.int lim), v, none, none] ∧ H' a = some (.lst [.ref b, .int i', .int c', .int sd]) ∧ Fr1 a H H' ∧ 0 ≤ i' ∧ 0 ≤ c', ?_, ?_⟩
    · -- if pot[2] == 0 and pot[1] < len(pot[0])
      refine ⟨_, rfl, a, _, _, _, rfl, rfl, SqL.of h1, (by rfl), rfl, _, rfl, ?_⟩
      by_cases c0 : ¬ c = 0
      · have e : decide (V.int c = V.int 0) = false := by simp [c0]
        rw [e]
        refine iteF (iteF ?_)
        exact ⟨i, c, none, rfl, h1, Fr1.refl _ _, h4, h5⟩
      · have c0' : c = 0 := by omega
        subst c0'
        refine iteT ?_
        refine ⟨_, rfl, a, _, _, _, rfl, rfl, SqL.of h1, (by rfl), _, rfl, a, _, _, _, rfl, rfl, SqL.of h1, (by rfl), .ref b, ns.length, rfl, Or.inl ⟨_, SqL.of h2, by rw [List.length_map]⟩, _, _, rfl, rfl, _, rfl, ?_⟩
        by_cases c1 : ¬ i < (ns.length : Int)
        · rw [decide_eq_false c1]
          exact iteF ⟨i, 0, none, rfl, h1, Fr1.refl _ _, h4, h5⟩
        · have c1 : i < (ns.length : Int) := by omega
          rw [decide_eq_true c1]
          refine iteT ?_
          -- cell
          obtain ⟨z, hz⟩ : ∃ z, ns[i.toNat]? = some z := ⟨ns[i.toNat]'(by omega), List.getElem?_eq_getElem _⟩
          have hz' : (ns.map V.int)[i.toNat]? = some (.int z) := by rw [List.getElem?_map, hz]; rfl
          refine ⟨_, rfl, a, _, _, _, rfl, rfl, SqL.of h1, (by rfl), _, rfl, a, _, _, _, rfl, rfl, SqL.of h1, (by rfl), b, _, _, _, rfl, rfl, SqL.of h2, at_of (by omega) hz', .inl ⟨_, rfl, _, rfl, ?_⟩⟩
          have hcell : 0 ≤ (if z < 0 then -z else z) := by split <;> omega
          generalize (if z < 0 then -z else z) = cell at hcell ⊢
          -- pot[1] = pot[1] + 1
          refine ⟨_, rfl, a, _, _, _, rfl, rfl, SqL.of h1, (by rfl), _, _, rfl, rfl, _, rfl, a, _, _, 1, rfl, rfl, h1, (by rfl), ?_⟩
          -- if cell < 10 ** 18
          refine ⟨_, rfl, _, _, rfl, rfl, ⟨by decide, by decide, by decide⟩, _, _, rfl, rfl, _, rfl, ?_⟩
          refine ite2 (fun _ => ?_) (fun _ => ?_)
          · refine ⟨_, rfl, .inl ⟨_, rfl, _, rfl, _, _, rfl, rfl, hl0, ?_⟩⟩
            exact k2 _ _ (Fr1.refl _ _).upd ⟨ns, i + 1, 0, sd, upd_same, by rw [upd_ne h3]; exact h2, h3, by omega, by decide, h6⟩ (hr1 _).1 (hr1 _).2
          · refine ⟨_, rfl, _, rfl, a, _, _, 2, rfl, rfl, upd_same, (by rfl), ?_⟩
            exact ⟨i + 1, cell, _, rfl, upd_same, (Fr1.refl _ _).upd.upd, by omega, hcell⟩
    · rintro σ H1 ⟨i', c', v, rfl, g1, fr, hi', hc'⟩
      have g2 : H1 b = some (.lst (ns.map V.int)) := fr b _ h3 h2
      refine ⟨fun σ H' => ∃ (v v' : Option V), σ = [some (.ref a), some (.int lim), v, v', none] ∧ H' = H1, ?_, ?_⟩
      · -- if pot[2] > 0
        refine ⟨_, rfl, a, _, _, _, rfl, rfl, SqL.of g1, (by rfl), _, _, rfl, rfl, _, rfl, ?_⟩
        refine ite2 (fun _ => ?_) (fun _ => ?_)
        · refine ⟨_, rfl, a, _, _, _, rfl, rfl, SqL.of g1, (by rfl), .inl ⟨_, rfl, _, rfl, _, _, rfl, rfl, hl0, ?_⟩⟩
          refine ⟨_, rfl, a, _, _, _, rfl, rfl, SqL.of g1, (by rfl), _, rfl, _, _, rfl, rfl, wide_div hl0 hl1 (by decide) (by decide), _, rfl, a, _, _, 2, rfl, rfl, g1, (by rfl), _, rfl, ?_⟩
          exact k2 _ _ fr.upd ⟨ns, i', c' / lim, sd, upd_same, by rw [upd_ne h3]; exact g2, h3, hi', Int.ediv_nonneg hc' (by omega), h6⟩ (hr1 _).1 (hr1 _).2
        · exact ⟨v, none, rfl, rfl⟩
      · rintro σ H2 ⟨v, v', rfl, rfl⟩
        refine ⟨_, rfl, a, _, _, _, rfl, rfl, SqL.of g1, (by rfl), _, _, rfl, rfl, .inr ⟨by decide, by decide⟩, _, _, rfl, rfl, .inl ⟨_, rfl, _, _, rfl, rfl, (by show (0 : Int) < 2147483647; decide), _, rfl, a, _, _, 3, rfl, rfl, g1, (by rfl), ?_⟩⟩
        refine ⟨_, rfl, a, _, _, _, rfl, rfl, SqL.of upd_same, (by rfl), _, _, rfl, rfl, .inr ⟨by decide, by decide⟩, _, rfl, a, _, _, _, rfl, rfl, SqL.of upd_same, (by rfl), _, _, rfl, rfl, ⟨by decide, by decide⟩, _, _, rfl, rfl, .inl ⟨_, rfl, _, _, rfl, rfl, (by show (0 : Int) < 2147483629; decide), ?_⟩⟩
        refine ⟨_, rfl, .inl ⟨_, rfl, _, rfl, _, _, rfl, rfl, hl0, ?_⟩⟩
        exact k2 _ _ fr.upd ⟨ns, i', c', _, upd_same, by rw [upd_ne h3]; exact g2, h3, hi', hc', Int.emod_nonneg _ (by decide)⟩ (hr1 _).1 (hr1 _).2
end
end K05

set_option Elab.async false
set_option linter.all false
set_option maxRecDepth 100000
set_option maxHeartbeats 4000000
namespace K05
open PySem L2 Ew Tb SRm
local macro_rules | `(tactic| walk_at "len") => `(tactic| first | (intro h; obtain ⟨_, e, _⟩ := h; rw [e]; rfl) | (intro h; obtain ⟨_, _, e, _⟩ := h; rw [e]; rfl) | (intro h; obtain ⟨_, _, _, e, _⟩ := h; rw [e]; rfl) | (intro h; obtain ⟨_, _, _, _, e, _⟩ := h; rw [e]; rfl) | (intro h; obtain ⟨_, _, _, _, _, e, _⟩ := h; rw [e]; rfl) | (intro h; obtain ⟨_, _, _, _, _, _, e, _⟩ := h; rw [e]; rfl) | (intro h; obtain ⟨_, _, _, _, _, _, _, e, _⟩ := h; rw [e]; rfl) | (intro h; exact h.elim))
/-- a drawn semiring as lists: told at t, none of it at a; at most 8 elements, 4 where small -/
def FamT (a : Addr) (H : Hp) (t : Addr) (N : Nat) (n : Nat) (f g : Nat → Nat → Nat) (o : Nat) : Prop :=
  ∃ p m, t ≠ a ∧ H t = some (.tup [.ref p, .ref m, .int (o : Int)]) ∧ LL a H p n (fun i j => (f i j : Int)) ∧ LL a H m n (fun i j => (g i j : Int)) ∧ SR n f g o ∧ n ≤ N
theorem or8b : ((List.range 8).all fun i => (List.range 8).all fun j => Builtin.bitOr (i : Int) (j : Int) == ((i ||| j : Nat) : Int)) = true := by decide +kernel
theorem xor8b : ((List.range 8).all fun i => (List.range 8).all fun j => Builtin.bitXor (i : Int) (j : Int) == ((i ^^^ j : Nat) : Int)) = true := by decide +kernel
theorem and8b : ((List.range 8).all fun i => (List.range 8).all fun j => Builtin.bitAnd (i : Int) (j : Int) == ((i &&& j : Nat) : Int)) = true := by decide +kernel
theorem or8 {i j : Nat} (hi : i < 8) (hj : j < 8) : Builtin.bitOr (i : Int) (j : Int) = ((i ||| j : Nat) : Int) := by
  have h := or8b
  simp only [List.all_eq_true, List.mem_range, beq_iff_eq] at h
  exact h i hi j hj
theorem xor8 {i j : Nat} (hi : i < 8) (hj : j < 8) : Builtin.bitXor (i : Int) (j : Int) = ((i ^^^ j : Nat) : Int) := by
  have h := xor8b
  simp only [List.all_eq_true, List.mem_range, beq_iff_eq] at h
  exact h i hi j hj
theorem and8 {i j : Nat} (hi : i < 8) (hj : j < 8) : Builtin.bitAnd (i : Int) (j : Int) = ((i &&& j : Nat) : Int) := by
  have h := and8b
  simp only [List.all_eq_true, List.mem_range, beq_iff_eq] at h
  exact h i hi j hj
def spFam : Sp := fun vs H Q _ => ∃ (a : Addr) (kd : Nat) (sm : Bool), vs = [.ref a, .int (kd : Int), .bl sm] ∧ PotAt H a ∧ kd < 6 ∧
  ∀ H' t n f g o, Fr1 a H H' → PotAt H' a → FamT a H' t (if sm then 4 else 8) n f g o → Q (.ref t) H'
section
variable {P : Program} {w : World} {K : PySem.W.Frag} {mg : Str → Option Value} {base : Heap} {ad : Ad}
theorem ok_law_family (c_law_next : CalX P w K mg base 1 "_law_next" spNext) {f : Addr} {fd : FuncData} (F : Fun K "_law_family" "_law_family" s_law_family f fd) (T : Txt K mg ad) : FnOk P w K mg base (L2.CX P w) 3 f fd ["pot", "kind", "small"] (spFam) := by
  refine F.okX sc_law_family (fun vs H Q E => ?_) (fun cdv A outer s H vs Q E hr h => ?_)
  · walk_at "len"
  ·
    obtain ⟨a, kd, sm, rfl, hp, hk, k⟩ := h
    refine ⟨_, (pss_cons (ps_set (i := 3) sc_law_family.nd rfl (by first | exact Or.inl rfl | exact Or.inr rfl) (pe_op op_add pe_int (pc_call c_law_next hr (by first | decide | omega) (takes_of rfl rfl rfl rfl) (by rfl) (pa_cons (pv 0) (pa_cons (pe_ix ix_list (pe_lst (pa_cons pe_int (pa_cons pe_int pa_nil))) (pe_callTy call_int1 (by rfl) T.z_int (by decide +kernel) (pa_cons (pv 2) pa_nil)) (fun _ _ => rfl)) pa_nil)))))
      (pss_cons (ps_if (pt_cmpR op_eq (pv 1) pe_int (nomark _)) (pss_cons (ps_setLc (i := 4) (own := [("a", 5)]) (tt := tYes) rfl sc_law_family.nd rfl rfl (sw_true rfl rfl rfl (by decide +kernel)) (pi_range1 (by rfl) T.z_range (pa_cons (pv 3) pa_nil)) (blkOk_by (by kernel_rfl)) (fun _ _ _ _ _ => (pg_name (i := 5) sc_law_family.nd rfl (by first | exact Or.inl rfl | exact Or.inr rfl))) (fun _ _ _ _ _ => pts_nil) (fun _ _ _ _ _ => (pe_lc (own := [("b", 6)]) (tt := tYes) rfl sc_law_family.nd (pi_range1 (by rfl) T.z_range (pa_cons (pv 3) pa_nil)) (blkOk_by (by kernel_rfl)) (fun _ _ _ _ _ => (pg_name (i := 6) sc_law_family.nd rfl (by first | exact Or.inl rfl | exact Or.inr rfl))) (fun _ _ _ _ _ => pts_nil) (fun _ _ _ _ _ => (pe_op op_mod (pe_callTy call_int1 (by rfl) T.z_int (by decide +kernel) (pa_cons (pe_op op_add (pv 5) (pv 6)) pa_nil)) (pv 3))))))
      (pss_one (ps_ret (pe_tup (pa_cons (pv 4) (pa_cons (pe_lc (own := [("a", 5)]) (tt := tYes) rfl sc_law_family.nd (pi_range1 (by rfl) T.z_range (pa_cons (pv 3) pa_nil)) (blkOk_by (by kernel_rfl)) (fun _ _ _ _ _ => (pg_name (i := 5) sc_law_family.nd rfl (by first | exact Or.inl rfl | exact Or.inr rfl))) (fun _ _ _ _ _ => pts_nil) (fun _ _ _ _ _ => (pe_lc (own := [("b", 6)]) (tt := tYes) rfl sc_law_family.nd (pi_range1 (by rfl) T.z_range (pa_cons (pv 3) pa_nil)) (blkOk_by (by kernel_rfl)) (fun _ _ _ _ _ => (pg_name (i := 6) sc_law_family.nd rfl (by first | exact Or.inl rfl | exact Or.inr rfl))) (fun _ _ _ _ _ => pts_nil) (fun _ _ _ _ _ => (pe_op op_mod (pe_callTy call_int1 (by rfl) T.z_int (by decide +kernel) (pa_cons (pe_op op_mul (pv 5) (pv 6)) pa_nil)) (pv 3)))))) (pa_cons (pe_op op_mod (pe_callTy call_int1 (by rfl) T.z_int (by decide +kernel) (pa_cons pe_int pa_nil)) (pv 3)) pa_nil))))))) pss_nil)
      (pss_cons (ps_if (pt_cmpR op_eq (pv 1) pe_int (nomark _)) (pss_cons (ps_setLc (i := 4) (own := [("a", 5)]) (tt := tYes) rfl sc_law_family.nd rfl rfl (sw_true rfl rfl rfl (by decide +kernel)) (pi_range1 (by rfl) T.z_range (pa_cons (pv 3) pa_nil)) (blkOk_by (by kernel_rfl)) (fun _ _ _ _ _ => (pg_name (i := 5) sc_law_family.nd rfl (by first | exact Or.inl rfl | exact Or.inr rfl))) (fun _ _ _ _ _ => pts_nil) (fun _ _ _ _ _ => (pe_lc (own := [("b", 6)]) (tt := tYes) rfl sc_law_family.nd (pi_range1 (by rfl) T.z_range (pa_cons (pv 3) pa_nil)) (blkOk_by (by kernel_rfl)) (fun _ _ _ _ _ => (pg_name (i := 6) sc_law_family.nd rfl (by first | exact Or.inl rfl | exact Or.inr rfl))) (fun _ _ _ _ _ => pts_nil) (fun _ _ _ _ _ => (pe_callB (call_min2 rfl) (by rfl) T.z_min (by decide +kernel) (pa_cons (pe_op op_add (pv 5) (pv 6)) (pa_cons (pe_op op_sub (pv 3) pe_int) pa_nil)))))))
      (pss_one (ps_ret (pe_tup (pa_cons (pv 4) (pa_cons (pe_lc (own := [("a", 5)]) (tt := tYes) rfl sc_law_family.nd (pi_range1 (by rfl) T.z_range (pa_cons (pv 3) pa_nil)) (blkOk_by (by kernel_rfl)) (fun _ _ _ _ _ => (pg_name (i := 5) sc_law_family.nd rfl (by first | exact Or.inl rfl | exact Or.inr rfl))) (fun _ _ _ _ _ => pts_nil) (fun _ _ _ _ _ => (pe_lc (own := [("b", 6)]) (tt := tYes) rfl sc_law_family.nd (pi_range1 (by rfl) T.z_range (pa_cons (pv 3) pa_nil)) (blkOk_by (by kernel_rfl)) (fun _ _ _ _ _ => (pg_name (i := 6) sc_law_family.nd rfl (by first | exact Or.inl rfl | exact Or.inr rfl))) (fun _ _ _ _ _ => pts_nil) (fun _ _ _ _ _ => (pe_callB (call_min2 rfl) (by rfl) T.z_min (by decide +kernel) (pa_cons (pe_op op_mul (pv 5) (pv 6)) (pa_cons (pe_op op_sub (pv 3) pe_int) pa_nil))))))) (pa_cons (pe_callB (call_min2 rfl) (by rfl) T.z_min (by decide +kernel) (pa_cons pe_int (pa_cons (pe_op op_sub (pv 3) pe_int) pa_nil))) pa_nil))))))) pss_nil)
      (pss_cons (ps_if (pt_cmpR op_eq (pv 1) pe_int (nomark _)) (pss_cons (ps_setLc (i := 4) (own := [("a", 5)]) (tt := tYes) rfl sc_law_family.nd rfl rfl (sw_true rfl rfl rfl (by decide +kernel)) (pi_range1 (by rfl) T.z_range (pa_cons (pv 3) pa_nil)) (blkOk_by (by kernel_rfl)) (fun _ _ _ _ _ => (pg_name (i := 5) sc_law_family.nd rfl (by first | exact Or.inl rfl | exact Or.inr rfl))) (fun _ _ _ _ _ => pts_nil) (fun _ _ _ _ _ => (pe_lc (own := [("b", 6)]) (tt := tYes) rfl sc_law_family.nd (pi_range1 (by rfl) T.z_range (pa_cons (pv 3) pa_nil)) (blkOk_by (by kernel_rfl)) (fun _ _ _ _ _ => (pg_name (i := 6) sc_law_family.nd rfl (by first | exact Or.inl rfl | exact Or.inr rfl))) (fun _ _ _ _ _ => pts_nil) (fun _ _ _ _ _ => (pe_callB (call_max2 rfl) (by rfl) T.z_max (by decide +kernel) (pa_cons (pv 5) (pa_cons (pv 6) pa_nil)))))))
      (pss_one (ps_ret (pe_tup (pa_cons (pv 4) (pa_cons (pe_lc (own := [("a", 5)]) (tt := tYes) rfl sc_law_family.nd (pi_range1 (by rfl) T.z_range (pa_cons (pv 3) pa_nil)) (blkOk_by (by kernel_rfl)) (fun _ _ _ _ _ => (pg_name (i := 5) sc_law_family.nd rfl (by first | exact Or.inl rfl | exact Or.inr rfl))) (fun _ _ _ _ _ => pts_nil) (fun _ _ _ _ _ => (pe_lc (own := [("b", 6)]) (tt := tYes) rfl sc_law_family.nd (pi_range1 (by rfl) T.z_range (pa_cons (pv 3) pa_nil)) (blkOk_by (by kernel_rfl)) (fun _ _ _ _ _ => (pg_name (i := 6) sc_law_family.nd rfl (by first | exact Or.inl rfl | exact Or.inr rfl))) (fun _ _ _ _ _ => pts_nil) (fun _ _ _ _ _ => (pe_callB (call_min2 rfl) (by rfl) T.z_min (by decide +kernel) (pa_cons (pv 5) (pa_cons (pv 6) pa_nil))))))) (pa_cons (pe_op op_sub (pv 3) pe_int) pa_nil))))))) pss_nil)
      (pss_cons (ps_set (i := 3) sc_law_family.nd rfl (by first | exact Or.inl rfl | exact Or.inr rfl) (pe_ix ix_list (pe_lst (pa_cons pe_int (pa_cons pe_int (pa_cons pe_int pa_nil)))) (pc_call c_law_next hr (by first | decide | omega) (takes_of rfl rfl rfl rfl) (by rfl) (pa_cons (pv 0) (pa_cons (pe_ix ix_list (pe_lst (pa_cons pe_int (pa_cons pe_int pa_nil))) (pe_callTy call_int1 (by rfl) T.z_int (by decide +kernel) (pa_cons (pv 2) pa_nil)) (fun _ _ => rfl)) pa_nil))) (fun _ _ => rfl)))
      (pss_cons (ps_if (pt_cmpR op_eq (pv 1) pe_int (nomark _)) (pss_cons (ps_setLc (i := 4) (own := [("a", 5)]) (tt := tYes) rfl sc_law_family.nd rfl rfl (sw_true rfl rfl rfl (by decide +kernel)) (pi_range1 (by rfl) T.z_range (pa_cons (pv 3) pa_nil)) (blkOk_by (by kernel_rfl)) (fun _ _ _ _ _ => (pg_name (i := 5) sc_law_family.nd rfl (by first | exact Or.inl rfl | exact Or.inr rfl))) (fun _ _ _ _ _ => pts_nil) (fun _ _ _ _ _ => (pe_lc (own := [("b", 6)]) (tt := tYes) rfl sc_law_family.nd (pi_range1 (by rfl) T.z_range (pa_cons (pv 3) pa_nil)) (blkOk_by (by kernel_rfl)) (fun _ _ _ _ _ => (pg_name (i := 6) sc_law_family.nd rfl (by first | exact Or.inl rfl | exact Or.inr rfl))) (fun _ _ _ _ _ => pts_nil) (fun _ _ _ _ _ => (pe_op op_or (pv 5) (pv 6))))))
      (pss_one (ps_ret (pe_tup (pa_cons (pv 4) (pa_cons (pe_lc (own := [("a", 5)]) (tt := tYes) rfl sc_law_family.nd (pi_range1 (by rfl) T.z_range (pa_cons (pv 3) pa_nil)) (blkOk_by (by kernel_rfl)) (fun _ _ _ _ _ => (pg_name (i := 5) sc_law_family.nd rfl (by first | exact Or.inl rfl | exact Or.inr rfl))) (fun _ _ _ _ _ => pts_nil) (fun _ _ _ _ _ => (pe_lc (own := [("b", 6)]) (tt := tYes) rfl sc_law_family.nd (pi_range1 (by rfl) T.z_range (pa_cons (pv 3) pa_nil)) (blkOk_by (by kernel_rfl)) (fun _ _ _ _ _ => (pg_name (i := 6) sc_law_family.nd rfl (by first | exact Or.inl rfl | exact Or.inr rfl))) (fun _ _ _ _ _ => pts_nil) (fun _ _ _ _ _ => (pe_op op_and (pv 5) (pv 6)))))) (pa_cons (pe_op op_sub (pv 3) pe_int) pa_nil))))))) pss_nil)
      (pss_cons (ps_if (pt_cmpR op_eq (pv 1) pe_int (nomark _)) (pss_cons (ps_setLc (i := 4) (own := [("a", 5)]) (tt := tYes) rfl sc_law_family.nd rfl rfl (sw_true rfl rfl rfl (by decide +kernel)) (pi_range1 (by rfl) T.z_range (pa_cons (pv 3) pa_nil)) (blkOk_by (by kernel_rfl)) (fun _ _ _ _ _ => (pg_name (i := 5) sc_law_family.nd rfl (by first | exact Or.inl rfl | exact Or.inr rfl))) (fun _ _ _ _ _ => pts_nil) (fun _ _ _ _ _ => (pe_lc (own := [("b", 6)]) (tt := tYes) rfl sc_law_family.nd (pi_range1 (by rfl) T.z_range (pa_cons (pv 3) pa_nil)) (blkOk_by (by kernel_rfl)) (fun _ _ _ _ _ => (pg_name (i := 6) sc_law_family.nd rfl (by first | exact Or.inl rfl | exact Or.inr rfl))) (fun _ _ _ _ _ => pts_nil) (fun _ _ _ _ _ => (pe_op op_xor (pv 5) (pv 6))))))
      (pss_one (ps_ret (pe_tup (pa_cons (pv 4) (pa_cons (pe_lc (own := [("a", 5)]) (tt := tYes) rfl sc_law_family.nd (pi_range1 (by rfl) T.z_range (pa_cons (pv 3) pa_nil)) (blkOk_by (by kernel_rfl)) (fun _ _ _ _ _ => (pg_name (i := 5) sc_law_family.nd rfl (by first | exact Or.inl rfl | exact Or.inr rfl))) (fun _ _ _ _ _ => pts_nil) (fun _ _ _ _ _ => (pe_lc (own := [("b", 6)]) (tt := tYes) rfl sc_law_family.nd (pi_range1 (by rfl) T.z_range (pa_cons (pv 3) pa_nil)) (blkOk_by (by kernel_rfl)) (fun _ _ _ _ _ => (pg_name (i := 6) sc_law_family.nd rfl (by first | exact Or.inl rfl | exact Or.inr rfl))) (fun _ _ _ _ _ => pts_nil) (fun _ _ _ _ _ => (pe_op op_and (pv 5) (pv 6)))))) (pa_cons (pe_op op_sub (pv 3) pe_int) pa_nil))))))) pss_nil)
      (pss_cons (ps_setLc (i := 4) (own := [("a", 5)]) (tt := tYes) rfl sc_law_family.nd rfl rfl (sw_true rfl rfl rfl (by decide +kernel)) (pi_range1 (by rfl) T.z_range (pa_cons (pv 3) pa_nil)) (blkOk_by (by kernel_rfl)) (fun _ _ _ _ _ => (pg_name (i := 5) sc_law_family.nd rfl (by first | exact Or.inl rfl | exact Or.inr rfl))) (fun _ _ _ _ _ => pts_nil) (fun _ _ _ _ _ => (pe_lc (own := [("b", 6)]) (tt := tYes) rfl sc_law_family.nd (pi_range1 (by rfl) T.z_range (pa_cons (pv 3) pa_nil)) (blkOk_by (by kernel_rfl)) (fun _ _ _ _ _ => (pg_name (i := 6) sc_law_family.nd rfl (by first | exact Or.inl rfl | exact Or.inr rfl))) (fun _ _ _ _ _ => pts_nil) (fun _ _ _ _ _ => (pe_ifExp (pt_cmpR op_eq (pe_op op_mul (pv 5) (pv 6)) pe_int (nomark _)) (pe_callB (call_max2 rfl) (by rfl) T.z_max (by decide +kernel) (pa_cons (pv 5) (pa_cons (pv 6) pa_nil))) (pe_callB (call_min2 rfl) (by rfl) T.z_min (by decide +kernel) (pa_cons (pv 5) (pa_cons (pv 6) pa_nil))))))))
      (pss_one (ps_ret (pe_tup (pa_cons (pv 4) (pa_cons (pe_lc (own := [("a", 5)]) (tt := tYes) rfl sc_law_family.nd (pi_range1 (by rfl) T.z_range (pa_cons (pv 3) pa_nil)) (blkOk_by (by kernel_rfl)) (fun _ _ _ _ _ => (pg_name (i := 5) sc_law_family.nd rfl (by first | exact Or.inl rfl | exact Or.inr rfl))) (fun _ _ _ _ _ => pts_nil) (fun _ _ _ _ _ => (pe_lc (own := [("b", 6)]) (tt := tYes) rfl sc_law_family.nd (pi_range1 (by rfl) T.z_range (pa_cons (pv 3) pa_nil)) (blkOk_by (by kernel_rfl)) (fun _ _ _ _ _ => (pg_name (i := 6) sc_law_family.nd rfl (by first | exact Or.inl rfl | exact Or.inr rfl))) (fun _ _ _ _ _ => pts_nil) (fun _ _ _ _ _ => (pe_ifExp (pt_cmpR op_eq (pe_op op_mul (pv 5) (pv 6)) pe_int (nomark _)) pe_int (pe_callB (call_min2 rfl) (by rfl) T.z_min (by decide +kernel) (pa_cons (pe_op op_sub (pe_op op_add (pv 5) (pv 6)) pe_int) (pa_cons (pe_op op_sub (pv 3) pe_int) pa_nil)))))))) (pa_cons pe_int pa_nil)))))))))))))), ?_⟩
    have ha : ∃ o, H a = some o := hp.some
    refine ⟨_, rfl, (by show 2 ≤ sizeLine; decide), fun l hl => ⟨_, rfl, .inr ⟨sm, rfl, ?_⟩⟩⟩
    have s0 : Same H (upd H l (.lst [.int 6, .int 3])) := same_new (Same.refl _) hl
    refine ⟨l, _, _, .int (if sm then 3 else 6), rfl, rfl, SqL.of upd_same, (by cases sm <;> rfl), a, _, rfl, hp.same s0, (by cases sm <;> decide), (by cases sm <;> decide), fun H1 r f1 p1 r0 r1 _ => ⟨_, _, rfl, rfl, ?_⟩⟩
    obtain ⟨ao, hao⟩ := p1.some
    have fin : ∀ (H1 : Hp) (n : Nat) (H2 H3 : Hp) (D D2 t : Addr), Fr1 a H H1 → PotAt H1 a → SR n (fP kd n) (fT kd n) (fO kd n) → n ≤ (if sm then 4 else 8) → Same H1 H2 → LL a H2 D n (fun i j => (fP kd n i j : Int)) → Same H2 H3 → LL a H3 D2 n (fun i j => (fT kd n i j : Int)) → H3 t = none →
        Q (.ref t) (upd H3 t (.tup [.ref D, .ref D2, .int ((fO kd n : Nat) : Int)])) := fun H1 n H2 H3 D D2 t f1 p1 sr hN s2 l2 s3 l3 ht => by
      have st : Same H3 (upd H3 t (.tup [.ref D, .ref D2, .int ((fO kd n : Nat) : Int)])) := same_new (Same.refl _) ht
      have p3 : PotAt H3 a := (p1.same s2).same s3
      obtain ⟨o3, h3⟩ := p3.some
      refine k _ t n _ _ _ (f1.trans (Fr1.of fun b o e => st b o (s3 b o (s2 b o e)))) (p3.same st) ⟨D, D2, ne_of_none h3 ht |>.symm, upd_same, (l2.but (But.of fun b o e => st b o (s3 b o e))), l3.but (But.of st), sr, hN⟩
    have sm1 : Fr1 a H H1 := (Fr1.of s0).trans f1
    obtain ⟨n, hn0, hn1, hn2, en⟩ : ∃ n : Nat, 0 < n ∧ n ≤ (if sm then 4 else 8) ∧ n < 7 ∧ 1 + r = (n : Int) := ⟨(1 + r).toNat, by cases sm <;> simp at r1 ⊢ <;> omega, by cases sm <;> simp at r1 ⊢ <;> omega, by cases sm <;> simp at r1 <;> omega, by omega⟩
    show gName 3 (V.int (1 + r)) _ _ _
    rw [en]
    have small : kd < 3 → SR n (fP kd n) (fT kd n) (fO kd n) := fun h => sr_small h hn0 hn2
    have hn100 : n ≤ 100000 := by omega
    have hc : kd = 0 ∨ kd = 1 ∨ kd = 2 ∨ kd = 3 ∨ kd = 4 ∨ kd = 5 := by omega
    rcases hc with rfl | rfl | rfl | rfl | rfl | rfl
    · refine ⟨_, rfl, rfl, _, rfl, iteT ?_⟩
      refine go_seq ?_
      refine tab_lc (a := a) (ns := 3) (n := n) (ka := 5) (kb := 6) (fun i j => ((fP 0 n i j : Nat) : Int)) hao hn100 (fun i j H' Kt hi hj s kt => ?_) (fun H2 D s2 nD l2 => ?_)
      · have e : ((i : Int) + (j : Int)) % (n : Int) = ((fP 0 n i j : Nat) : Int) := by
          show _ = (((i + j) % n : Nat) : Int)
          push_cast; rfl
        refine ⟨_, rfl, _, rfl, _, _, rfl, rfl, .inl ⟨_, rfl, _, rfl, _, _, rfl, rfl, by omega, ?_⟩⟩
        have z := kt _ (Same.refl _)
        rw [← e] at z
        exact z
      · refine go_ret (go_tup (go_cons (go_var rfl (go_cons ?_))))
        refine tab_lc (a := a) (ns := 3) (n := n) (ka := 5) (kb := 6) (fun i j => ((fT 0 n i j : Nat) : Int)) (s2 _ _ hao) hn100 (fun i j H' Kt hi hj s kt => ?_) (fun H3 D2 s3 nD2 l3 => ?_)
        · have e : ((i : Int) * (j : Int)) % (n : Int) = ((fT 0 n i j : Nat) : Int) := by
            show _ = (((i * j) % n : Nat) : Int)
            push_cast; rfl
          refine ⟨_, rfl, _, rfl, _, _, rfl, rfl, .inr ⟨by omega, by omega⟩, .inl ⟨_, rfl, _, rfl, _, _, rfl, rfl, by omega, ?_⟩⟩
          have z := kt _ (Same.refl _)
          rw [← e] at z
          exact z
        · have fi := fin H1 n H2 H3 D D2
          refine .inl ⟨_, rfl, _, rfl, _, _, rfl, rfl, by omega, ?_⟩
          refine ⟨by (show 3 ≤ sizeLine); decide, fun t ht => ?_⟩
          have eo : (1 : Int) % (n : Int) = ((fO 0 n : Nat) : Int) := by
            show _ = ((1 % n : Nat) : Int); push_cast; rfl
          have z := fi t sm1 p1 (small (by decide)) hn1 s2 l2 s3 l3 ht
          rw [← eo] at z
          exact z
    · refine ⟨_, rfl, rfl, _, rfl, iteF ?_⟩
      refine ⟨_, rfl, rfl, _, rfl, iteT ?_⟩
      refine go_seq ?_
      refine tab_lc (a := a) (ns := 3) (n := n) (ka := 5) (kb := 6) (fun i j => ((fP 1 n i j : Nat) : Int)) hao hn100 (fun i j H' Kt hi hj s kt => ?_) (fun H2 D s2 nD l2 => ?_)
      · have e : (if (n : Int) - 1 < (i : Int) + (j : Int) then (n : Int) - 1 else (i : Int) + (j : Int)) = ((fP 1 n i j : Nat) : Int) := by
          show _ = ((min (i + j) (n - 1) : Nat) : Int)
          rw [Nat.min_def]; split <;> split <;> omega
        refine ⟨_, rfl, _, rfl, _, _, rfl, rfl, _, rfl, _, _, rfl, rfl, _, _, rfl, ?_⟩
        have z := kt _ (Same.refl _)
        rw [← e] at z
        exact z
      · refine go_ret (go_tup (go_cons (go_var rfl (go_cons ?_))))
        refine tab_lc (a := a) (ns := 3) (n := n) (ka := 5) (kb := 6) (fun i j => ((fT 1 n i j : Nat) : Int)) (s2 _ _ hao) hn100 (fun i j H' Kt hi hj s kt => ?_) (fun H3 D2 s3 nD2 l3 => ?_)
        · have e : (if (n : Int) - 1 < (i : Int) * (j : Int) then (n : Int) - 1 else (i : Int) * (j : Int)) = ((fT 1 n i j : Nat) : Int) := by
            show _ = ((min (i * j) (n - 1) : Nat) : Int)
            rw [Nat.min_def]
            have z : ((i : Int) * (j : Int)) = ((i * j : Nat) : Int) := by push_cast; rfl
            rw [z]; generalize i * j = q; split <;> split <;> omega
          refine ⟨_, rfl, _, rfl, _, _, rfl, rfl, .inr ⟨by omega, by omega⟩, _, rfl, _, _, rfl, rfl, _, _, rfl, ?_⟩
          have z := kt _ (Same.refl _)
          rw [← e] at z
          exact z
        · have fi := fin H1 n H2 H3 D D2
          refine ⟨_, rfl, _, _, rfl, rfl, _, _, rfl, ?_⟩
          refine ⟨by (show 3 ≤ sizeLine); decide, fun t ht => ?_⟩
          have eo : (if (n : Int) - 1 < 1 then (n : Int) - 1 else 1) = ((fO 1 n : Nat) : Int) := by
            show _ = ((min 1 (n - 1) : Nat) : Int); rw [Nat.min_def]; split <;> split <;> omega
          have z := fi t sm1 p1 (small (by decide)) hn1 s2 l2 s3 l3 ht
          rw [← eo] at z
          exact z
    · refine ⟨_, rfl, rfl, _, rfl, iteF ?_⟩
      refine ⟨_, rfl, rfl, _, rfl, iteF ?_⟩
      refine ⟨_, rfl, rfl, _, rfl, iteT ?_⟩
      refine go_seq ?_
      refine tab_lc (a := a) (ns := 3) (n := n) (ka := 5) (kb := 6) (fun i j => ((fP 2 n i j : Nat) : Int)) hao hn100 (fun i j H' Kt hi hj s kt => ?_) (fun H2 D s2 nD l2 => ?_)
      · have e : (if (j : Int) > (i : Int) then (j : Int) else (i : Int)) = ((fP 2 n i j : Nat) : Int) := by
          show _ = ((max i j : Nat) : Int)
          rw [Nat.max_def]; split <;> split <;> omega
        refine ⟨_, rfl, _, rfl, _, _, rfl, ?_⟩
        have z := kt _ (Same.refl _)
        rw [← e] at z
        exact z
      · refine go_ret (go_tup (go_cons (go_var rfl (go_cons ?_))))
        refine tab_lc (a := a) (ns := 3) (n := n) (ka := 5) (kb := 6) (fun i j => ((fT 2 n i j : Nat) : Int)) (s2 _ _ hao) hn100 (fun i j H' Kt hi hj s kt => ?_) (fun H3 D2 s3 nD2 l3 => ?_)
        · have e : (if (j : Int) < (i : Int) then (j : Int) else (i : Int)) = ((fT 2 n i j : Nat) : Int) := by
            show _ = ((min i j : Nat) : Int)
            rw [Nat.min_def]; split <;> split <;> omega
          refine ⟨_, rfl, _, rfl, _, _, rfl, ?_⟩
          have z := kt _ (Same.refl _)
          rw [← e] at z
          exact z
        · have fi := fin H1 n H2 H3 D D2
          refine ⟨_, rfl, _, _, rfl, rfl, ?_⟩
          refine ⟨by (show 3 ≤ sizeLine); decide, fun t ht => ?_⟩
          have eo : ((n : Int) - 1) = ((fO 2 n : Nat) : Int) := by
            show _ = ((n - 1 : Nat) : Int); omega
          have z := fi t sm1 p1 (small (by decide)) hn1 s2 l2 s3 l3 ht
          rw [← eo] at z
          exact z
    · refine ⟨_, rfl, rfl, _, rfl, iteF ?_⟩
      refine ⟨_, rfl, rfl, _, rfl, iteF ?_⟩
      refine ⟨_, rfl, rfl, _, rfl, iteF ?_⟩
      refine go_next ?_
      refine go_seq ?_
      refine ⟨(by show 3 ≤ sizeLine; decide), fun l2 hl2 => ⟨_, rfl, (by show 2 ≤ sizeLine; decide), fun l3 hl3 => ⟨_, rfl, .inr ⟨sm, rfl, ?_⟩⟩⟩⟩
      have t1 : Same H1 (upd H1 l2 (.lst [.int 2, .int 4, .int 8])) := same_new (Same.refl _) hl2
      have t2 : Same (upd H1 l2 (.lst [.int 2, .int 4, .int 8])) (upd (upd H1 l2 (.lst [.int 2, .int 4, .int 8])) l3 (.lst [.int 3, .int 2])) := same_new (Same.refl _) hl3
      refine ⟨l3, _, _, .int (if sm then 2 else 3), rfl, rfl, SqL.of upd_same, (by cases sm <;> rfl), a, _, rfl, (p1.same t1).same t2, (by cases sm <;> decide), (by cases sm <;> decide), fun H4 q f4 p4 q0 q1 _ => ?_⟩
      have l2a : l2 ≠ a := (ne_of_none hao hl2).symm
      have g2 : H4 l2 = some (.lst [.int 2, .int 4, .int 8]) := f4 _ _ l2a (t2 _ _ upd_same)
      have sm4 : Fr1 a H H4 := sm1.trans ((Fr1.of fun b o e => t2 b o (t1 b o e)).trans f4)
      obtain ⟨ao4, hao4⟩ := p4.some
      obtain ⟨n, hn8, hnsm, h3, h4, h5, hat⟩ : ∃ n : Nat, n ≤ 8 ∧ n ≤ (if sm then 4 else 8) ∧ SR n (fP 3 n) (fT 3 n) (fO 3 n) ∧ SR n (fP 4 n) (fT 4 n) (fO 4 n) ∧ SR n (fP 5 n) (fT 5 n) (fO 5 n) ∧ atI [V.int 2, V.int 4, V.int 8] q = some (.int (n : Int)) := by
        have hq : q = 0 ∨ q = 1 ∨ (q = 2 ∧ sm = false) := by cases sm <;> simp at q1 ⊢ <;> omega
        rcases hq with rfl | rfl | ⟨rfl, rfl⟩
        · exact ⟨2, by decide, by cases sm <;> decide, sr_bits (k := 0) (m := 0) (by decide) (by decide), sr_bits (k := 1) (m := 0) (by decide) (by decide), sr_bits (k := 2) (m := 0) (by decide) (by decide), rfl⟩
        · exact ⟨4, by decide, by cases sm <;> decide, sr_bits (k := 0) (m := 1) (by decide) (by decide), sr_bits (k := 1) (m := 1) (by decide) (by decide), sr_bits (k := 2) (m := 1) (by decide) (by decide), rfl⟩
        · exact ⟨8, by decide, by decide, sr_bits (k := 0) (m := 2) (by decide) (by decide), sr_bits (k := 1) (m := 2) (by decide) (by decide), sr_bits (k := 2) (m := 2) (by decide) (by decide), rfl⟩
      refine ⟨l2, _, _, _, rfl, rfl, SqL.of g2, hat, go_name rfl ?_⟩
      have hn100 : n ≤ 100000 := by omega
      refine ⟨_, rfl, rfl, _, rfl, iteT ?_⟩
      refine go_seq ?_
      refine tab_lc (a := a) (ns := 3) (n := n) (ka := 5) (kb := 6) (fun i j => ((fP 3 n i j : Nat) : Int)) hao4 hn100 (fun i j H' Kt hi hj s kt => ?_) (fun H2 D s2 nD l2 => ?_)
      · have e : Builtin.bitOr (i : Int) (j : Int) = ((fP 3 n i j : Nat) : Int) := by
          exact or8 (by omega) (by omega)
        refine ⟨_, rfl, _, rfl, _, _, rfl, rfl, ?_⟩
        have z := kt _ (Same.refl _)
        rw [← e] at z
        exact z
      · refine go_ret (go_tup (go_cons (go_var rfl (go_cons ?_))))
        refine tab_lc (a := a) (ns := 3) (n := n) (ka := 5) (kb := 6) (fun i j => ((fT 3 n i j : Nat) : Int)) (s2 _ _ hao4) hn100 (fun i j H' Kt hi hj s kt => ?_) (fun H3 D2 s3 nD2 l3 => ?_)
        · have e : Builtin.bitAnd (i : Int) (j : Int) = ((fT 3 n i j : Nat) : Int) := by
            exact and8 (by omega) (by omega)
          refine ⟨_, rfl, _, rfl, _, _, rfl, rfl, ?_⟩
          have z := kt _ (Same.refl _)
          rw [← e] at z
          exact z
        · have fi := fin H4 n H2 H3 D D2
          refine ⟨_, rfl, _, _, rfl, rfl, ?_⟩
          refine ⟨by (show 3 ≤ sizeLine); decide, fun t ht => ?_⟩
          have eo : ((n : Int) - 1) = ((fO 3 n : Nat) : Int) := by
            show _ = ((n - 1 : Nat) : Int); have := h3.pos; omega
          have z := fi t sm4 p4 h3 hnsm s2 l2 s3 l3 ht
          rw [← eo] at z
          exact z
    · refine ⟨_, rfl, rfl, _, rfl, iteF ?_⟩
      refine ⟨_, rfl, rfl, _, rfl, iteF ?_⟩
      refine ⟨_, rfl, rfl, _, rfl, iteF ?_⟩
      refine go_next ?_
      refine go_seq ?_
      refine ⟨(by show 3 ≤ sizeLine; decide), fun l2 hl2 => ⟨_, rfl, (by show 2 ≤ sizeLine; decide), fun l3 hl3 => ⟨_, rfl, .inr ⟨sm, rfl, ?_⟩⟩⟩⟩
      have t1 : Same H1 (upd H1 l2 (.lst [.int 2, .int 4, .int 8])) := same_new (Same.refl _) hl2
      have t2 : Same (upd H1 l2 (.lst [.int 2, .int 4, .int 8])) (upd (upd H1 l2 (.lst [.int 2, .int 4, .int 8])) l3 (.lst [.int 3, .int 2])) := same_new (Same.refl _) hl3
      refine ⟨l3, _, _, .int (if sm then 2 else 3), rfl, rfl, SqL.of upd_same, (by cases sm <;> rfl), a, _, rfl, (p1.same t1).same t2, (by cases sm <;> decide), (by cases sm <;> decide), fun H4 q f4 p4 q0 q1 _ => ?_⟩
      have l2a : l2 ≠ a := (ne_of_none hao hl2).symm
      have g2 : H4 l2 = some (.lst [.int 2, .int 4, .int 8]) := f4 _ _ l2a (t2 _ _ upd_same)
      have sm4 : Fr1 a H H4 := sm1.trans ((Fr1.of fun b o e => t2 b o (t1 b o e)).trans f4)
      obtain ⟨ao4, hao4⟩ := p4.some
      obtain ⟨n, hn8, hnsm, h3, h4, h5, hat⟩ : ∃ n : Nat, n ≤ 8 ∧ n ≤ (if sm then 4 else 8) ∧ SR n (fP 3 n) (fT 3 n) (fO 3 n) ∧ SR n (fP 4 n) (fT 4 n) (fO 4 n) ∧ SR n (fP 5 n) (fT 5 n) (fO 5 n) ∧ atI [V.int 2, V.int 4, V.int 8] q = some (.int (n : Int)) := by
        have hq : q = 0 ∨ q = 1 ∨ (q = 2 ∧ sm = false) := by cases sm <;> simp at q1 ⊢ <;> omega
        rcases hq with rfl | rfl | ⟨rfl, rfl⟩
        · exact ⟨2, by decide, by cases sm <;> decide, sr_bits (k := 0) (m := 0) (by decide) (by decide), sr_bits (k := 1) (m := 0) (by decide) (by decide), sr_bits (k := 2) (m := 0) (by decide) (by decide), rfl⟩
        · exact ⟨4, by decide, by cases sm <;> decide, sr_bits (k := 0) (m := 1) (by decide) (by decide), sr_bits (k := 1) (m := 1) (by decide) (by decide), sr_bits (k := 2) (m := 1) (by decide) (by decide), rfl⟩
        · exact ⟨8, by decide, by decide, sr_bits (k := 0) (m := 2) (by decide) (by decide), sr_bits (k := 1) (m := 2) (by decide) (by decide), sr_bits (k := 2) (m := 2) (by decide) (by decide), rfl⟩
      refine ⟨l2, _, _, _, rfl, rfl, SqL.of g2, hat, go_name rfl ?_⟩
      have hn100 : n ≤ 100000 := by omega
      refine ⟨_, rfl, rfl, _, rfl, iteF ?_⟩
      refine ⟨_, rfl, rfl, _, rfl, iteT ?_⟩
      refine go_seq ?_
      refine tab_lc (a := a) (ns := 3) (n := n) (ka := 5) (kb := 6) (fun i j => ((fP 4 n i j : Nat) : Int)) hao4 hn100 (fun i j H' Kt hi hj s kt => ?_) (fun H2 D s2 nD l2 => ?_)
      · have e : Builtin.bitXor (i : Int) (j : Int) = ((fP 4 n i j : Nat) : Int) := by
          exact xor8 (by omega) (by omega)
        refine ⟨_, rfl, _, rfl, _, _, rfl, rfl, ?_⟩
        have z := kt _ (Same.refl _)
        rw [← e] at z
        exact z
      · refine go_ret (go_tup (go_cons (go_var rfl (go_cons ?_))))
        refine tab_lc (a := a) (ns := 3) (n := n) (ka := 5) (kb := 6) (fun i j => ((fT 4 n i j : Nat) : Int)) (s2 _ _ hao4) hn100 (fun i j H' Kt hi hj s kt => ?_) (fun H3 D2 s3 nD2 l3 => ?_)
        · have e : Builtin.bitAnd (i : Int) (j : Int) = ((fT 4 n i j : Nat) : Int) := by
            exact and8 (by omega) (by omega)
          refine ⟨_, rfl, _, rfl, _, _, rfl, rfl, ?_⟩
          have z := kt _ (Same.refl _)
          rw [← e] at z
          exact z
        · have fi := fin H4 n H2 H3 D D2
          refine ⟨_, rfl, _, _, rfl, rfl, ?_⟩
          refine ⟨by (show 3 ≤ sizeLine); decide, fun t ht => ?_⟩
          have eo : ((n : Int) - 1) = ((fO 4 n : Nat) : Int) := by
            show _ = ((n - 1 : Nat) : Int); have := h4.pos; omega
          have z := fi t sm4 p4 h4 hnsm s2 l2 s3 l3 ht
          rw [← eo] at z
          exact z
    · refine ⟨_, rfl, rfl, _, rfl, iteF ?_⟩
      refine ⟨_, rfl, rfl, _, rfl, iteF ?_⟩
      refine ⟨_, rfl, rfl, _, rfl, iteF ?_⟩
      refine go_next ?_
      refine go_seq ?_
      refine ⟨(by show 3 ≤ sizeLine; decide), fun l2 hl2 => ⟨_, rfl, (by show 2 ≤ sizeLine; decide), fun l3 hl3 => ⟨_, rfl, .inr ⟨sm, rfl, ?_⟩⟩⟩⟩
      have t1 : Same H1 (upd H1 l2 (.lst [.int 2, .int 4, .int 8])) := same_new (Same.refl _) hl2
      have t2 : Same (upd H1 l2 (.lst [.int 2, .int 4, .int 8])) (upd (upd H1 l2 (.lst [.int 2, .int 4, .int 8])) l3 (.lst [.int 3, .int 2])) := same_new (Same.refl _) hl3
      refine ⟨l3, _, _, .int (if sm then 2 else 3), rfl, rfl, SqL.of upd_same, (by cases sm <;> rfl), a, _, rfl, (p1.same t1).same t2, (by cases sm <;> decide), (by cases sm <;> decide), fun H4 q f4 p4 q0 q1 _ => ?_⟩
      have l2a : l2 ≠ a := (ne_of_none hao hl2).symm
      have g2 : H4 l2 = some (.lst [.int 2, .int 4, .int 8]) := f4 _ _ l2a (t2 _ _ upd_same)
      have sm4 : Fr1 a H H4 := sm1.trans ((Fr1.of fun b o e => t2 b o (t1 b o e)).trans f4)
      obtain ⟨ao4, hao4⟩ := p4.some
      obtain ⟨n, hn8, hnsm, h3, h4, h5, hat⟩ : ∃ n : Nat, n ≤ 8 ∧ n ≤ (if sm then 4 else 8) ∧ SR n (fP 3 n) (fT 3 n) (fO 3 n) ∧ SR n (fP 4 n) (fT 4 n) (fO 4 n) ∧ SR n (fP 5 n) (fT 5 n) (fO 5 n) ∧ atI [V.int 2, V.int 4, V.int 8] q = some (.int (n : Int)) := by
        have hq : q = 0 ∨ q = 1 ∨ (q = 2 ∧ sm = false) := by cases sm <;> simp at q1 ⊢ <;> omega
        rcases hq with rfl | rfl | ⟨rfl, rfl⟩
        · exact ⟨2, by decide, by cases sm <;> decide, sr_bits (k := 0) (m := 0) (by decide) (by decide), sr_bits (k := 1) (m := 0) (by decide) (by decide), sr_bits (k := 2) (m := 0) (by decide) (by decide), rfl⟩
        · exact ⟨4, by decide, by cases sm <;> decide, sr_bits (k := 0) (m := 1) (by decide) (by decide), sr_bits (k := 1) (m := 1) (by decide) (by decide), sr_bits (k := 2) (m := 1) (by decide) (by decide), rfl⟩
        · exact ⟨8, by decide, by decide, sr_bits (k := 0) (m := 2) (by decide) (by decide), sr_bits (k := 1) (m := 2) (by decide) (by decide), sr_bits (k := 2) (m := 2) (by decide) (by decide), rfl⟩
      refine ⟨l2, _, _, _, rfl, rfl, SqL.of g2, hat, go_name rfl ?_⟩
      have hn100 : n ≤ 100000 := by omega
      refine ⟨_, rfl, rfl, _, rfl, iteF ?_⟩
      refine ⟨_, rfl, rfl, _, rfl, iteF ?_⟩
      refine go_next ?_
      refine go_seq ?_
      refine tab_lc (a := a) (ns := 3) (n := n) (ka := 5) (kb := 6) (fun i j => ((fP 5 n i j : Nat) : Int)) hao4 hn100 (fun i j H' Kt hi hj s kt => ?_) (fun H2 D s2 nD l2 => ?_)
      · have e : ((fP 5 n i j : Nat) : Int) = ((fP 5 n i j : Nat) : Int) := by
          rfl
        refine ⟨_, rfl, _, rfl, _, _, rfl, rfl, .inr ⟨by omega, by omega⟩, rfl, _, rfl, ?_⟩
        refine ite2 (fun c => ?_) (fun c => ?_)
        · have c2 : (i : Int) * (j : Int) = 0 := by have c1 := of_decide_eq_true c; injection c1
          have c3 : i * j = 0 := by exact_mod_cast c2
          have e : (if (j : Int) > (i : Int) then (j : Int) else (i : Int)) = ((fP 5 n i j : Nat) : Int) := by
            show _ = ((if i * j = 0 then max i j else min i j : Nat) : Int)
            rw [if_pos c3, Nat.max_def]; split <;> split <;> omega
          refine ⟨_, rfl, _, rfl, _, _, rfl, ?_⟩
          have z := kt _ (Same.refl _)
          rw [← e] at z
          exact z
        · have c3 : ¬ i * j = 0 := fun z => by
            refine c (decide_eq_true ?_)
            have z2 : (i : Int) * (j : Int) = 0 := by exact_mod_cast z
            exact congrArg V.int z2
          have e : (if (j : Int) < (i : Int) then (j : Int) else (i : Int)) = ((fP 5 n i j : Nat) : Int) := by
            show _ = ((if i * j = 0 then max i j else min i j : Nat) : Int)
            rw [if_neg c3, Nat.min_def]; split <;> split <;> omega
          refine ⟨_, rfl, _, rfl, _, _, rfl, ?_⟩
          have z := kt _ (Same.refl _)
          rw [← e] at z
          exact z
      · refine go_ret (go_tup (go_cons (go_var rfl (go_cons ?_))))
        refine tab_lc (a := a) (ns := 3) (n := n) (ka := 5) (kb := 6) (fun i j => ((fT 5 n i j : Nat) : Int)) (s2 _ _ hao4) hn100 (fun i j H' Kt hi hj s kt => ?_) (fun H3 D2 s3 nD2 l3 => ?_)
        · have e : ((fT 5 n i j : Nat) : Int) = ((fT 5 n i j : Nat) : Int) := by
            rfl
          refine ⟨_, rfl, _, rfl, _, _, rfl, rfl, .inr ⟨by omega, by omega⟩, rfl, _, rfl, ?_⟩
          refine ite2 (fun c => ?_) (fun c => ?_)
          · have c2 : (i : Int) * (j : Int) = 0 := by have c1 := of_decide_eq_true c; injection c1
            have c3 : i * j = 0 := by exact_mod_cast c2
            have e : (0 : Int) = ((fT 5 n i j : Nat) : Int) := by
              show _ = ((if i * j = 0 then 0 else min (i + j - 1) (n - 1) : Nat) : Int)
              rw [if_pos c3]; rfl
            have z := kt _ (Same.refl _)
            rw [← e] at z
            exact z
          · have c3 : ¬ i * j = 0 := fun z => by
              refine c (decide_eq_true ?_)
              have z2 : (i : Int) * (j : Int) = 0 := by exact_mod_cast z
              exact congrArg V.int z2
            have c4 : 0 < i + j := by
              rcases Nat.eq_zero_or_pos (i + j) with h | h
              · have : i = 0 := by omega
                subst this
                exact absurd (Nat.zero_mul _) c3
              · exact h
            have e : (if (n : Int) - 1 < (i : Int) + (j : Int) - 1 then (n : Int) - 1 else (i : Int) + (j : Int) - 1) = ((fT 5 n i j : Nat) : Int) := by
              show _ = ((if i * j = 0 then 0 else min (i + j - 1) (n - 1) : Nat) : Int)
              rw [if_neg c3, Nat.min_def]; split <;> split <;> omega
            refine ⟨_, rfl, _, rfl, _, _, rfl, rfl, _, _, rfl, rfl, _, rfl, _, _, rfl, rfl, _, _, rfl, ?_⟩
            have z := kt _ (Same.refl _)
            rw [← e] at z
            exact z
        · have fi := fin H4 n H2 H3 D D2
          refine ⟨by (show 3 ≤ sizeLine); decide, fun t ht => ?_⟩
          exact fi t sm4 p4 h5 hnsm s2 l2 s3 l3 ht
end
end K05

set_option Elab.async false
set_option linter.all false
set_option maxRecDepth 100000
set_option maxHeartbeats 4000000
namespace K05
open PySem L2 Ew Tb SRm
local macro_rules | `(tactic| walk_at "len") => `(tactic| first | (intro h; obtain ⟨_, e, _⟩ := h; rw [e]; rfl) | (intro h; obtain ⟨_, _, e, _⟩ := h; rw [e]; rfl) | (intro h; obtain ⟨_, _, _, e, _⟩ := h; rw [e]; rfl) | (intro h; obtain ⟨_, _, _, _, e, _⟩ := h; rw [e]; rfl) | (intro h; obtain ⟨_, _, _, _, _, e, _⟩ := h; rw [e]; rfl) | (intro h; obtain ⟨_, _, _, _, _, _, e, _⟩ := h; rw [e]; rfl) | (intro h; obtain ⟨_, _, _, _, _, _, _, e, _⟩ := h; rw [e]; rfl) | (intro h; obtain ⟨_, _, _, _, _, _, _, _, _, _, _, _, e, _⟩ := h; rw [e]; rfl) | (intro h; exact h.elim))
section
variable {P : Program} {w : World} {K : PySem.W.Frag} {mg : Str → Option Value} {base : Heap} {ad : Ad}
theorem ll_at {a D : Addr} {H : Hp} {n i j : Nat} {F : Nat → Nat → Int} (x : LL a H D n F) (hi : i < n) (hj : j < n) : ∃ r rows, H D = some (.lst rows) ∧ rows[i]? = some (.ref r) ∧ ∃ cells, H r = some (.lst cells) ∧ cells[j]? = some (.int (F i j)) := by
  obtain ⟨rows, h1, h2, h3, h4⟩ := x
  obtain ⟨r, e1, e2, e3⟩ := h4 i hi
  exact ⟨r, rows, h2, e1, _, e3, at_map (f := fun j => V.int (F i j)) hj⟩
theorem ll_len {a D : Addr} {H : Hp} {n : Nat} {F : Nat → Nat → Int} (x : LL a H D n F) : ∃ rows, H D = some (.lst rows) ∧ rows.length = n := by
  obtain ⟨rows, h1, h2, h3, h4⟩ := x
  exact ⟨rows, h2, h3⟩
theorem FamT.but {a t : Addr} {H H' : Hp} {N n o : Nat} {f g : Nat → Nat → Nat} (x : FamT a H t N n f g o) (b : But a H H') : FamT a H' t N n f g o := by
  obtain ⟨p, m, h1, h2, h3, h4, h5⟩ := x
  exact ⟨p, m, h1, b _ _ h1 h2, h3.but b, h4.but b, h5⟩
def spPaired : Sp := fun vs H Q _ => ∃ (c x y : Addr) (co : HO) (n m o o' : Nat) (f g f' g' : Nat → Nat → Nat), vs = [.ref x, .ref y] ∧ H c = some co ∧ FamT c H x 4 n f g o ∧ FamT c H y 4 m f' g' o' ∧
  ∀ H' t, Same H H' → FamT c H' t 16 (n * m) (pr2 m f f') (pr2 m g g') (o * m + o') → Q (.ref t) H'
theorem ok_law_paired  {f : Addr} {fd : FuncData} (F : Fun K "_law_paired" "_law_paired" s_law_paired f fd) (T : Txt K mg ad) : FnOk P w K mg base (L2.CX P w) 1 f fd ["one", "other"] (spPaired) := by
  refine F.okX sc_law_paired (fun vs H Q E => ?_) (fun cdv A outer s H vs Q E hr h => ?_)
  · walk_at "len"
  ·
    obtain ⟨c, x, y, co, n, m, o, o', f, g, f', g', rfl, hc, ⟨p1, q1, hxc, hx, lp1, lq1, sr1, hn4⟩, ⟨p2, q2, hyc, hy, lp2, lq2, sr2, hm4⟩, k⟩ := h
    refine ⟨_, (pss_cons (ps_set (i := 2) sc_law_paired.nd rfl (by first | exact Or.inl rfl | exact Or.inr rfl) (pe_callB call_len (by rfl) T.z_len (by decide +kernel) (pa_cons (pe_ix ix_tup (pv 1) pe_int (fun _ _ => rfl)) pa_nil)))
      (pss_cons (ps_set (i := 3) sc_law_paired.nd rfl (by first | exact Or.inl rfl | exact Or.inr rfl) (pe_lst pa_nil))
      (pss_cons (ps_for (passes_of rfl) rfl (pi_range1 (by rfl) T.z_range (pa_cons (pe_callB call_len (by rfl) T.z_len (by decide +kernel) (pa_cons (pe_ix ix_tup (pv 0) pe_int (fun _ _ => rfl)) pa_nil)) pa_nil)) (pg_name (i := 4) sc_law_paired.nd rfl (by first | exact Or.inl rfl | exact Or.inr rfl)) (pss_one (ps_set (i := 3) sc_law_paired.nd rfl (by first | exact Or.inl rfl | exact Or.inr rfl) (pe_op op_cat (pv 3) (pe_lc (own := [("b", 7)]) (tt := tYes) rfl sc_law_paired.nd (pi_range1 (by rfl) T.z_range (pa_cons (pv 2) pa_nil)) (blkOk_by (by kernel_rfl)) (fun _ _ _ _ _ => (pg_name (i := 7) sc_law_paired.nd rfl (by first | exact Or.inl rfl | exact Or.inr rfl))) (fun _ _ _ _ _ => pts_nil) (fun _ _ _ _ _ => (pe_tup (pa_cons (pv 4) (pa_cons (pv 7) pa_nil)))))))))
      (pss_cons (ps_setLc (i := 5) (own := [("a", 4)]) (tt := tYes) rfl sc_law_paired.nd rfl rfl (sw_true rfl rfl rfl (by decide +kernel)) (pi_list (pv 3)) (blkOk_by (by kernel_rfl)) (fun _ _ _ _ _ => (pg_name (i := 4) sc_law_paired.nd rfl (by first | exact Or.inl rfl | exact Or.inr rfl))) (fun _ _ _ _ _ => pts_nil) (fun _ _ _ _ _ => (pe_lc (own := [("b", 7)]) (tt := tYes) rfl sc_law_paired.nd (kpi_list (K := K) (pv 3)) (blkOk_by (by kernel_rfl)) (fun _ _ _ _ _ => (pg_name (i := 7) sc_law_paired.nd rfl (by first | exact Or.inl rfl | exact Or.inr rfl))) (fun _ _ _ _ _ => pts_nil) (fun _ _ _ _ _ => (pe_op op_add (pe_op op_mul (pe_ix (kix_list (K := K)) (pe_ix (kix_list (K := K)) (pe_ix (kix_tup (K := K)) (pv 0) pe_int (fun _ _ => rfl)) (pe_ix (kix_tup (K := K)) (pv 4) pe_int (fun _ _ => rfl)) (fun _ _ => rfl)) (pe_ix (kix_tup (K := K)) (pv 7) pe_int (fun _ _ => rfl)) (fun _ _ => rfl)) (pv 2)) (pe_ix (kix_list (K := K)) (pe_ix (kix_list (K := K)) (pe_ix (kix_tup (K := K)) (pv 1) pe_int (fun _ _ => rfl)) (pe_ix (kix_tup (K := K)) (pv 4) pe_int (fun _ _ => rfl)) (fun _ _ => rfl)) (pe_ix (kix_tup (K := K)) (pv 7) pe_int (fun _ _ => rfl)) (fun _ _ => rfl)))))))
      (pss_cons (ps_setLc (i := 6) (own := [("a", 4)]) (tt := tYes) rfl sc_law_paired.nd rfl rfl (sw_true rfl rfl rfl (by decide +kernel)) (pi_list (pv 3)) (blkOk_by (by kernel_rfl)) (fun _ _ _ _ _ => (pg_name (i := 4) sc_law_paired.nd rfl (by first | exact Or.inl rfl | exact Or.inr rfl))) (fun _ _ _ _ _ => pts_nil) (fun _ _ _ _ _ => (pe_lc (own := [("b", 7)]) (tt := tYes) rfl sc_law_paired.nd (kpi_list (K := K) (pv 3)) (blkOk_by (by kernel_rfl)) (fun _ _ _ _ _ => (pg_name (i := 7) sc_law_paired.nd rfl (by first | exact Or.inl rfl | exact Or.inr rfl))) (fun _ _ _ _ _ => pts_nil) (fun _ _ _ _ _ => (pe_op op_add (pe_op op_mul (pe_ix (kix_list (K := K)) (pe_ix (kix_list (K := K)) (pe_ix (kix_tup (K := K)) (pv 0) pe_int (fun _ _ => rfl)) (pe_ix (kix_tup (K := K)) (pv 4) pe_int (fun _ _ => rfl)) (fun _ _ => rfl)) (pe_ix (kix_tup (K := K)) (pv 7) pe_int (fun _ _ => rfl)) (fun _ _ => rfl)) (pv 2)) (pe_ix (kix_list (K := K)) (pe_ix (kix_list (K := K)) (pe_ix (kix_tup (K := K)) (pv 1) pe_int (fun _ _ => rfl)) (pe_ix (kix_tup (K := K)) (pv 4) pe_int (fun _ _ => rfl)) (fun _ _ => rfl)) (pe_ix (kix_tup (K := K)) (pv 7) pe_int (fun _ _ => rfl)) (fun _ _ => rfl)))))))
      (pss_one (ps_ret (pe_tup (pa_cons (pv 5) (pa_cons (pv 6) (pa_cons (pe_op op_add (pe_op op_mul (pe_ix ix_tup (pv 0) pe_int (fun _ _ => rfl)) (pv 2)) (pe_ix ix_tup (pv 1) pe_int (fun _ _ => rfl))) pa_nil))))))))))), ?_⟩
    have hm0 := sr2.pos
    have hn0 := sr1.pos
    obtain ⟨rp1, ep1, lp1'⟩ := ll_len lp1
    obtain ⟨rp2, ep2, lp2'⟩ := ll_len lp2
    refine go_seq ⟨_, rfl, y, _, _, _, rfl, rfl, SqT.of hy, (by rfl), .ref p2, _, rfl, .inl ⟨_, SqL.of ep2, rfl⟩, ?_⟩
    rw [lp2']
    refine go_name rfl ?_
    refine go_seq ⟨by (show 0 ≤ sizeLine); decide, fun L0 hL0 => go_name rfl ?_⟩
    have sL0 : Same H (upd H L0 (.lst [])) := same_new (Same.refl _) hL0
    have hnm : n * m ≤ 16 := Nat.le_trans (Nat.mul_le_mul hn4 hm4) (by decide)
    refine ⟨_, rfl, x, _, _, _, rfl, rfl, SqT.of (sL0 _ _ hx), (by rfl), .ref p1, _, rfl, .inl ⟨_, SqL.of (sL0 _ _ ep1), rfl⟩, _, rfl, by omega, by omega, ?_⟩
    rw [lp1', Int.toNat_natCast]
    refine for_range (lo := 0) (n := n) (fun i σ H' => ∃ (L : Addr) (items : List V) (va : Option V), σ = [some (.ref x), some (.ref y), some (.int (m : Int)), some (.ref L), va, none, none, none] ∧ Same H H' ∧ H' L = some (.lst items) ∧ items.length = i * m ∧ ∀ (k : Nat) v, items[k]? = some v → ∃ q, v = .ref q ∧ H' q = some (.tup [.int ((k / m : Nat) : Int), .int ((k % m : Nat) : Int)]))
      ⟨L0, [], none, rfl, sL0, upd_same, by simp, fun k v e => by simp at e⟩ ?_ ?_
    · rintro i σ H1 hi ⟨L, items, va, rfl, s1, hL, hlen, hit⟩
      rw [Int.zero_add]
      refine go_name rfl ?_
      refine ⟨_, rfl, _, rfl, _, rfl, by omega, by omega, fun D hD => ?_⟩
      rw [Int.toNat_natCast]
      refine lc_rng (lo := 0) (n := m) (fun j v H' => ∃ q, v = .ref q ∧ q ≠ D ∧ H' q = some (.tup [.int (i : Int), .int (j : Int)])) hD (fun j v H2 H3 b ⟨q, e1, e2, e3⟩ => ⟨q, e1, e2, b _ _ e2 e3⟩) (by omega) (fun _ => rfl) (fun j H2 acc Kt hj s2 e2 kt => ?_) (fun H2 rows s2 e2 hrl hrr => ?_)
      · rw [Int.zero_add]
        refine ⟨_, rfl, _, rfl, by (show 2 ≤ sizeLine); decide, fun q hq => ?_⟩
        exact kt _ _ (same_new (Same.refl _) hq) ⟨q, rfl, (fun z => by rw [z, e2] at hq; cases hq), upd_same⟩
      · have hlim : items.length + rows.length ≤ sizeLine := by
          rw [hlen, hrl]
          have : i * m + m ≤ n * m := by have := Nat.mul_le_mul_right m hi; rw [Nat.succ_mul] at this; exact this
          exact Nat.le_trans (by omega : i * m + m ≤ 16) (by decide)
        refine ⟨L, D, items, rows, rfl, rfl, s2 _ _ hL, e2, hlim, fun p hp => ?_⟩
        refine ⟨p, items ++ rows, some (.int (i : Int)), rfl, same_new (fun b o e => s2 b o (s1 b o e)) (by rcases hq : H p with _ | w'; rfl; exact absurd (s2 _ _ (s1 _ _ hq)) (by rw [hp]; simp)), upd_same, by rw [List.length_append, hlen, hrl, Nat.succ_mul], fun k v e => ?_⟩
        by_cases ck : k < items.length
        · rw [List.getElem?_append_left ck] at e
          obtain ⟨q, e1, e3⟩ := hit k v e
          exact ⟨q, e1, by rw [upd_ne (ne_of_none (s2 _ _ e3) hp)]; exact s2 _ _ e3⟩
        · rw [List.getElem?_append_right (by omega)] at e
          obtain ⟨q, e1, _, e3⟩ := hrr _ v e
          have hkm : k - items.length < m := by
            rcases Nat.lt_or_ge (k - items.length) rows.length with h | h
            · omega
            · rw [List.getElem?_eq_none h] at e; cases e
          have ek : k = i * m + (k - items.length) := by omega
          have d := dm (x := i) hkm
          rw [← ek] at d
          refine ⟨q, e1, ?_⟩
          rw [upd_ne (ne_of_none e3 hp), d.1, d.2]
          exact e3
    · rintro σ HB ⟨L, items, va, rfl, s, hL, hlen, hit⟩
      obtain ⟨co', hcB⟩ : ∃ o, HB c = some o := ⟨_, s _ _ hc⟩
      refine go_nx (go_seq ?_)
      refine tab_lst (K := K) (a := c) (L := L) (xs := items) (n := n * m) (ns := 3) (ka := 4) (kb := 7) (fun i j => ((pr2 m f f' i j : Nat) : Int)) hcB hL hlen (by omega) (fun i j u v s' Kt hi hj hu hv sB kt => ?_) (fun H2 D s2 nD l2 => ?_)
      · have s'' := sB
        have sB : Same HB HB := Same.refl _
        have s' := s''
        obtain ⟨qa, rfl, hqa⟩ := hit i u hu
        obtain ⟨qb, rfl, hqb⟩ := hit j v hv
        have hi1 := (Nat.div_lt_of_lt_mul (by rw [Nat.mul_comm]; exact hi) : i / m < n)
        have hj1 := (Nat.div_lt_of_lt_mul (by rw [Nat.mul_comm]; exact hj) : j / m < n)
        have hi2 := Nat.mod_lt i hm0
        have hj2 := Nat.mod_lt j hm0
        obtain ⟨r1, rows1, e1, e2, cells1, e3, e4⟩ := ll_at lp1 hi1 hj1
        obtain ⟨r2, rows2, e5, e6, cells2, e7, e8⟩ := ll_at lp2 hi2 hj2
        have b1 := sr1.pc _ hi1 _ hj1
        have b2 := sr2.pc _ hi2 _ hj2
        have S := fun {b : Addr} {o : HO} (e : H b = some o) => s' b o (sB b o (s b o e))
        refine ⟨_, rfl, x, _, _, _, rfl, rfl, SqT.of (S hx), (by rfl), _, rfl, qa, _, _, _, rfl, rfl, SqT.of (s' _ _ (sB _ _ hqa)), (by rfl), _, rows1, _, _, rfl, rfl, SqL.of (S e1), at_of rfl e2, ?_⟩
        refine ⟨_, rfl, qb, _, _, _, rfl, rfl, SqT.of (s' _ _ (sB _ _ hqb)), (by rfl), _, cells1, _, _, rfl, rfl, SqL.of (S e3), at_of rfl e4, _, rfl, _, _, rfl, rfl, .inr ⟨by omega, by omega⟩, ?_⟩
        refine ⟨_, rfl, y, _, _, _, rfl, rfl, SqT.of (S hy), (by rfl), _, rfl, qa, _, _, _, rfl, rfl, SqT.of (s' _ _ (sB _ _ hqa)), (by rfl), _, rows2, _, _, rfl, rfl, SqL.of (S e5), at_of rfl e6, ?_⟩
        refine ⟨_, rfl, qb, _, _, _, rfl, rfl, SqT.of (s' _ _ (sB _ _ hqb)), (by rfl), _, cells2, _, _, rfl, rfl, SqL.of (S e7), at_of rfl e8, _, _, rfl, rfl, ?_⟩
        have z := kt _ (Same.refl _)
        have e : ((f (i / m) (j / m) : Nat) : Int) * (m : Int) + ((f' (i % m) (j % m) : Nat) : Int) = ((pr2 m f f' i j : Nat) : Int) := by
          show _ = ((f (i / m) (j / m) * m + f' (i % m) (j % m) : Nat) : Int)
          push_cast; rfl
        rw [← e] at z
        exact z
      · refine go_name rfl ?_
        refine go_seq ?_
        have hL2 := s2 _ _ hL
        have hit2 : ∀ (k : Nat) v, items[k]? = some v → ∃ q, v = .ref q ∧ H2 q = some (.tup [.int ((k / m : Nat) : Int), .int ((k % m : Nat) : Int)]) := fun k v e => let ⟨q, e1, e2⟩ := hit k v e; ⟨q, e1, s2 _ _ e2⟩
        refine tab_lst (K := K) (a := c) (L := L) (xs := items) (n := n * m) (ns := 3) (ka := 4) (kb := 7) (fun i j => ((pr2 m g g' i j : Nat) : Int)) (s2 _ _ hcB) hL2 hlen (by omega) (fun i j u v s' Kt hi hj hu hv sB kt => ?_) (fun H3 D2 s3 nD2 l3 => ?_)
        · have s'' := sB
          have sB := s2
          have s' := s''
          obtain ⟨qa, rfl, hqa⟩ := hit i u hu
          obtain ⟨qb, rfl, hqb⟩ := hit j v hv
          have hi1 := (Nat.div_lt_of_lt_mul (by rw [Nat.mul_comm]; exact hi) : i / m < n)
          have hj1 := (Nat.div_lt_of_lt_mul (by rw [Nat.mul_comm]; exact hj) : j / m < n)
          have hi2 := Nat.mod_lt i hm0
          have hj2 := Nat.mod_lt j hm0
          obtain ⟨r1, rows1, e1, e2, cells1, e3, e4⟩ := ll_at lq1 hi1 hj1
          obtain ⟨r2, rows2, e5, e6, cells2, e7, e8⟩ := ll_at lq2 hi2 hj2
          have b1 := sr1.tc _ hi1 _ hj1
          have b2 := sr2.tc _ hi2 _ hj2
          have S := fun {b : Addr} {o : HO} (e : H b = some o) => s' b o (sB b o (s b o e))
          refine ⟨_, rfl, x, _, _, _, rfl, rfl, SqT.of (S hx), (by rfl), _, rfl, qa, _, _, _, rfl, rfl, SqT.of (s' _ _ (sB _ _ hqa)), (by rfl), _, rows1, _, _, rfl, rfl, SqL.of (S e1), at_of rfl e2, ?_⟩
          refine ⟨_, rfl, qb, _, _, _, rfl, rfl, SqT.of (s' _ _ (sB _ _ hqb)), (by rfl), _, cells1, _, _, rfl, rfl, SqL.of (S e3), at_of rfl e4, _, rfl, _, _, rfl, rfl, .inr ⟨by omega, by omega⟩, ?_⟩
          refine ⟨_, rfl, y, _, _, _, rfl, rfl, SqT.of (S hy), (by rfl), _, rfl, qa, _, _, _, rfl, rfl, SqT.of (s' _ _ (sB _ _ hqa)), (by rfl), _, rows2, _, _, rfl, rfl, SqL.of (S e5), at_of rfl e6, ?_⟩
          refine ⟨_, rfl, qb, _, _, _, rfl, rfl, SqT.of (s' _ _ (sB _ _ hqb)), (by rfl), _, cells2, _, _, rfl, rfl, SqL.of (S e7), at_of rfl e8, _, _, rfl, rfl, ?_⟩
          have z := kt _ (Same.refl _)
          have e : ((g (i / m) (j / m) : Nat) : Int) * (m : Int) + ((g' (i % m) (j % m) : Nat) : Int) = ((pr2 m g g' i j : Nat) : Int) := by
            show _ = ((g (i / m) (j / m) * m + g' (i % m) (j % m) : Nat) : Int)
            push_cast; rfl
          rw [← e] at z
          exact z
        · refine go_name rfl ?_
          have S := fun {b : Addr} {o : HO} (e : H b = some o) => s3 b o (s2 b o (s b o e))
          have hof := sr1.oo
          have hog := sr2.oo
          refine ⟨_, rfl, _, rfl, _, rfl, x, _, _, _, rfl, rfl, SqT.of (S hx), (by rfl), _, rfl, _, _, rfl, rfl, .inr ⟨by omega, by omega⟩, _, rfl, y, _, _, _, rfl, rfl, SqT.of (S hy), (by rfl), _, _, rfl, rfl, by (show 3 ≤ sizeLine); decide, fun t ht => ?_⟩
          have st : Same H3 (upd H3 t (.tup [.ref D, .ref D2, .int ((o : Int) * (m : Int) + (o' : Int))])) := same_new (Same.refl _) ht
          refine k _ t (fun b o e => st b o (S e)) ⟨D, D2, (ne_of_none (S hc) ht).symm, ?_, l2.but (But.of fun b o e => st b o (s3 b o e)), l3.but (But.of st), sr_pair sr1 sr2, hnm⟩
          rw [upd_same]
          push_cast
          rfl
end
end K05

set_option Elab.async false
set_option linter.all false
set_option maxRecDepth 100000
set_option maxHeartbeats 4000000
namespace K05
open PySem L2 Ew Tb SRm
local macro_rules | `(tactic| walk_at "len") => `(tactic| first | (intro h; obtain ⟨_, e, _⟩ := h; rw [e]; rfl) | (intro h; obtain ⟨_, _, e, _⟩ := h; rw [e]; rfl) | (intro h; obtain ⟨_, _, _, e, _⟩ := h; rw [e]; rfl) | (intro h; obtain ⟨_, _, _, _, e, _⟩ := h; rw [e]; rfl) | (intro h; obtain ⟨_, _, _, _, _, e, _⟩ := h; rw [e]; rfl) | (intro h; obtain ⟨_, _, _, _, _, _, e, _⟩ := h; rw [e]; rfl) | (intro h; obtain ⟨_, _, _, _, _, _, _, e, _⟩ := h; rw [e]; rfl) | (intro h; obtain ⟨_, _, _, _, _, _, _, _, _, _, _, _, e, _⟩ := h; rw [e]; rfl) | (intro h; exact h.elim))
section
variable {P : Program} {w : World} {K : PySem.W.Frag} {mg : Str → Option Value} {base : Heap} {ad : Ad}
/-- a drawn semiring as tuples, of n ≤ N elements -/
def RenT (H : Hp) (t : Addr) (N n : Nat) (f g : Nat → Nat → Nat) (o : Nat) : Prop :=
  ∃ p m, H t = some (.tup [.ref p, .ref m, .int (o : Int)]) ∧ TT H p n (fun i j => (f i j : Int)) ∧ TT H m n (fun i j => (g i j : Int)) ∧ SR n f g o ∧ n ≤ N
def spRen : Sp := fun vs H Q _ => ∃ (a t : Addr) (n o : Nat) (f g : Nat → Nat → Nat), vs = [.ref a, .ref t] ∧ PotAt H a ∧ FamT a H t 16 n f g o ∧
  ∀ H' t f g o, Fr1 a H H' → PotAt H' a → RenT H' t 16 n f g o → Q (.ref t) H'
theorem map_erase {α β : Type} (f : α → β) : ∀ (l : List α) (i : Nat), (l.map f).eraseIdx i = (l.eraseIdx i).map f
  | [], _ => rfl
  | _ :: _, 0 => rfl
  | a :: l, i + 1 => by
    show f a :: (l.map f).eraseIdx i = f a :: (l.eraseIdx i).map f
    rw [map_erase f l i]
theorem ok_law_renamed (c_law_next : CalX P w K mg base 1 "_law_next" spNext) {f : Addr} {fd : FuncData} (F : Fun K "_law_renamed" "_law_renamed" s_law_renamed f fd) (T : Txt K mg ad) : FnOk P w K mg base (L2.CX P w) 2 f fd ["pot", "told"] (spRen) := by
  refine F.okX sc_law_renamed (fun vs H Q E => ?_) (fun cdv A outer s H vs Q E hr h => ?_)
  · walk_at "len"
  ·
    obtain ⟨a, t, n, o, f, g, rfl, hp, ⟨p, q, hta, ht, lp, lq, sr, hn16⟩, k⟩ := h
    refine ⟨_, (pss_cons (ps_set (i := 2) sc_law_renamed.nd rfl (by first | exact Or.inl rfl | exact Or.inr rfl) (pe_callB call_len (by rfl) T.z_len (by decide +kernel) (pa_cons (pe_ix ix_tup (pv 1) pe_int (fun _ _ => rfl)) pa_nil)))
      (pss_cons (ps_setLc (i := 3) (own := [("k", 5)]) (tt := tYes) rfl sc_law_renamed.nd rfl rfl (sw_true rfl rfl rfl (by decide +kernel)) (pi_range2 (by rfl) T.z_range (pa_cons pe_int (pa_cons (pv 2) pa_nil))) (blkOk_by (by kernel_rfl)) (fun _ _ _ _ _ => (pg_name (i := 5) sc_law_renamed.nd rfl (by first | exact Or.inl rfl | exact Or.inr rfl))) (fun _ _ _ _ _ => pts_nil) (fun _ _ _ _ _ => (pv 5)))
      (pss_cons (ps_set (i := 4) sc_law_renamed.nd rfl (by first | exact Or.inl rfl | exact Or.inr rfl) (pe_lst (pa_cons pe_int pa_nil)))
      (pss_cons (ps_for (passes_of rfl) rfl (pi_range1 (by rfl) T.z_range (pa_cons (pe_op op_sub (pv 2) pe_int) pa_nil)) (pg_name (i := 5) sc_law_renamed.nd rfl (by first | exact Or.inl rfl | exact Or.inr rfl)) (pss_one (ps_expr (pe_bm PySem.F.plainAttrs_list PySem.F.slot_list_append PySem.F.type_list_append mt_append (pv 4) (pa_cons (pe_bm PySem.F.plainAttrs_list PySem.F.slot_list_pop PySem.F.type_list_pop mt_popAt (pv 3) (pa_cons (pc_call c_law_next hr (by first | decide | omega) (takes_of rfl rfl rfl rfl) (by rfl) (pa_cons (pv 0) (pa_cons (pe_callB call_len (by rfl) T.z_len (by decide +kernel) (pa_cons (pv 3) pa_nil)) pa_nil))) pa_nil)) pa_nil)))))
      (pss_cons (ps_set (i := 6) sc_law_renamed.nd rfl (by first | exact Or.inl rfl | exact Or.inr rfl) (pe_lc (own := [("k", 5)]) (tt := tYes) rfl sc_law_renamed.nd (pi_range1 (by rfl) T.z_range (pa_cons (pv 2) pa_nil)) (blkOk_by (by kernel_rfl)) (fun _ _ _ _ _ => (pg_name (i := 5) sc_law_renamed.nd rfl (by first | exact Or.inl rfl | exact Or.inr rfl))) (fun _ _ _ _ _ => pts_nil) (fun _ _ _ _ _ => (kpe_bm (K := K) PySem.F.plainAttrs_list PySem.F.slot_list_index PySem.F.type_list_index (kmt_index (K := K)) (pv 4) (pa_cons (pv 5) pa_nil)))))
      (pss_cons (ps_set (i := 7) sc_law_renamed.nd rfl (by first | exact Or.inl rfl | exact Or.inr rfl) (pe_callTy call_tuple_of (by rfl) T.z_tuple (by decide +kernel) (pa_cons (pe_lc (own := [("a", 9)]) (tt := tYes) rfl sc_law_renamed.nd (pi_range1 (by rfl) T.z_range (pa_cons (pv 2) pa_nil)) (blkOk_by (by kernel_rfl)) (fun _ _ _ _ _ => (pg_name (i := 9) sc_law_renamed.nd rfl (by first | exact Or.inl rfl | exact Or.inr rfl))) (fun _ _ _ _ _ => pts_nil) (fun _ _ _ _ _ => (pe_callTy (kcall_tuple_of (K := K)) (by rfl) T.z_tuple (by decide +kernel) (pa_cons (pe_lc (own := [("b", 10)]) (tt := tYes) rfl sc_law_renamed.nd (pi_range1 (by rfl) T.z_range (pa_cons (pv 2) pa_nil)) (blkOk_by (by kernel_rfl)) (fun _ _ _ _ _ => (pg_name (i := 10) sc_law_renamed.nd rfl (by first | exact Or.inl rfl | exact Or.inr rfl))) (fun _ _ _ _ _ => pts_nil) (fun _ _ _ _ _ => (pe_ix (kix_list (K := K)) (pv 4) (pe_ix (kix_list (K := K)) (pe_ix (kix_list (K := K)) (pe_ix (kix_tup (K := K)) (pv 1) pe_int (fun _ _ => rfl)) (pe_ix (kix_list (K := K)) (pv 6) (pv 9) (fun _ _ => rfl)) (fun _ _ => rfl)) (pe_ix (kix_list (K := K)) (pv 6) (pv 10) (fun _ _ => rfl)) (fun _ _ => rfl)) (fun _ _ => rfl)))) pa_nil)))) pa_nil)))
      (pss_cons (ps_set (i := 8) sc_law_renamed.nd rfl (by first | exact Or.inl rfl | exact Or.inr rfl) (pe_callTy call_tuple_of (by rfl) T.z_tuple (by decide +kernel) (pa_cons (pe_lc (own := [("a", 9)]) (tt := tYes) rfl sc_law_renamed.nd (pi_range1 (by rfl) T.z_range (pa_cons (pv 2) pa_nil)) (blkOk_by (by kernel_rfl)) (fun _ _ _ _ _ => (pg_name (i := 9) sc_law_renamed.nd rfl (by first | exact Or.inl rfl | exact Or.inr rfl))) (fun _ _ _ _ _ => pts_nil) (fun _ _ _ _ _ => (pe_callTy (kcall_tuple_of (K := K)) (by rfl) T.z_tuple (by decide +kernel) (pa_cons (pe_lc (own := [("b", 10)]) (tt := tYes) rfl sc_law_renamed.nd (pi_range1 (by rfl) T.z_range (pa_cons (pv 2) pa_nil)) (blkOk_by (by kernel_rfl)) (fun _ _ _ _ _ => (pg_name (i := 10) sc_law_renamed.nd rfl (by first | exact Or.inl rfl | exact Or.inr rfl))) (fun _ _ _ _ _ => pts_nil) (fun _ _ _ _ _ => (pe_ix (kix_list (K := K)) (pv 4) (pe_ix (kix_list (K := K)) (pe_ix (kix_list (K := K)) (pe_ix (kix_tup (K := K)) (pv 1) pe_int (fun _ _ => rfl)) (pe_ix (kix_list (K := K)) (pv 6) (pv 9) (fun _ _ => rfl)) (fun _ _ => rfl)) (pe_ix (kix_list (K := K)) (pv 6) (pv 10) (fun _ _ => rfl)) (fun _ _ => rfl)) (fun _ _ => rfl)))) pa_nil)))) pa_nil)))
      (pss_one (ps_ret (pe_tup (pa_cons (pv 7) (pa_cons (pv 8) (pa_cons (pe_ix ix_list (pv 4) (pe_ix ix_tup (pv 1) pe_int (fun _ _ => rfl)) (fun _ _ => rfl)) pa_nil))))))))))))), ?_⟩
    have hn0 := sr.pos
    obtain ⟨rp, ep, lpl⟩ := ll_len lp
    obtain ⟨ao, hao⟩ := hp.some
    obtain ⟨bp, hpB⟩ := hp.b_
    obtain ⟨bo, hbo⟩ : ∃ o, H bp = some o := let ⟨ns, i, c, sd, _, e, _⟩ := hpB; ⟨_, e⟩
    refine go_seq ⟨_, rfl, t, _, _, _, rfl, rfl, SqT.of ht, (by rfl), .ref p, _, rfl, .inl ⟨_, SqL.of ep, rfl⟩, ?_⟩
    rw [lpl]
    refine go_name rfl (go_seq ?_)
    refine ⟨_, rfl, _, _, rfl, ⟨by omega, by omega, by omega, by omega⟩, fun Lf hLf => ?_⟩
    rw [show ((n : Int) - 1).toNat = n - 1 by omega]
    refine lc_vals (lo := 1) (n := n - 1) (fun j => V.int ((j + 1 : Nat) : Int)) hLf (by omega) (fun _ => rfl) (fun j H2 Kt hj s2 kt => ?_) (fun H1 s1 e1 => ?_)
    · refine ⟨_, rfl, ?_⟩
      have z := kt _ (Same.refl _)
      rw [show ((j + 1 : Nat) : Int) = 1 + (j : Int) by omega] at z
      exact z
    refine go_name rfl (go_seq ⟨by (show 1 ≤ sizeLine); decide, fun Ln hLn => go_name rfl ?_⟩)
    have nLa : Lf ≠ a := (ne_of_none hao hLf).symm
    have nNa : Ln ≠ a := (ne_of_none (s1 _ _ hao) hLn).symm
    have nNL : Ln ≠ Lf := (ne_of_none e1 hLn).symm
    have sN : Same H1 (upd H1 Ln (.lst [.int 0])) := same_new (Same.refl _) hLn
    have hLnH : H Ln = none := by
      rcases hq : H Ln with _ | u
      · rfl
      · exact absurd (s1 _ _ hq) (by rw [hLn]; simp)
    refine ⟨_, rfl, _, _, rfl, rfl, _, rfl, by omega, by omega, ?_⟩
    rw [show ((n : Int) - 1).toNat = n - 1 by omega]
    refine for_range (lo := 0) (n := n - 1) (fun i σ H' => ∃ (ns ls : List Nat) (vk : Option V), σ = [some (.ref a), some (.ref t), some (.int (n : Int)), some (.ref Lf), some (.ref Ln), vk, none, none, none, none, none] ∧ Fr1 a H H' ∧ PotB H' a bp ∧
        H' Lf = some (.lst (ls.map fun (x : Nat) => V.int (x : Int))) ∧ H' Ln = some (.lst (ns.map fun (x : Nat) => V.int (x : Int))) ∧ (ns ++ ls).Perm (List.range n) ∧ ns.length = i + 1 ∧ ns[0]? = some 0)
      ⟨[0], (List.range (n - 1)).map (· + 1), none, rfl, Fr1.of (fun b o e => sN b o (s1 b o e)), (hpB.same s1).same sN, ?_, upd_same, ?_, rfl, rfl⟩ ?_ ?_
    · rw [upd_ne nNL.symm, e1, List.map_map]
      rfl
    · have e : List.range n = 0 :: (List.range (n - 1)).map (· + 1) := by
        rw [← List.range_succ_eq_map]
        congr 1
        omega
      rw [e]
      exact List.Perm.refl _
    · rintro i σ HA hi ⟨ns, ls, vk, rfl, fr, pA, hlf, hln, pm, hnl, hn0'⟩
      rw [Int.zero_add]
      refine go_name rfl ?_
      have hlsl : ls.length = n - 1 - i := by
        have := pm.length_eq
        rw [List.length_append, List.length_range] at this
        omega
      refine ⟨_, rfl, .inl ⟨rfl, _, SqL.of hln⟩, _, rfl, .inl ⟨rfl, _, SqL.of hlf⟩, _, rfl, _, rfl, .ref Lf, _, rfl, .inl ⟨_, SqL.of hlf, rfl⟩, a, _, rfl, pA.at_, by rw [List.length_map]; omega, ?_, fun HB r fB _ r0 r1 pBB => ?_⟩
      · rw [List.length_map, Int.natAbs_natCast]
        exact Nat.lt_of_le_of_lt (by omega : ls.length ≤ 16) (by decide)
      rw [List.length_map] at r1
      obtain ⟨kr, rfl⟩ : ∃ kr : Nat, r = (kr : Int) := ⟨r.toNat, by omega⟩
      have hkr : kr < ls.length := by omega
      have hx : ls[kr]? = some ls[kr] := List.getElem?_eq_getElem hkr
      have hx' : (ls.map fun (x : Nat) => V.int (x : Int))[kr]? = some (.int (ls[kr] : Int)) := by rw [List.getElem?_map, hx]; rfl
      have hlfB := fB _ _ nLa hlf
      have hlnB := fB _ _ nNa hln
      refine ⟨Lf, _, _, kr, _, rfl, rfl, hlfB, by omega, by omega, ?_, hx', ?_⟩
      · unfold seqIndex?
        rw [List.length_map]
        simp only [show ¬ (kr : Int) < 0 by omega, if_false]
        rw [if_pos (by simp; omega)]
        rfl
      refine ⟨Ln, _, _, rfl, rfl, (by rw [upd_ne nNL]; exact hlnB), ?_, ns ++ [ls[kr]], ls.eraseIdx kr, some (.int (i : Int)), rfl, ?_, ?_, ?_, ?_, ?_, ?_, ?_⟩
      · rw [List.length_map]
        exact Nat.lt_of_le_of_lt (by omega : ns.length ≤ 16) (by decide)
      · intro b u nb e
        have n1 : b ≠ Lf := ne_of_none e hLf
        have n2 : b ≠ Ln := ne_of_none e hLnH
        rw [upd_ne n2, upd_ne n1]
        exact fB _ _ nb (fr b u nb e)
      · refine (pBB _ pA).but ?_ ?_
        · rw [upd_ne nNa.symm, upd_ne nLa.symm]
        · rw [upd_ne (ne_of_none hbo hLnH), upd_ne (ne_of_none hbo hLf)]
      · rw [upd_ne nNL.symm, upd_same, map_erase]
      · rw [upd_same, List.map_append]
        rfl
      · have q1 := erase_perm ls kr _ hx
        rw [List.append_assoc]
        exact (List.Perm.append_left ns q1).trans pm
      · rw [List.length_append, hnl]
        rfl
      · rw [List.getElem?_append_left (by omega)]
        exact hn0'
    · rintro σ HB ⟨ns, ls, vk, rfl, fr, pB, hlf, hln, pm, hnl, hn0'⟩
      have hls : ls = [] := by
        have := pm.length_eq
        rw [List.length_append, List.length_range] at this
        exact List.length_eq_zero_iff.mp (by omega)
      subst hls
      rw [List.append_nil] at pm
      obtain ⟨hat, hs, hb, sb, bs, s0⟩ := ren_of pm hn0'
      have hLn := hln
      refine go_nx (go_seq ?_)
      refine ⟨_, rfl, _, rfl, by omega, by omega, fun Lb hLb0 => ?_⟩
      rw [Int.toNat_natCast]
      refine lc_vals (lo := 0) (n := n) (fun k => V.int ((ns.idxOf k : Nat) : Int)) hLb0 (by omega) (fun _ => rfl) (fun j H2 Kt hj s2 kt => ?_) (fun HC sC hLb => ?_)
      · rw [Int.zero_add]
        have hLn2 := s2 _ _ hLn
        refine ⟨_, rfl, .inl ⟨rfl, _, SqL.of hLn2⟩, _, rfl, Ln, _, _, ns.idxOf j, .int (j : Int), rfl, rfl, SqL.of hLn2, rfl, ?_, ?_, ?_, ?_, kt _ (Same.refl _)⟩
        · rw [List.all_map]
          exact List.all_eq_true.mpr fun _ _ => rfl
        · rw [List.getElem?_map, hat _ (hb j hj), sb j hj]
          rfl
        · show ((j : Int) == (j : Int)) = true
          simp
        · intro m z hm e
          rw [List.getElem?_map] at e
          rcases hz : ns[m]? with _ | z'
          · rw [hz] at e; cases e
          · rw [hz] at e
            have e' : V.int (z' : Int) = z := Option.some.inj e
            subst e'
            have := idx_first pm hm hz
            show ((z' : Int) == (j : Int)) = false
            simp only [beq_eq_false_iff_ne, ne_eq]
            omega
      have ht' : HB t = some (.tup [.ref p, .ref q, .int (o : Int)]) := fr _ _ hta ht
      have lp' := lp.but fr
      have lq' := lq.but fr
      clear ht lp lq
      have ht := ht'
      refine go_name rfl (go_seq ?_)
      refine tab_tt (n := n) (ns := 2) (ka := 9) (kb := 10) (fun i j => ((ns.getD (f (ns.idxOf i) (ns.idxOf j)) 0 : Nat) : Int)) (by omega) (fun i j s' Kt hi hj sH kt => ?_) (fun H2 D s2 l2 => ?_)
      · have SS := fun {b : Addr} {o : HO} (e : HB b = some o) => sH b o (sC b o e)
        refine ⟨_, rfl, _, rfl, t, _, _, _, rfl, rfl, SqT.of (SS ht), (by rfl), _, rfl, _, rfl, Lb, _, _, _, rfl, rfl, SqL.of (sH _ _ hLb), at_of rfl (at_map (f := fun k => V.int ((ns.idxOf k : Nat) : Int)) hi), ?_⟩
        obtain ⟨r1, rows1, e1, e2, cells1, e3, e4⟩ := ll_at lp' (hb i hi) (hb j hj)
        refine ⟨_, rows1, _, _, rfl, rfl, SqL.of (SS e1), at_of rfl e2, _, rfl, _, rfl, Lb, _, _, _, rfl, rfl, SqL.of (sH _ _ hLb), at_of rfl (at_map (f := fun k => V.int ((ns.idxOf k : Nat) : Int)) hj), ?_⟩
        refine ⟨r1, cells1, _, _, rfl, rfl, SqL.of (SS e3), at_of rfl e4, ?_⟩
        have hv := sr.pc _ (hb i hi) _ (hb j hj)
        refine ⟨Ln, _, _, .int ((ns.getD (f (ns.idxOf i) (ns.idxOf j)) 0 : Nat) : Int), rfl, rfl, SqL.of (SS hLn), at_of rfl ?_, kt _ (Same.refl _)⟩
        rw [List.getElem?_map, hat _ hv]
        rfl
      refine go_name rfl (go_seq ?_)
      have hLb2 := s2 _ _ hLb
      clear hLb
      have hLb := hLb2
      refine tab_tt (n := n) (ns := 2) (ka := 9) (kb := 10) (fun i j => ((ns.getD (g (ns.idxOf i) (ns.idxOf j)) 0 : Nat) : Int)) (by omega) (fun i j s' Kt hi hj sH kt => ?_) (fun H3 D2 s3 l3 => ?_)
      · have SS := fun {b : Addr} {o : HO} (e : HB b = some o) => sH b o (s2 b o (sC b o e))
        refine ⟨_, rfl, _, rfl, t, _, _, _, rfl, rfl, SqT.of (SS ht), (by rfl), _, rfl, _, rfl, Lb, _, _, _, rfl, rfl, SqL.of (sH _ _ hLb), at_of rfl (at_map (f := fun k => V.int ((ns.idxOf k : Nat) : Int)) hi), ?_⟩
        obtain ⟨r1, rows1, e1, e2, cells1, e3, e4⟩ := ll_at lq' (hb i hi) (hb j hj)
        refine ⟨_, rows1, _, _, rfl, rfl, SqL.of (SS e1), at_of rfl e2, _, rfl, _, rfl, Lb, _, _, _, rfl, rfl, SqL.of (sH _ _ hLb), at_of rfl (at_map (f := fun k => V.int ((ns.idxOf k : Nat) : Int)) hj), ?_⟩
        refine ⟨r1, cells1, _, _, rfl, rfl, SqL.of (SS e3), at_of rfl e4, ?_⟩
        have hv := sr.tc _ (hb i hi) _ (hb j hj)
        refine ⟨Ln, _, _, .int ((ns.getD (g (ns.idxOf i) (ns.idxOf j)) 0 : Nat) : Int), rfl, rfl, SqL.of (SS hLn), at_of rfl ?_, kt _ (Same.refl _)⟩
        rw [List.getElem?_map, hat _ hv]
        rfl
      have SS := fun {b : Addr} {o : HO} (e : HB b = some o) => s3 b o (s2 b o (sC b o e))
      refine go_name rfl ?_
      refine ⟨_, rfl, _, rfl, _, rfl, _, rfl, t, _, _, _, rfl, rfl, SqT.of (SS ht), (by rfl), Ln, _, _, .int ((ns.getD o 0 : Nat) : Int), rfl, rfl, SqL.of (SS hLn), at_of rfl ?_, by (show 3 ≤ sizeLine); decide, fun u hu => ?_⟩
      · rw [List.getElem?_map, hat _ sr.oo]
        rfl
      have su : Same H3 (upd H3 u (.tup [.ref D, .ref D2, .int ((ns.getD o 0 : Nat) : Int)])) := same_new (Same.refl _) hu
      refine k _ u _ _ _ (fr.trans (Fr1.of fun b o e => su b o (SS e))) (pB.at_.same fun b o e => su b o (SS e)) ⟨D, D2, upd_same, l2.same fun c xs e => su _ _ (s3 _ _ e), l3.same fun c xs e => su _ _ e, sr_ren sr hs hb sb bs s0, hn16⟩
end
end K05

set_option Elab.async false
set_option linter.all false
set_option maxRecDepth 100000
set_option maxHeartbeats 4000000
namespace K05
open PySem L2 Ew Tb SRm
local macro_rules | `(tactic| walk_at "len") => `(tactic| first | (intro h; obtain ⟨_, e, _⟩ := h; rw [e]; rfl) | (intro h; obtain ⟨_, _, e, _⟩ := h; rw [e]; rfl) | (intro h; obtain ⟨_, _, _, e, _⟩ := h; rw [e]; rfl) | (intro h; obtain ⟨_, _, _, _, e, _⟩ := h; rw [e]; rfl) | (intro h; obtain ⟨_, _, _, _, _, e, _⟩ := h; rw [e]; rfl) | (intro h; obtain ⟨_, _, _, _, _, _, e, _⟩ := h; rw [e]; rfl) | (intro h; obtain ⟨_, _, _, _, _, _, _, e, _⟩ := h; rw [e]; rfl) | (intro h; exact h.elim))
section
variable {P : Program} {w : World} {K : PySem.W.Frag} {mg : Str → Option Value} {base : Heap} {ad : Ad}
def stV : Option Nat → V
  | none => .non
  | some s => .int (s : Int)
/-- the stars at u -/
def StT (H : Hp) (u : Addr) (n : Nat) (f g : Nat → Nat → Nat) (o : Nat) (st : List (Option Nat)) : Prop :=
  H u = some (.tup (st.map stV)) ∧ st.length = n ∧ ∀ (i s : Nat), st[i]? = some (some s) → s < n ∧ f o (g i s) = s
theorem tt_at {D : Addr} {H : Hp} {n i j : Nat} {F : Nat → Nat → Int} (x : TT H D n F) (hi : i < n) (hj : j < n) : ∃ r rows, H D = some (.tup rows) ∧ rows[i]? = some (.ref r) ∧ ∃ cells, H r = some (.tup cells) ∧ cells[j]? = some (.int (F i j)) := by
  obtain ⟨rows, h2, h3, h4⟩ := x
  obtain ⟨r, e1, e3⟩ := h4 i hi
  exact ⟨r, rows, h2, e1, _, e3, at_map (f := fun j => V.int (F i j)) hj⟩
theorem tt_len {D : Addr} {H : Hp} {n : Nat} {F : Nat → Nat → Int} (x : TT H D n F) : ∃ rows, H D = some (.tup rows) ∧ rows.length = n := by
  obtain ⟨rows, h2, h3, h4⟩ := x
  exact ⟨rows, h2, h3⟩
def spStars : Sp := fun vs H Q _ => ∃ (a t : Addr) (n o : Nat) (f g : Nat → Nat → Nat), vs = [.ref a, .ref t] ∧ PotAt H a ∧ RenT H t 16 n f g o ∧
  ∀ H' u st, Fr1 a H H' → PotAt H' a → StT H' u n f g o st → Q (.ref u) H'
theorem ok_law_stars (c_law_next : CalX P w K mg base 1 "_law_next" spNext) {f : Addr} {fd : FuncData} (F : Fun K "_law_stars" "_law_stars" s_law_stars f fd) (T : Txt K mg ad) : FnOk P w K mg base (L2.CX P w) 2 f fd ["pot", "told"] (spStars) := by
  refine F.okX sc_law_stars (fun vs H Q E => ?_) (fun cdv A outer s H vs Q E hr h => ?_)
  · walk_at "len"
  ·
    obtain ⟨a, t, n, o, f, g, rfl, hp, ⟨p, m, ht, lp, lm, sr, hn16⟩, k⟩ := h
    refine ⟨_, (pss_cons (ps_asg (pv 1) (pg_tup rfl (pgs_cons (pg_name (i := 2) sc_law_stars.nd rfl (by first | exact Or.inl rfl | exact Or.inr rfl)) (pgs_cons (pg_name (i := 3) sc_law_stars.nd rfl (by first | exact Or.inl rfl | exact Or.inr rfl)) (pgs_cons (pg_name (i := 4) sc_law_stars.nd rfl (by first | exact Or.inl rfl | exact Or.inr rfl)) pgs_nil)))))
      (pss_cons (ps_set (i := 5) sc_law_stars.nd rfl (by first | exact Or.inl rfl | exact Or.inr rfl) (pe_lst pa_nil))
      (pss_cons (ps_for (passes_of rfl) rfl (pi_range1 (by rfl) T.z_range (pa_cons (pe_callB call_len (by rfl) T.z_len (by decide +kernel) (pa_cons (pv 2) pa_nil)) pa_nil)) (pg_name (i := 6) sc_law_stars.nd rfl (by first | exact Or.inl rfl | exact Or.inr rfl)) (pss_cons (ps_setLc (i := 7) (own := [("s", 9)]) rfl sc_law_stars.nd rfl rfl (sw_true rfl rfl rfl (by decide +kernel)) (pi_range1 (by rfl) T.z_range (pa_cons (pe_callB call_len (by rfl) T.z_len (by decide +kernel) (pa_cons (pv 2) pa_nil)) pa_nil)) (blkOk_by (by kernel_rfl)) (fun _ _ _ _ _ => (pg_name (i := 9) sc_law_stars.nd rfl (by first | exact Or.inl rfl | exact Or.inr rfl))) (fun _ _ _ _ _ => (pts_one (pt_cmpR op_eq (pe_ix (kix_tup (K := K)) (pe_ix (kix_tup (K := K)) (pv 2) (pv 4) (fun _ _ => rfl)) (pe_ix (kix_tup (K := K)) (pe_ix (kix_tup (K := K)) (pv 3) (pv 6) (fun _ _ => rfl)) (pv 9) (fun _ _ => rfl)) (fun _ _ => rfl)) (pv 9) (nomark _)))) (fun _ _ _ _ _ => (pv 9)))
      (pss_cons (ps_set (i := 8) sc_law_stars.nd rfl (by first | exact Or.inl rfl | exact Or.inr rfl) (pc_call c_law_next hr (by first | decide | omega) (takes_of rfl rfl rfl rfl) (by rfl) (pa_cons (pv 0) (pa_cons pe_int pa_nil))))
      (pss_one (ps_if (PW.pt (pw_or (pt_cmpR op_eq (pe_callB call_len (by rfl) T.z_len (by decide +kernel) (pa_cons (pv 7) pa_nil)) pe_int (nomark _)) (pw_or1 (pt_cmpR op_eq (pv 8) pe_int (nomark _))))) (pss_one (ps_expr (pe_bm PySem.F.plainAttrs_list PySem.F.slot_list_append PySem.F.type_list_append mt_append (pv 5) (pa_cons pe_non pa_nil)))) (pss_one (ps_expr (pe_bm PySem.F.plainAttrs_list PySem.F.slot_list_append PySem.F.type_list_append mt_append (pv 5) (pa_cons (pe_ix ix_list (pv 7) (pe_op op_mod (pe_callTy call_int1 (by rfl) T.z_int (by decide +kernel) (pa_cons (pv 8) pa_nil)) (pe_callB call_len (by rfl) T.z_len (by decide +kernel) (pa_cons (pv 7) pa_nil))) (fun _ _ => rfl)) pa_nil)))))))))
      (pss_one (ps_ret (pe_callTy call_tuple_of (by rfl) T.z_tuple (by decide +kernel) (pa_cons (pv 5) pa_nil))))))), ?_⟩
    have hn0 := sr.pos
    have ho := sr.oo
    obtain ⟨ao, hao⟩ := hp.some
    obtain ⟨bp, hpB⟩ := hp.b_
    obtain ⟨bo, hbo⟩ : ∃ o, H bp = some o := let ⟨ns, i, c, sd, _, e, _⟩ := hpB; ⟨_, e⟩
    obtain ⟨rp, ep, lpl⟩ := tt_len lp
    refine ⟨_, rfl, t, _, rfl, SqT.of ht, rfl, _, _, rfl, _, _, rfl, _, _, rfl, rfl, ?_⟩
    refine go_nx (go_seq ⟨by (show 0 ≤ sizeLine); decide, fun Lf hLf => go_name rfl ?_⟩)
    have nLa : Lf ≠ a := (ne_of_none hao hLf).symm
    have sF : Same H (upd H Lf (.lst [])) := same_new (Same.refl _) hLf
    refine ⟨_, rfl, .ref p, _, rfl, .inr ⟨_, SqT.of (sF _ _ ep), rfl⟩, _, rfl, by omega, by omega, ?_⟩
    rw [lpl, Int.toNat_natCast]
    refine for_range (lo := 0) (n := n) (fun i σ H' => ∃ (st : List (Option Nat)) (va vf vd : Option V), σ = [some (.ref a), some (.ref t), some (.ref p), some (.ref m), some (.int (o : Int)), some (.ref Lf), va, vf, vd, none] ∧ Fr1 a H H' ∧ PotB H' a bp ∧
        H' Lf = some (.lst (st.map stV)) ∧ st.length = i ∧ ∀ (i s : Nat), st[i]? = some (some s) → s < n ∧ f o (g i s) = s)
      ⟨[], none, none, none, rfl, Fr1.of sF, hpB.same sF, upd_same, rfl, fun i s e => by simp at e⟩ ?_ ?_
    · rintro i σ HA hi ⟨st, va, vf, vd, rfl, fr, pA, hlf, hsl, hst⟩
      rw [Int.zero_add]
      have hia : ∀ {b : Addr} {xs : List V}, H b = some (.tup xs) → HA b = some (.tup xs) := fun {b xs} e => fr b _ (fun z => by obtain ⟨_, _, _, _, e1, _⟩ := hpB; rw [z, e1] at e; cases e) e
      have lpA : TT HA p n (fun i j => (f i j : Int)) := lp.same fun c xs e => hia e
      have lmA : TT HA m n (fun i j => (g i j : Int)) := lm.same fun c xs e => hia e
      obtain ⟨rpA, epA, lplA⟩ := tt_len lpA
      refine go_name rfl (go_seq ?_)
      refine ⟨_, rfl, .ref p, _, rfl, .inr ⟨_, SqT.of epA, rfl⟩, _, rfl, by omega, by omega, fun D hD => ?_⟩
      rw [lplA, Int.toNat_natCast]
      have nDf : D ≠ Lf := (ne_of_none hlf hD).symm
      refine lc_range (lo := 0) (n := n) (fun j H' => Same HA H' ∧ ∃ xs : List Nat, H' D = some (.lst (xs.map fun (x : Nat) => V.int (x : Int))) ∧ xs.length ≤ j ∧ ∀ x, x ∈ xs → x < n ∧ f o (g i x) = x) ⟨same_new (Same.refl _) hD, [], upd_same, Nat.zero_le _, fun x h => by cases h⟩ (fun j HJ hj ⟨sJ, xs, e1, e2, e3⟩ => ?_) (fun HC ⟨sC, xs, e1, e2, e3⟩ => ?_)
      · refine ⟨rfl, ?_⟩
        rw [Int.zero_add]
        have lpJ : TT HJ p n (fun i j => (f i j : Int)) := lpA.same fun c xs e => sJ _ _ e
        have lmJ : TT HJ m n (fun i j => (g i j : Int)) := lmA.same fun c xs e => sJ _ _ e
        have hg := sr.tc i hi j hj
        obtain ⟨r1, rows1, a1, a2, cells1, a3, a4⟩ := tt_at lpJ ho hg
        obtain ⟨r2, rows2, b1, b2, cells2, b3, b4⟩ := tt_at lmJ hi hj
        refine ⟨_, rfl, _, rfl, p, rows1, _, _, rfl, rfl, SqT.of a1, at_of rfl a2, ?_⟩
        refine ⟨_, rfl, _, rfl, m, rows2, _, _, rfl, rfl, SqT.of b1, at_of rfl b2, _, rfl, r2, cells2, _, _, rfl, rfl, SqT.of b3, at_of rfl b4, r1, cells1, _, _, rfl, rfl, SqT.of a3, at_of rfl a4, _, rfl, rfl, _, rfl, ?_⟩
        by_cases c : f o (g i j) = j
        · rw [decide_eq_true (show V.int ((f o (g i j) : Nat) : Int) = V.int (j : Int) by rw [c])]
          refine iteT ⟨_, rfl, _, e1, ?_, same_but hD sJ but_app, xs ++ [j], ?_, ?_, ?_⟩
          · rw [List.length_map]
            exact Nat.lt_of_le_of_lt (by omega : xs.length ≤ 16) (by decide)
          · rw [upd_same, List.map_append]
            rfl
          · rw [List.length_append]
            exact Nat.succ_le_succ e2
          · intro x hx
            rcases List.mem_append.mp hx with h | h
            · exact e3 x h
            · rw [List.mem_singleton.mp h]
              exact ⟨hj, c⟩
        · rw [decide_eq_false (fun z => c (by injection z with z; omega))]
          exact iteF ⟨sJ, xs, e1, by omega, e3⟩
      · refine go_name rfl (go_seq ?_)
        have pC : PotB HC a bp := pA.same sC
        refine ⟨_, rfl, a, _, rfl, pC.at_, by decide, by decide, fun HB r fB _ r0 r1 pBB => go_name rfl ?_⟩
        obtain ⟨kr, rfl⟩ : ∃ kr : Nat, r = (kr : Int) := ⟨r.toNat, by omega⟩
        have nDa : D ≠ a := fun z => by obtain ⟨_, _, _, _, e, _⟩ := pA; rw [z, e] at hD; cases hD
        have hDB := fB _ _ nDa e1
        have hlfB := fB _ _ nLa (sC _ _ hlf)
        have frB : Fr1 a H HB := (fr.trans (Fr1.of sC)).trans fB
        have fin : ∀ x : Option Nat, (∀ s, x = some s → s < n ∧ f o (g i s) = s) → ∃ (st' : List (Option Nat)) (va' vf' vd' : Option V), [some (V.ref a), some (.ref t), some (.ref p), some (.ref m), some (.int (o : Int)), some (.ref Lf), some (.int (i : Int)), some (.ref D), some (.int (kr : Int)), none] = [some (V.ref a), some (.ref t), some (.ref p), some (.ref m), some (.int (o : Int)), some (.ref Lf), va', vf', vd', none] ∧ Fr1 a H (upd HB Lf (.lst (st.map stV ++ [stV x]))) ∧ PotB (upd HB Lf (.lst (st.map stV ++ [stV x]))) a bp ∧
            (upd HB Lf (.lst (st.map stV ++ [stV x]))) Lf = some (.lst (st'.map stV)) ∧ st'.length = i + 1 ∧ ∀ (i s : Nat), st'[i]? = some (some s) → s < n ∧ f o (g i s) = s := fun x hx => by
          refine ⟨st ++ [x], _, _, _, rfl, ?_, (pBB _ pC).but (upd_ne nLa.symm) (upd_ne (ne_of_none hbo hLf)), ?_, by rw [List.length_append, hsl]; rfl, fun j s e => ?_⟩
          · intro b u nb e
            rw [upd_ne (ne_of_none e hLf)]
            exact frB b u nb e
          · rw [upd_same, List.map_append]
            rfl
          · by_cases c : j < st.length
            · rw [List.getElem?_append_left c] at e
              exact hst j s e
            · rw [List.getElem?_append_right (by omega)] at e
              have hj : j = i := by
                have : j - st.length < [x].length := by
                  rcases Nat.lt_or_ge (j - st.length) [x].length with h | h
                  · exact h
                  · rw [List.getElem?_eq_none h] at e; cases e
                have h1 : [x].length = 1 := rfl
                omega
              subst hj
              rw [hsl, Nat.sub_self] at e
              have : x = some s := by simpa using e
              exact hx s this
        have hszL : (st.map stV).length < sizeLine := by
          rw [List.length_map]
          exact Nat.lt_of_le_of_lt (by omega : st.length ≤ 16) (by decide)
        refine ⟨_, rfl, .ref D, _, rfl, .inl ⟨_, SqL.of hDB, rfl⟩, rfl, _, rfl, ?_⟩
        rw [List.length_map]
        by_cases c0 : xs.length = 0
        · rw [decide_eq_true (show V.int (xs.length : Int) = V.int 0 by rw [c0]; rfl)]
          refine iteT (iteT ?_)
          exact ⟨_, rfl, .inl ⟨rfl, _, SqL.of hlfB⟩, Lf, _, _, rfl, rfl, hlfB, hszL, fin none (fun s e => by cases e)⟩
        · rw [decide_eq_false (fun z => c0 (by injection z with z; omega))]
          refine iteF ⟨_, rfl, rfl, _, rfl, ?_⟩
          by_cases c1 : (kr : Int) = 11
          · rw [decide_eq_true (congrArg V.int c1)]
            refine iteT ?_
            exact ⟨_, rfl, .inl ⟨rfl, _, SqL.of hlfB⟩, Lf, _, _, rfl, rfl, hlfB, hszL, fin none (fun s e => by cases e)⟩
          · rw [decide_eq_false (fun z => c1 (by injection z))]
            refine iteF ?_
            have hpos : 0 < xs.length := by omega
            have hmod : kr % xs.length < xs.length := Nat.mod_lt _ hpos
            have hx : xs[kr % xs.length]? = some xs[kr % xs.length] := List.getElem?_eq_getElem hmod
            refine ⟨_, rfl, .inl ⟨rfl, _, SqL.of hlfB⟩, _, rfl, _, rfl, .inl ⟨_, rfl, ?_⟩⟩
            refine ⟨_, rfl, .ref D, _, rfl, .inl ⟨_, SqL.of hDB, rfl⟩, _, _, rfl, rfl, by rw [List.length_map]; omega, D, _, _, .int ((xs[kr % xs.length] : Nat) : Int), rfl, rfl, SqL.of hDB, at_of (j := kr % xs.length) ?_ ?_, Lf, _, _, rfl, rfl, hlfB, hszL, fin (some xs[kr % xs.length]) (fun s e => ?_)⟩
            · rw [List.length_map]
              push_cast
              try rfl
            · rw [List.getElem?_map, hx]
              rfl
            · cases e
              exact e3 _ (List.getElem_mem hmod)
    · rintro σ HB ⟨st, va, vf, vd, rfl, fr, pB, hlf, hsl, hst⟩
      refine go_nx (go_ret ⟨_, rfl, Lf, _, rfl, .inl ⟨SqL.of hlf, fun u hu => ?_⟩⟩)
      have su : Same HB (upd HB u (.tup (st.map stV))) := same_new (Same.refl _) hu
      exact k _ u st (fr.trans (Fr1.of su)) (pB.same su).at_ ⟨upd_same, hsl, hst⟩
end
end K05

set_option Elab.async false
set_option linter.all false
set_option maxRecDepth 100000
set_option maxHeartbeats 4000000
namespace K05
open PySem L2 Ew Tb SRm
local macro_rules | `(tactic| walk_at "len") => `(tactic| first | (intro h; obtain ⟨_, e, _⟩ := h; rw [e]; rfl) | (intro h; obtain ⟨_, _, e, _⟩ := h; rw [e]; rfl) | (intro h; obtain ⟨_, _, _, e, _⟩ := h; rw [e]; rfl) | (intro h; obtain ⟨_, _, _, _, e, _⟩ := h; rw [e]; rfl) | (intro h; obtain ⟨_, _, _, _, _, e, _⟩ := h; rw [e]; rfl) | (intro h; obtain ⟨_, _, _, _, _, _, e, _⟩ := h; rw [e]; rfl) | (intro h; obtain ⟨_, _, _, _, _, _, _, e, _⟩ := h; rw [e]; rfl) | (intro h; exact h.elim))
section
variable {P : Program} {w : World} {K : PySem.W.Frag} {mg : Str → Option Value} {base : Heap} {ad : Ad}
/-- a drawn semiring with its stars -/
def RingT (H : Hp) (t : Addr) (n : Nat) (f g : Nat → Nat → Nat) (o : Nat) (st : List (Option Nat)) : Prop :=
  ∃ p m u, H t = some (.tup [.ref p, .ref m, .int (o : Int), .ref u]) ∧ TT H p n (fun i j => (f i j : Int)) ∧ TT H m n (fun i j => (g i j : Int)) ∧ StT H u n f g o st ∧ SR n f g o ∧ n ≤ 16
theorem StT.same {H H' : Hp} {u : Addr} {n o : Nat} {f g : Nat → Nat → Nat} {st : List (Option Nat)} (x : StT H u n f g o st) (b : ∀ c xs, H c = some (.tup xs) → H' c = some (.tup xs)) : StT H' u n f g o st := ⟨b _ _ x.1, x.2⟩
theorem RenT.same {H H' : Hp} {t : Addr} {N n o : Nat} {f g : Nat → Nat → Nat} (x : RenT H t N n f g o) (b : ∀ c xs, H c = some (.tup xs) → H' c = some (.tup xs)) : RenT H' t N n f g o := by
  obtain ⟨p, m, h1, h2, h3, h4⟩ := x
  exact ⟨p, m, b _ _ h1, h2.same b, h3.same b, h4⟩
theorem RingT.same {H H' : Hp} {t : Addr} {n o : Nat} {f g : Nat → Nat → Nat} {st : List (Option Nat)} (x : RingT H t n f g o st) (b : ∀ c xs, H c = some (.tup xs) → H' c = some (.tup xs)) : RingT H' t n f g o st := by
  obtain ⟨p, m, u, h1, h2, h3, h4, h5⟩ := x
  exact ⟨p, m, u, b _ _ h1, h2.same b, h3.same b, h4.same b, h5⟩
theorem Fr1.tup {a c : Addr} {H H' : Hp} {xs : List V} (fr : Fr1 a H H') (p : PotAt H a) (e : H c = some (.tup xs)) : H' c = some (.tup xs) := fr _ _ (fun z => by obtain ⟨_, _, _, _, _, e1, _⟩ := p; rw [z, e1] at e; cases e) e
def spRing : Sp := fun vs H Q _ => ∃ a, vs = [.ref a] ∧ PotAt H a ∧ ∀ H' t n f g o st, Fr1 a H H' → PotAt H' a → RingT H' t n f g o st → Q (.ref t) H'
theorem ok_law_ring (c_law_next : CalX P w K mg base 1 "_law_next" spNext) (c_law_family : CalX P w K mg base 3 "_law_family" spFam) (c_law_paired : CalX P w K mg base 1 "_law_paired" spPaired) (c_law_renamed : CalX P w K mg base 2 "_law_renamed" spRen) (c_law_stars : CalX P w K mg base 2 "_law_stars" spStars) {f : Addr} {fd : FuncData} (F : Fun K "_law_ring" "_law_ring" s_law_ring f fd) (T : Txt K mg ad) : FnOk P w K mg base (L2.CX P w) 4 f fd ["pot"] (spRing) := by
  refine F.okX sc_law_ring (fun vs H Q E => ?_) (fun cdv A outer s H vs Q E hr h => ?_)
  · walk_at "len"
  ·
    obtain ⟨a, rfl, hp, k⟩ := h
    refine ⟨_, (pss_cons (ps_set (i := 1) sc_law_ring.nd rfl (by first | exact Or.inl rfl | exact Or.inr rfl) (pc_call c_law_next hr (by first | decide | omega) (takes_of rfl rfl rfl rfl) (by rfl) (pa_cons (pv 0) (pa_cons pe_int pa_nil))))
      (C8.pss_cut (ps_if (pt_cmpR op_lt (pv 1) pe_int (nomark _)) (pss_one (ps_set (i := 2) sc_law_ring.nd rfl (by first | exact Or.inl rfl | exact Or.inr rfl) (pc_call c_law_family hr (by first | decide | omega) (takes_of rfl rfl rfl rfl) (by rfl) (pa_cons (pv 0) (pa_cons (pv 1) (pa_cons pe_bl pa_nil)))))) (pss_one (ps_set (i := 2) sc_law_ring.nd rfl (by first | exact Or.inl rfl | exact Or.inr rfl) (pc_call c_law_paired hr (by first | decide | omega) (takes_of rfl rfl rfl rfl) (by rfl) (pa_cons (pc_call c_law_family hr (by first | decide | omega) (takes_of rfl rfl rfl rfl) (by rfl) (pa_cons (pv 0) (pa_cons (pc_call c_law_next hr (by first | decide | omega) (takes_of rfl rfl rfl rfl) (by rfl) (pa_cons (pv 0) (pa_cons pe_int pa_nil))) (pa_cons pe_bl pa_nil)))) (pa_cons (pc_call c_law_family hr (by first | decide | omega) (takes_of rfl rfl rfl rfl) (by rfl) (pa_cons (pv 0) (pa_cons (pc_call c_law_next hr (by first | decide | omega) (takes_of rfl rfl rfl rfl) (by rfl) (pa_cons (pv 0) (pa_cons pe_int pa_nil))) (pa_cons pe_bl pa_nil)))) pa_nil))))))
      (pss_cons (ps_set (i := 2) sc_law_ring.nd rfl (by first | exact Or.inl rfl | exact Or.inr rfl) (pc_call c_law_renamed hr (by first | decide | omega) (takes_of rfl rfl rfl rfl) (by rfl) (pa_cons (pv 0) (pa_cons (pv 2) pa_nil))))
      (pss_one (ps_ret (pe_op op_catT (pv 2) (pe_tup (pa_cons (pc_call c_law_stars hr (by first | decide | omega) (takes_of rfl rfl rfl rfl) (by rfl) (pa_cons (pv 0) (pa_cons (pv 2) pa_nil))) pa_nil)))))))), ?_⟩
    refine go_seq ⟨_, rfl, a, _, rfl, hp, by decide, by decide, fun H1 r f1 p1 r0 r1 _ => go_name rfl ?_⟩
    obtain ⟨kd, rfl⟩ : ∃ kd : Nat, r = (kd : Int) := ⟨r.toNat, by omega⟩
    refine ⟨fun σ H' => ∃ (vk : Option V) (t : Addr) (n o : Nat) (f g : Nat → Nat → Nat), σ = [some (.ref a), vk, some (.ref t)] ∧ Fr1 a H H' ∧ PotAt H' a ∧ FamT a H' t 16 n f g o, ?_, ?_⟩
    · refine ⟨_, rfl, _, _, rfl, rfl, _, rfl, ?_⟩
      refine ite2 (fun c => ?_) (fun c => ?_)
      · have c1 : kd < 6 := by have := of_decide_eq_true c; omega
        refine ⟨_, rfl, _, rfl, a, kd, false, rfl, p1, c1, fun H2 t n f g o f2 p2 ft => go_name rfl ?_⟩
        obtain ⟨p, m, e1, e2, e3, e4, e5, e6⟩ := ft
        exact ⟨_, t, n, o, f, g, rfl, f1.trans f2, p2, p, m, e1, e2, e3, e4, e5, Nat.le_trans e6 (by decide)⟩
      · refine ⟨_, rfl, _, rfl, a, _, rfl, p1, by decide, by decide, fun H2 q f2 p2 q0 q1 _ => ?_⟩
        obtain ⟨k1, rfl⟩ : ∃ k1 : Nat, q = (k1 : Int) := ⟨q.toNat, by omega⟩
        refine ⟨a, k1, true, rfl, p2, by omega, fun H3 t n f g o f3 p3 ft => ?_⟩
        refine ⟨_, rfl, _, rfl, a, _, rfl, p3, by decide, by decide, fun H4 q f4 p4 q0 q1 _ => ?_⟩
        obtain ⟨k2, rfl⟩ : ∃ k2 : Nat, q = (k2 : Int) := ⟨q.toNat, by omega⟩
        refine ⟨a, k2, true, rfl, p4, by omega, fun H5 u m f' g' o' f5 p5 fu => ?_⟩
        obtain ⟨ao, hao⟩ := p5.some
        refine ⟨a, t, u, ao, n, m, o, o', f, g, f', g', rfl, hao, (ft.but f4).but f5, fu, fun H6 v s6 fv => go_name rfl ?_⟩
        exact ⟨_, v, _, _, _, _, rfl, ((((f1.trans f2).trans f3).trans f4).trans f5).trans (Fr1.of s6), p5.same s6, fv⟩
    · rintro σ H2 ⟨vk, t, n, o, f, g, rfl, f2, p2, ft⟩
      refine go_seq ⟨_, rfl, _, rfl, a, t, n, o, f, g, rfl, p2, ft, fun H3 u f' g' o' f3 p3 ru => go_name rfl ?_⟩
      refine go_ret ⟨_, rfl, _, rfl, _, rfl, a, u, n, o', f', g', rfl, p3, ru, fun H4 v st f4 p4 sv => ?_⟩
      refine ⟨by (show 1 ≤ sizeLine); decide, fun x hx => ?_⟩
      obtain ⟨p, m, e1, e2, e3, e4, e5⟩ := ru
      have sx : Same H4 (upd H4 x (.tup [.ref v])) := same_new (Same.refl _) hx
      have eu := sx _ _ (f4.tup p3 e1)
      refine ⟨u, x, _, _, rfl, rfl, SqT.of eu, SqT.of upd_same, by simp, by (show 4 ≤ sizeLine); decide, (fun z => by cases z), fun _ y hy => ?_⟩
      have sy := same_new (o := .tup ([.ref p, .ref m, .int (o' : Int)] ++ [.ref v])) (Same.refl _) hy
      have up : ∀ c xs, H3 c = some (.tup xs) → upd (upd H4 x (.tup [.ref v])) y (.tup ([.ref p, .ref m, .int (o' : Int)] ++ [.ref v])) c = some (.tup xs) := fun c xs e => sy _ _ (sx _ _ (f4.tup p3 e))
      exact k _ y n f' g' o' st (((f2.trans f3).trans f4).trans (Fr1.of fun b o e => sy b o (sx b o e))) ((p4.same sx).same sy) ⟨p, m, v, upd_same, e2.same up, e3.same up, sv.same (fun c xs e => sy _ _ (sx _ _ e)), e4, e5⟩
end
end K05

set_option Elab.async false
set_option linter.all false
set_option maxRecDepth 100000
set_option maxHeartbeats 4000000
namespace K05
open PySem L2 Ew Tb SRm
local macro_rules | `(tactic| walk_at "len") => `(tactic| first | (intro h; obtain ⟨_, e, _⟩ := h; rw [e]; rfl) | (intro h; obtain ⟨_, _, e, _⟩ := h; rw [e]; rfl) | (intro h; obtain ⟨_, _, _, e, _⟩ := h; rw [e]; rfl) | (intro h; obtain ⟨_, _, _, _, e, _⟩ := h; rw [e]; rfl) | (intro h; obtain ⟨_, _, _, _, _, e, _⟩ := h; rw [e]; rfl) | (intro h; obtain ⟨_, _, _, _, _, _, e, _⟩ := h; rw [e]; rfl) | (intro h; obtain ⟨_, _, _, _, _, _, _, e, _⟩ := h; rw [e]; rfl) | (intro h; exact h.elim))
section
variable {P : Program} {w : World} {K : PySem.W.Frag} {mg : Str → Option Value} {base : Heap} {ad : Ad}
def spIsRing : Sp := fun vs H Q _ => ∃ (t : Addr) (n o : Nat) (f g : Nat → Nat → Nat) (st : List (Option Nat)), vs = [.ref t] ∧ RingT H t n f g o st ∧ Q (.bl true) H
theorem neF {x y : Int} {b : Bool} (e : x = y) (h : b = (!decide (V.int x = V.int y))) : b = false := by
  rw [h, decide_eq_true (congrArg V.int e)]
  rfl
theorem ok_law_is_ring  {f : Addr} {fd : FuncData} (F : Fun K "_law_is_ring" "_law_is_ring" s_law_is_ring f fd) (T : Txt K mg ad) : FnOk P w K mg base (L2.CX P w) 1 f fd ["ring"] (spIsRing) := by
  refine F.okX sc_law_is_ring (fun vs H Q E => ?_) (fun cdv A outer s H vs Q E hr h => ?_)
  · walk_at "len"
  ·
    obtain ⟨t, n, o, pf, tf, st, rfl, ⟨p, m, u, ht, hp, hm, hu, sr, hn⟩, k⟩ := h
    refine ⟨_, (pss_cons (ps_asg (pv 0) (pg_tup rfl (pgs_cons (pg_name (i := 1) sc_law_is_ring.nd rfl (by first | exact Or.inl rfl | exact Or.inr rfl)) (pgs_cons (pg_name (i := 2) sc_law_is_ring.nd rfl (by first | exact Or.inl rfl | exact Or.inr rfl)) (pgs_cons (pg_name (i := 3) sc_law_is_ring.nd rfl (by first | exact Or.inl rfl | exact Or.inr rfl)) (pgs_cons (pg_name (i := 4) sc_law_is_ring.nd rfl (by first | exact Or.inl rfl | exact Or.inr rfl)) pgs_nil))))))
      (pss_cons (ps_set (i := 5) sc_law_is_ring.nd rfl (by first | exact Or.inl rfl | exact Or.inr rfl) (pe_callB call_len (by rfl) T.z_len (by decide +kernel) (pa_cons (pv 1) pa_nil)))
      (pss_cons (ps_for (passes_of rfl) rfl (pi_range1 (by rfl) T.z_range (pa_cons (pv 5) pa_nil)) (pg_name (i := 6) sc_law_is_ring.nd rfl (by first | exact Or.inl rfl | exact Or.inr rfl)) (pss_cons (ps_if (PW.pt (pw_or (pt_cmpR op_ne (pe_ix ix_tup (pe_ix ix_tup (pv 1) pe_int (fun _ _ => rfl)) (pv 6) (fun _ _ => rfl)) (pv 6) (nomark _)) (pw_or (pt_cmpR op_ne (pe_ix ix_tup (pe_ix ix_tup (pv 2) (pv 3) (fun _ _ => rfl)) (pv 6) (fun _ _ => rfl)) (pv 6) (nomark _)) (pw_or1 (pt_cmpR op_ne (pe_ix ix_tup (pe_ix ix_tup (pv 2) pe_int (fun _ _ => rfl)) (pv 6) (fun _ _ => rfl)) pe_int (nomark _)))))) (pss_one (ps_ret pe_bl)) pss_nil)
      (pss_cons (ps_if (PW.pt (pw_and (pt_cmpR op_notN (pe_ix ix_tup (pv 4) (pv 6) (fun _ _ => rfl)) pe_non (nomark _)) (pw_and1 (pt_cmpR op_ne (pe_ix ix_tup (pe_ix ix_tup (pv 1) (pv 3) (fun _ _ => rfl)) (pe_ix ix_tup (pe_ix ix_tup (pv 2) (pv 6) (fun _ _ => rfl)) (pe_ix ix_tup (pv 4) (pv 6) (fun _ _ => rfl)) (fun _ _ => rfl)) (fun _ _ => rfl)) (pe_ix ix_tup (pv 4) (pv 6) (fun _ _ => rfl)) (nomark _))))) (pss_one (ps_ret pe_bl)) pss_nil)
      (pss_one (ps_for (passes_of rfl) rfl (pi_range1 (by rfl) T.z_range (pa_cons (pv 5) pa_nil)) (pg_name (i := 7) sc_law_is_ring.nd rfl (by first | exact Or.inl rfl | exact Or.inr rfl)) (pss_cons (ps_if (PW.pt (pw_or (pt_cmpR op_ne (pe_ix ix_tup (pe_ix ix_tup (pv 1) (pv 6) (fun _ _ => rfl)) (pv 7) (fun _ _ => rfl)) (pe_ix ix_tup (pe_ix ix_tup (pv 1) (pv 7) (fun _ _ => rfl)) (pv 6) (fun _ _ => rfl)) (nomark _)) (pw_or1 (pt_cmpR op_ne (pe_ix ix_tup (pe_ix ix_tup (pv 2) (pv 6) (fun _ _ => rfl)) (pv 7) (fun _ _ => rfl)) (pe_ix ix_tup (pe_ix ix_tup (pv 2) (pv 7) (fun _ _ => rfl)) (pv 6) (fun _ _ => rfl)) (nomark _))))) (pss_one (ps_ret pe_bl)) pss_nil)
      (pss_one (ps_for (passes_of rfl) rfl (pi_range1 (by rfl) T.z_range (pa_cons (pv 5) pa_nil)) (pg_name (i := 8) sc_law_is_ring.nd rfl (by first | exact Or.inl rfl | exact Or.inr rfl)) (pss_cons (ps_if (PW.pt (pw_or (pt_cmpR op_ne (pe_ix ix_tup (pe_ix ix_tup (pv 1) (pv 6) (fun _ _ => rfl)) (pe_ix ix_tup (pe_ix ix_tup (pv 1) (pv 7) (fun _ _ => rfl)) (pv 8) (fun _ _ => rfl)) (fun _ _ => rfl)) (pe_ix ix_tup (pe_ix ix_tup (pv 1) (pe_ix ix_tup (pe_ix ix_tup (pv 1) (pv 6) (fun _ _ => rfl)) (pv 7) (fun _ _ => rfl)) (fun _ _ => rfl)) (pv 8) (fun _ _ => rfl)) (nomark _)) (pw_or1 (pt_cmpR op_ne (pe_ix ix_tup (pe_ix ix_tup (pv 2) (pv 6) (fun _ _ => rfl)) (pe_ix ix_tup (pe_ix ix_tup (pv 2) (pv 7) (fun _ _ => rfl)) (pv 8) (fun _ _ => rfl)) (fun _ _ => rfl)) (pe_ix ix_tup (pe_ix ix_tup (pv 2) (pe_ix ix_tup (pe_ix ix_tup (pv 2) (pv 6) (fun _ _ => rfl)) (pv 7) (fun _ _ => rfl)) (fun _ _ => rfl)) (pv 8) (fun _ _ => rfl)) (nomark _))))) (pss_one (ps_ret pe_bl)) pss_nil)
      (pss_one (ps_if (pt_cmpR op_ne (pe_ix ix_tup (pe_ix ix_tup (pv 2) (pv 6) (fun _ _ => rfl)) (pe_ix ix_tup (pe_ix ix_tup (pv 1) (pv 7) (fun _ _ => rfl)) (pv 8) (fun _ _ => rfl)) (fun _ _ => rfl)) (pe_ix ix_tup (pe_ix ix_tup (pv 1) (pe_ix ix_tup (pe_ix ix_tup (pv 2) (pv 6) (fun _ _ => rfl)) (pv 7) (fun _ _ => rfl)) (fun _ _ => rfl)) (pe_ix ix_tup (pe_ix ix_tup (pv 2) (pv 6) (fun _ _ => rfl)) (pv 8) (fun _ _ => rfl)) (fun _ _ => rfl)) (nomark _)) (pss_one (ps_ret pe_bl)) pss_nil)))))))))))
      (pss_one (ps_ret pe_bl))))), ?_⟩
    obtain ⟨rows, er, el⟩ := tt_len hp
    refine ⟨_, rfl, t, _, rfl, SqT.of ht, rfl, _, _, rfl, _, _, rfl, _, _, rfl, _, _, rfl, rfl, ?_⟩
    refine go_nx (go_seq ⟨_, rfl, .ref p, _, rfl, .inr ⟨_, SqT.of er, rfl⟩, ?_⟩)
    rw [el]
    refine go_name rfl ?_
    have ne0 : ∀ {x y : Int}, x = y → (!decide (V.int x = V.int y)) = false := fun e => by rw [decide_eq_true (congrArg V.int e)]; rfl
    refine ⟨_, rfl, _, rfl, by omega, by omega, ?_⟩
    rw [Int.toNat_natCast]
    refine for_range (lo := 0) (n := n) (fun i σ H' => ∃ va vb vc : Option V, σ = [some (.ref t), some (.ref p), some (.ref m), some (.int (o : Int)), some (.ref u), some (.int (n : Int)), va, vb, vc] ∧ H' = H) ⟨none, none, none, rfl, rfl⟩ ?_ ?_
    · rintro i σ H1 hi ⟨va, vb, vc, rfl, rfl⟩
      rw [Int.zero_add]
      refine go_name rfl ?_
      have hpos := sr.pos
      have hoo := sr.oo
      obtain ⟨ra, rwa, a1, a2, ca, a3, a4⟩ := tt_at hp hpos hi
      obtain ⟨rb, rwb, b1, b2, cb, b3, b4⟩ := tt_at hm hoo hi
      obtain ⟨rc, rwc, c1, c2, cc, c3, c4⟩ := tt_at hm hpos hi
      refine ⟨_, rfl, p, _, _, _, rfl, rfl, SqT.of a1, at_of (j := 0) rfl a2, _, rfl, ra, _, _, _, rfl, rfl, SqT.of a3, at_of rfl a4, _, rfl, rfl, _, rfl, ?_⟩
      rw [ne0 (x := ((pf 0 i : Nat) : Int)) (y := (i : Int)) (by rw [sr.p0 i hi])]
      refine iteF ⟨_, rfl, _, rfl, m, _, _, _, rfl, rfl, SqT.of b1, at_of rfl b2, _, rfl, rb, _, _, _, rfl, rfl, SqT.of b3, at_of rfl b4, _, rfl, rfl, _, rfl, ?_⟩
      rw [ne0 (x := ((tf o i : Nat) : Int)) (y := (i : Int)) (by rw [sr.t1 i hi])]
      refine iteF ⟨_, rfl, m, _, _, _, rfl, rfl, SqT.of c1, at_of (j := 0) rfl c2, _, rfl, rc, _, _, _, rfl, rfl, SqT.of c3, at_of rfl c4, rfl, _, rfl, ?_⟩
      rw [ne0 (x := ((tf 0 i : Nat) : Int)) (y := 0) (by rw [sr.t0 i hi]; rfl)]
      refine iteF (go_next ?_)
      obtain ⟨v, hv⟩ : ∃ v, st[i]? = some v := ⟨_, List.getElem?_eq_getElem (by have := hu.2.1; omega)⟩
      have hv' : (st.map stV)[i]? = some (stV v) := by rw [List.getElem?_map, hv]; rfl
      refine ⟨_, rfl, _, rfl, u, _, _, _, rfl, rfl, SqT.of hu.1, at_of rfl hv', rfl, _, rfl, ?_⟩
      cases v with
      | none =>
        refine iteF (iteF (go_next ?_))
        refine ⟨_, rfl, _, rfl, by omega, by omega, ?_⟩
        rw [Int.toNat_natCast]
        refine for_range (lo := 0) (n := n) (fun j σ H' => ∃ vb vc : Option V, σ = [some (.ref t), some (.ref p), some (.ref m), some (.int (o : Int)), some (.ref u), some (.int (n : Int)), some (.int (i : Int)), vb, vc] ∧ H' = H1) ⟨vb, vc, rfl, rfl⟩ ?_ ?_
        · rintro j σ H2 hj ⟨vb, vc, rfl, rfl⟩
          rw [Int.zero_add]
          refine go_name rfl ?_
          obtain ⟨rw1, rww1, w11, w12, cw1, w13, w14⟩ := tt_at hp hi hj
          obtain ⟨rw2, rww2, w21, w22, cw2, w23, w24⟩ := tt_at hp hj hi
          obtain ⟨rw3, rww3, w31, w32, cw3, w33, w34⟩ := tt_at hm hi hj
          obtain ⟨rw4, rww4, w41, w42, cw4, w43, w44⟩ := tt_at hm hj hi
          refine ⟨_, rfl, _, rfl, p, _, _, _, rfl, rfl, SqT.of w11, at_of rfl w12, _, rfl, rw1, _, _, _, rfl, rfl, SqT.of w13, at_of rfl w14, _, rfl, _, rfl, p, _, _, _, rfl, rfl, SqT.of w21, at_of rfl w22, _, rfl, rw2, _, _, _, rfl, rfl, SqT.of w23, at_of rfl w24, rfl, _, rfl, ?_⟩
          rw [ne0 (x := ((pf i j : Nat) : Int)) (y := ((pf j i : Nat) : Int)) (by rw [sr.ps i hi j hj])]
          refine iteF ⟨_, rfl, _, rfl, m, _, _, _, rfl, rfl, SqT.of w31, at_of rfl w32, _, rfl, rw3, _, _, _, rfl, rfl, SqT.of w33, at_of rfl w34, _, rfl, _, rfl, m, _, _, _, rfl, rfl, SqT.of w41, at_of rfl w42, _, rfl, rw4, _, _, _, rfl, rfl, SqT.of w43, at_of rfl w44, rfl, _, rfl, ?_⟩
          rw [ne0 (x := ((tf i j : Nat) : Int)) (y := ((tf j i : Nat) : Int)) (by rw [sr.ts i hi j hj])]
          refine iteF (go_next ?_)
          refine ⟨_, rfl, _, rfl, by omega, by omega, ?_⟩
          rw [Int.toNat_natCast]
          refine for_range (lo := 0) (n := n) (fun l σ H' => ∃ vc : Option V, σ = [some (.ref t), some (.ref p), some (.ref m), some (.int (o : Int)), some (.ref u), some (.int (n : Int)), some (.int (i : Int)), some (.int (j : Int)), vc] ∧ H' = H2) ⟨vc, rfl, rfl⟩ ?_ ?_
          · rintro l σ H3 hl ⟨vc, rfl, rfl⟩
            rw [Int.zero_add]
            refine go_name rfl ?_
            obtain ⟨rw5, rww5, w51, w52, cw5, w53, w54⟩ := tt_at hp hj hl
            obtain ⟨rw6, rww6, w61, w62, cw6, w63, w64⟩ := tt_at hp hi (sr.pc j hj l hl)
            obtain ⟨rw7, rww7, w71, w72, cw7, w73, w74⟩ := tt_at hp hi hj
            obtain ⟨rw8, rww8, w81, w82, cw8, w83, w84⟩ := tt_at hp (sr.pc i hi j hj) hl
            obtain ⟨rw9, rww9, w91, w92, cw9, w93, w94⟩ := tt_at hm hj hl
            obtain ⟨rw10, rww10, w101, w102, cw10, w103, w104⟩ := tt_at hm hi (sr.tc j hj l hl)
            obtain ⟨rw11, rww11, w111, w112, cw11, w113, w114⟩ := tt_at hm hi hj
            obtain ⟨rw12, rww12, w121, w122, cw12, w123, w124⟩ := tt_at hm (sr.tc i hi j hj) hl
            obtain ⟨rw13, rww13, w131, w132, cw13, w133, w134⟩ := tt_at hp hj hl
            obtain ⟨rw14, rww14, w141, w142, cw14, w143, w144⟩ := tt_at hm hi (sr.pc j hj l hl)
            obtain ⟨rw15, rww15, w151, w152, cw15, w153, w154⟩ := tt_at hm hi hj
            obtain ⟨rw16, rww16, w161, w162, cw16, w163, w164⟩ := tt_at hm hi hl
            obtain ⟨rw17, rww17, w171, w172, cw17, w173, w174⟩ := tt_at hp (sr.tc i hi j hj) (sr.tc i hi l hl)
            refine ⟨_, rfl, _, rfl, p, _, _, _, rfl, rfl, SqT.of w61, at_of rfl w62, _, rfl, _, rfl, p, _, _, _, rfl, rfl, SqT.of w51, at_of rfl w52, _, rfl, rw5, _, _, _, rfl, rfl, SqT.of w53, at_of rfl w54, rw6, _, _, _, rfl, rfl, SqT.of w63, at_of rfl w64, _, rfl, _, rfl, _, rfl, p, _, _, _, rfl, rfl, SqT.of w71, at_of rfl w72, _, rfl, rw7, _, _, _, rfl, rfl, SqT.of w73, at_of rfl w74, p, _, _, _, rfl, rfl, SqT.of w81, at_of rfl w82, _, rfl, rw8, _, _, _, rfl, rfl, SqT.of w83, at_of rfl w84, rfl, _, rfl, ?_⟩
            rw [ne0 (x := ((pf i (pf j l) : Nat) : Int)) (y := ((pf (pf i j) l : Nat) : Int)) (by rw [sr.pa i hi j hj l hl])]
            refine iteF ⟨_, rfl, _, rfl, m, _, _, _, rfl, rfl, SqT.of w101, at_of rfl w102, _, rfl, _, rfl, m, _, _, _, rfl, rfl, SqT.of w91, at_of rfl w92, _, rfl, rw9, _, _, _, rfl, rfl, SqT.of w93, at_of rfl w94, rw10, _, _, _, rfl, rfl, SqT.of w103, at_of rfl w104, _, rfl, _, rfl, _, rfl, m, _, _, _, rfl, rfl, SqT.of w111, at_of rfl w112, _, rfl, rw11, _, _, _, rfl, rfl, SqT.of w113, at_of rfl w114, m, _, _, _, rfl, rfl, SqT.of w121, at_of rfl w122, _, rfl, rw12, _, _, _, rfl, rfl, SqT.of w123, at_of rfl w124, rfl, _, rfl, ?_⟩
            rw [ne0 (x := ((tf i (tf j l) : Nat) : Int)) (y := ((tf (tf i j) l : Nat) : Int)) (by rw [sr.ta i hi j hj l hl])]
            refine iteF (go_next ?_)
            refine ⟨_, rfl, _, rfl, m, _, _, _, rfl, rfl, SqT.of w141, at_of rfl w142, _, rfl, _, rfl, p, _, _, _, rfl, rfl, SqT.of w131, at_of rfl w132, _, rfl, rw13, _, _, _, rfl, rfl, SqT.of w133, at_of rfl w134, rw14, _, _, _, rfl, rfl, SqT.of w143, at_of rfl w144, _, rfl, _, rfl, _, rfl, m, _, _, _, rfl, rfl, SqT.of w151, at_of rfl w152, _, rfl, rw15, _, _, _, rfl, rfl, SqT.of w153, at_of rfl w154, p, _, _, _, rfl, rfl, SqT.of w171, at_of rfl w172, _, rfl, _, rfl, m, _, _, _, rfl, rfl, SqT.of w161, at_of rfl w162, _, rfl, rw16, _, _, _, rfl, rfl, SqT.of w163, at_of rfl w164, rw17, _, _, _, rfl, rfl, SqT.of w173, at_of rfl w174, rfl, _, rfl, ?_⟩
            rw [ne0 (x := ((tf i (pf j l) : Nat) : Int)) (y := ((pf (tf i j) (tf i l) : Nat) : Int)) (by rw [sr.ds i hi j hj l hl])]
            exact iteF ⟨_, rfl, rfl⟩
          · rintro σ H3 ⟨vc, rfl, rfl⟩
            exact ⟨_, _, rfl, rfl⟩
        · rintro σ H2 ⟨vb, vc, rfl, rfl⟩
          exact ⟨_, _, _, rfl, rfl⟩
      | some x =>
        obtain ⟨hx, hfx⟩ := hu.2.2 i x hv
        obtain ⟨rs, rws, s1, s2, cs, s3, s4⟩ := tt_at hm hi hx
        obtain ⟨rq, rwq, q1, q2, cq, q3, q4⟩ := tt_at hp hoo (sr.tc i hi x hx)
        refine iteT ⟨_, rfl, _, rfl, p, _, _, _, rfl, rfl, SqT.of q1, at_of rfl q2, _, rfl, _, rfl, m, _, _, _, rfl, rfl, SqT.of s1, at_of rfl s2, _, rfl, _, rfl, u, _, _, _, rfl, rfl, SqT.of hu.1, at_of rfl hv', rs, _, _, _, rfl, rfl, SqT.of s3, at_of rfl s4, rq, _, _, _, rfl, rfl, SqT.of q3, at_of rfl q4, ?_⟩
        refine ⟨_, rfl, _, rfl, u, _, _, _, rfl, rfl, SqT.of hu.1, at_of rfl hv', rfl, _, rfl, ?_⟩
        have en : (!decide (V.int ((pf o (tf i x) : Nat) : Int) = stV (some x))) = false := by
          rw [decide_eq_true (show V.int ((pf o (tf i x) : Nat) : Int) = stV (some x) by rw [hfx]; rfl)]
          rfl
        rw [en]
        refine iteF (go_next ?_)
        refine ⟨_, rfl, _, rfl, by omega, by omega, ?_⟩
        rw [Int.toNat_natCast]
        refine for_range (lo := 0) (n := n) (fun j σ H' => ∃ vb vc : Option V, σ = [some (.ref t), some (.ref p), some (.ref m), some (.int (o : Int)), some (.ref u), some (.int (n : Int)), some (.int (i : Int)), vb, vc] ∧ H' = H1) ⟨vb, vc, rfl, rfl⟩ ?_ ?_
        · rintro j σ H2 hj ⟨vb, vc, rfl, rfl⟩
          rw [Int.zero_add]
          refine go_name rfl ?_
          obtain ⟨rw1, rww1, w11, w12, cw1, w13, w14⟩ := tt_at hp hi hj
          obtain ⟨rw2, rww2, w21, w22, cw2, w23, w24⟩ := tt_at hp hj hi
          obtain ⟨rw3, rww3, w31, w32, cw3, w33, w34⟩ := tt_at hm hi hj
          obtain ⟨rw4, rww4, w41, w42, cw4, w43, w44⟩ := tt_at hm hj hi
          refine ⟨_, rfl, _, rfl, p, _, _, _, rfl, rfl, SqT.of w11, at_of rfl w12, _, rfl, rw1, _, _, _, rfl, rfl, SqT.of w13, at_of rfl w14, _, rfl, _, rfl, p, _, _, _, rfl, rfl, SqT.of w21, at_of rfl w22, _, rfl, rw2, _, _, _, rfl, rfl, SqT.of w23, at_of rfl w24, rfl, _, rfl, ?_⟩
          rw [ne0 (x := ((pf i j : Nat) : Int)) (y := ((pf j i : Nat) : Int)) (by rw [sr.ps i hi j hj])]
          refine iteF ⟨_, rfl, _, rfl, m, _, _, _, rfl, rfl, SqT.of w31, at_of rfl w32, _, rfl, rw3, _, _, _, rfl, rfl, SqT.of w33, at_of rfl w34, _, rfl, _, rfl, m, _, _, _, rfl, rfl, SqT.of w41, at_of rfl w42, _, rfl, rw4, _, _, _, rfl, rfl, SqT.of w43, at_of rfl w44, rfl, _, rfl, ?_⟩
          rw [ne0 (x := ((tf i j : Nat) : Int)) (y := ((tf j i : Nat) : Int)) (by rw [sr.ts i hi j hj])]
          refine iteF (go_next ?_)
          refine ⟨_, rfl, _, rfl, by omega, by omega, ?_⟩
          rw [Int.toNat_natCast]
          refine for_range (lo := 0) (n := n) (fun l σ H' => ∃ vc : Option V, σ = [some (.ref t), some (.ref p), some (.ref m), some (.int (o : Int)), some (.ref u), some (.int (n : Int)), some (.int (i : Int)), some (.int (j : Int)), vc] ∧ H' = H2) ⟨vc, rfl, rfl⟩ ?_ ?_
          · rintro l σ H3 hl ⟨vc, rfl, rfl⟩
            rw [Int.zero_add]
            refine go_name rfl ?_
            obtain ⟨rw5, rww5, w51, w52, cw5, w53, w54⟩ := tt_at hp hj hl
            obtain ⟨rw6, rww6, w61, w62, cw6, w63, w64⟩ := tt_at hp hi (sr.pc j hj l hl)
            obtain ⟨rw7, rww7, w71, w72, cw7, w73, w74⟩ := tt_at hp hi hj
            obtain ⟨rw8, rww8, w81, w82, cw8, w83, w84⟩ := tt_at hp (sr.pc i hi j hj) hl
            obtain ⟨rw9, rww9, w91, w92, cw9, w93, w94⟩ := tt_at hm hj hl
            obtain ⟨rw10, rww10, w101, w102, cw10, w103, w104⟩ := tt_at hm hi (sr.tc j hj l hl)
            obtain ⟨rw11, rww11, w111, w112, cw11, w113, w114⟩ := tt_at hm hi hj
            obtain ⟨rw12, rww12, w121, w122, cw12, w123, w124⟩ := tt_at hm (sr.tc i hi j hj) hl
            obtain ⟨rw13, rww13, w131, w132, cw13, w133, w134⟩ := tt_at hp hj hl
            obtain ⟨rw14, rww14, w141, w142, cw14, w143, w144⟩ := tt_at hm hi (sr.pc j hj l hl)
            obtain ⟨rw15, rww15, w151, w152, cw15, w153, w154⟩ := tt_at hm hi hj
            obtain ⟨rw16, rww16, w161, w162, cw16, w163, w164⟩ := tt_at hm hi hl
            obtain ⟨rw17, rww17, w171, w172, cw17, w173, w174⟩ := tt_at hp (sr.tc i hi j hj) (sr.tc i hi l hl)
            refine ⟨_, rfl, _, rfl, p, _, _, _, rfl, rfl, SqT.of w61, at_of rfl w62, _, rfl, _, rfl, p, _, _, _, rfl, rfl, SqT.of w51, at_of rfl w52, _, rfl, rw5, _, _, _, rfl, rfl, SqT.of w53, at_of rfl w54, rw6, _, _, _, rfl, rfl, SqT.of w63, at_of rfl w64, _, rfl, _, rfl, _, rfl, p, _, _, _, rfl, rfl, SqT.of w71, at_of rfl w72, _, rfl, rw7, _, _, _, rfl, rfl, SqT.of w73, at_of rfl w74, p, _, _, _, rfl, rfl, SqT.of w81, at_of rfl w82, _, rfl, rw8, _, _, _, rfl, rfl, SqT.of w83, at_of rfl w84, rfl, _, rfl, ?_⟩
            rw [ne0 (x := ((pf i (pf j l) : Nat) : Int)) (y := ((pf (pf i j) l : Nat) : Int)) (by rw [sr.pa i hi j hj l hl])]
            refine iteF ⟨_, rfl, _, rfl, m, _, _, _, rfl, rfl, SqT.of w101, at_of rfl w102, _, rfl, _, rfl, m, _, _, _, rfl, rfl, SqT.of w91, at_of rfl w92, _, rfl, rw9, _, _, _, rfl, rfl, SqT.of w93, at_of rfl w94, rw10, _, _, _, rfl, rfl, SqT.of w103, at_of rfl w104, _, rfl, _, rfl, _, rfl, m, _, _, _, rfl, rfl, SqT.of w111, at_of rfl w112, _, rfl, rw11, _, _, _, rfl, rfl, SqT.of w113, at_of rfl w114, m, _, _, _, rfl, rfl, SqT.of w121, at_of rfl w122, _, rfl, rw12, _, _, _, rfl, rfl, SqT.of w123, at_of rfl w124, rfl, _, rfl, ?_⟩
            rw [ne0 (x := ((tf i (tf j l) : Nat) : Int)) (y := ((tf (tf i j) l : Nat) : Int)) (by rw [sr.ta i hi j hj l hl])]
            refine iteF (go_next ?_)
            refine ⟨_, rfl, _, rfl, m, _, _, _, rfl, rfl, SqT.of w141, at_of rfl w142, _, rfl, _, rfl, p, _, _, _, rfl, rfl, SqT.of w131, at_of rfl w132, _, rfl, rw13, _, _, _, rfl, rfl, SqT.of w133, at_of rfl w134, rw14, _, _, _, rfl, rfl, SqT.of w143, at_of rfl w144, _, rfl, _, rfl, _, rfl, m, _, _, _, rfl, rfl, SqT.of w151, at_of rfl w152, _, rfl, rw15, _, _, _, rfl, rfl, SqT.of w153, at_of rfl w154, p, _, _, _, rfl, rfl, SqT.of w171, at_of rfl w172, _, rfl, _, rfl, m, _, _, _, rfl, rfl, SqT.of w161, at_of rfl w162, _, rfl, rw16, _, _, _, rfl, rfl, SqT.of w163, at_of rfl w164, rw17, _, _, _, rfl, rfl, SqT.of w173, at_of rfl w174, rfl, _, rfl, ?_⟩
            rw [ne0 (x := ((tf i (pf j l) : Nat) : Int)) (y := ((pf (tf i j) (tf i l) : Nat) : Int)) (by rw [sr.ds i hi j hj l hl])]
            exact iteF ⟨_, rfl, rfl⟩
          · rintro σ H3 ⟨vc, rfl, rfl⟩
            exact ⟨_, _, rfl, rfl⟩
        · rintro σ H2 ⟨vb, vc, rfl, rfl⟩
          exact ⟨_, _, _, rfl, rfl⟩
    · rintro σ H2 ⟨va, vb, vc, rfl, rfl⟩
      exact k
end
end K05

set_option Elab.async false
set_option linter.all false
set_option maxRecDepth 100000
set_option maxHeartbeats 4000000
namespace K05
open PySem L2 Ew Tb SRm
local macro_rules | `(tactic| walk_at "len") => `(tactic| first | (intro h; obtain ⟨_, e, _⟩ := h; rw [e]; rfl) | (intro h; obtain ⟨_, _, e, _⟩ := h; rw [e]; rfl) | (intro h; obtain ⟨_, _, _, e, _⟩ := h; rw [e]; rfl) | (intro h; obtain ⟨_, _, _, _, e, _⟩ := h; rw [e]; rfl) | (intro h; obtain ⟨_, _, _, _, _, e, _⟩ := h; rw [e]; rfl) | (intro h; obtain ⟨_, _, _, _, _, _, e, _⟩ := h; rw [e]; rfl) | (intro h; obtain ⟨_, _, _, _, _, _, _, e, _⟩ := h; rw [e]; rfl) | (intro h; exact h.elim))
section
variable {P : Program} {w : World} {K : PySem.W.Frag} {mg : Str → Option Value} {base : Heap} {ad : Ad}
/-! ### what a part of a pair promises: its object's class C, of its fields ok -/
def spBinG (C : Addr) (ok : Hp → List (Str × V) → Prop) (el : V → Prop) (op : V → V → V) : Sp := fun vs H Q _ => ∃ p dx fs x y, vs = [.ref p, x, y] ∧ H p = some (.ins C dx fs) ∧ ok H fs ∧ el x ∧ el y ∧ Q (op x y) H
def spNulG (C : Addr) (ok : Hp → List (Str × V) → Prop) (z : V) : Sp := fun vs H Q _ => ∃ p dx fs, vs = [.ref p] ∧ H p = some (.ins C dx fs) ∧ ok H fs ∧ Q z H
def spStG (C ns : Addr) (ok : Hp → List (Str × V) → Prop) (el : V → Prop) (st : V → Option V) : Sp := fun vs H Q E => ∃ p dx fs x, vs = [.ref p, x] ∧ H p = some (.ins C dx fs) ∧ ok H fs ∧ el x ∧ (∀ s, st x = some s → Q s H) ∧ (st x = none → E (.ref ns) none H)
def spElG (C : Addr) (ok : Hp → List (Str × V) → Prop) (t : V → Bool) : Sp := fun vs H Q _ => ∃ p dx fs x, vs = [.ref p, x] ∧ H p = some (.ins C dx fs) ∧ ok H fs ∧ Thg H x ∧ Q (.bl (t x)) H
/-- the fields of a Finite -/
abbrev fF (tp tm : Addr) (o : Nat) (ts : Addr) : List (Str × V) := putF "_stars" (.ref ts) (putF "_one" (.int (o : Int)) (putF "_times" (.ref tm) (putF "_plus" (.ref tp) [])))
theorem fF_p (tp tm : Addr) (o : Nat) (ts : Addr) : (fF tp tm o ts).lookup ("_plus" : Str) = some (.ref tp) := by
  rw [lookup_putF, if_neg (by decide), lookup_putF, if_neg (by decide), lookup_putF, if_neg (by decide), lookup_putF, if_pos rfl]
theorem fF_t (tp tm : Addr) (o : Nat) (ts : Addr) : (fF tp tm o ts).lookup ("_times" : Str) = some (.ref tm) := by
  rw [lookup_putF, if_neg (by decide), lookup_putF, if_neg (by decide), lookup_putF, if_pos rfl]
theorem fF_o (tp tm : Addr) (o : Nat) (ts : Addr) : (fF tp tm o ts).lookup ("_one" : Str) = some (.int (o : Int)) := by
  rw [lookup_putF, if_neg (by decide), lookup_putF, if_pos rfl]
theorem fF_s (tp tm : Addr) (o : Nat) (ts : Addr) : (fF tp tm o ts).lookup ("_stars" : Str) = some (.ref ts) := by
  rw [lookup_putF, if_pos rfl]
theorem fF_no (tp tm : Addr) (o : Nat) (ts : Addr) {m : Str} (h1 : ¬ m = "_plus") (h2 : ¬ m = "_times") (h3 : ¬ m = "_one") (h4 : ¬ m = "_stars") : (fF tp tm o ts).lookup m = none := by
  rw [lookup_putF, if_neg h4, lookup_putF, if_neg h3, lookup_putF, if_neg h2, lookup_putF, if_neg h1]; rfl
/-- a Finite's fields tell these tables -/
def okF (n : Nat) (f g : Nat → Nat → Nat) (o : Nat) (st : List (Option Nat)) (H : Hp) (fs : List (Str × V)) : Prop :=
  ∃ tp tm ts, fs = fF tp tm o ts ∧ TT H tp n (fun i j => (f i j : Int)) ∧ TT H tm n (fun i j => (g i j : Int)) ∧ H ts = some (.tup (st.map stV)) ∧ st.length = n
def elF (n : Nat) (v : V) : Prop := ∃ i : Nat, v = .int (i : Int) ∧ i < n
def binF (f : Nat → Nat → Nat) : V → V → V
  | .int i, .int j => .int ((f i.toNat j.toNat : Nat) : Int)
  | x, _ => x
def starF (st : List (Option Nat)) : V → Option V
  | .int i => match st[i.toNat]? with
    | some (some s) => some (.int (s : Int))
    | _ => none
  | _ => none
section
variable {n o : Nat} {pf tf : Nat → Nat → Nat} {st : List (Option Nat)}
theorem ok_Finite_zero  {f : Addr} {fd : FuncData} (F : Fun K "zero" "Finite.zero" s_Finite_zero f fd) (T : Txt K mg ad) : FnOk P w K mg base (L2.CX P w) 1 f fd ["self"] (spNulG ad.Finite (okF n pf tf o st) (.int 0)) := by
  refine F.okX sc_Finite_zero (fun vs H Q E => ?_) (fun cdv A outer s H vs Q E hr h => ?_)
  · walk_at "len"
  ·
    obtain ⟨p, dx, fs, rfl, hp, ok, k⟩ := h
    refine ⟨_, (pss_one (ps_ret pe_int)), ?_⟩
    exact k
theorem ok_Finite_one  {f : Addr} {fd : FuncData} (F : Fun K "one" "Finite.one" s_Finite_one f fd) (T : Txt K mg ad) : FnOk P w K mg base (L2.CX P w) 1 f fd ["self"] (spNulG ad.Finite (okF n pf tf o st) (.int (o : Int))) := by
  refine F.okX sc_Finite_one (fun vs H Q E => ?_) (fun cdv A outer s H vs Q E hr h => ?_)
  · walk_at "len"
  ·
    obtain ⟨p, dx, fs, rfl, hp, ⟨tp, tm, ts, rfl, _⟩, k⟩ := h
    refine ⟨_, (pss_one (ps_ret (pe_fld (pv 0) rfl))), ?_⟩
    exact ⟨_, rfl, p, _, dx, _, _, rfl, hp, T.c_Finite, T.n_one, fF_o _ _ _ _, k⟩
theorem ok_Finite_plus  {f : Addr} {fd : FuncData} (F : Fun K "plus" "Finite.plus" s_Finite_plus f fd) (T : Txt K mg ad) : FnOk P w K mg base (L2.CX P w) 1 f fd ["self", "a", "b"] (spBinG ad.Finite (okF n pf tf o st) (elF n) (binF pf)) := by
  refine F.okX sc_Finite_plus (fun vs H Q E => ?_) (fun cdv A outer s H vs Q E hr h => ?_)
  · walk_at "len"
  ·
    obtain ⟨p, dx, fs, x, y, rfl, hp, ⟨tp, tm, ts, rfl, h1, h2, h3, h4⟩, ⟨i, rfl, hi⟩, ⟨j, rfl, hj⟩, k⟩ := h
    refine ⟨_, (pss_one (ps_ret (pe_ix ix_tup (pe_ix ix_tup (pe_fld (pv 0) rfl) (pv 1) (fun _ _ => rfl)) (pv 2) (fun _ _ => rfl)))), ?_⟩
    obtain ⟨r, rows, a1, a2, cells, a3, a4⟩ := tt_at h1 hi hj
    exact ⟨_, rfl, p, _, dx, _, _, rfl, hp, T.c_Finite, T.n_plus, fF_p _ _ _ _, _, rfl, tp, rows, _, _, rfl, rfl, SqT.of a1, at_of rfl a2, _, rfl, r, cells, _, _, rfl, rfl, SqT.of a3, at_of rfl a4, k⟩
theorem ok_Finite_times  {f : Addr} {fd : FuncData} (F : Fun K "times" "Finite.times" s_Finite_times f fd) (T : Txt K mg ad) : FnOk P w K mg base (L2.CX P w) 1 f fd ["self", "a", "b"] (spBinG ad.Finite (okF n pf tf o st) (elF n) (binF tf)) := by
  refine F.okX sc_Finite_times (fun vs H Q E => ?_) (fun cdv A outer s H vs Q E hr h => ?_)
  · walk_at "len"
  ·
    obtain ⟨p, dx, fs, x, y, rfl, hp, ⟨tp, tm, ts, rfl, h1, h2, h3, h4⟩, ⟨i, rfl, hi⟩, ⟨j, rfl, hj⟩, k⟩ := h
    refine ⟨_, (pss_one (ps_ret (pe_ix ix_tup (pe_ix ix_tup (pe_fld (pv 0) rfl) (pv 1) (fun _ _ => rfl)) (pv 2) (fun _ _ => rfl)))), ?_⟩
    obtain ⟨r, rows, a1, a2, cells, a3, a4⟩ := tt_at h2 hi hj
    exact ⟨_, rfl, p, _, dx, _, _, rfl, hp, T.c_Finite, T.n_times, fF_t _ _ _ _, _, rfl, tm, rows, _, _, rfl, rfl, SqT.of a1, at_of rfl a2, _, rfl, r, cells, _, _, rfl, rfl, SqT.of a3, at_of rfl a4, k⟩
theorem ok_Finite_star  {f : Addr} {fd : FuncData} (F : Fun K "star" "Finite.star" s_Finite_star f fd) (T : Txt K mg ad) : FnOk P w K mg base (L2.CX P w) 1 f fd ["self", "a"] (spStG ad.Finite ad.NoStar (okF n pf tf o st) (elF n) (starF st)) := by
  refine F.okX sc_Finite_star (fun vs H Q E => ?_) (fun cdv A outer s H vs Q E hr h => ?_)
  · walk_at "len"
  ·
    obtain ⟨p, dx, fs, x, rfl, hp, ⟨tp, tm, ts, rfl, h1, h2, h3, h4⟩, ⟨i, rfl, hi⟩, k1, k2⟩ := h
    refine ⟨_, (pss_cons (ps_set (i := 2) sc_Finite_star.nd rfl (by first | exact Or.inl rfl | exact Or.inr rfl) (pe_ix ix_tup (pe_fld (pv 0) rfl) (pv 1) (fun _ _ => rfl)))
      (pss_cons (ps_if (pt_cmpR op_isN (pv 2) pe_non (nomark _)) (pss_one (ps_raise rfl (takes_of rfl rfl rfl rfl) (pmk_own PySem.F.excBase_ValueError T.x_NoStar T.g_NoStar T.k_NoStar (raises_own T.b_NoStar T.t_NoStar) (by rfl)))) pss_nil)
      (pss_one (ps_ret (pv 2))))), ?_⟩
    obtain ⟨v, hv⟩ : ∃ v, st[i]? = some v := ⟨_, List.getElem?_eq_getElem (by omega)⟩
    have hv' : (st.map stV)[i]? = some (stV v) := by rw [List.getElem?_map, hv]; rfl
    refine ⟨_, rfl, p, _, dx, _, _, rfl, hp, T.c_Finite, T.n_stars, fF_s _ _ _ _, _, rfl, ts, _, _, _, rfl, rfl, SqT.of h3, at_of rfl hv', ?_⟩
    cases v with
    | none =>
      refine ⟨_, rfl, rfl, _, rfl, iteT ?_⟩
      refine k2 ?_
      show (match st[(i : Int).toNat]? with | some (some s) => some (V.int (s : Int)) | _ => none) = none
      rw [Int.toNat_natCast, hv]
    | some s =>
      refine ⟨_, rfl, rfl, _, rfl, iteF ?_⟩
      refine ⟨_, rfl, k1 _ ?_⟩
      show (match st[(i : Int).toNat]? with | some (some s) => some (V.int (s : Int)) | _ => none) = some (.int (s : Int))
      rw [Int.toNat_natCast, hv]
theorem ok_Finite_size  {f : Addr} {fd : FuncData} (F : Fun K "size" "Finite.size" s_Finite_size f fd) (T : Txt K mg ad) : FnOk P w K mg base (L2.CX P w) 1 f fd ["self"] (spNulG ad.Finite (okF n pf tf o st) (.int (n : Int))) := by
  refine F.okX sc_Finite_size (fun vs H Q E => ?_) (fun cdv A outer s H vs Q E hr h => ?_)
  · walk_at "len"
  ·
    obtain ⟨p, dx, fs, rfl, hp, ⟨tp, tm, ts, rfl, h1, h2, h3, h4⟩, k⟩ := h
    refine ⟨_, (pss_one (ps_ret (pe_callB call_len (by rfl) T.z_len (by decide +kernel) (pa_cons (pe_fld (pv 0) rfl) pa_nil)))), ?_⟩
    obtain ⟨rows, e1, e2⟩ := tt_len h1
    refine ⟨_, rfl, p, _, dx, _, _, rfl, hp, T.c_Finite, T.n_plus, fF_p _ _ _ _, .ref tp, _, rfl, .inr ⟨_, SqT.of e1, rfl⟩, ?_⟩
    rw [e2]
    exact k
theorem ok_Finite_is_element (c_is_between : CalX P w K mg base 2 "is_between" spIsBet) (m_size : MetX P w K mg base 1 ad.Finite "size" (spNulG ad.Finite (okF n pf tf o st) (.int (n : Int)))) {f : Addr} {fd : FuncData} (F : Fun K "is_element" "Finite.is_element" s_Finite_is_element f fd) (T : Txt K mg ad) : FnOk P w K mg base (L2.CX P w) 3 f fd ["self", "a"] (spElG ad.Finite (okF n pf tf o st) (betV 0 ((n : Int) - 1))) := by
  refine F.okX sc_Finite_is_element (fun vs H Q E => ?_) (fun cdv A outer s H vs Q E hr h => ?_)
  · walk_at "len"
  ·
    obtain ⟨p, dx, fs, x, rfl, hp, ok, hx, k⟩ := h
    refine ⟨_, (pss_one (ps_ret (pc_call c_is_between hr (by first | decide | omega) (takes_of rfl rfl rfl rfl) (by rfl) (pa_cons (pv 1) (pa_cons pe_int (pa_cons (pe_op op_sub (pd_meth0 hr (takes_of rfl rfl rfl rfl) (pv 0)) pe_int) pa_nil)))))), ?_⟩
    have hn : fs.lookup ("size" : Str) = none := by
      obtain ⟨tp, tm, ts, rfl, _⟩ := ok
      exact fF_no _ _ _ _ (by decide) (by decide) (by decide) (by decide)
    exact ⟨_, rfl, _, rfl, p, _, dx, fs, 1, _, rfl, hp, hn, by decide, m_size, p, dx, fs, rfl, hp, ok, _, _, rfl, rfl, x, _, _, rfl, hx, k⟩
end
end
end K05

set_option Elab.async false
set_option linter.all false
set_option maxRecDepth 100000
set_option maxHeartbeats 4000000
namespace K05
open PySem L2 Ew Tb SRm GxR
local macro_rules | `(tactic| walk_at "len") => `(tactic| first | (intro h; obtain ⟨_, e, _⟩ := h; rw [e]; rfl) | (intro h; obtain ⟨_, _, e, _⟩ := h; rw [e]; rfl) | (intro h; obtain ⟨_, _, _, e, _⟩ := h; rw [e]; rfl) | (intro h; obtain ⟨_, _, _, _, e, _⟩ := h; rw [e]; rfl) | (intro h; obtain ⟨_, _, _, _, _, e, _⟩ := h; rw [e]; rfl) | (intro h; obtain ⟨_, _, _, _, _, _, e, _⟩ := h; rw [e]; rfl) | (intro h; obtain ⟨_, _, _, _, _, _, _, e, _⟩ := h; rw [e]; rfl) | (intro h; obtain ⟨_, _, _, _, _, _, _, _, e, _⟩ := h; rw [e]; rfl) | (intro h; exact h.elim))
section
variable {P : Program} {w : World} {K : PySem.W.Frag} {mg : Str → Option Value} {base : Heap} {ad : Ad}
/-! ### the checks of any tables -/
abbrev cloC (n : Nat) (f : Nat → Nat → Nat) : Prop := ∀ a, a < n → ∀ b, b < n → f a b < n
abbrev symC (n : Nat) (f : Nat → Nat → Nat) : Prop := ∀ a, a < n → ∀ b, b < n → f a b = f b a
abbrev assC (n : Nat) (f : Nat → Nat → Nat) : Prop := ∀ a, a < n → ∀ b, b < n → ∀ c, c < n → f a (f b c) = f (f a b) c
abbrev neuC (n : Nat) (f : Nat → Nat → Nat) (o : Nat) : Prop := ∀ a, a < n → f o a = a
abbrev empC (n : Nat) (g : Nat → Nat → Nat) : Prop := ∀ a, a < n → g 0 a = 0
abbrev disC (n : Nat) (f g : Nat → Nat → Nat) : Prop := ∀ a, a < n → ∀ b, b < n → ∀ c, c < n → g a (f b c) = f (g a b) (g a c)
abbrev staC (f g : Nat → Nat → Nat) (o : Nat) (st : List (Option Nat)) : Prop := ∀ a s, st[a]? = some (some s) → s = f o (g a s)
theorem intEq {a b : Nat} : decide (V.int (a : Int) = V.int (b : Int)) = decide (a = b) := by
  by_cases h : a = b
  · rw [h]; simp
  · rw [decide_eq_false h]
    exact decide_eq_false fun z => h (by injection z with z; omega)
theorem intEqI {a b : Int} : decide (V.int a = V.int b) = decide (a = b) := by
  by_cases h : a = b
  · rw [h]; simp
  · rw [decide_eq_false h]
    exact decide_eq_false fun z => h (by injection z)
def spTabB (PP : Addr) (ok : Nat → (Nat → Nat → Nat) → Prop) : Sp := fun vs H Q _ => ∃ p n f, vs = [.ref p] ∧ TT H p n (fun i j => (f i j : Int)) ∧ n ≤ 40 ∧ cloC n f ∧ TabG H PP ∧ ∀ b H', FrT H H' → (b = true ↔ ok n f) → Q (.bl b) H'
theorem ok_is_symmetric  {f cc PP : Addr} {fd : FuncData} (F : FunC K "_is_symmetric" "_is_symmetric" s_is_symmetric f fd cc) (TB : GxR.TabB base mg cc PP) (T : Txt K mg ad) : FnOk P w K mg base (L2.CX P w) 2 f fd ["table"] (spTabB PP symC) := by
  refine F.okX sc_is_symmetric (fun vs H Q E => ?_) (fun A outer s H vs Q E hr h => ?_)
  · walk_at "len"
  ·
    obtain ⟨p, n, pf, rfl, ht, hn, hok, hT, k⟩ := h
    refine ⟨_, (pss_cons (ps_set (i := 1) sc_is_symmetric.nd rfl (by first | exact Or.inl rfl | exact Or.inr rfl) (pe_callB call_len (by rfl) T.z_len (by decide +kernel) (pa_cons (pv 0) pa_nil)))
      (pss_one (ps_ret (EwG.pe_all2 (vs1 := [3]) (own := [("a", 2), ("b", 3)]) hr (by rfl) T.z_all TB rfl sc_is_symmetric.nd (blkOk_by (by kernel_rfl)) (by decide +kernel) rfl rfl (pi_range1 (by rfl) T.z_range (pa_cons (pv 1) pa_nil)) (by decide) (fun _ _ _ _ _ _ _ => (pg_name (i := 2) sc_is_symmetric.nd rfl (by first | exact Or.inl rfl | exact Or.inr rfl))) (fun _ _ _ _ _ _ _ hr => (pi_range1 (by rfl) T.z_range (pa_cons (pv 2) pa_nil))) (fun _ _ _ _ _ _ _ => (pg_name (i := 3) sc_is_symmetric.nd rfl (by first | exact Or.inl rfl | exact Or.inr rfl))) (fun _ _ _ _ _ _ _ hr => (pe_cmpR op_eq (pe_ix (kix_tup (K := K)) (pe_ix (kix_tup (K := K)) (pv 0) (pv 2) (fun _ _ => rfl)) (pv 3) (fun _ _ => rfl)) (pe_ix (kix_tup (K := K)) (pe_ix (kix_tup (K := K)) (pv 0) (pv 3) (fun _ _ => rfl)) (pv 2) (fun _ _ => rfl)) (nomark _))))))), ?_⟩
    obtain ⟨rows, e1, e2⟩ := tt_len ht
    refine go_seq ⟨_, rfl, .ref p, _, rfl, .inr ⟨_, SqT.of e1, rfl⟩, ?_⟩
    rw [e2]
    refine go_name rfl (go_ret ?_)
    refine ⟨_, rfl, _, rfl, by omega, by omega, hT, fun H2 hTb => ?_⟩
    rw [Int.toNat_natCast]
    have fr := FrT.tab hT hTb
    refine gwb2_rng (fun i j => decide (pf i j = pf j i)) (by omega) (fun _ => rfl) (fun _ => rfl) (fun _ _ => rfl) (fun i j Kt hi hj kt => ?_) (fun ha => k true _ fr ⟨fun _ a h1 b h2 => ?_, fun _ => rfl⟩) (fun i j hi hj hx => k false _ fr ⟨fun z => Bool.noConfusion z, fun z => absurd (z i hi j (by omega)) (of_decide_eq_false hx)⟩)
    · have ht2 : TT H2 p n (fun i j => (pf i j : Int)) := ht.same fun c xs e => fr.tup e
      have hj' : j < n := by omega
      obtain ⟨r1, rows1, a1, a2, cells1, a3, a4⟩ := tt_at ht2 hi hj'
      obtain ⟨r2, rows2, b1, b2, cells2, b3, b4⟩ := tt_at ht2 hj' hi
      refine ⟨_, rfl, _, rfl, p, _, _, _, rfl, rfl, SqT.of a1, at_of rfl a2, _, rfl, r1, _, _, _, rfl, rfl, SqT.of a3, at_of rfl a4, ?_⟩
      refine ⟨_, rfl, _, rfl, p, _, _, _, rfl, rfl, SqT.of b1, at_of rfl b2, _, rfl, r2, _, _, _, rfl, rfl, SqT.of b3, at_of rfl b4, rfl, ?_⟩
      rw [intEq]
      exact kt
    · rcases Nat.lt_trichotomy a b with h | h | h
      · exact (of_decide_eq_true (ha b a h2 h)).symm
      · rw [h]
      · exact of_decide_eq_true (ha a b h1 h)
theorem ok_is_associative  {f cc PP : Addr} {fd : FuncData} (F : FunC K "_is_associative" "_is_associative" s_is_associative f fd cc) (TB : GxR.TabB base mg cc PP) (T : Txt K mg ad) : FnOk P w K mg base (L2.CX P w) 2 f fd ["table"] (spTabB PP assC) := by
  refine F.okX sc_is_associative (fun vs H Q E => ?_) (fun A outer s H vs Q E hr h => ?_)
  · walk_at "len"
  ·
    obtain ⟨p, n, pf, rfl, ht, hn, hcl, hT, k⟩ := h
    refine ⟨_, (pss_cons (ps_set (i := 1) sc_is_associative.nd rfl (by first | exact Or.inl rfl | exact Or.inr rfl) (pe_callB call_len (by rfl) T.z_len (by decide +kernel) (pa_cons (pv 0) pa_nil)))
      (pss_cons (ps_for (passes_of rfl) rfl (pi_range1 (by rfl) T.z_range (pa_cons (pv 1) pa_nil)) (pg_name (i := 2) sc_is_associative.nd rfl (by first | exact Or.inl rfl | exact Or.inr rfl)) (pss_one (ps_for (passes_of rfl) rfl (pi_range1 (by rfl) T.z_range (pa_cons (pv 1) pa_nil)) (pg_name (i := 3) sc_is_associative.nd rfl (by first | exact Or.inl rfl | exact Or.inr rfl)) (pss_cons (ps_set (i := 4) sc_is_associative.nd rfl (by first | exact Or.inl rfl | exact Or.inr rfl) (pe_ix ix_tup (pv 0) (pe_ix ix_tup (pe_ix ix_tup (pv 0) (pv 2) (fun _ _ => rfl)) (pv 3) (fun _ _ => rfl)) (fun _ _ => rfl)))
      (pss_one (ps_if (pt_val (EwG.pe_any (own := [("c", 5)]) hr (by rfl) T.z_any TB rfl sc_is_associative.nd (blkOk_by (by kernel_rfl)) (by decide +kernel) rfl rfl (pi_range1 (by rfl) T.z_range (pa_cons (pv 1) pa_nil)) (fun _ _ _ _ _ _ _ => (pg_name (i := 5) sc_is_associative.nd rfl (by first | exact Or.inl rfl | exact Or.inr rfl))) (fun _ _ _ _ _ _ _ hr => (pe_cmpR op_ne (pe_ix (kix_tup (K := K)) (pe_ix (kix_tup (K := K)) (pv 0) (pv 2) (fun _ _ => rfl)) (pe_ix (kix_tup (K := K)) (pe_ix (kix_tup (K := K)) (pv 0) (pv 3) (fun _ _ => rfl)) (pv 5) (fun _ _ => rfl)) (fun _ _ => rfl)) (pe_ix (kix_tup (K := K)) (pv 4) (pv 5) (fun _ _ => rfl)) (nomark _))))) (pss_one (ps_ret pe_bl)) pss_nil))))))
      (pss_one (ps_ret pe_bl)))), ?_⟩
    obtain ⟨rows, e1, e2⟩ := tt_len ht
    refine go_seq ⟨_, rfl, .ref p, _, rfl, .inr ⟨_, SqT.of e1, rfl⟩, ?_⟩
    rw [e2]
    refine go_name rfl ?_
    refine ⟨_, rfl, _, rfl, by omega, by omega, ?_⟩
    rw [Int.toNat_natCast]
    refine for_range (lo := 0) (n := n) (fun i σ H' => ∃ va vb vl : Option V, σ = [some (.ref p), some (.int (n : Int)), va, vb, vl, none] ∧ FrT H H' ∧ ∀ a, a < i → ∀ b, b < n → ∀ c, c < n → pf a (pf b c) = pf (pf a b) c) ⟨none, none, none, rfl, FrT.refl _, fun a h => absurd h (Nat.not_lt_zero _)⟩ ?_ ?_
    · rintro i σ H1 hi ⟨va, vb, vl, rfl, f1, ha⟩
      rw [Int.zero_add]
      refine go_name rfl ?_
      refine ⟨_, rfl, _, rfl, by omega, by omega, ?_⟩
      rw [Int.toNat_natCast]
      refine for_range (lo := 0) (n := n) (fun j σ H' => ∃ vb vl : Option V, σ = [some (.ref p), some (.int (n : Int)), some (.int (i : Int)), vb, vl, none] ∧ FrT H H' ∧ ∀ b, b < j → ∀ c, c < n → pf i (pf b c) = pf (pf i b) c) ⟨vb, vl, rfl, f1, fun b h => absurd h (Nat.not_lt_zero _)⟩ ?_ ?_
      · rintro j σ H2 hj ⟨vb, vl, rfl, f2, hb⟩
        rw [Int.zero_add]
        refine go_name rfl (go_seq ?_)
        have ht2 : TT H2 p n (fun i j => (pf i j : Int)) := ht.same fun c xs e => f2.tup e
        have hc := hcl i hi j hj
        obtain ⟨r1, rows1, a1, a2, cells1, a3, a4⟩ := tt_at ht2 hi hj
        obtain ⟨rl, rowsl, l1, l2, cellsl, l3, _⟩ := tt_at ht2 hc hi
        refine ⟨_, rfl, _, rfl, _, rfl, p, _, _, _, rfl, rfl, SqT.of a1, at_of rfl a2, _, rfl, r1, _, _, _, rfl, rfl, SqT.of a3, at_of rfl a4, p, _, _, _, rfl, rfl, SqT.of l1, at_of rfl l2, go_name rfl ?_⟩
        have hT2 := f2.tabs _ hT
        refine ⟨_, rfl, _, rfl, by omega, by omega, hT2, fun H3 hTb => ?_⟩
        rw [Int.toNat_natCast]
        have f3 := FrT.tab hT2 hTb
        refine gwb_rng (fun c => !decide (pf i (pf j c) = pf (pf i j) c)) (fun _ => rfl) (fun c Kt hc' kt => ?_) (fun hall => ?_) (fun c hc' hx => ?_)
        · have ht3 : TT H3 p n (fun i j => (pf i j : Int)) := ht2.same fun c xs e => f3.tup e
          obtain ⟨r4, rows4, c1, c2, cells4, c3, c4⟩ := tt_at ht3 hj hc'
          obtain ⟨r5, rows5, d1, d2, cells5, d3, d4⟩ := tt_at ht3 hi (hcl j hj c hc')
          obtain ⟨r6, rows6, g1, g2, cells6, g3, g4⟩ := tt_at ht3 hc hc'
          have er : r6 = rl := by
            rw [f3.tup l1] at g1
            cases g1
            rw [l2] at g2
            cases g2
            rfl
          subst er
          refine ⟨_, rfl, _, rfl, p, _, _, _, rfl, rfl, SqT.of d1, at_of rfl d2, _, rfl, _, rfl, p, _, _, _, rfl, rfl, SqT.of c1, at_of rfl c2, _, rfl, r4, _, _, _, rfl, rfl, SqT.of c3, at_of rfl c4, r5, _, _, _, rfl, rfl, SqT.of d3, at_of rfl d4, ?_⟩
          refine ⟨_, rfl, _, rfl, r6, _, _, _, rfl, rfl, SqT.of g3, at_of rfl g4, rfl, ?_⟩
          rw [intEq]
          exact kt
        · refine ⟨_, rfl, iteF ?_⟩
          refine ⟨_, _, rfl, f2.trans f3, fun b hb' c hc' => ?_⟩
          by_cases h : b < j
          · exact hb b h c hc'
          · rw [show b = j by omega]
            exact of_decide_eq_true (by simpa using hall c hc')
        · refine ⟨_, rfl, iteT ?_⟩
          refine k false _ (f2.trans f3) ⟨fun z => Bool.noConfusion z, fun z => absurd (z i hi j hj c hc') (of_decide_eq_false (by simpa using hx))⟩
      · rintro σ H2 ⟨vb, vl, rfl, f2, hb⟩
        refine ⟨_, _, _, rfl, f2, fun a h => ?_⟩
        by_cases h' : a < i
        · exact ha a h'
        · rw [show a = i by omega]
          exact hb
    · rintro σ H2 ⟨va, vb, vl, rfl, f2, ha⟩
      exact k true _ f2 ⟨fun _ => ha, fun _ => rfl⟩
def spNeuB (PP : Addr) : Sp := fun vs H Q _ => ∃ (p : Addr) (n o : Nat) (f : Nat → Nat → Nat), vs = [.ref p, .int ((o : Nat) : Int)] ∧ TT H p n (fun i j => (f i j : Int)) ∧ n ≤ 40 ∧ o < n ∧ TabG H PP ∧ ∀ b H', FrT H H' → (b = true ↔ neuC n f o) → Q (.bl b) H'
theorem ok_is_neutral  {f cc PP : Addr} {fd : FuncData} (F : FunC K "_is_neutral" "_is_neutral" s_is_neutral f fd cc) (TB : GxR.TabB base mg cc PP) (T : Txt K mg ad) : FnOk P w K mg base (L2.CX P w) 2 f fd ["table", "number"] (spNeuB PP) := by
  refine F.okX sc_is_neutral (fun vs H Q E => ?_) (fun A outer s H vs Q E hr h => ?_)
  · walk_at "len"
  ·
    obtain ⟨p, n, o, pf, rfl, ht, hn, ho, hT, k⟩ := h
    refine ⟨_, (pss_one (ps_ret (EwG.pe_all (own := [("a", 2)]) hr (by rfl) T.z_all TB rfl sc_is_neutral.nd (blkOk_by (by kernel_rfl)) (by decide +kernel) rfl rfl (pi_range1 (by rfl) T.z_range (pa_cons (pe_callB call_len (by rfl) T.z_len (by decide +kernel) (pa_cons (pv 0) pa_nil)) pa_nil)) (fun _ _ _ _ _ _ _ => (pg_name (i := 2) sc_is_neutral.nd rfl (by first | exact Or.inl rfl | exact Or.inr rfl))) (fun _ _ _ _ _ _ _ hr => (pe_cmpR op_eq (pe_ix (kix_tup (K := K)) (pe_ix (kix_tup (K := K)) (pv 0) (pv 1) (fun _ _ => rfl)) (pv 2) (fun _ _ => rfl)) (pv 2) (nomark _)))))), ?_⟩
    obtain ⟨rows, e1, e2⟩ := tt_len ht
    refine go_ret ⟨_, rfl, .ref p, _, rfl, .inr ⟨_, SqT.of e1, rfl⟩, _, rfl, by omega, by omega, hT, fun H2 hTb => ?_⟩
    rw [e2, Int.toNat_natCast]
    have fr := FrT.tab hT hTb
    refine gwb_rng (fun i => decide (pf o i = i)) (fun _ => rfl) (fun i Kt hi kt => ?_) (fun ha => k true _ fr ⟨fun _ a h => of_decide_eq_true (ha a h), fun _ => rfl⟩) (fun i hi hx => k false _ fr ⟨fun z => Bool.noConfusion z, fun z => absurd (z i hi) (of_decide_eq_false hx)⟩)
    have ht2 : TT H2 p n (fun i j => (pf i j : Int)) := ht.same fun c xs e => fr.tup e
    obtain ⟨r1, rows1, a1, a2, cells1, a3, a4⟩ := tt_at ht2 ho hi
    refine ⟨_, rfl, _, rfl, p, _, _, _, rfl, rfl, SqT.of a1, at_of rfl a2, _, rfl, r1, _, _, _, rfl, rfl, SqT.of a3, at_of rfl a4, _, rfl, rfl, ?_⟩
    rw [intEq]
    exact kt
def spDisB (PP : Addr) : Sp := fun vs H Q _ => ∃ (p m : Addr) (n : Nat) (f g : Nat → Nat → Nat), vs = [.ref p, .ref m] ∧ TT H p n (fun i j => (f i j : Int)) ∧ TT H m n (fun i j => (g i j : Int)) ∧ n ≤ 40 ∧ cloC n f ∧ cloC n g ∧ TabG H PP ∧ ∀ b H', FrT H H' → (b = true ↔ disC n f g) → Q (.bl b) H'
theorem ok_is_distributive  {f cc PP : Addr} {fd : FuncData} (F : FunC K "_is_distributive" "_is_distributive" s_is_distributive f fd cc) (TB : GxR.TabB base mg cc PP) (T : Txt K mg ad) : FnOk P w K mg base (L2.CX P w) 2 f fd ["plus", "times"] (spDisB PP) := by
  refine F.okX sc_is_distributive (fun vs H Q E => ?_) (fun A outer s H vs Q E hr h => ?_)
  · walk_at "len"
  ·
    obtain ⟨p, m, n, pf, tf, rfl, ht, hm, hn, hpc, htc, hT, k⟩ := h
    refine ⟨_, (pss_cons (ps_set (i := 2) sc_is_distributive.nd rfl (by first | exact Or.inl rfl | exact Or.inr rfl) (pe_callB call_len (by rfl) T.z_len (by decide +kernel) (pa_cons (pv 0) pa_nil)))
      (pss_cons (ps_for (passes_of rfl) rfl (pi_range1 (by rfl) T.z_range (pa_cons (pv 2) pa_nil)) (pg_name (i := 3) sc_is_distributive.nd rfl (by first | exact Or.inl rfl | exact Or.inr rfl)) (pss_cons (ps_set (i := 4) sc_is_distributive.nd rfl (by first | exact Or.inl rfl | exact Or.inr rfl) (pe_ix ix_tup (pv 1) (pv 3) (fun _ _ => rfl)))
      (pss_one (ps_for (passes_of rfl) rfl (pi_range1 (by rfl) T.z_range (pa_cons (pv 2) pa_nil)) (pg_name (i := 5) sc_is_distributive.nd rfl (by first | exact Or.inl rfl | exact Or.inr rfl)) (pss_one (ps_if (pt_val (EwG.pe_any (own := [("c", 6)]) hr (by rfl) T.z_any TB rfl sc_is_distributive.nd (blkOk_by (by kernel_rfl)) (by decide +kernel) rfl rfl (pi_range1 (by rfl) T.z_range (pa_cons (pv 2) pa_nil)) (fun _ _ _ _ _ _ _ => (pg_name (i := 6) sc_is_distributive.nd rfl (by first | exact Or.inl rfl | exact Or.inr rfl))) (fun _ _ _ _ _ _ _ hr => (pe_cmpR op_ne (pe_ix (kix_tup (K := K)) (pv 4) (pe_ix (kix_tup (K := K)) (pe_ix (kix_tup (K := K)) (pv 0) (pv 5) (fun _ _ => rfl)) (pv 6) (fun _ _ => rfl)) (fun _ _ => rfl)) (pe_ix (kix_tup (K := K)) (pe_ix (kix_tup (K := K)) (pv 0) (pe_ix (kix_tup (K := K)) (pv 4) (pv 5) (fun _ _ => rfl)) (fun _ _ => rfl)) (pe_ix (kix_tup (K := K)) (pv 4) (pv 6) (fun _ _ => rfl)) (fun _ _ => rfl)) (nomark _))))) (pss_one (ps_ret pe_bl)) pss_nil))))))
      (pss_one (ps_ret pe_bl)))), ?_⟩
    obtain ⟨rows, e1, e2⟩ := tt_len ht
    refine go_seq ⟨_, rfl, .ref p, _, rfl, .inr ⟨_, SqT.of e1, rfl⟩, ?_⟩
    rw [e2]
    refine go_name rfl ?_
    refine ⟨_, rfl, _, rfl, by omega, by omega, ?_⟩
    rw [Int.toNat_natCast]
    refine for_range (lo := 0) (n := n) (fun i σ H' => ∃ va vr vb : Option V, σ = [some (.ref p), some (.ref m), some (.int (n : Int)), va, vr, vb, none] ∧ FrT H H' ∧ ∀ a, a < i → ∀ b, b < n → ∀ c, c < n → tf a (pf b c) = pf (tf a b) (tf a c)) ⟨none, none, none, rfl, FrT.refl _, fun a h => absurd h (Nat.not_lt_zero _)⟩ ?_ ?_
    · rintro i σ H1 hi ⟨va, vr, vb, rfl, f1, ha⟩
      rw [Int.zero_add]
      obtain ⟨r, rows1, a1, a2, cells, a3, _⟩ := tt_at hm hi hi
      refine go_name rfl (go_seq ⟨_, rfl, _, rfl, m, _, _, _, rfl, rfl, SqT.of (f1.tup a1), at_of rfl a2, go_name rfl ?_⟩)
      refine ⟨_, rfl, _, rfl, by omega, by omega, ?_⟩
      rw [Int.toNat_natCast]
      refine for_range (lo := 0) (n := n) (fun j σ H' => ∃ vb : Option V, σ = [some (.ref p), some (.ref m), some (.int (n : Int)), some (.int (i : Int)), some (.ref r), vb, none] ∧ FrT H H' ∧ ∀ b, b < j → ∀ c, c < n → tf i (pf b c) = pf (tf i b) (tf i c)) ⟨vb, rfl, f1, fun b h => absurd h (Nat.not_lt_zero _)⟩ ?_ ?_
      · rintro j σ H2 hj ⟨vb, rfl, f2, hb⟩
        rw [Int.zero_add]
        refine go_name rfl ?_
        have hT2 := f2.tabs _ hT
        refine ⟨_, rfl, _, rfl, by omega, by omega, hT2, fun H3 hTb => ?_⟩
        rw [Int.toNat_natCast]
        have f3 := FrT.tab hT2 hTb
        refine gwb_rng (fun c => !decide (tf i (pf j c) = pf (tf i j) (tf i c))) (fun _ => rfl) (fun c Kt hc kt => ?_) (fun hall => ?_) (fun c hc hx => ?_)
        · have hp3 : TT H3 p n (fun i j => (pf i j : Int)) := ht.same fun c xs e => f3.tup (f2.tup e)
          have hm3 : TT H3 m n (fun i j => (tf i j : Int)) := hm.same fun c xs e => f3.tup (f2.tup e)
          have row : ∀ x, x < n → cells[x]? = some (.int ((tf i x : Nat) : Int)) := fun x hx => by
            obtain ⟨r', rows', b1, b2, cells', b3, b4⟩ := tt_at hm hi hx
            rw [a1] at b1
            cases b1
            rw [a2] at b2
            cases b2
            rw [a3] at b3
            cases b3
            exact b4
          have hr3 := f3.tup (f2.tup a3)
          obtain ⟨r4, rows4, c1, c2, cells4, c3, c4⟩ := tt_at hp3 hj hc
          obtain ⟨r5, rows5, d1, d2, cells5, d3, d4⟩ := tt_at hp3 (htc i hi j hj) (htc i hi c hc)
          refine ⟨_, rfl, _, rfl, _, rfl, p, _, _, _, rfl, rfl, SqT.of c1, at_of rfl c2, _, rfl, r4, _, _, _, rfl, rfl, SqT.of c3, at_of rfl c4, r, _, _, _, rfl, rfl, SqT.of hr3, at_of rfl (row _ (hpc j hj c hc)), ?_⟩
          refine ⟨_, rfl, _, rfl, _, rfl, r, _, _, _, rfl, rfl, SqT.of hr3, at_of rfl (row _ hj), p, _, _, _, rfl, rfl, SqT.of d1, at_of rfl d2, _, rfl, _, rfl, r, _, _, _, rfl, rfl, SqT.of hr3, at_of rfl (row _ hc), r5, _, _, _, rfl, rfl, SqT.of d3, at_of rfl d4, rfl, ?_⟩
          rw [intEq]
          exact kt
        · refine ⟨_, rfl, iteF ?_⟩
          refine ⟨_, rfl, f2.trans f3, fun b hb' c hc' => ?_⟩
          by_cases h : b < j
          · exact hb b h c hc'
          · rw [show b = j by omega]
            exact of_decide_eq_true (by simpa using hall c hc')
        · refine ⟨_, rfl, iteT ?_⟩
          exact k false _ (f2.trans f3) ⟨fun z => Bool.noConfusion z, fun z => absurd (z i hi j hj c hc) (of_decide_eq_false (by simpa using hx))⟩
      · rintro σ H2 ⟨vb, rfl, f2, hb⟩
        refine ⟨_, _, _, rfl, f2, fun a h => ?_⟩
        by_cases h' : a < i
        · exact ha a h'
        · rw [show a = i by omega]
          exact hb
    · rintro σ H2 ⟨va, vr, vb, rfl, f2, ha⟩
      exact k true _ f2 ⟨fun _ => ha, fun _ => rfl⟩
def spSfB : Sp := fun vs H Q _ => ∃ (p m u : Addr) (n o : Nat) (f g : Nat → Nat → Nat) (st : List (Option Nat)), vs = [.ref p, .ref m, .int ((o : Nat) : Int), .ref u] ∧ TT H p n (fun i j => (f i j : Int)) ∧ TT H m n (fun i j => (g i j : Int)) ∧ H u = some (.tup (st.map stV)) ∧ st.length = n ∧ (∀ (i s : Nat), st[i]? = some (some s) → s < n) ∧ cloC n f ∧ cloC n g ∧ o < n ∧ n ≤ 40 ∧ ∀ b, (b = true ↔ staC f g o st) → Q (.bl b) H
theorem ok_stars_fit  {f : Addr} {fd : FuncData} (F : Fun K "_stars_fit" "_stars_fit" s_stars_fit f fd) (T : Txt K mg ad) : FnOk P w K mg base (L2.CX P w) 1 f fd ["plus", "times", "one", "stars"] (spSfB) := by
  refine F.okX sc_stars_fit (fun vs H Q E => ?_) (fun cdv A outer s H vs Q E hr h => ?_)
  · walk_at "len"
  ·
    obtain ⟨p, m, u, n, o, pf, tf, st, rfl, hp, hm, hu, hul, hus, hpc, htc, ho, hn, k⟩ := h
    refine ⟨_, (pss_cons (ps_for (passes_of rfl) rfl (pi_range1 (by rfl) T.z_range (pa_cons (pe_callB call_len (by rfl) T.z_len (by decide +kernel) (pa_cons (pv 3) pa_nil)) pa_nil)) (pg_name (i := 4) sc_stars_fit.nd rfl (by first | exact Or.inl rfl | exact Or.inr rfl)) (pss_cons (ps_set (i := 5) sc_stars_fit.nd rfl (by first | exact Or.inl rfl | exact Or.inr rfl) (pe_ix ix_tup (pv 3) (pv 4) (fun _ _ => rfl)))
      (pss_one (ps_if (PW.pt (pw_and (pt_cmpR op_notN (pv 5) pe_non (nomark _)) (pw_and1 (pt_cmpR op_ne (pv 5) (pe_ix ix_tup (pe_ix ix_tup (pv 0) (pv 2) (fun _ _ => rfl)) (pe_ix ix_tup (pe_ix ix_tup (pv 1) (pv 4) (fun _ _ => rfl)) (pv 5) (fun _ _ => rfl)) (fun _ _ => rfl)) (nomark _))))) (pss_one (ps_ret pe_bl)) pss_nil))))
      (pss_one (ps_ret pe_bl))), ?_⟩
    refine ⟨_, rfl, .ref u, _, rfl, .inr ⟨_, SqT.of hu, rfl⟩, _, rfl, by rw [List.length_map]; omega, by rw [List.length_map]; omega, ?_⟩
    rw [List.length_map, hul, Int.toNat_natCast]
    refine for_range (lo := 0) (n := n) (fun i σ H' => ∃ va vs : Option V, σ = [some (.ref p), some (.ref m), some (.int (o : Int)), some (.ref u), va, vs] ∧ H' = H ∧ ∀ a s, a < i → st[a]? = some (some s) → s = pf o (tf a s)) ⟨none, none, rfl, rfl, fun a s h => absurd h (Nat.not_lt_zero _)⟩ ?_ ?_
    · rintro i σ H1 hi ⟨va, vs, rfl, rfl, ha⟩
      rw [Int.zero_add]
      obtain ⟨v, hv⟩ : ∃ v, st[i]? = some v := ⟨_, List.getElem?_eq_getElem (by omega)⟩
      have hv' : (st.map stV)[i]? = some (stV v) := by rw [List.getElem?_map, hv]; rfl
      refine go_name rfl (go_seq ⟨_, rfl, _, rfl, u, _, _, _, rfl, rfl, SqT.of hu, at_of rfl hv', go_name rfl ?_⟩)
      cases v with
      | none =>
        refine ⟨_, rfl, rfl, _, rfl, iteF (iteF ?_)⟩
        refine ⟨_, _, rfl, rfl, fun a s h e => ?_⟩
        by_cases h' : a < i
        · exact ha a s h' e
        · rw [show a = i by omega, hv] at e; cases e
      | some s =>
        have hs := hus i s hv
        obtain ⟨r1, rows1, a1, a2, cells1, a3, a4⟩ := tt_at hm hi hs
        obtain ⟨r2, rows2, b1, b2, cells2, b3, b4⟩ := tt_at hp ho (htc i hi s hs)
        refine ⟨_, rfl, rfl, _, rfl, iteT ?_⟩
        refine ⟨_, rfl, _, rfl, _, rfl, p, _, _, _, rfl, rfl, SqT.of b1, at_of rfl b2, _, rfl, _, rfl, m, _, _, _, rfl, rfl, SqT.of a1, at_of rfl a2, _, rfl, r1, _, _, _, rfl, rfl, SqT.of a3, at_of rfl a4, r2, _, _, _, rfl, rfl, SqT.of b3, at_of rfl b4, rfl, _, rfl, ?_⟩
        rw [show decide (stV (some s) = V.int ((pf o (tf i s) : Nat) : Int)) = decide (s = pf o (tf i s)) from intEq]
        by_cases c : s = pf o (tf i s)
        · rw [decide_eq_true c]
          refine iteF ⟨_, _, rfl, rfl, fun a s' h e => ?_⟩
          by_cases h' : a < i
          · exact ha a s' h' e
          · rw [show a = i by omega, hv] at e
            rw [show a = i by omega]
            cases e
            exact c
        · rw [decide_eq_false c]
          exact iteT (k false ⟨fun z => Bool.noConfusion z, fun z => absurd (z i s hv) c⟩)
    · rintro σ H2 ⟨va, vs, rfl, rfl, ha⟩
      refine k true ⟨fun _ a s e => ha a s ?_ e, fun _ => rfl⟩
      rcases Nat.lt_or_ge a st.length with h | h
      · omega
      · rw [List.getElem?_eq_none h] at e; cases e
end
end K05

set_option Elab.async false
set_option linter.all false
set_option maxRecDepth 100000
set_option maxHeartbeats 4000000
namespace K05
open PySem L2 Ew Tb SRm GxR
local macro_rules | `(tactic| walk_at "len") => `(tactic| first | (intro h; obtain ⟨_, e, _⟩ := h; rw [e]; rfl) | (intro h; obtain ⟨_, _, e, _⟩ := h; rw [e]; rfl) | (intro h; obtain ⟨_, _, _, e, _⟩ := h; rw [e]; rfl) | (intro h; obtain ⟨_, _, _, _, e, _⟩ := h; rw [e]; rfl) | (intro h; obtain ⟨_, _, _, _, _, e, _⟩ := h; rw [e]; rfl) | (intro h; obtain ⟨_, _, _, _, _, _, e, _⟩ := h; rw [e]; rfl) | (intro h; obtain ⟨_, _, _, _, _, _, _, e, _⟩ := h; rw [e]; rfl) | (intro h; obtain ⟨_, _, _, _, _, _, _, _, e, _⟩ := h; rw [e]; rfl) | (intro h; obtain ⟨_, _, _, _, _, _, _, _, _, e, _⟩ := h; rw [e]; rfl) | (intro h; exact h.elim))
section
variable {P : Program} {w : World} {K : PySem.W.Frag} {mg : Str → Option Value} {base : Heap} {ad : Ad}
def stI : Option Int → V
  | none => .non
  | some i => .int i
/-- stars told as a tuple, or none told -/
def StG (H : Hp) (us : V) (st : Option (List (Option Int))) : Prop := (st = none ∧ us = .non) ∨ ∃ u l, st = some l ∧ us = .ref u ∧ H u = some (.tup (l.map stI))
theorem StG.same {H H' : Hp} {us : V} {st : Option (List (Option Int))} (x : StG H us st) (s : ∀ b xs, H b = some (.tup xs) → H' b = some (.tup xs)) : StG H' us st := by
  rcases x with x | ⟨u, l, e1, e2, e3⟩
  · exact .inl x
  · exact .inr ⟨u, l, e1, e2, s _ _ e3⟩
abbrev sizC (A B : List (List Int)) (st : Option (List (Option Int))) : Prop := 1 ≤ A.length ∧ A.length ≤ 32 ∧ B.length = A.length ∧ (∀ l, st = some l → l.length = A.length) ∧ ∀ row, row ∈ A ++ B → row.length = A.length
def spSizeB (PP : Addr) : Sp := fun vs H Q _ => ∃ (p m : Addr) (us : V) (A B : List (List Int)) (st : Option (List (Option Int))), vs = [.ref p, .ref m, us] ∧ RR H p A ∧ RR H m B ∧ StG H us st ∧ A.length ≤ 40 ∧ B.length ≤ 40 ∧ TabG H PP ∧ ∀ b H', FrT H H' → (b = true ↔ sizC A B st) → Q (.bl b) H'
theorem ok_sizes_fit  {f cc PP : Addr} {fd : FuncData} (F : FunC K "_sizes_fit" "_sizes_fit" s_sizes_fit f fd cc) (TB : GxR.TabB base mg cc PP) (T : Txt K mg ad) : FnOk P w K mg base (L2.CX P w) 2 f fd ["plus", "times", "stars"] (spSizeB PP) := by
  refine F.okX sc_sizes_fit (fun vs H Q E => ?_) (fun A outer s H vs Q E hr h => ?_)
  · walk_at "len"
  ·
    obtain ⟨p, m, us, A, B, st, rfl, hp, hm, hu, hA, hB, hT, k⟩ := h
    refine ⟨_, (pss_cons (ps_set (i := 3) sc_sizes_fit.nd rfl (by first | exact Or.inl rfl | exact Or.inr rfl) (pe_callB call_len (by rfl) T.z_len (by decide +kernel) (pa_cons (pv 0) pa_nil)))
      (pss_cons (ps_if (PW.pt (pw_or (pt_not (pt_chain op_le op_le pe_int (pv 3) (pe_gint (by rfl) T.g_MOST_NUMBERS))) (pw_or1 (pt_cmpR op_ne (pe_callB call_len (by rfl) T.z_len (by decide +kernel) (pa_cons (pv 1) pa_nil)) (pv 3) (nomark _))))) (pss_one (ps_ret pe_bl)) pss_nil)
      (pss_cons (ps_if (PW.pt (pw_and (pt_cmpR op_notN (pv 2) pe_non (nomark _)) (pw_and1 (pt_cmpR op_ne (pe_callB call_len (by rfl) T.z_len (by decide +kernel) (pa_cons (pv 2) pa_nil)) (pv 3) (nomark _))))) (pss_one (ps_ret pe_bl)) pss_nil)
      (pss_one (ps_ret (EwG.pe_all (own := [("row", 4)]) hr (by rfl) T.z_all TB rfl sc_sizes_fit.nd (blkOk_by (by kernel_rfl)) (by decide +kernel) rfl rfl (pi_tup (pe_op op_catT (pv 0) (pv 1))) (fun _ _ _ _ _ _ _ => (pg_name (i := 4) sc_sizes_fit.nd rfl (by first | exact Or.inl rfl | exact Or.inr rfl))) (fun _ _ _ _ _ _ _ hr => (pe_cmpR op_eq (pe_callB (kcall_len (K := K)) (by rfl) T.z_len (by decide +kernel) (pa_cons (pv 4) pa_nil)) (pv 3) (nomark _))))))))), ?_⟩
    obtain ⟨rp, ep, lp⟩ := hp.len
    obtain ⟨rm, em, lm⟩ := hm.len
    refine go_seq ⟨_, rfl, .ref p, _, rfl, .inr ⟨_, SqT.of ep, rfl⟩, ?_⟩
    rw [lp]
    refine go_name rfl ?_
    have no : ¬ sizC A B st → Q (.bl false) H := fun h => k false _ (FrT.refl _) ⟨fun z => Bool.noConfusion z, fun z => absurd z h⟩
    refine ⟨_, rfl, _, _, rfl, rfl, _, rfl, ?_⟩
    by_cases h1 : 1 ≤ A.length
    · rw [decide_eq_true (show (1 : Int) ≤ (A.length : Int) by omega)]
      refine iteT ⟨_, _, rfl, rfl, _, rfl, ?_⟩
      by_cases h2 : A.length ≤ 32
      · rw [decide_eq_true (show (A.length : Int) ≤ 32 by omega)]
        refine iteF ⟨_, rfl, .ref m, _, rfl, .inr ⟨_, SqT.of em, rfl⟩, _, rfl, rfl, _, rfl, ?_⟩
        rw [lm, intEq]
        by_cases h3 : B.length = A.length
        · rw [decide_eq_true h3]
          refine iteF (go_next ?_)
          rcases hu with ⟨e1, e2⟩ | ⟨u, l, e1, e2, e3⟩
          rotate_left
          by_cases h4' : l.length = A.length
          rotate_left
          · subst e2
            refine ⟨_, rfl, rfl, _, rfl, iteT ⟨_, rfl, .ref u, _, rfl, .inr ⟨_, SqT.of e3, rfl⟩, _, rfl, rfl, _, rfl, ?_⟩⟩
            rw [List.length_map, intEq]
            rw [decide_eq_false h4']
            exact iteT (no fun z => h4' (z.2.2.2.1 l e1))
          have h4 : ∀ l, st = some l → l.length = A.length := fun l z => by rw [e1] at z; cases z
          subst e2
          refine ⟨_, rfl, rfl, _, rfl, iteF (iteF (go_next ?_))⟩
          rotate_left
          have h4 : ∀ l, st = some l → l.length = A.length := fun l' z => by rw [e1] at z; cases z; exact h4'
          subst e2
          refine ⟨_, rfl, rfl, _, rfl, iteT ⟨_, rfl, .ref u, _, rfl, .inr ⟨_, SqT.of e3, rfl⟩, _, rfl, rfl, _, rfl, ?_⟩⟩
          rw [List.length_map, intEq, decide_eq_true h4']
          refine iteF (go_next ?_)
          all_goals
            refine go_ret ?_
            refine ⟨_, rfl, _, rfl, p, m, rp, rm, rfl, rfl, SqT.of ep, SqT.of em, (fun z => by rw [z] at lp; simp at lp; omega), Nat.le_trans (by omega : rp.length + rm.length ≤ 80) (by decide), (fun z => absurd z (fun z => by rw [z] at lm; simp at lm; omega)), fun _ x hx => ?_⟩
            have sx : Same H (upd H x (.tup (rp ++ rm))) := same_new (Same.refl _) hx
            have hT1 := (FrT.of sx).tabs _ hT
            refine ⟨x, rfl, ⟨_, SqT.of upd_same⟩, hT1, fun H2 hTb => ?_⟩
            have fr := (FrT.of sx).trans (FrT.tab hT1 hTb)
            have hq : RR H2 x (A ++ B) := RR.app (hp.same (H' := H2) fun c xs e => fr.tup e) (hm.same (H' := H2) fun c xs e => fr.tup e) (fr.tup ep) (fr.tup em) ((FrT.tab hT1 hTb).tup upd_same)
            have hlen : (rp ++ rm).length = (A ++ B).length := by rw [List.length_append, List.length_append, lp, lm]
            refine gwb_tup (K := K) (xs := rp ++ rm) (fun i => decide (((A ++ B).getD i []).length = A.length)) (SqT.of ((FrT.tab hT1 hTb).tup upd_same)) (fun _ => rfl) (fun i v Kt hv kt => ?_) (fun ha => k true _ fr ⟨fun _ => ⟨h1, h2, h3, h4, fun row hr => ?_⟩, fun _ => rfl⟩) (fun i hi hx => k false _ fr ⟨fun z => Bool.noConfusion z, fun z => ?_⟩)
            · obtain ⟨r, row, rfl, e4, e5⟩ := hq.at ((FrT.tab hT1 hTb).tup upd_same) hv
              refine ⟨_, rfl, .ref r, _, rfl, .inr ⟨_, SqT.of e5, rfl⟩, _, rfl, rfl, ?_⟩
              rw [List.length_map, intEq]
              rw [List.getD_eq_getElem?_getD, e4] at kt
              exact kt
            · obtain ⟨i, hi, e⟩ := List.getElem_of_mem hr
              have z := of_decide_eq_true (ha i (by omega))
              rw [List.getD_eq_getElem?_getD, List.getElem?_eq_getElem hi, e] at z
              exact z
            · have hi' : i < (A ++ B).length := by omega
              have z2 := z.2.2.2.2 _ (List.getElem_mem hi')
              have z3 := of_decide_eq_false hx
              rw [List.getD_eq_getElem?_getD, List.getElem?_eq_getElem hi'] at z3
              exact absurd z2 z3
        · rw [decide_eq_false h3]
          exact iteT (no fun z => h3 z.2.2.1)
      · rw [decide_eq_false (show ¬ (A.length : Int) ≤ 32 by omega)]
        exact iteT (no fun z => h2 z.2.1)
    · rw [decide_eq_false (show ¬ (1 : Int) ≤ (A.length : Int) by omega)]
      exact iteF ⟨_, rfl, iteT (no fun z => h1 z.1)⟩
end
end K05

set_option Elab.async false
set_option linter.all false
set_option maxRecDepth 100000
set_option maxHeartbeats 4000000
namespace K05
open PySem L2 Ew Tb SRm GxR
local macro_rules | `(tactic| walk_at "len") => `(tactic| first | (intro h; obtain ⟨_, e, _⟩ := h; rw [e]; rfl) | (intro h; obtain ⟨_, _, e, _⟩ := h; rw [e]; rfl) | (intro h; obtain ⟨_, _, _, e, _⟩ := h; rw [e]; rfl) | (intro h; obtain ⟨_, _, _, _, e, _⟩ := h; rw [e]; rfl) | (intro h; obtain ⟨_, _, _, _, _, e, _⟩ := h; rw [e]; rfl) | (intro h; obtain ⟨_, _, _, _, _, _, e, _⟩ := h; rw [e]; rfl) | (intro h; obtain ⟨_, _, _, _, _, _, _, e, _⟩ := h; rw [e]; rfl) | (intro h; obtain ⟨_, _, _, _, _, _, _, _, e, _⟩ := h; rw [e]; rfl) | (intro h; obtain ⟨_, _, _, _, _, _, _, _, _, e, _⟩ := h; rw [e]; rfl) | (intro h; exact h.elim))
section
variable {P : Program} {w : World} {K : PySem.W.Frag} {mg : Str → Option Value} {base : Heap} {ad : Ad}
abbrev inR (n : Nat) (x : Int) : Prop := 0 ≤ x ∧ x < (n : Int)
abbrev rngC (n : Nat) (A B : List (List Int)) (o : Int) (st : Option (List (Option Int))) : Prop := (∀ row, row ∈ A ++ B → ∀ x, x ∈ row → inR n x) ∧ (∀ l, st = some l → ∀ x, some x ∈ l → inR n x) ∧ inR n o
theorem flat_succ {α : Type} {L : List (List α)} {i : Nat} {row : List α} (h : L[i]? = some row) : (L.take (i + 1)).flatten = (L.take i).flatten ++ row := by
  rw [List.take_add_one, h]
  simp
theorem take_snoc {α : Type} {L : List α} {j : Nat} {x : α} (h : L[j]? = some x) : L.take (j + 1) = L.take j ++ [x] := by
  rw [List.take_add_one, h]
  rfl
theorem betR {n : Nat} {x : Int} : betV 0 ((n : Int) - 1) (.int x) = decide (inR n x) := by
  show decide _ = decide _
  by_cases h : inR n x
  · rw [decide_eq_true h]; exact decide_eq_true ⟨h.1, by have := h.2; omega⟩
  · rw [decide_eq_false h]; exact decide_eq_false fun z => h ⟨z.1, by have := z.2; omega⟩
def spEntB (PP : Addr) : Sp := fun vs H Q _ => ∃ (p m : Addr) (us : V) (A B : List (List Int)) (o : Int) (st : Option (List (Option Int))), vs = [.ref p, .ref m, .int o, us] ∧ RR H p A ∧ RR H m B ∧ StG H us st ∧ sizC A B st ∧ TabG H PP ∧ ∀ b H', FrT H H' → (b = true ↔ rngC A.length A B o st) → Q (.bl b) H'
theorem ok_entries_fit (c_is_between : CalX P w K mg base 2 "is_between" spIsBet) {f cc PP : Addr} {fd : FuncData} (F : FunC K "_entries_fit" "_entries_fit" s_entries_fit f fd cc) (TB : GxR.TabB base mg cc PP) (T : Txt K mg ad) : FnOk P w K mg base (L2.CX P w) 4 f fd ["plus", "times", "one", "stars"] (spEntB PP) := by
  refine F.okX sc_entries_fit (fun vs H Q E => ?_) (fun A outer s H vs Q E hr h => ?_)
  · walk_at "len"
  ·
    obtain ⟨p, m, us, A, B, o, st, rfl, hp, hm, hu, sz, hT, k⟩ := h
    refine ⟨_, (pss_cons (ps_set (i := 4) sc_entries_fit.nd rfl (by first | exact Or.inl rfl | exact Or.inr rfl) (pe_op op_sub (pe_callB call_len (by rfl) T.z_len (by decide +kernel) (pa_cons (pv 0) pa_nil)) pe_int))
      (pss_cons (ps_setLc2 (i := 5) (own := [("row", 7), ("entry", 8)]) (vs1 := [8]) (tt := tYes) (tt1 := tYes) rfl sc_entries_fit.nd rfl rfl (sw_true rfl rfl rfl (by decide +kernel)) (pi_tup (pe_op op_catT (pv 0) (pv 1))) (blkOk_by (by kernel_rfl)) (by decide) (fun _ _ _ _ _ => (pg_name (i := 7) sc_entries_fit.nd rfl (by first | exact Or.inl rfl | exact Or.inr rfl))) (fun _ _ _ _ _ => pts_nil) (fun _ _ _ _ _ => (kpi_tup (K := K) (pv 7))) (fun _ _ _ _ _ => (pg_name (i := 8) sc_entries_fit.nd rfl (by first | exact Or.inl rfl | exact Or.inr rfl))) (fun _ _ _ _ _ => pts_nil) (fun _ _ _ _ _ => (pv 8)))
      (pss_cons (ps_setLc (i := 6) (own := [("star", 9)]) rfl sc_entries_fit.nd rfl rfl (sw_true rfl rfl rfl (by decide +kernel)) (pi_tup (pe_orT (pv 3) (pe_one (pe_tup pa_nil)))) (blkOk_by (by kernel_rfl)) (fun _ _ _ _ _ => (pg_name (i := 9) sc_entries_fit.nd rfl (by first | exact Or.inl rfl | exact Or.inr rfl))) (fun _ _ _ _ _ => (pts_one (pt_cmpR op_notN (pv 9) pe_non (nomark _)))) (fun _ _ _ _ _ => (pv 9)))
      (pss_one (ps_ret (EwG.pe_all (own := [("entry", 8)]) hr (by rfl) T.z_all TB rfl sc_entries_fit.nd (blkOk_by (by kernel_rfl)) (by decide +kernel) rfl rfl (pi_list (pe_op op_cat (pe_op op_cat (pv 5) (pv 6)) (pe_lst (pa_cons (pv 2) pa_nil)))) (fun _ _ _ _ _ _ _ => (pg_name (i := 8) sc_entries_fit.nd rfl (by first | exact Or.inl rfl | exact Or.inr rfl))) (fun _ _ _ _ _ _ _ hr => (pc_call c_is_between hr (by first | decide | omega) takes0 (by rfl) (pa_cons (pv 8) (pa_cons pe_int (pa_cons (pv 4) pa_nil))))))))))), ?_⟩
    obtain ⟨s1', s2', s3', s4', s5'⟩ := sz
    obtain ⟨rp, ep, lp⟩ := hp.len
    obtain ⟨rm, em, lm⟩ := hm.len
    refine go_seq ⟨_, rfl, .ref p, _, rfl, .inr ⟨_, SqT.of ep, rfl⟩, _, _, rfl, rfl, go_name rfl (go_seq ?_)⟩
    rw [lp]
    refine ⟨_, rfl, _, rfl, p, m, rp, rm, rfl, rfl, SqT.of ep, SqT.of em, (fun z => by rw [z] at lp; simp at lp; omega), Nat.le_trans (by omega : rp.length + rm.length ≤ 64) (by decide), (fun z => absurd z (fun z => by rw [z] at lm; simp at lm; omega)), fun _ x hx => ?_⟩
    have sx : Same H (upd H x (.tup (rp ++ rm))) := same_new (Same.refl _) hx
    refine ⟨x, rfl, ⟨_, SqT.of upd_same⟩, fun D hD => ?_⟩
    have hq0 : RR (upd H x (.tup (rp ++ rm))) x (A ++ B) := RR.app (hp.same fun c xs e => sx _ _ e) (hm.same fun c xs e => sx _ _ e) (sx _ _ ep) (sx _ _ em) upd_same
    have hlen : (rp ++ rm).length = (A ++ B).length := by rw [List.length_append, List.length_append, lp, lm]
    have hll : (rp ++ rm).length ≤ 64 := by rw [List.length_append]; omega
    refine ⟨fun i mm H' => mm = (rp ++ rm).length - i ∧ i ≤ (rp ++ rm).length ∧ Same (upd H x (.tup (rp ++ rm))) H' ∧ H' D = some (.lst ((((A ++ B).take i).flatten).map V.int)) ∧ (((A ++ B).take i).flatten).length ≤ i * 32, ⟨_, rfl, Nat.zero_le _, same_new (Same.refl _) hD, upd_same, Nat.zero_le _⟩, ?_⟩
    rintro i mm H1 ⟨rfl, hi, s1, e1, l1⟩
    by_cases hlt : i < (rp ++ rm).length
    · refine .inr ⟨⟨_, (rp ++ rm)[i], SqT.of (s1 _ _ upd_same), by simp [hlt]⟩, fun H' => Same (upd H x (.tup (rp ++ rm))) H' ∧ H' D = some (.lst ((((A ++ B).take (i + 1)).flatten).map V.int)) ∧ (((A ++ B).take (i + 1)).flatten).length ≤ (i + 1) * 32, fun H' ⟨z1, z2, z3⟩ => ⟨(rp ++ rm).length - (i + 1), by omega, rfl, hlt, z1, z2, z3⟩, fun v HH y => ?_⟩
      obtain ⟨eh, y⟩ := y
      subst eh
      have hv := y _ (SqT.of (s1 _ _ upd_same))
      obtain ⟨r, row, rfl, hrow, hr⟩ := (hq0.same (H' := HH) fun c xs e => s1 _ _ e).at (s1 _ _ upd_same) hv
      have hrl : row.length = A.length := s5' row (List.mem_of_getElem? hrow)
      refine ⟨rfl, yes_then (iteT ⟨_, rfl, r, rfl, ⟨_, SqT.of hr⟩, ?_⟩)⟩
      refine ⟨fun j kk H' => kk = row.length - j ∧ j ≤ row.length ∧ Same (upd H x (.tup (rp ++ rm))) H' ∧ H' r = some (.tup (row.map V.int)) ∧ H' D = some (.lst ((((A ++ B).take i).flatten ++ row.take j).map V.int)), ⟨_, rfl, Nat.zero_le _, s1, hr, by rw [List.take_zero, List.append_nil]; exact e1⟩, ?_⟩
      rintro j kk H3 ⟨rfl, hj, s3, hr3, e3⟩
      by_cases hlj : j < row.length
      · refine .inr ⟨⟨_, (row.map V.int)[j]'(by rw [List.length_map]; exact hlj), SqT.of hr3, by simp [hlj]⟩, fun H' => Same (upd H x (.tup (rp ++ rm))) H' ∧ H' r = some (.tup (row.map V.int)) ∧ H' D = some (.lst ((((A ++ B).take i).flatten ++ row.take (j + 1)).map V.int)), fun H' ⟨z1, z2, z3⟩ => ⟨row.length - (j + 1), by omega, rfl, hlj, z1, z2, z3⟩, fun c H4 y4 => ?_⟩
        obtain ⟨eh, y4⟩ := y4
        subst eh
        have hc := y4 _ (SqT.of hr3)
        rw [List.getElem?_map, List.getElem?_eq_getElem hlj] at hc
        have hc' : V.int row[j] = c := Option.some.inj hc
        subst hc'
        refine ⟨rfl, yes_then (iteT ⟨_, rfl, _, e3, ?_, same_but hD s3 but_app, ?_, ?_⟩)⟩
        · rw [List.length_map, List.length_append, List.length_take]
          exact Nat.lt_of_le_of_lt (by omega : _ ≤ 4096) (by decide)
        · rw [upd_ne (fun z => by rw [z, e3] at hr3; cases hr3)]
          exact hr3
        · rw [upd_same, take_snoc (List.getElem?_eq_getElem hlj), ← List.append_assoc, List.map_append (l₁ := _ ++ _)]
          rfl
      · have ej : j = row.length := by omega
        subst ej
        rw [List.take_length, ← flat_succ hrow] at e3
        refine .inl ⟨⟨_, SqT.of hr3, by rw [List.length_map]; exact Nat.le_refl _⟩, s3, e3, ?_⟩
        rw [flat_succ hrow, List.length_append, Nat.succ_mul]
        omega
    · have ei : i = (rp ++ rm).length := by omega
      subst ei
      rw [hlen, List.take_length] at e1 l1
      refine .inl ⟨⟨_, SqT.of (s1 _ _ upd_same), Nat.le_refl _⟩, go_name rfl (go_seq ?_)⟩
      have la : ((A ++ B).flatten).length ≤ 2048 := Nat.le_trans l1 (by omega)
      have S1 : Same H H1 := fun b o e => s1 b o (sx b o e)
      rcases hu with ⟨es, eu⟩ | ⟨u0, l0, es, eu, hu⟩
      case' inl =>
        subst eu
        refine ⟨_, rfl, false, rfl, iteF (go_tup (go_nil ⟨Nat.zero_le _, fun u0 hu0 => ?_⟩))⟩
        have sH : Same H1 (upd H1 u0 (.tup [])) := same_new (Same.refl _) hu0
        have SX : Same H (upd H1 u0 (.tup [])) := fun b o e => sH b o (S1 b o e)
        have e1x := sH _ _ e1
        have hu1 : (upd H1 u0 (.tup [])) u0 = some (.tup (([] : List (Option Int)).map stI)) := upd_same
        have hl0 : ∀ x : Int, some x ∈ ([] : List (Option Int)) ↔ ∃ l, st = some l ∧ some x ∈ l := fun x => ⟨fun h => absurd h (by simp), fun ⟨l, h, _⟩ => by rw [es] at h; cases h⟩
        have hl0n : ([] : List (Option Int)).length ≤ 32 := by decide
        generalize upd H1 u0 (.tup []) = Hx at *
        generalize ([] : List (Option Int)) = l0 at hu1 hl0 hl0n
      case' inr =>
        subst eu
        have hu1 := S1 _ _ hu
        have hl0 : ∀ x : Int, some x ∈ l0 ↔ ∃ l, st = some l ∧ some x ∈ l := fun x => ⟨fun h => ⟨l0, es, h⟩, fun ⟨l, h, h2⟩ => by rw [es] at h; cases h; exact h2⟩
        have hl0n : l0.length ≤ 32 := by have := s4' l0 es; omega
        have ht : TruV K (.ref u0) H1 true := by
          refine .inr (.inl ⟨_, SqT.of hu1, ?_⟩)
          cases l0 with
          | nil => have := s4' _ es; simp at this; omega
          | cons a l => rfl
        refine ⟨_, rfl, true, ht, iteT ?_⟩
        have SX := S1
        have e1x := e1
        generalize H1 = Hx at *
      all_goals
        refine ⟨u0, rfl, ⟨_, SqT.of hu1⟩, fun D2 hD2 => ?_⟩
        refine lc_tup (K := K) (xs := l0.map stI) (fun j H' => Same Hx H' ∧ H' D2 = some (.lst (((l0.take j).filterMap id).map V.int))) ⟨same_new (Same.refl _) hD2, upd_same⟩ (fun j H' _ ⟨s', _⟩ => SqT.of (s' _ _ hu1)) (fun j v H' hv ⟨s', z1⟩ => ?_) (fun H' ⟨s', z1⟩ => ?_)
        · refine ⟨rfl, _, rfl, rfl, _, rfl, ?_⟩
          rw [List.getElem?_map] at hv
          rcases hs : l0[j]? with _ | s
          · rw [hs] at hv; cases hv
          · rw [hs] at hv
            have hv' : stI s = v := Option.some.inj hv
            subst hv'
            cases s with
            | none =>
              refine iteF ⟨s', ?_⟩
              rw [z1, take_snoc hs, List.filterMap_append]
              simp
            | some s =>
              refine iteT ⟨_, rfl, _, z1, ?_, same_but hD2 s' but_app, ?_⟩
              · rw [List.length_map]
                have q1 := List.length_filterMap_le id (l0.take j)
                have q2 : (l0.take j).length ≤ l0.length := by rw [List.length_take]; omega
                exact Nat.lt_of_le_of_lt (by omega : _ ≤ 32) (by decide)
              · rw [upd_same, take_snoc hs, List.filterMap_append, List.map_append]
                rfl
        · refine go_name rfl (go_ret ?_)
          rw [List.length_map, List.take_length] at z1
          have q1 := List.length_filterMap_le id l0
          refine ⟨_, rfl, _, rfl, D, D2, _, _, rfl, rfl, s' _ _ e1x, z1, ?_, fun y hy => ?_⟩
          · rw [List.length_map, List.length_map]
            exact Nat.le_trans (by omega : _ ≤ 4096) (by decide)
          have sy : Same H' (upd H' y (.lst (((A ++ B).flatten).map V.int ++ (l0.filterMap id).map V.int))) := same_new (Same.refl _) hy
          refine ⟨_, rfl, by (show 1 ≤ sizeLine); decide, fun y1 hy1 => ?_⟩
          have sy1 := same_new (o := .lst [V.int o]) (Same.refl _) hy1
          refine ⟨y, y1, _, _, rfl, rfl, sy1 _ _ upd_same, upd_same, ?_, fun y2 hy2 => ?_⟩
          · rw [List.length_append, List.length_map, List.length_map]
            exact Nat.le_trans (by (show _ + _ + 1 ≤ 4096); omega) (by decide)
          have eX : ((A ++ B).flatten).map V.int ++ (l0.filterMap id).map V.int ++ [V.int o] = ((A ++ B).flatten ++ l0.filterMap id ++ [o]).map V.int := by simp
          rw [eX]
          have sy2 := same_new (o := .lst (((A ++ B).flatten ++ l0.filterMap id ++ [o]).map V.int)) (Same.refl _) hy2
          have S : Same H (upd (upd (upd H' y (.lst (((A ++ B).flatten).map V.int ++ (l0.filterMap id).map V.int))) y1 (.lst [V.int o])) y2 (.lst (((A ++ B).flatten ++ l0.filterMap id ++ [o]).map V.int))) := fun b o e => sy2 b o (sy1 b o (sy b o (s' b o (SX b o e))))
          have hT1 := (FrT.of S).tabs _ hT
          refine ⟨y2, rfl, ⟨_, SqL.of upd_same⟩, hT1, fun H2 hTb => ?_⟩
          have fr := (FrT.of S).trans (FrT.tab hT1 hTb)
          have memX : ∀ x, x ∈ (A ++ B).flatten ++ l0.filterMap id ++ [o] ↔ (∃ row, row ∈ A ++ B ∧ x ∈ row) ∨ (∃ l, st = some l ∧ some x ∈ l) ∨ x = o := fun x => by
            rw [List.mem_append, List.mem_append, List.mem_flatten, List.mem_singleton, List.mem_filterMap, ← hl0 x, or_assoc]
            simp
          refine gwb_lst (K := K) (xs := ((A ++ B).flatten ++ l0.filterMap id ++ [o]).map V.int) (fun i => decide (inR A.length (((A ++ B).flatten ++ l0.filterMap id ++ [o]).getD i 0))) (SqL.of ((FrT.tab hT1 hTb).lst upd_same)) (fun _ => rfl) (fun i v Kt hv kt => ?_) (fun ha => k true _ fr ⟨fun _ => ?_, fun _ => rfl⟩) (fun i hi hx => k false _ fr ⟨fun z => Bool.noConfusion z, fun z => ?_⟩)
          · rw [List.getElem?_map] at hv
            rcases hx : ((A ++ B).flatten ++ l0.filterMap id ++ [o])[i]? with _ | x
            · rw [hx] at hv; cases hv
            · rw [hx] at hv
              have hv' : V.int x = v := Option.some.inj hv
              subst hv'
              refine ⟨_, rfl, _, rfl, _, _, _, rfl, .int _, ?_⟩
              rw [List.getD_eq_getElem?_getD, hx] at kt
              rw [betR]
              exact kt
          · have hall : ∀ x, x ∈ (A ++ B).flatten ++ l0.filterMap id ++ [o] → inR A.length x := fun x hx => by
              obtain ⟨i, hi, e⟩ := List.getElem_of_mem hx
              have z := of_decide_eq_true (ha i (by rw [List.length_map]; exact hi))
              rw [List.getD_eq_getElem?_getD, List.getElem?_eq_getElem hi, e] at z
              exact z
            exact ⟨fun row hr x hx => hall x ((memX x).mpr (.inl ⟨row, hr, hx⟩)), fun l hl x hx => hall x ((memX x).mpr (.inr (.inl ⟨l, hl, hx⟩))), hall o ((memX o).mpr (.inr (.inr rfl)))⟩
          · rw [List.length_map] at hi
            have z3 := of_decide_eq_false hx
            rw [List.getD_eq_getElem?_getD, List.getElem?_eq_getElem hi] at z3
            refine absurd ?_ z3
            rcases (memX _).mp (List.getElem_mem hi) with ⟨row, hr, hx⟩ | ⟨l, hl, hx⟩ | e
            · exact z.1 row hr _ hx
            · exact z.2.1 l hl _ hx
            · show inR A.length _
              rw [e]
              exact z.2.2
end
end K05

set_option Elab.async false
set_option linter.all false
set_option maxRecDepth 100000
set_option maxHeartbeats 4000000
namespace K05
open PySem L2 Ew Tb SRm GxR
local macro_rules | `(tactic| walk_at "len") => `(tactic| first | (intro h; obtain ⟨_, e, _⟩ := h; rw [e]; rfl) | (intro h; obtain ⟨_, _, e, _⟩ := h; rw [e]; rfl) | (intro h; obtain ⟨_, _, _, e, _⟩ := h; rw [e]; rfl) | (intro h; obtain ⟨_, _, _, _, e, _⟩ := h; rw [e]; rfl) | (intro h; obtain ⟨_, _, _, _, _, e, _⟩ := h; rw [e]; rfl) | (intro h; obtain ⟨_, _, _, _, _, _, e, _⟩ := h; rw [e]; rfl) | (intro h; obtain ⟨_, _, _, _, _, _, _, e, _⟩ := h; rw [e]; rfl) | (intro h; obtain ⟨_, _, _, _, _, _, _, _, e, _⟩ := h; rw [e]; rfl) | (intro h; obtain ⟨_, _, _, _, _, _, _, _, _, e, _⟩ := h; rw [e]; rfl) | (intro h; exact h.elim))
section
variable {P : Program} {w : World} {K : PySem.W.Frag} {mg : Str → Option Value} {base : Heap} {ad : Ad}
abbrev stO (st : Option (List (Option Int))) : List (Option Nat) := (st.getD []).map (Option.map Int.toNat)
abbrev staO (f g : Nat → Nat → Nat) (o : Nat) (st : Option (List (Option Int))) : Prop := staC f g o (stO st)
open Classical in
/-- the first check that fails -/
noncomputable def codeOf (A B : List (List Int)) (o : Int) (st : Option (List (Option Int))) : Option Str :=
  if sizC A B st then if rngC A.length A B o st then if symC A.length (fnN A) then if assC A.length (fnN A) then if neuC A.length (fnN A) 0 then
    if symC A.length (fnN B) then if assC A.length (fnN B) then if neuC A.length (fnN B) o.toNat then if empC A.length (fnN B) then if disC A.length (fnN A) (fnN B) then if staO (fnN A) (fnN B) o.toNat st then
      none else some "star" else some "spread" else some "empty" else some "one" else some "times-group" else some "times-order" else some "zero" else some "plus-group" else some "plus-order" else some "range" else some "size"
def codeV : Option Str → V
  | none => .non
  | some c => .str c
theorem rng_fn {A : List (List Int)} {n : Nat} (hA : A.length = n) (hl : ∀ row, row ∈ A → row.length = n) (h : ∀ row, row ∈ A → ∀ x, x ∈ row → inR n x) {i j : Nat} (hi : i < n) (hj : j < n) : fnI A i j = (fnN A i j : Int) ∧ fnN A i j < n := by
  obtain ⟨row, h1, h2⟩ := fn_mem hA hl hi hj
  obtain ⟨z1, z2⟩ := h row h1 _ h2
  unfold fnN
  omega
/-- tables in range, as Nat functions -/
theorem rng_tt {H : Hp} {p m : Addr} {A B : List (List Int)} {o : Int} {st : Option (List (Option Int))} (hp : RR H p A) (hm : RR H m B) (s : sizC A B st) (r : rngC A.length A B o st) :
    TT H p A.length (fun i j => (fnN A i j : Int)) ∧ TT H m A.length (fun i j => (fnN B i j : Int)) ∧ cloC A.length (fnN A) ∧ cloC A.length (fnN B) ∧ o = (o.toNat : Int) ∧ o.toNat < A.length := by
  have hA : ∀ row, row ∈ A → row.length = A.length := fun row h => s.2.2.2.2 row (List.mem_append_left _ h)
  have hB : ∀ row, row ∈ B → row.length = A.length := fun row h => s.2.2.2.2 row (List.mem_append_right _ h)
  have rA : ∀ {i j : Nat}, i < A.length → j < A.length → fnI A i j = (fnN A i j : Int) ∧ fnN A i j < A.length := fun hi hj => rng_fn rfl hA (fun row h => r.1 row (List.mem_append_left _ h)) hi hj
  have rB : ∀ {i j : Nat}, i < A.length → j < A.length → fnI B i j = (fnN B i j : Int) ∧ fnN B i j < A.length := fun hi hj => rng_fn s.2.2.1 hB (fun row h => r.1 row (List.mem_append_right _ h)) hi hj
  have tB := hm.tt (fun row h => by rw [hB row h, s.2.2.1])
  rw [s.2.2.1] at tB
  refine ⟨(hp.tt hA).congr fun i j hi hj => (rA hi hj).1, tB.congr fun i j hi hj => (rB hi hj).1, fun a ha b hb => (rA ha hb).2, fun a ha b hb => (rB ha hb).2, ?_, ?_⟩
  · have := r.2.2.1; omega
  · have := r.2.2.1; have := r.2.2.2; omega
theorem stO_map {l : List (Option Int)} {n : Nat} (h : ∀ x, some x ∈ l → inR n x) : (l.map (Option.map Int.toNat)).map stV = l.map stI := by
  rw [List.map_map]
  refine List.map_congr_left fun x hx => ?_
  cases x with
  | none => rfl
  | some x =>
    have := (h x hx).1
    show V.int ((x.toNat : Nat) : Int) = V.int x
    rw [show ((x.toNat : Nat) : Int) = x by omega]
theorem stO_lt {l : List (Option Int)} {n : Nat} (h : ∀ x, some x ∈ l → inR n x) (i s : Nat) (e : (l.map (Option.map Int.toNat))[i]? = some (some s)) : s < n := by
  rw [List.getElem?_map] at e
  cases hx : l[i]? with
  | none => rw [hx] at e; cases e
  | some x =>
    rw [hx] at e
    cases x with
    | none => cases e
    | some x =>
      have h1 := h x (List.mem_of_getElem? hx)
      have e' : x.toNat = s := by simpa using e
      have := h1.1; have := h1.2
      omega
/-- what the tables of Finite's checks are -/
structure Six (sz en sy as ne di : Addr) (H : Hp) : Prop where
  sz : TabG H sz
  en : TabG H en
  sy : TabG H sy
  ag : TabG H as
  ne : TabG H ne
  di : TabG H di
theorem Six.fr {sz en sy ag ne di : Addr} {H H' : Hp} (x : Six sz en sy ag ne di H) (f : FrT H H') : Six sz en sy ag ne di H' := ⟨f.tabs _ x.sz, f.tabs _ x.en, f.tabs _ x.sy, f.tabs _ x.ag, f.tabs _ x.ne, f.tabs _ x.di⟩
theorem tt_row {D : Addr} {H : Hp} {n i : Nat} {F : Nat → Nat → Int} {rows : List V} (x : TT H D n F) (e : H D = some (.tup rows)) (hi : i < n) : ∃ r, rows[i]? = some (.ref r) ∧ H r = some (.tup ((List.range n).map fun j => V.int (F i j))) := by
  obtain ⟨rows', h2, h3, h4⟩ := x
  rw [e] at h2
  cases h2
  exact h4 i hi
def spFFB (ok6 : Hp → Prop) : Sp := fun vs H Q _ => ∃ (p m : Addr) (us : V) (A B : List (List Int)) (o : Int) (st : Option (List (Option Int))), vs = [.ref p, .ref m, .int o, us] ∧ RR H p A ∧ RR H m B ∧ StG H us st ∧ A.length ≤ 40 ∧ B.length ≤ 40 ∧ ok6 H ∧ ∀ H' c, FrT H H' → c = codeV (codeOf A B o st) → Q c H'
theorem ok_first_failure {sz en sy ag ne di : Addr} (c_sizes_fit : CalX P w K mg base 2 "_sizes_fit" (spSizeB sz)) (c_entries_fit : CalX P w K mg base 4 "_entries_fit" (spEntB en)) (c_is_symmetric : CalX P w K mg base 2 "_is_symmetric" (spTabB sy symC)) (c_is_associative : CalX P w K mg base 2 "_is_associative" (spTabB ag assC)) (c_is_neutral : CalX P w K mg base 2 "_is_neutral" (spNeuB ne)) (c_is_distributive : CalX P w K mg base 2 "_is_distributive" (spDisB di)) (c_stars_fit : CalX P w K mg base 1 "_stars_fit" spSfB) {f : Addr} {fd : FuncData} (F : Fun K "_first_failure" "_first_failure" s_first_failure f fd) (T : Txt K mg ad) : FnOk P w K mg base (L2.CX P w) 5 f fd ["plus", "times", "one", "stars"] (spFFB (Six sz en sy ag ne di)) := by
  refine F.okX sc_first_failure (fun vs H Q E => ?_) (fun cdv A outer s H vs Q E hr h => ?_)
  · walk_at "len"
  ·
    obtain ⟨p, m, us, A, B, o, st, rfl, hp, hm, hu, hA, hB, t0, k⟩ := h
    refine ⟨_, (pss_cons (ps_if (pt_not (pt_val (pc_call c_sizes_fit hr (by first | decide | omega) (takes_of rfl rfl rfl rfl) (by rfl) (pa_cons (pv 0) (pa_cons (pv 1) (pa_cons (pv 3) pa_nil)))))) (pss_one (ps_ret pe_str)) pss_nil)
      (pss_cons (ps_if (pt_not (pt_val (pc_call c_entries_fit hr (by first | decide | omega) (takes_of rfl rfl rfl rfl) (by rfl) (pa_cons (pv 0) (pa_cons (pv 1) (pa_cons (pv 2) (pa_cons (pv 3) pa_nil))))))) (pss_one (ps_ret pe_str)) pss_nil)
      (pss_cons (ps_if (pt_not (pt_val (pc_call c_is_symmetric hr (by first | decide | omega) (takes_of rfl rfl rfl rfl) (by rfl) (pa_cons (pv 0) pa_nil)))) (pss_one (ps_ret pe_str)) pss_nil)
      (pss_cons (ps_if (pt_not (pt_val (pc_call c_is_associative hr (by first | decide | omega) (takes_of rfl rfl rfl rfl) (by rfl) (pa_cons (pv 0) pa_nil)))) (pss_one (ps_ret pe_str)) pss_nil)
      (pss_cons (ps_if (pt_not (pt_val (pc_call c_is_neutral hr (by first | decide | omega) (takes_of rfl rfl rfl rfl) (by rfl) (pa_cons (pv 0) (pa_cons pe_int pa_nil))))) (pss_one (ps_ret pe_str)) pss_nil)
      (pss_cons (ps_if (pt_not (pt_val (pc_call c_is_symmetric hr (by first | decide | omega) (takes_of rfl rfl rfl rfl) (by rfl) (pa_cons (pv 1) pa_nil)))) (pss_one (ps_ret pe_str)) pss_nil)
      (pss_cons (ps_if (pt_not (pt_val (pc_call c_is_associative hr (by first | decide | omega) (takes_of rfl rfl rfl rfl) (by rfl) (pa_cons (pv 1) pa_nil)))) (pss_one (ps_ret pe_str)) pss_nil)
      (pss_cons (ps_if (pt_not (pt_val (pc_call c_is_neutral hr (by first | decide | omega) (takes_of rfl rfl rfl rfl) (by rfl) (pa_cons (pv 1) (pa_cons (pv 2) pa_nil))))) (pss_one (ps_ret pe_str)) pss_nil)
      (pss_cons (ps_if (pt_val (pe_callB (cr_anyT rfl) (by rfl) T.z_any (by decide +kernel) (pa_cons (pe_ix ix_tup (pv 1) pe_int (fun _ _ => rfl)) pa_nil))) (pss_one (ps_ret pe_str)) pss_nil)
      (pss_cons (ps_if (pt_not (pt_val (pc_call c_is_distributive hr (by first | decide | omega) (takes_of rfl rfl rfl rfl) (by rfl) (pa_cons (pv 0) (pa_cons (pv 1) pa_nil))))) (pss_one (ps_ret pe_str)) pss_nil)
      (pss_cons (ps_if (PW.pt (pw_and (pt_cmpR op_notN (pv 3) pe_non (nomark _)) (pw_and1 (pt_not (pt_val (pc_call c_stars_fit hr (by first | decide | omega) (takes_of rfl rfl rfl rfl) (by rfl) (pa_cons (pv 0) (pa_cons (pv 1) (pa_cons (pv 2) (pa_cons (pv 3) pa_nil)))))))))) (pss_one (ps_ret pe_str)) pss_nil)
      (pss_one (ps_ret pe_non))))))))))))), ?_⟩
    have P_ := fun {H' : Hp} (fr : FrT H H') => hp.same (H' := H') fun c xs e => fr.tup e
    have M_ := fun {H' : Hp} (fr : FrT H H') => hm.same (H' := H') fun c xs e => fr.tup e
    have U_ := fun {H' : Hp} (fr : FrT H H') => hu.same (H' := H') fun c xs e => fr.tup e
    refine ⟨_, rfl, _, rfl, _, rfl, p, m, us, A, B, st, rfl, hp, hm, hu, hA, hB, t0.sz, fun b H1 f1 hb => ⟨_, rfl, ?_⟩⟩
    cases b with
    | false =>
      have h1 : ¬ sizC A B st := fun z => Bool.noConfusion (hb.mpr z)
      exact iteT (k _ _ f1 (by unfold codeOf; rw [if_neg h1]; rfl))
    | true =>
    have h1 := hb.mp rfl
    clear hb
    refine iteF (go_next ?_)
    refine ⟨_, rfl, _, rfl, _, rfl, _, rfl, p, m, us, A, B, o, st, rfl, P_ f1, M_ f1, U_ f1, h1, (t0.fr f1).en, fun b H2 f2 hb => ⟨_, rfl, ?_⟩⟩
    have f2 := f1.trans f2
    cases b with
    | false =>
      have h2 : ¬ rngC A.length A B o st := fun z => Bool.noConfusion (hb.mpr z)
      exact iteT (k _ _ f2 (by unfold codeOf; rw [if_pos h1, if_neg h2]; rfl))
    | true =>
    have h2 := hb.mp rfl
    clear hb
    obtain ⟨-, -, cA, cB, eo, ho⟩ := rng_tt hp hm h1 h2
    have TA := fun {H' : Hp} (fr : FrT H H') => (rng_tt (P_ fr) (M_ fr) h1 h2).1
    have TB := fun {H' : Hp} (fr : FrT H H') => (rng_tt (P_ fr) (M_ fr) h1 h2).2.1
    refine iteF (go_next ?_)
    refine ⟨_, rfl, p, A.length, fnN A, rfl, TA f2, hA, cA, (t0.fr f2).sy, fun b H3 f3 hb => ⟨_, rfl, ?_⟩⟩
    have f3 := f2.trans f3
    cases b with
    | false =>
      have h3 : ¬ symC A.length (fnN A) := fun z => Bool.noConfusion (hb.mpr z)
      exact iteT (k _ _ f3 (by unfold codeOf; rw [if_pos h1, if_pos h2, if_neg h3]; rfl))
    | true =>
    have h3 := hb.mp rfl
    clear hb
    refine iteF (go_next ?_)
    refine ⟨_, rfl, p, A.length, fnN A, rfl, TA f3, hA, cA, (t0.fr f3).ag, fun b H4 f4 hb => ⟨_, rfl, ?_⟩⟩
    have f4 := f3.trans f4
    cases b with
    | false =>
      have h4 : ¬ assC A.length (fnN A) := fun z => Bool.noConfusion (hb.mpr z)
      exact iteT (k _ _ f4 (by unfold codeOf; rw [if_pos h1, if_pos h2, if_pos h3, if_neg h4]; rfl))
    | true =>
    have h4 := hb.mp rfl
    clear hb
    refine iteF (go_next ?_)
    refine ⟨_, rfl, p, A.length, 0, fnN A, rfl, TA f4, hA, h1.1, (t0.fr f4).ne, fun b H5 f5 hb => ⟨_, rfl, ?_⟩⟩
    have f5 := f4.trans f5
    cases b with
    | false =>
      have h5 : ¬ neuC A.length (fnN A) 0 := fun z => Bool.noConfusion (hb.mpr z)
      exact iteT (k _ _ f5 (by unfold codeOf; rw [if_pos h1, if_pos h2, if_pos h3, if_pos h4, if_neg h5]; rfl))
    | true =>
    have h5 := hb.mp rfl
    clear hb
    refine iteF (go_next ?_)
    refine ⟨_, rfl, m, A.length, fnN B, rfl, TB f5, hA, cB, (t0.fr f5).sy, fun b H6 f6 hb => ⟨_, rfl, ?_⟩⟩
    have f6 := f5.trans f6
    cases b with
    | false =>
      have h6 : ¬ symC A.length (fnN B) := fun z => Bool.noConfusion (hb.mpr z)
      exact iteT (k _ _ f6 (by unfold codeOf; rw [if_pos h1, if_pos h2, if_pos h3, if_pos h4, if_pos h5, if_neg h6]; rfl))
    | true =>
    have h6 := hb.mp rfl
    clear hb
    refine iteF (go_next ?_)
    refine ⟨_, rfl, m, A.length, fnN B, rfl, TB f6, hA, cB, (t0.fr f6).ag, fun b H7 f7 hb => ⟨_, rfl, ?_⟩⟩
    have f7 := f6.trans f7
    cases b with
    | false =>
      have h7 : ¬ assC A.length (fnN B) := fun z => Bool.noConfusion (hb.mpr z)
      exact iteT (k _ _ f7 (by unfold codeOf; rw [if_pos h1, if_pos h2, if_pos h3, if_pos h4, if_pos h5, if_pos h6, if_neg h7]; rfl))
    | true =>
    have h7 := hb.mp rfl
    clear hb
    refine iteF (go_next ?_)
    refine ⟨_, rfl, _, rfl, m, A.length, o.toNat, fnN B, by rw [← eo], TB f7, hA, ho, (t0.fr f7).ne, fun b H8 f8 hb => ⟨_, rfl, ?_⟩⟩
    have f8 := f7.trans f8
    cases b with
    | false =>
      have h8 : ¬ neuC A.length (fnN B) o.toNat := fun z => Bool.noConfusion (hb.mpr z)
      exact iteT (k _ _ f8 (by unfold codeOf; rw [if_pos h1, if_pos h2, if_pos h3, if_pos h4, if_pos h5, if_pos h6, if_pos h7, if_neg h8]; rfl))
    | true =>
    have h8 := hb.mp rfl
    clear hb
    refine iteF (go_next ?_)
    obtain ⟨rm, em, lm⟩ := tt_len (TB f8)
    obtain ⟨r, e1, e2⟩ := tt_row (TB f8) em h1.1
    refine ⟨_, rfl, m, _, _, _, rfl, rfl, SqT.of em, at_of (j := 0) rfl e1, r, (List.range A.length).map (fun j => ((fnN B 0 j : Nat) : Int)), rfl, SqT.of (by rw [List.map_map]; exact e2), ?_⟩
    rcases hany : ((List.range A.length).map (fun j => ((fnN B 0 j : Nat) : Int))).any (fun i => i != 0) with _ | _
    case true =>
      have h9 : ¬ empC A.length (fnN B) := fun z => by
        obtain ⟨x, hx, hx2⟩ := List.any_eq_true.mp hany
        obtain ⟨j, hj, rfl⟩ := List.mem_map.mp hx
        rw [z j (List.mem_range.mp hj)] at hx2
        simp at hx2
      exact ⟨_, rfl, iteT (k _ _ f8 (by unfold codeOf; rw [if_pos h1, if_pos h2, if_pos h3, if_pos h4, if_pos h5, if_pos h6, if_pos h7, if_pos h8, if_neg h9]; rfl))⟩
    have h9 : empC A.length (fnN B) := fun a ha => by
      rw [List.any_eq_false] at hany
      have z := hany _ (List.mem_map.mpr ⟨a, List.mem_range.mpr ha, rfl⟩)
      simp at z
      omega
    refine ⟨_, rfl, iteF (go_next ?_)⟩
    refine ⟨_, rfl, _, rfl, p, m, A.length, fnN A, fnN B, rfl, TA f8, TB f8, hA, cA, cB, (t0.fr f8).di, fun b H9 f9 hb => ⟨_, rfl, ?_⟩⟩
    have f9 := f8.trans f9
    cases b with
    | false =>
      have h10 : ¬ disC A.length (fnN A) (fnN B) := fun z => Bool.noConfusion (hb.mpr z)
      exact iteT (k _ _ f9 (by unfold codeOf; rw [if_pos h1, if_pos h2, if_pos h3, if_pos h4, if_pos h5, if_pos h6, if_pos h7, if_pos h8, if_pos h9, if_neg h10]; rfl))
    | true =>
    have h10 := hb.mp rfl
    clear hb
    refine iteF (go_next ?_)
    rcases U_ f9 with ⟨es, eu⟩ | ⟨u0, l0, es, eu, hu9⟩
    · subst eu
      refine ⟨_, rfl, rfl, _, rfl, iteF (iteF (go_next ?_))⟩
      have h11 : staO (fnN A) (fnN B) o.toNat st := by rw [es]; exact fun a s e => by simp at e
      exact k _ _ f9 (by unfold codeOf; rw [if_pos h1, if_pos h2, if_pos h3, if_pos h4, if_pos h5, if_pos h6, if_pos h7, if_pos h8, if_pos h9, if_pos h10, if_pos h11]; rfl)
    · subst eu
      have es' : stO st = l0.map (Option.map Int.toNat) := by rw [es]; rfl
      refine ⟨_, rfl, rfl, _, rfl, iteT ⟨_, rfl, _, rfl, _, rfl, _, rfl, p, m, u0, A.length, o.toNat, fnN A, fnN B, stO st, by rw [← eo], TA f9, TB f9, ?_, ?_, ?_, cA, cB, ho, hA, fun b hb => ⟨_, rfl, ?_⟩⟩⟩
      · rw [es', stO_map (h2.2.1 l0 es)]; exact hu9
      · rw [es', List.length_map]; exact h1.2.2.2.1 l0 es
      · rw [es']; exact stO_lt (h2.2.1 l0 es)
      · cases b with
        | false =>
          have h11 : ¬ staO (fnN A) (fnN B) o.toNat st := fun z => Bool.noConfusion (hb.mpr z)
          exact iteT (k _ _ f9 (by unfold codeOf; rw [if_pos h1, if_pos h2, if_pos h3, if_pos h4, if_pos h5, if_pos h6, if_pos h7, if_pos h8, if_pos h9, if_pos h10, if_neg h11]; rfl))
        | true =>
          have h11 : staO (fnN A) (fnN B) o.toNat st := hb.mp rfl
          exact iteF (go_next (k _ _ f9 (by unfold codeOf; rw [if_pos h1, if_pos h2, if_pos h3, if_pos h4, if_pos h5, if_pos h6, if_pos h7, if_pos h8, if_pos h9, if_pos h10, if_pos h11]; rfl)))
def spCopB : Sp := fun vs H Q _ => ∃ (p : Addr) (A : List (List Int)), vs = [.ref p] ∧ RR H p A ∧ A.length ≤ 40 ∧ ∀ H' q, Same H H' → RR H' q A → Q (.ref q) H'
theorem ok_copied  {f : Addr} {fd : FuncData} (F : Fun K "_copied" "_copied" s_copied f fd) (T : Txt K mg ad) : FnOk P w K mg base (L2.CX P w) 1 f fd ["table"] (spCopB) := by
  refine F.okX sc_copied (fun vs H Q E => ?_) (fun cdv A outer s H vs Q E hr h => ?_)
  · walk_at "len"
  ·
    obtain ⟨p, A, rfl, hp, hn, k⟩ := h
    refine ⟨_, (pss_one (ps_ret (pe_callTy call_tuple_of (by rfl) T.z_tuple (by decide +kernel) (pa_cons (pe_lc (own := [("row", 1)]) (tt := tYes) rfl sc_copied.nd (pi_tup (pv 0)) (blkOk_by (by kernel_rfl)) (fun _ _ _ _ _ => (pg_name (i := 1) sc_copied.nd rfl (by first | exact Or.inl rfl | exact Or.inr rfl))) (fun _ _ _ _ _ => pts_nil) (fun _ _ _ _ _ => (pe_callTy (kcall_tuple_of (K := K)) (by rfl) T.z_tuple (by decide +kernel) (pa_cons (pv 1) pa_nil)))) pa_nil)))), ?_⟩
    obtain ⟨rp, ep, lp⟩ := hp.len
    refine ⟨_, rfl, p, rfl, ⟨_, SqT.of ep⟩, fun D hD => ?_⟩
    refine lc_tupR (K := K) (L := p) (xs := rp) (fun i v H' => rp[i]? = some v) hD (SqT.of ep) (fun H' s => SqT.of (s _ _ ep)) (fun i v H H' _ h => h) (by omega) (fun _ => rfl) (fun i x H' acc Kt hx s e kt => ?_) (fun H' rows s e l h => ?_)
    · obtain ⟨r, row, rfl, e1, e2⟩ := hp.at ep hx
      exact ⟨_, rfl, r, _, rfl, .inr ⟨SqT.of (s _ _ e2), kt _ _ (Same.refl _) hx⟩⟩
    · have er : rows = rp := List.ext_getElem? fun i => by
        by_cases c : i < rp.length
        · obtain ⟨v, hv⟩ : ∃ v, rows[i]? = some v := ⟨_, List.getElem?_eq_getElem (by omega)⟩
          rw [hv, h i v hv]
        · rw [List.getElem?_eq_none (by omega), List.getElem?_eq_none (by omega)]
      subst er
      refine ⟨D, _, rfl, .inl ⟨SqL.of e, fun q hq => ?_⟩⟩
      have sq : Same H' (upd H' q (.tup rows)) := same_new (Same.refl _) hq
      refine k _ q (fun b o e => sq b o (s b o e)) ⟨rows, upd_same, lp, fun i row hi => ?_⟩
      obtain ⟨rows', a1, a2, a3⟩ := hp
      rw [ep] at a1
      cases a1
      obtain ⟨r, h1, h2⟩ := a3 i row hi
      exact ⟨r, h1, sq _ _ (s _ _ h2)⟩
end
end K05

set_option Elab.async false
set_option linter.all false
set_option maxRecDepth 100000
set_option maxHeartbeats 4000000
namespace K05
open PySem L2 Ew Tb SRm GxR
local macro_rules | `(tactic| walk_at "len") => `(tactic| first | (intro h; obtain ⟨_, e, _⟩ := h; rw [e]; rfl) | (intro h; obtain ⟨_, _, e, _⟩ := h; rw [e]; rfl) | (intro h; obtain ⟨_, _, _, e, _⟩ := h; rw [e]; rfl) | (intro h; obtain ⟨_, _, _, _, e, _⟩ := h; rw [e]; rfl) | (intro h; obtain ⟨_, _, _, _, _, e, _⟩ := h; rw [e]; rfl) | (intro h; obtain ⟨_, _, _, _, _, _, e, _⟩ := h; rw [e]; rfl) | (intro h; obtain ⟨_, _, _, _, _, _, _, e, _⟩ := h; rw [e]; rfl) | (intro h; obtain ⟨_, _, _, _, _, _, _, _, e, _⟩ := h; rw [e]; rfl) | (intro h; obtain ⟨_, _, _, _, _, _, _, _, _, e, _⟩ := h; rw [e]; rfl) | (intro h; exact h.elim))
section
variable {P : Program} {w : World} {K : PySem.W.Frag} {mg : Str → Option Value} {base : Heap} {ad : Ad}
abbrev s_AxiomError_init : Stmt := inClass (topS 3) 0
theorem ok_AxiomError_init {f cda cc : Addr} {dV kV doc pm ct oc : Value} {an od : Option Addr} {osl : Array (Option Value)} (S : ExS.SupC P K ad.AxiomError cda cc "AxiomError.__init__") (hmg : mg "super" = none)
    (hno : PySem.W.findIn K (.ref ad.AxiomError) "code" = some none)
    (lk : K.lookup f = some ⟨oc, od, .func (PySem.W.fnX "__init__" "AxiomError.__init__" (defArgs s_AxiomError_init) (defBody s_AxiomError_init) (defScope s_AxiomError_init) [("__class__", cc)] dV kV doc pm an (.ref cda) ct), osl⟩) :
    FnOk P w K mg base (L2.CX P w) 1 f (PySem.W.fnX "__init__" "AxiomError.__init__" (defArgs s_AxiomError_init) (defBody s_AxiomError_init) (defScope s_AxiomError_init) [("__class__", cc)] dV kV doc pm an (.ref cda) ct) ["self", "code"] (ExS.spXI ad.AxiomError) := by
  refine ExS.fn_sup (k := 0) (N := ["self", "code", "__class__"]) (pl := fun _ => _) S hmg lk (NdefX.nscope_by (by decide +kernel)) (by decide +kernel) rfl rfl (fun vs H Q E h => by obtain ⟨_, _, e, _⟩ := h; rw [e]; rfl) (fun _ => rfl) (fun _ => rfl) (fun _ => rfl) ?_
  rintro A outer s H vs Q E X rfl hr ⟨a, c, rfl, hc, ha, k⟩
  refine ⟨a, .str c, _, _, rfl, ha, pe_joined (.cons pe_str (.cons (pe_fmt (pv 1)) .nil)), pss_one (ps_ost (pv 0) (pv 1)), ?_⟩
  refine ⟨_, rfl, Nat.le_trans (by decide +kernel : _ ≤ 100) (by decide), _, rfl, .inl ⟨c, rfl, Nat.le_trans hc (by decide), c, rfl, ?_, (by show 1 ≤ 1000; decide), ha, ?_⟩⟩
  · rw [PySem.Str.length_append]
    exact Nat.le_trans (Nat.add_le_add (by decide +kernel : _ ≤ 100) hc) (by decide)
  · exact ⟨_, rfl, _, rfl, a, ad.AxiomError, rfl, S.ox, hno, .inl ⟨ha, fun dx h1 h2 => k dx h1 h2⟩⟩
/-- the heap has grown, but for the object at p; tables too -/
structure FrP (p : Addr) (H H' : Hp) : Prop where
  keep : ∀ b o, b ≠ p → H b = some o → (∀ ps, o ≠ .tbl ps) → H' b = some o
  tabs : ∀ P, TabG H P → TabG H' P
abbrev stF (n : Nat) (st : Option (List (Option Int))) : List (Option Nat) := match st with
  | none => List.replicate n none
  | some l => l.map (Option.map Int.toNat)
theorem code_none {A B : List (List Int)} {o : Int} {st : Option (List (Option Int))} (h : codeOf A B o st = none) : sizC A B st ∧ rngC A.length A B o st := by
  unfold codeOf at h
  by_cases h1 : sizC A B st
  · rw [if_pos h1] at h
    by_cases h2 : rngC A.length A B o st
    · exact ⟨h1, h2⟩
    · rw [if_neg h2] at h; cases h
  · rw [if_neg h1] at h; cases h
theorem code_len {A B : List (List Int)} {o : Int} {st : Option (List (Option Int))} {c : Str} (h : codeOf A B o st = some c) : c.length ≤ 1000 := by
  unfold codeOf at h
  repeat (split at h)
  all_goals first | (cases h; done) | (have z := Option.some.inj h; subst z; exact Nat.le_trans (by decide +kernel : _ ≤ 20) (by decide))
def spFIB (C ax : Addr) (ok6 : Hp → Prop) : Sp := fun vs H Q E => ∃ (q dx p m : Addr) (us : V) (A B : List (List Int)) (o : Int) (st : Option (List (Option Int))), vs = [.ref q, .ref p, .ref m, .int o, us] ∧ H q = some (.ins C dx []) ∧ RR H p A ∧ RR H m B ∧ StG H us st ∧ A.length ≤ 40 ∧ B.length ≤ 40 ∧ ok6 H ∧
  (codeOf A B o st = none → ∀ H' fs, FrP q H H' → H' q = some (.ins C dx fs) → okF A.length (fnN A) (fnN B) o.toNat (stF A.length st) H' fs → Q .non H') ∧
  (∀ c, codeOf A B o st = some c → ∀ H' d, FrT H H' → H' d = some (.xd [("code", .str c)]) → E (.ref ax) (some d) H')
theorem ok_Finite_init {sz en sy ag ne di : Addr} (c_copied : CalX P w K mg base 1 "_copied" spCopB) (c_first_failure : CalX P w K mg base 5 "_first_failure" (spFFB (Six sz en sy ag ne di))) (r_AxiomError : ExS.RaiX P w K mg base 1 "AxiomError" ad.AxiomError) {f : Addr} {fd : FuncData} {dvs : List V} (F : FunD K "__init__" "Finite.__init__" (defArgs s_Finite_init) (defBody s_Finite_init) (defScope s_Finite_init) dvs [] f fd) (T : Txt K mg ad) : FnOk P w K mg base (L2.CX P w) 6 f fd ["self", "plus_table", "times_table", "one", "stars"] (spFIB ad.Finite ad.AxiomError (Six sz en sy ag ne di)) := by
  refine F.ok (CX := L2.CX P w) sc_Finite_init (fun vs H Q E => ?_) (fun cdv A outer s H vs Q E hr h => ?_)
  · walk_at "len"
  ·
    obtain ⟨q, dx, p, m, us, A, B, o, st, rfl, hq, hp, hm, hu, hA, hB, t0, k1, k2⟩ := h
    refine ⟨_, (pss_cons (ps_set (i := 5) sc_Finite_init.nd rfl (by first | exact Or.inl rfl | exact Or.inr rfl) (pc_call c_copied hr (by first | decide | omega) (takes_of rfl rfl rfl rfl) (by rfl) (pa_cons (pv 1) pa_nil)))
      (pss_cons (ps_set (i := 6) sc_Finite_init.nd rfl (by first | exact Or.inl rfl | exact Or.inr rfl) (pc_call c_copied hr (by first | decide | omega) (takes_of rfl rfl rfl rfl) (by rfl) (pa_cons (pv 2) pa_nil)))
      (pss_cons (ps_set (i := 7) sc_Finite_init.nd rfl (by first | exact Or.inl rfl | exact Or.inr rfl) (pe_ifExp (pt_cmpR op_isN (pv 4) pe_non (nomark _)) pe_non (pe_callTy call_tuple_of (by rfl) T.z_tuple (by decide +kernel) (pa_cons (pv 4) pa_nil))))
      (pss_cons (ps_set (i := 8) sc_Finite_init.nd rfl (by first | exact Or.inl rfl | exact Or.inr rfl) (pc_call c_first_failure hr (by first | decide | omega) (takes_of rfl rfl rfl rfl) (by rfl) (pa_cons (pv 5) (pa_cons (pv 6) (pa_cons (pv 3) (pa_cons (pv 7) pa_nil))))))
      (pss_cons (ps_if (pt_cmpR op_notN (pv 8) pe_non (nomark _)) (pss_one (ps_raise rfl (takes_of rfl rfl rfl rfl) (ExS.pmk_rai r_AxiomError hr (by first | decide | omega) (by rfl) (pa_cons (pv 8) pa_nil)))) pss_nil)
      (pss_cons (ps_fld (pv 0) (pv 5) rfl)
      (pss_cons (ps_fld (pv 0) (pv 6) rfl)
      (pss_cons (ps_fld (pv 0) (pv 3) rfl)
      (pss_one (ps_fld (pv 0) (pe_ifExp (pt_cmpR op_isN (pv 7) pe_non (nomark _)) (pe_op (op_or2 op_repT1 op_repT) (pe_tup (pa_cons pe_non pa_nil)) (pe_callB call_len (by rfl) T.z_len (by decide +kernel) (pa_cons (pv 5) pa_nil))) (pv 7)) rfl)))))))))), ?_⟩
    refine go_seq ⟨_, rfl, p, A, rfl, hp, hA, fun H1 p1 s1 hp1 => go_name rfl ?_⟩
    refine go_seq ⟨_, rfl, m, B, rfl, hm.same (fun c xs e => s1 _ _ e), hB, fun H2 m1 s2 hm2 => go_name rfl ?_⟩
    refine go_seq ?_
    have S2 := fun {b : Addr} {o : HO} (e : H b = some o) => s2 b o (s1 b o e)
    have f2 := FrT.of (H := H) (H' := H2) fun b o e => S2 e
    have hu2 := hu.same (H' := H2) fun c xs e => S2 e
    have hp2 := hp1.same (H' := H2) fun c xs e => s2 _ _ e
    rcases hu2 with ⟨es, eu⟩ | ⟨u0, l0, es, eu, hu3⟩
    · subst eu
      refine ⟨_, rfl, rfl, _, rfl, iteT (go_name rfl ?_)⟩
      refine go_seq ⟨_, rfl, _, rfl, _, rfl, _, rfl, p1, m1, .non, A, B, o, st, rfl, hp2, hm2, .inl ⟨es, rfl⟩, hA, hB, t0.fr f2, fun H3 c f3 ec => go_name rfl ?_⟩
      subst ec
      have f3' := f2.trans f3
      have hq3 := f3'.ins hq
      have hp3 := hp2.same (H' := H3) (fun c xs e => f3.tup e)
      have hm3 := hm2.same (H' := H3) (fun c xs e => f3.tup e)
      rcases hc : codeOf A B o st with _ | c
      case some =>
        refine ⟨_, rfl, rfl, _, rfl, iteT ⟨_, rfl, c, rfl, code_len hc, fun d hd => ?_⟩⟩
        have sd : Same H3 (upd H3 d (.xd [("code", .str c)])) := same_new (Same.refl _) hd
        exact k2 c hc _ d (f3'.trans (FrT.of sd)) upd_same
      obtain ⟨sz1, rg1⟩ := code_none hc
      obtain ⟨tA, tB, cA, cB, eo, ho⟩ := rng_tt hp3 hm3 sz1 rg1
      refine ⟨_, rfl, rfl, _, rfl, iteF (go_next ?_)⟩
      refine ⟨_, rfl, _, rfl, q, _, dx, _, rfl, hq3, T.c_Finite, T.n_plus, (by show 0 < 1000; decide), ?_⟩
      refine ⟨_, rfl, _, rfl, q, _, dx, _, rfl, upd_same, T.c_Finite, T.n_times, (by show 1 < 1000; decide), ?_⟩
      refine ⟨_, rfl, _, rfl, q, _, dx, _, rfl, upd_same, T.c_Finite, T.n_one, (by show 2 < 1000; decide), ?_⟩
      have fin : ∀ H4 u0, (∀ b o, b ≠ q → H3 b = some o → H4 b = some o) → H4 u0 = some (.tup (List.replicate A.length V.non)) → u0 ≠ q → Q .non (upd H4 q (.ins ad.Finite dx (fF p1 m1 o.toNat u0))) := fun H4 u0 g1 g2 g3 => by
        have ne : ∀ {b : Addr} {xs : List V}, H3 b = some (.tup xs) → b ≠ q := fun e z => by rw [z, hq3] at e; cases e
        refine k1 hc _ _ ⟨fun b o' nb e nt => ?_, fun P' ht => ?_⟩ upd_same ⟨p1, m1, u0, rfl, tA.same fun c xs e => ?_, tB.same fun c xs e => ?_, ?_, ?_⟩
        · rw [upd_ne nb]
          exact g1 _ _ nb (f3'.keep b o' e nt)
        · obtain ⟨ps, e, t⟩ := f3'.tabs _ ht
          have nb : P' ≠ q := fun z => by rw [z, hq3] at e; cases e
          exact ⟨ps, by rw [upd_ne nb]; exact g1 _ _ nb e, t⟩
        · rw [upd_ne (ne e)]; exact g1 _ _ (ne e) e
        · rw [upd_ne (ne e)]; exact g1 _ _ (ne e) e
        · rw [upd_ne g3, g2, es]
          show _ = some (HO.tup ((List.replicate A.length none).map stV))
          rw [List.map_replicate]
          rfl
        · rw [es]; exact List.length_replicate
      have efF : ∀ u0, putF "_stars" (V.ref u0) (putF "_one" (V.int o) (putF "_times" (V.ref m1) (putF "_plus" (V.ref p1) []))) = fF p1 m1 o.toNat u0 := fun u0 => by unfold fF; rw [← eo]
      obtain ⟨rowsA, er, el⟩ := hp3.len
      have np1 : p1 ≠ q := fun z => by rw [z, hq3] at er; cases er
      refine ⟨_, rfl, rfl, _, rfl, iteT (go_tup (go_cons ⟨by (show 1 ≤ sizeLine); decide, fun x hx => ?_⟩))⟩
      have nxq : x ≠ q := fun z => by rw [z, upd_same] at hx; cases hx
      have hx3 : H3 x = none := by rw [upd_ne nxq, upd_ne nxq, upd_ne nxq] at hx; exact hx
      have keep : ∀ b o', b ≠ q → H3 b = some o' → (upd (upd (upd (upd H3 q (.ins ad.Finite dx (putF "_plus" (.ref p1) []))) q (.ins ad.Finite dx (putF "_times" (.ref m1) (putF "_plus" (.ref p1) [])))) q (.ins ad.Finite dx (putF "_one" (.int o) (putF "_times" (.ref m1) (putF "_plus" (.ref p1) []))))) x (.tup [.non])) b = some o' := fun b o' nb e => by
        rw [upd_ne (ne_of_none e hx3), upd_ne nb, upd_ne nb, upd_ne nb]; exact e
      refine ⟨_, rfl, .ref p1, _, rfl, .inr ⟨_, SqT.of (keep _ _ np1 er), rfl⟩, ?_⟩
      rw [el]
      by_cases h1 : A.length = 1
      · refine .inl ⟨x, [.non], rfl, by rw [h1]; rfl, SqT.of upd_same, ?_⟩
        refine ⟨_, rfl, q, _, dx, _, rfl, (by rw [upd_ne (Ne.symm nxq), upd_same]), T.c_Finite, T.n_stars, (by show 3 < 1000; decide), ?_⟩
        rw [efF]
        exact fin _ x keep (by rw [upd_same, h1]; rfl) nxq
      · refine .inr ⟨x, (A.length : Int), [.non], rfl, rfl, SqT.of upd_same, by simp, by have := sz1.1; omega, by omega, by decide, fun y hy => ?_⟩
        have nyq : y ≠ q := fun z => by rw [z, upd_ne (Ne.symm nxq), upd_same] at hy; cases hy
        have nyx : y ≠ x := fun z => by rw [z, upd_same] at hy; cases hy
        have hy3 : H3 y = none := by rw [upd_ne nyx, upd_ne nyq, upd_ne nyq, upd_ne nyq] at hy; exact hy
        refine ⟨_, rfl, q, _, dx, _, rfl, (by rw [upd_ne (Ne.symm nyq), upd_ne (Ne.symm nxq), upd_same]), T.c_Finite, T.n_stars, (by show 3 < 1000; decide), ?_⟩
        rw [efF]
        refine fin _ y (fun b o' nb e => by rw [upd_ne (ne_of_none e hy3)]; exact keep b o' nb e) ?_ nyq
        rw [upd_same, Int.toNat_natCast]
        have er : ∀ n : Nat, (List.replicate n [V.non]).flatten = List.replicate n V.non := fun n => by
          induction n with
          | zero => rfl
          | succ n ih => rw [List.replicate_succ, List.flatten_cons, ih, List.replicate_succ]; rfl
        rw [er]
    · subst eu
      refine ⟨_, rfl, rfl, _, rfl, iteF ⟨_, rfl, u0, _, rfl, .inr ⟨SqT.of hu3, go_name rfl ?_⟩⟩⟩
      refine go_seq ⟨_, rfl, _, rfl, _, rfl, _, rfl, p1, m1, (.ref u0), A, B, o, st, rfl, hp2, hm2, .inr ⟨u0, l0, es, rfl, hu3⟩, hA, hB, t0.fr f2, fun H3 c f3 ec => go_name rfl ?_⟩
      subst ec
      have f3' := f2.trans f3
      have hq3 := f3'.ins hq
      have hp3 := hp2.same (H' := H3) (fun c xs e => f3.tup e)
      have hm3 := hm2.same (H' := H3) (fun c xs e => f3.tup e)
      rcases hc : codeOf A B o st with _ | c
      case some =>
        refine ⟨_, rfl, rfl, _, rfl, iteT ⟨_, rfl, c, rfl, code_len hc, fun d hd => ?_⟩⟩
        have sd : Same H3 (upd H3 d (.xd [("code", .str c)])) := same_new (Same.refl _) hd
        exact k2 c hc _ d (f3'.trans (FrT.of sd)) upd_same
      obtain ⟨sz1, rg1⟩ := code_none hc
      obtain ⟨tA, tB, cA, cB, eo, ho⟩ := rng_tt hp3 hm3 sz1 rg1
      refine ⟨_, rfl, rfl, _, rfl, iteF (go_next ?_)⟩
      refine ⟨_, rfl, _, rfl, q, _, dx, _, rfl, hq3, T.c_Finite, T.n_plus, (by show 0 < 1000; decide), ?_⟩
      refine ⟨_, rfl, _, rfl, q, _, dx, _, rfl, upd_same, T.c_Finite, T.n_times, (by show 1 < 1000; decide), ?_⟩
      refine ⟨_, rfl, _, rfl, q, _, dx, _, rfl, upd_same, T.c_Finite, T.n_one, (by show 2 < 1000; decide), ?_⟩
      refine ⟨_, rfl, rfl, _, rfl, iteF ⟨_, rfl, _, rfl, q, _, dx, _, rfl, upd_same, T.c_Finite, T.n_stars, (by show 3 < 1000; decide), ?_⟩⟩
      have hu4 := f3.tup hu3
      have es' : stF A.length st = l0.map (Option.map Int.toNat) := by rw [es]
      have ne : ∀ {b : Addr} {xs : List V}, H3 b = some (.tup xs) → b ≠ q := fun e z => by rw [z, hq3] at e; cases e
      refine k1 hc _ (fF p1 m1 o.toNat u0) ⟨fun b o' nb e nt => ?_, fun P' ht => ?_⟩ (by rw [upd_same]; unfold fF; rw [← eo]) ⟨p1, m1, u0, rfl, tA.same fun c xs e => ?_, tB.same fun c xs e => ?_, ?_, by rw [es', List.length_map]; exact sz1.2.2.2.1 l0 es⟩
      · rw [upd_ne nb, upd_ne nb, upd_ne nb, upd_ne nb]
        exact f3'.keep b o' e nt
      · obtain ⟨ps, e, t⟩ := f3'.tabs _ ht
        have nb : P' ≠ q := fun z => by rw [z, hq3] at e; cases e
        exact ⟨ps, by rw [upd_ne nb, upd_ne nb, upd_ne nb, upd_ne nb]; exact e, t⟩
      · rw [upd_ne (ne e), upd_ne (ne e), upd_ne (ne e), upd_ne (ne e)]; exact e
      · rw [upd_ne (ne e), upd_ne (ne e), upd_ne (ne e), upd_ne (ne e)]; exact e
      · rw [upd_ne (ne hu4), upd_ne (ne hu4), upd_ne (ne hu4), upd_ne (ne hu4), es', stO_map (rg1.2.1 l0 es)]; exact hu4
end
end K05

set_option Elab.async false
set_option linter.all false
set_option maxRecDepth 100000
set_option maxHeartbeats 4000000
namespace K05
open PySem L2 Ew Tb SRm GxR
local macro_rules | `(tactic| walk_at "len") => `(tactic| first | (intro h; obtain ⟨_, e, _⟩ := h; rw [e]; rfl) | (intro h; obtain ⟨_, _, e, _⟩ := h; rw [e]; rfl) | (intro h; obtain ⟨_, _, _, e, _⟩ := h; rw [e]; rfl) | (intro h; obtain ⟨_, _, _, _, e, _⟩ := h; rw [e]; rfl) | (intro h; obtain ⟨_, _, _, _, _, e, _⟩ := h; rw [e]; rfl) | (intro h; obtain ⟨_, _, _, _, _, _, e, _⟩ := h; rw [e]; rfl) | (intro h; obtain ⟨_, _, _, _, _, _, _, e, _⟩ := h; rw [e]; rfl) | (intro h; obtain ⟨_, _, _, _, _, _, _, _, e, _⟩ := h; rw [e]; rfl) | (intro h; obtain ⟨_, _, _, _, _, _, _, _, _, e, _⟩ := h; rw [e]; rfl) | (intro h; exact h.elim))
section
variable {P : Program} {w : World} {K : PySem.W.Frag} {mg : Str → Option Value} {base : Heap} {ad : Ad}
/-- a told semiring of any tables -/
def RingG (H : Hp) (t : Addr) (A B : List (List Int)) (o : Int) (st : Option (List (Option Int))) : Prop := ∃ (p m : Addr) (us : V), H t = some (.tup [.ref p, .ref m, .int o, us]) ∧ RR H p A ∧ RR H m B ∧ StG H us st
theorem RingG.same {H H' : Hp} {t : Addr} {A B : List (List Int)} {o : Int} {st : Option (List (Option Int))} (x : RingG H t A B o st) (s : ∀ b xs, H b = some (.tup xs) → H' b = some (.tup xs)) : RingG H' t A B o st := by
  obtain ⟨p, m, us, h1, h2, h3, h4⟩ := x
  exact ⟨p, m, us, s _ _ h1, h2.same s, h3.same s, h4.same s⟩
/-- a new object laid -/
theorem frT_new {C y dy : Addr} {H H' : Hp} (h1 : H y = none) (h2 : H dy = none) (x : FrP y (upd (upd H dy (.own y)) y (.ins C dy [])) H') : FrT H H' := by
  refine ⟨fun b o e n => x.keep b o (ne_of_none e h1) (by rw [upd_ne (ne_of_none e h1), upd_ne (ne_of_none e h2)]; exact e) n, fun P' h => x.tabs P' ?_⟩
  obtain ⟨ps, e, t⟩ := h
  exact ⟨ps, by rw [upd_ne (ne_of_none e h1), upd_ne (ne_of_none e h2)]; exact e, t⟩
def spMade (ok6 : Hp → Prop) (C : Addr) : Sp := fun vs H Q _ => ∃ (t : Addr) (A B : List (List Int)) (o : Int) (st : Option (List (Option Int))), vs = [.ref t] ∧ RingG H t A B o st ∧ A.length ≤ 40 ∧ B.length ≤ 40 ∧ ok6 H ∧
  (codeOf A B o st = none → ∀ H' q dx fs, FrT H H' → H q = none → H' q = some (.ins C dx fs) → okF A.length (fnN A) (fnN B) o.toNat (stF A.length st) H' fs → Q (.ref q) H') ∧
  (∀ c, codeOf A B o st = some c → ∀ H', FrT H H' → Q (.str c) H')
theorem ok_law_made {sz en sy ag ne di : Addr} (mFin : MakX P w K mg base 6 "Finite" ad.Finite (spFIB ad.Finite ad.AxiomError (Six sz en sy ag ne di))) {f : Addr} {fd : FuncData} (F : Fun K "_law_made" "_law_made" s_law_made f fd) (T : Txt K mg ad) : FnOk P w K mg base (L2.CX P w) 8 f fd ["ring"] (spMade (Six sz en sy ag ne di) ad.Finite) := by
  refine F.okX sc_law_made (fun vs H Q E => ?_) (fun cdv A outer s H vs Q E hr h => ?_)
  · walk_at "len"
  ·
    obtain ⟨t, A, B, o, st, rfl, ⟨p, m, us, ht, hp, hm, hu⟩, hA, hB, t0, k1, k2⟩ := h
    refine ⟨_, (pss_cons (ps_tryD (i := 1) rfl rfl sc_law_made.nd rfl rfl ⟨rfl, by decide, .inl T.g_WorthError⟩ (takes_of rfl rfl rfl rfl))
      (pss_one (ps_ret pe_str))), ?_⟩
    intro pn1 xe1 tk1 po1
    refine ⟨_, (pss_one (ps_ret (pd_make hr tk1 (by rfl) (pa_cons (pe_ix ix_tup (pv 0) pe_int (fun _ _ => rfl)) (pa_cons (pe_ix ix_tup (pv 0) pe_int (fun _ _ => rfl)) (pa_cons (pe_ix ix_tup (pv 0) pe_int (fun _ _ => rfl)) (pa_cons (pe_ix ix_tup (pv 0) pe_int (fun _ _ => rfl)) pa_nil))))))), ?_⟩
    refine ⟨6, _, _, by decide, mFin, _, rfl, t, _, _, _, rfl, rfl, SqT.of ht, at_of (j := 0) rfl rfl, _, rfl, t, _, _, _, rfl, rfl, SqT.of ht, at_of (j := 1) rfl rfl, _, rfl, t, _, _, _, rfl, rfl, SqT.of ht, at_of (j := 2) rfl rfl, _, rfl, t, _, _, _, rfl, rfl, SqT.of ht, at_of (j := 3) rfl rfl, fun y dy h1 h2 h3 => ?_⟩
    have keep : ∀ b xs, H b = some (.tup xs) → (upd (upd H dy (.own y)) y (.ins ad.Finite dy [])) b = some (.tup xs) := fun b xs e => by rw [upd_ne (ne_of_none e h1), upd_ne (ne_of_none e h2)]; exact e
    have ft : FrT H (upd (upd H dy (.own y)) y (.ins ad.Finite dy [])) := frT_new h1 h2 ⟨fun b o _ e _ => e, fun P' h => h⟩
    refine ⟨y, dy, p, m, us, A, B, o, st, rfl, upd_same, hp.same keep, hm.same keep, hu.same keep, hA, hB, t0.fr ft, fun hc H' fs fp hq hok => ⟨rfl, k1 hc H' y dy fs (frT_new h1 h2 fp) h1 hq hok⟩, fun c hc H' d fr hd => ?_⟩
    refine ⟨true, T.em_AxiomError, fun _ a ha => ?_, fun q => Bool.noConfusion q⟩
    intro oe pn hz hf
    refine ⟨_, (pss_one (ps_if (pt_val (pe_callB (ExS.call_isEX hz hf) (by rfl) T.z_isinstance (by decide +kernel) (pa_cons (pv 1) (pa_cons (pe_gcls (by rfl) T.g_AxiomError) pa_nil)))) (pss_one (ps_ret (pe_xf T.xf_AxiomError T.xn_AxiomError hz hf (pv 1)))) pss_nil)), ?_⟩
    refine ⟨_, rfl, _, rfl, T.ec_AxiomError, .inr ⟨d, _, rfl, hd⟩, _, _, true, rfl, fun u hu => hu, T.ki_AxiomError, true, rfl, iteT ⟨_, rfl, rfl, rfl, d, _, _, rfl, hd, (by rfl), k2 c hc H' (ft.trans fr)⟩⟩
def spLS (C : Addr) (n o : Nat) (f g : Nat → Nat → Nat) (st : List (Option Nat)) : Sp := fun vs H Q _ => ∃ (p dx : Addr) (fs : List (Str × V)) (x : V), vs = [.ref p, x] ∧ H p = some (.ins C dx fs) ∧ okF n f g o st H fs ∧ elF n x ∧ (∀ s, starF st x = some s → Q s H) ∧ (starF st x = none → Q .non H)
theorem ok_law_star {n o : Nat} {pf tf : Nat → Nat → Nat} {st : List (Option Nat)} (mS : MetX P w K mg base 1 ad.Finite "star" (spStG ad.Finite ad.NoStar (okF n pf tf o st) (elF n) (starF st))) {f : Addr} {fd : FuncData} (F : Fun K "_law_star" "_law_star" s_law_star f fd) (T : Txt K mg ad) : FnOk P w K mg base (L2.CX P w) 4 f fd ["ring", "a"] (spLS ad.Finite n o pf tf st) := by
  refine F.okX sc_law_star (fun vs H Q E => ?_) (fun cdv A outer s H vs Q E hr h => ?_)
  · walk_at "len"
  ·
    obtain ⟨p, dx, fs, x, rfl, hp, ok, hx, k1, k2⟩ := h
    refine ⟨_, (pss_one (ps_tryD (i := 2) rfl rfl sc_law_star.nd rfl rfl ⟨rfl, by decide, .inl T.g_WorthError⟩ (takes_of rfl rfl rfl rfl))), ?_⟩
    intro pn1 xe1 tk1 po1
    refine ⟨_, (pss_one (ps_ret (pd_meth hr tk1 (pv 0) (pa_cons (pv 1) pa_nil)))), ?_⟩
    have hn : fs.lookup ("star" : Str) = none := by
      obtain ⟨tp, tm, ts, rfl, _⟩ := ok
      exact fF_no _ _ _ _ (by decide) (by decide) (by decide) (by decide)
    refine ⟨_, rfl, p, ad.Finite, dx, fs, 1, _, rfl, hp, hn, by decide, mS, _, rfl, p, dx, fs, x, rfl, hp, ok, hx, fun s hs => k1 s hs, fun hs => ?_⟩
    refine ⟨true, T.em_NoStar, fun _ a ha => ?_, fun q => Bool.noConfusion q⟩
    intro oe pn hz hf
    refine ⟨_, (pss_one (ps_ret (pe_ifExp (pt_val (pe_callB (call_isED hz hf) (by rfl) T.z_isinstance (by decide +kernel) (pa_cons (pv 2) (pa_cons (pe_gcls (by rfl) T.g_NoStar) pa_nil)))) pe_non pe_str))), ?_⟩
    refine ⟨_, rfl, _, rfl, rfl, T.ec_NoStar, _, _, true, rfl, fun u hu => hu, T.ki_NoStar, true, rfl, ?_⟩
    exact iteT (k2 hs)
/-! ### the law's own code -/
theorem any_map {b : Nat → Bool} {n : Nat} : (((List.range n).map b).any id = true) ↔ ∃ i, i < n ∧ b i = true := by
  rw [List.any_eq_true]
  constructor
  · rintro ⟨x, hx, h⟩
    obtain ⟨i, hi, rfl⟩ := List.mem_map.mp hx
    exact ⟨i, List.mem_range.mp hi, h⟩
  · rintro ⟨i, hi, h⟩
    exact ⟨b i, List.mem_map.mpr ⟨i, List.mem_range.mpr hi, rfl⟩, h⟩
/-- any([e for x in range(n)]) as a reading -/
theorem any_lc {K : PySem.W.Frag} {n ns k : Nat} {te : TE} {σ : L2.St} {H : Hp} {Q : VK} (b : Nat → Bool) (hn : n ≤ 100000)
    (hs : ∀ (i : Nat) (H' : Hp) (Kt : VK), i < n → Same H H' → (∀ H4, Same H' H4 → Kt (.bl (b i)) H4) → te ((wipe σ [k]).set k (some (.int (i : Int)))) H' Kt)
    (hd : ∀ H' r, Same H H' → (r = true ↔ ∃ i, i < n ∧ b i = true) → Q (.bl r) H')
    (h1 : σ[ns]? = some (some (.int (n : Int))) := by rfl) (w1 : ∀ x, wipe ((wipe σ [k]).set k (some x)) [k] = wipe σ [k] := by intro _; rfl) :
    tCB (rAny K) (tCons (tLc (iRng1 (tCons (tVar ns) tNil)) (gName k) tYes te [k]) tNil) σ H Q := by
  refine ⟨_, h1, _, rfl, by omega, by omega, fun D hD => ?_⟩
  rw [Int.toNat_natCast]
  refine lc_vals (lo := 0) (n := n) (fun i => V.bl (b i)) hD hn w1 (fun i H4 Kt4 hi s4 k4 => ?_) (fun H4 s4 e4 => ?_)
  · rw [Int.zero_add]
    exact hs i H4 Kt4 hi s4 k4
  · refine ⟨D, (List.range n).map b, rfl, SqL.of (by rw [List.map_map]; exact e4), ?_⟩
    exact hd H4 _ s4 any_map
open Classical in
noncomputable def grpOf (n : Nat) (f : Nat → Nat → Nat) (o : Nat) (c0 c1 c2 : Str) : Str := if symC n f then if assC n f then if neuC n f o then "" else c2 else c1 else c0
def spGrp : Sp := fun vs H Q _ => ∃ (p cs : Addr) (n o : Nat) (f : Nat → Nat → Nat) (c0 c1 c2 : Str), vs = [.ref p, .int (o : Int), .ref cs] ∧ TT H p n (fun i j => (f i j : Int)) ∧ n ≤ 40 ∧ cloC n f ∧ o < n ∧ H cs = some (.lst [.str c0, .str c1, .str c2]) ∧ ∀ H', Same H H' → Q (.str (grpOf n f o c0 c1 c2)) H'
theorem ok_law_group  {f : Addr} {fd : FuncData} (F : Fun K "_law_group" "_law_group" s_law_group f fd) (T : Txt K mg ad) : FnOk P w K mg base (L2.CX P w) 1 f fd ["table", "neutral", "codes"] (spGrp) := by
  refine F.okX sc_law_group (fun vs H Q E => ?_) (fun cdv A outer s H vs Q E hr h => ?_)
  · walk_at "len"
  ·
    obtain ⟨p, cs, n, o, pf, c0, c1, c2, rfl, hp, hn, hcl, ho, hcs, k⟩ := h
    refine ⟨_, (pss_cons (ps_set (i := 3) sc_law_group.nd rfl (by first | exact Or.inl rfl | exact Or.inr rfl) (pe_callB call_len (by rfl) T.z_len (by decide +kernel) (pa_cons (pv 0) pa_nil)))
      (pss_cons (ps_for (passes_of rfl) rfl (pi_range1 (by rfl) T.z_range (pa_cons (pv 3) pa_nil)) (pg_name (i := 4) sc_law_group.nd rfl (by first | exact Or.inl rfl | exact Or.inr rfl)) (pss_one (ps_if (pt_val (pe_callB (cr_any rfl) (by rfl) T.z_any (by decide +kernel) (pa_cons (pe_lc (own := [("b", 5)]) (tt := tYes) rfl sc_law_group.nd (pi_range1 (by rfl) T.z_range (pa_cons (pv 3) pa_nil)) (blkOk_by (by kernel_rfl)) (fun _ _ _ _ _ => (pg_name (i := 5) sc_law_group.nd rfl (by first | exact Or.inl rfl | exact Or.inr rfl))) (fun _ _ _ _ _ => pts_nil) (fun _ _ _ _ _ => (pe_cmpR op_ne (pe_ix (kix_tup (K := K)) (pe_ix (kix_tup (K := K)) (pv 0) (pv 4) (fun _ _ => rfl)) (pv 5) (fun _ _ => rfl)) (pe_ix (kix_tup (K := K)) (pe_ix (kix_tup (K := K)) (pv 0) (pv 5) (fun _ _ => rfl)) (pv 4) (fun _ _ => rfl)) (nomark _)))) pa_nil))) (pss_one (ps_ret (pe_ix ix_list (pv 2) pe_int (fun _ _ => rfl)))) pss_nil)))
      (pss_cons (ps_for (passes_of rfl) rfl (pi_range1 (by rfl) T.z_range (pa_cons (pv 3) pa_nil)) (pg_name (i := 4) sc_law_group.nd rfl (by first | exact Or.inl rfl | exact Or.inr rfl)) (pss_one (ps_for (passes_of rfl) rfl (pi_range1 (by rfl) T.z_range (pa_cons (pv 3) pa_nil)) (pg_name (i := 5) sc_law_group.nd rfl (by first | exact Or.inl rfl | exact Or.inr rfl)) (pss_one (ps_for (passes_of rfl) rfl (pi_range1 (by rfl) T.z_range (pa_cons (pv 3) pa_nil)) (pg_name (i := 6) sc_law_group.nd rfl (by first | exact Or.inl rfl | exact Or.inr rfl)) (pss_one (ps_if (pt_cmpR op_ne (pe_ix ix_tup (pe_ix ix_tup (pv 0) (pv 4) (fun _ _ => rfl)) (pe_ix ix_tup (pe_ix ix_tup (pv 0) (pv 5) (fun _ _ => rfl)) (pv 6) (fun _ _ => rfl)) (fun _ _ => rfl)) (pe_ix ix_tup (pe_ix ix_tup (pv 0) (pe_ix ix_tup (pe_ix ix_tup (pv 0) (pv 4) (fun _ _ => rfl)) (pv 5) (fun _ _ => rfl)) (fun _ _ => rfl)) (pv 6) (fun _ _ => rfl)) (nomark _)) (pss_one (ps_ret (pe_ix ix_list (pv 2) pe_int (fun _ _ => rfl)))) pss_nil)))))))
      (pss_cons (ps_if (pt_val (pe_callB (cr_any rfl) (by rfl) T.z_any (by decide +kernel) (pa_cons (pe_lc (own := [("a", 4)]) (tt := tYes) rfl sc_law_group.nd (pi_range1 (by rfl) T.z_range (pa_cons (pv 3) pa_nil)) (blkOk_by (by kernel_rfl)) (fun _ _ _ _ _ => (pg_name (i := 4) sc_law_group.nd rfl (by first | exact Or.inl rfl | exact Or.inr rfl))) (fun _ _ _ _ _ => pts_nil) (fun _ _ _ _ _ => (pe_cmpR op_ne (pe_ix (kix_tup (K := K)) (pe_ix (kix_tup (K := K)) (pv 0) (pv 1) (fun _ _ => rfl)) (pv 4) (fun _ _ => rfl)) (pv 4) (nomark _)))) pa_nil))) (pss_one (ps_ret (pe_ix ix_list (pv 2) pe_int (fun _ _ => rfl)))) pss_nil)
      (pss_one (ps_ret pe_str)))))), ?_⟩
    obtain ⟨rows, er, el⟩ := tt_len hp
    refine go_seq ⟨_, rfl, .ref p, _, rfl, .inr ⟨_, SqT.of er, rfl⟩, ?_⟩
    rw [el]
    refine go_name rfl ?_
    refine ⟨_, rfl, _, rfl, by omega, by omega, ?_⟩
    rw [Int.toNat_natCast]
    refine for_range (lo := 0) (n := n) (fun i σ H' => ∃ va vb vc : Option V, σ = [some (.ref p), some (.int (o : Int)), some (.ref cs), some (.int (n : Int)), va, vb, vc] ∧ Same H H' ∧ ∀ a, a < i → ∀ b, b < n → pf a b = pf b a) ⟨none, none, none, rfl, Same.refl _, fun a h => absurd h (Nat.not_lt_zero _)⟩ ?_ ?_
    · rintro i σ H1 hi ⟨va, vb, vc, rfl, s1, ha⟩
      rw [Int.zero_add]
      refine go_name rfl ?_
      refine any_lc (n := n) (fun j => !decide (pf i j = pf j i)) (by omega) (fun j H2 Kt hj s2 kt => ?_) (fun H2 r s2 hr => ?_)
      · have hp2 : TT H2 p n (fun i j => (pf i j : Int)) := hp.same fun c xs e => s2 _ _ (s1 _ _ e)
        obtain ⟨r1, rows1, a1, a2, cells1, a3, a4⟩ := tt_at hp2 hi hj
        obtain ⟨r2, rows2, b1, b2, cells2, b3, b4⟩ := tt_at hp2 hj hi
        refine ⟨_, rfl, _, rfl, p, _, _, _, rfl, rfl, SqT.of a1, at_of rfl a2, _, rfl, r1, _, _, _, rfl, rfl, SqT.of a3, at_of rfl a4, ?_⟩
        refine ⟨_, rfl, _, rfl, p, _, _, _, rfl, rfl, SqT.of b1, at_of rfl b2, _, rfl, r2, _, _, _, rfl, rfl, SqT.of b3, at_of rfl b4, rfl, ?_⟩
        rw [intEq]
        exact kt _ (Same.refl _)
      · refine ⟨_, rfl, ?_⟩
        cases r with
        | true =>
          obtain ⟨j, hj, hx⟩ := hr.mp rfl
          refine iteT ⟨_, rfl, cs, _, _, _, rfl, rfl, SqL.of (s2 _ _ (s1 _ _ hcs)), at_of (j := 0) rfl rfl, ?_⟩
          have h : ¬ symC n pf := fun z => of_decide_eq_false (by simpa using hx) (z i hi j hj)
          have := k _ (fun b o e => s2 b o (s1 b o e))
          unfold grpOf at this
          rw [if_neg h] at this
          exact this
        | false =>
          refine iteF ⟨_, _, _, rfl, fun b o e => s2 b o (s1 b o e), fun a h b hb => ?_⟩
          by_cases h' : a < i
          · exact ha a h' b hb
          · rw [show a = i by omega]
            by_cases e : pf i b = pf b i
            · exact e
            · exact Bool.noConfusion (hr.mpr ⟨b, hb, by simp [e]⟩)
    · rintro σ H1 ⟨va, vb, vc, rfl, s1, hsym⟩
      refine ⟨_, rfl, _, rfl, by omega, by omega, ?_⟩
      rw [Int.toNat_natCast]
      refine for_range (lo := 0) (n := n) (fun i σ H' => ∃ va vb vc : Option V, σ = [some (.ref p), some (.int (o : Int)), some (.ref cs), some (.int (n : Int)), va, vb, vc] ∧ Same H H' ∧ ∀ a, a < i → ∀ b, b < n → ∀ c, c < n → pf a (pf b c) = pf (pf a b) c) ⟨_, _, _, rfl, s1, fun a h => absurd h (Nat.not_lt_zero _)⟩ ?_ ?_
      · rintro i σ H2 hi ⟨va, vb, vc, rfl, s2, ha⟩
        rw [Int.zero_add]
        refine go_name rfl ?_
        refine ⟨_, rfl, _, rfl, by omega, by omega, ?_⟩
        rw [Int.toNat_natCast]
        refine for_range (lo := 0) (n := n) (fun j σ H' => ∃ vb vc : Option V, σ = [some (.ref p), some (.int (o : Int)), some (.ref cs), some (.int (n : Int)), some (.int (i : Int)), vb, vc] ∧ H' = H2 ∧ ∀ b, b < j → ∀ c, c < n → pf i (pf b c) = pf (pf i b) c) ⟨_, _, rfl, rfl, fun b h => absurd h (Nat.not_lt_zero _)⟩ ?_ ?_
        · rintro j σ H3 hj ⟨vb, vc, rfl, rfl, hb⟩
          rw [Int.zero_add]
          refine go_name rfl ?_
          refine ⟨_, rfl, _, rfl, by omega, by omega, ?_⟩
          rw [Int.toNat_natCast]
          refine for_range (lo := 0) (n := n) (fun l σ H' => ∃ vc : Option V, σ = [some (.ref p), some (.int (o : Int)), some (.ref cs), some (.int (n : Int)), some (.int (i : Int)), some (.int (j : Int)), vc] ∧ H' = H3 ∧ ∀ c, c < l → pf i (pf j c) = pf (pf i j) c) ⟨_, rfl, rfl, fun c h => absurd h (Nat.not_lt_zero _)⟩ ?_ ?_
          · rintro l σ H4 hl ⟨vc, rfl, rfl, hc⟩
            rw [Int.zero_add]
            refine go_name rfl ?_
            have hp2 : TT H4 p n (fun i j => (pf i j : Int)) := hp.same fun c xs e => s2 _ _ e
            obtain ⟨rw5, rww5, w51, w52, cw5, w53, w54⟩ := tt_at hp2 hj hl
            obtain ⟨rw6, rww6, w61, w62, cw6, w63, w64⟩ := tt_at hp2 hi (hcl j hj l hl)
            obtain ⟨rw7, rww7, w71, w72, cw7, w73, w74⟩ := tt_at hp2 hi hj
            obtain ⟨rw8, rww8, w81, w82, cw8, w83, w84⟩ := tt_at hp2 (hcl i hi j hj) hl
            refine ⟨_, rfl, _, rfl, p, _, _, _, rfl, rfl, SqT.of w61, at_of rfl w62, _, rfl, _, rfl, p, _, _, _, rfl, rfl, SqT.of w51, at_of rfl w52, _, rfl, rw5, _, _, _, rfl, rfl, SqT.of w53, at_of rfl w54, rw6, _, _, _, rfl, rfl, SqT.of w63, at_of rfl w64, _, rfl, _, rfl, _, rfl, p, _, _, _, rfl, rfl, SqT.of w71, at_of rfl w72, _, rfl, rw7, _, _, _, rfl, rfl, SqT.of w73, at_of rfl w74, p, _, _, _, rfl, rfl, SqT.of w81, at_of rfl w82, _, rfl, rw8, _, _, _, rfl, rfl, SqT.of w83, at_of rfl w84, rfl, _, rfl, ?_⟩
            rw [intEq]
            by_cases e : pf i (pf j l) = pf (pf i j) l
            · rw [decide_eq_true e]
              refine iteF ⟨_, rfl, rfl, fun c h => ?_⟩
              by_cases h' : c < l
              · exact hc c h'
              · rw [show c = l by omega]; exact e
            · rw [decide_eq_false e]
              refine iteT ⟨_, rfl, cs, _, _, _, rfl, rfl, SqL.of (s2 _ _ hcs), at_of (j := 1) rfl rfl, ?_⟩
              have h : ¬ assC n pf := fun z => e (z i hi j hj l hl)
              have := k _ s2
              unfold grpOf at this
              rw [if_pos (show symC n pf from hsym), if_neg h] at this
              exact this
          · rintro σ H4 ⟨vc, rfl, rfl, hc⟩
            refine ⟨_, _, rfl, rfl, fun b h => ?_⟩
            by_cases h' : b < j
            · exact hb b h'
            · rw [show b = j by omega]; exact hc
        · rintro σ H3 ⟨vb, vc, rfl, rfl, hb⟩
          refine ⟨_, _, _, rfl, s2, fun a h => ?_⟩
          by_cases h' : a < i
          · exact ha a h'
          · rw [show a = i by omega]; exact hb
      · rintro σ H2 ⟨va, vb, vc, rfl, s2, hass⟩
        refine any_lc (n := n) (fun j => !decide (pf o j = j)) (by omega) (fun j H3 Kt hj s3 kt => ?_) (fun H3 r s3 hr => ?_)
        · have hp2 : TT H3 p n (fun i j => (pf i j : Int)) := hp.same fun c xs e => s3 _ _ (s2 _ _ e)
          obtain ⟨r1, rows1, a1, a2, cells1, a3, a4⟩ := tt_at hp2 ho hj
          refine ⟨_, rfl, _, rfl, p, _, _, _, rfl, rfl, SqT.of a1, at_of rfl a2, _, rfl, r1, _, _, _, rfl, rfl, SqT.of a3, at_of rfl a4, _, rfl, rfl, ?_⟩
          rw [intEq]
          exact kt _ (Same.refl _)
        · refine ⟨_, rfl, ?_⟩
          have k' := k _ (fun b o e => s3 b o (s2 b o e))
          unfold grpOf at k'
          rw [if_pos (show symC n pf from hsym), if_pos (show assC n pf from hass)] at k'
          cases r with
          | true =>
            obtain ⟨j, hj, hx⟩ := hr.mp rfl
            refine iteT ⟨_, rfl, cs, _, _, _, rfl, rfl, SqL.of (s3 _ _ (s2 _ _ hcs)), at_of (j := 2) rfl rfl, ?_⟩
            have h : ¬ neuC n pf o := fun z => of_decide_eq_false (by simpa using hx) (z j hj)
            rw [if_neg h] at k'
            exact k'
          | false =>
            refine iteF (go_next ?_)
            have h : neuC n pf o := fun a ha => by
              by_cases e : pf o a = a
              · exact e
              · exact Bool.noConfusion (hr.mpr ⟨a, ha, by simp [e]⟩)
            rw [if_pos h] at k'
            exact k'
end
end K05

set_option Elab.async false
set_option linter.all false
set_option maxRecDepth 100000
set_option maxHeartbeats 4000000
namespace K05
open PySem L2 Ew Tb SRm GxR
local macro_rules | `(tactic| walk_at "len") => `(tactic| first | (intro h; obtain ⟨_, e, _⟩ := h; rw [e]; rfl) | (intro h; obtain ⟨_, _, e, _⟩ := h; rw [e]; rfl) | (intro h; obtain ⟨_, _, _, e, _⟩ := h; rw [e]; rfl) | (intro h; obtain ⟨_, _, _, _, e, _⟩ := h; rw [e]; rfl) | (intro h; obtain ⟨_, _, _, _, _, e, _⟩ := h; rw [e]; rfl) | (intro h; obtain ⟨_, _, _, _, _, _, e, _⟩ := h; rw [e]; rfl) | (intro h; obtain ⟨_, _, _, _, _, _, _, e, _⟩ := h; rw [e]; rfl) | (intro h; obtain ⟨_, _, _, _, _, _, _, _, e, _⟩ := h; rw [e]; rfl) | (intro h; obtain ⟨_, _, _, _, _, _, _, _, _, e, _⟩ := h; rw [e]; rfl) | (intro h; exact h.elim))
section
variable {P : Program} {w : World} {K : PySem.W.Frag} {mg : Str → Option Value} {base : Heap} {ad : Ad}
def codeL : Option Str → Str
  | none => ""
  | some c => c
open Classical in
noncomputable def c3Of (n : Nat) (f g : Nat → Nat → Nat) (o : Nat) : Str :=
  if grpOf n f 0 "plus-order" "plus-group" "zero" = "" then (if grpOf n g o "times-order" "times-group" "one" = "" then (if empC n g then "" else "empty") else grpOf n g o "times-order" "times-group" "one") else grpOf n f 0 "plus-order" "plus-group" "zero"
theorem str_ne : ("plus-order" : Str) ≠ "" ∧ ("plus-group" : Str) ≠ "" ∧ ("zero" : Str) ≠ "" ∧ ("times-order" : Str) ≠ "" ∧ ("times-group" : Str) ≠ "" ∧ ("one" : Str) ≠ "" ∧ ("empty" : Str) ≠ "" := by decide +kernel
theorem code_c3 {A B : List (List Int)} {o : Int} {st : Option (List (Option Int))} (h1 : sizC A B st) (h2 : rngC A.length A B o st) :
    (c3Of A.length (fnN A) (fnN B) o.toNat ≠ "" → codeL (codeOf A B o st) = c3Of A.length (fnN A) (fnN B) o.toNat) ∧
    (c3Of A.length (fnN A) (fnN B) o.toNat = "" → (disC A.length (fnN A) (fnN B) → staO (fnN A) (fnN B) o.toNat st → codeL (codeOf A B o st) = "") ∧ (disC A.length (fnN A) (fnN B) → ¬ staO (fnN A) (fnN B) o.toNat st → codeL (codeOf A B o st) = "star") ∧ (¬ disC A.length (fnN A) (fnN B) → codeL (codeOf A B o st) = "spread")) := by
  obtain ⟨n1, n2, n3, n4, n5, n6, n7⟩ := str_ne
  unfold c3Of grpOf codeOf
  rw [if_pos h1, if_pos h2]
  by_cases h3 : symC A.length (fnN A)
  · rw [if_pos h3, if_pos h3]
    by_cases h4 : assC A.length (fnN A)
    · rw [if_pos h4, if_pos h4]
      by_cases h5 : neuC A.length (fnN A) 0
      · rw [if_pos h5, if_pos h5, if_pos rfl]
        by_cases h6 : symC A.length (fnN B)
        · rw [if_pos h6, if_pos h6]
          by_cases h7 : assC A.length (fnN B)
          · rw [if_pos h7, if_pos h7]
            by_cases h8 : neuC A.length (fnN B) o.toNat
            · rw [if_pos h8, if_pos h8, if_pos rfl]
              by_cases h9 : empC A.length (fnN B)
              · rw [if_pos h9, if_pos h9]
                refine ⟨fun z => absurd rfl z, fun _ => ⟨fun h10 h11 => by rw [if_pos h10, if_pos h11]; rfl, fun h10 h11 => by rw [if_pos h10, if_neg h11]; rfl, fun h10 => by rw [if_neg h10]; rfl⟩⟩
              · rw [if_neg h9, if_neg h9]; exact ⟨fun _ => rfl, fun z => absurd z n7⟩
            · rw [if_neg h8, if_neg h8, if_neg n6]; exact ⟨fun _ => rfl, fun z => absurd z n6⟩
          · rw [if_neg h7, if_neg h7, if_neg n5]; exact ⟨fun _ => rfl, fun z => absurd z n5⟩
        · rw [if_neg h6, if_neg h6, if_neg n4]; exact ⟨fun _ => rfl, fun z => absurd z n4⟩
      · rw [if_neg h5, if_neg h5, if_neg n3]; exact ⟨fun _ => rfl, fun z => absurd z n3⟩
    · rw [if_neg h4, if_neg h4, if_neg n2]; exact ⟨fun _ => rfl, fun z => absurd z n2⟩
  · rw [if_neg h3, if_neg h3, if_neg n1]; exact ⟨fun _ => rfl, fun z => absurd z n1⟩
theorem go_c {v : V} {σ : L2.St} {H : Hp} {Q : VK} (h : Q v H) : tC v σ H Q := h
theorem strEq {a b : Str} : decide (V.str a = V.str b) = decide (a = b) := by
  by_cases h : a = b
  · rw [h]; simp
  · rw [decide_eq_false h]
    exact decide_eq_false fun z => h (by injection z)
abbrev Sg (t p m : Addr) (o : Int) (us : V) (n : Nat) (e r cd a b c : Option V) : L2.St := [some (.ref t), some (.ref p), some (.ref m), some (.int o), some us, some (.int (n : Int)), e, r, cd, a, b, c, none]
def spCode : Sp := fun vs H Q _ => ∃ (t : Addr) (A B : List (List Int)) (o : Int) (st : Option (List (Option Int))), vs = [.ref t] ∧ RingG H t A B o st ∧ A.length ≤ 40 ∧ B.length ≤ 40 ∧ ∀ H' c, Same H H' → c = codeL (codeOf A B o st) → Q (.str c) H'
theorem ok_law_code (c_law_group : CalX P w K mg base 1 "_law_group" spGrp) {f : Addr} {fd : FuncData} (F : Fun K "_law_code" "_law_code" s_law_code f fd) (T : Txt K mg ad) : FnOk P w K mg base (L2.CX P w) 2 f fd ["ring"] (spCode) := by
  refine F.okX sc_law_code (fun vs H Q E => ?_) (fun cdv A outer s H vs Q E hr h => ?_)
  · walk_at "len"
  ·
    obtain ⟨t, A, B, o, st, rfl, ⟨p, m, us, ht, hp, hm, hu⟩, hA, hB, k⟩ := h
    refine ⟨_, (pss_cons (ps_asg (pv 0) (pg_tup rfl (pgs_cons (pg_name (i := 1) sc_law_code.nd rfl (by first | exact Or.inl rfl | exact Or.inr rfl)) (pgs_cons (pg_name (i := 2) sc_law_code.nd rfl (by first | exact Or.inl rfl | exact Or.inr rfl)) (pgs_cons (pg_name (i := 3) sc_law_code.nd rfl (by first | exact Or.inl rfl | exact Or.inr rfl)) (pgs_cons (pg_name (i := 4) sc_law_code.nd rfl (by first | exact Or.inl rfl | exact Or.inr rfl)) pgs_nil))))))
      (pss_cons (ps_set (i := 5) sc_law_code.nd rfl (by first | exact Or.inl rfl | exact Or.inr rfl) (pe_callB call_len (by rfl) T.z_len (by decide +kernel) (pa_cons (pv 1) pa_nil)))
      (C8.pss_cut (ps_if (PW.pt (pw_or (pt_cmpR op_lt (pv 5) pe_int (nomark _)) (pw_or (pt_cmpR op_gt (pv 5) pe_int (nomark _)) (pw_or (pt_cmpR op_ne (pe_callB call_len (by rfl) T.z_len (by decide +kernel) (pa_cons (pv 2) pa_nil)) (pv 5) (nomark _)) (pw_or1 (PW.pt (pw_and (pt_cmpR op_notN (pv 4) pe_non (nomark _)) (pw_and1 (pt_cmpR op_ne (pe_callB call_len (by rfl) T.z_len (by decide +kernel) (pa_cons (pv 4) pa_nil)) (pv 5) (nomark _)))))))))) (pss_one (ps_ret pe_str)) pss_nil)
      (C8.pss_cut (ps_if (pt_val (pe_callB (cr_any rfl) (by rfl) T.z_any (by decide +kernel) (pa_cons (pe_lc (own := [("row", 7)]) (tt := tYes) rfl sc_law_code.nd (pi_tup (pe_op op_catT (pv 1) (pv 2))) (blkOk_by (by kernel_rfl)) (fun _ _ _ _ _ => (pg_name (i := 7) sc_law_code.nd rfl (by first | exact Or.inl rfl | exact Or.inr rfl))) (fun _ _ _ _ _ => pts_nil) (fun _ _ _ _ _ => (pe_cmpR op_ne (pe_callB (kcall_len (K := K)) (by rfl) T.z_len (by decide +kernel) (pa_cons (pv 7) pa_nil)) (pv 5) (nomark _)))) pa_nil))) (pss_one (ps_ret pe_str)) pss_nil)
      (pss_cons (ps_set (i := 6) sc_law_code.nd rfl (by first | exact Or.inl rfl | exact Or.inr rfl) (pe_lst (pa_cons (pv 3) pa_nil)))
      (C8.pss_cut (ps_for (passes_of rfl) rfl (pi_tup (pe_op op_catT (pv 1) (pv 2))) (pg_name (i := 7) sc_law_code.nd rfl (by first | exact Or.inl rfl | exact Or.inr rfl)) (pss_one (ps_set (i := 6) sc_law_code.nd rfl (by first | exact Or.inl rfl | exact Or.inr rfl) (pe_op op_cat (pv 6) (pe_callTy call_list_of (by rfl) T.z_list (by decide +kernel) (pa_cons (pv 7) pa_nil))))))
      (C8.pss_cut (ps_if (pt_cmpR op_notN (pv 4) pe_non (nomark _)) (pss_one (ps_set (i := 6) sc_law_code.nd rfl (by first | exact Or.inl rfl | exact Or.inr rfl) (pe_op op_cat (pv 6) (pe_lc (own := [("entry", 12)]) rfl sc_law_code.nd (pi_tup (pv 4)) (blkOk_by (by kernel_rfl)) (fun _ _ _ _ _ => (pg_name (i := 12) sc_law_code.nd rfl (by first | exact Or.inl rfl | exact Or.inr rfl))) (fun _ _ _ _ _ => (pts_one (pt_cmpR op_notN (pv 12) pe_non (nomark _)))) (fun _ _ _ _ _ => (pv 12)))))) pss_nil)
      (C8.pss_cut (ps_if (pt_val (pe_callB (cr_any rfl) (by rfl) T.z_any (by decide +kernel) (pa_cons (pe_lc (own := [("entry", 12)]) (tt := tYes) rfl sc_law_code.nd (pi_list (pv 6)) (blkOk_by (by kernel_rfl)) (fun _ _ _ _ _ => (pg_name (i := 12) sc_law_code.nd rfl (by first | exact Or.inl rfl | exact Or.inr rfl))) (fun _ _ _ _ _ => pts_nil) (fun _ _ _ _ _ => (pe_or (pe_cmpR op_lt (pv 12) pe_int (nomark _)) (pe_one (pe_cmpR op_ge (pv 12) (pv 5) (nomark _)))))) pa_nil))) (pss_one (ps_ret pe_str)) pss_nil)
      (pss_cons (ps_set (i := 8) sc_law_code.nd rfl (by first | exact Or.inl rfl | exact Or.inr rfl) (pc_call c_law_group hr (by first | decide | omega) (takes_of rfl rfl rfl rfl) (by rfl) (pa_cons (pv 1) (pa_cons pe_int (pa_cons (pe_lst (pa_cons pe_str (pa_cons pe_str (pa_cons pe_str pa_nil)))) pa_nil)))))
      (C8.pss_cut (ps_if (pt_cmpR op_eq (pv 8) pe_str (nomark _)) (pss_one (ps_set (i := 8) sc_law_code.nd rfl (by first | exact Or.inl rfl | exact Or.inr rfl) (pc_call c_law_group hr (by first | decide | omega) (takes_of rfl rfl rfl rfl) (by rfl) (pa_cons (pv 2) (pa_cons (pv 3) (pa_cons (pe_lst (pa_cons pe_str (pa_cons pe_str (pa_cons pe_str pa_nil)))) pa_nil)))))) pss_nil)
      (C8.pss_cut (ps_if (PW.pt (pw_and (pt_cmpR op_eq (pv 8) pe_str (nomark _)) (pw_and1 (pt_val (pe_callB (cr_any rfl) (by rfl) T.z_any (by decide +kernel) (pa_cons (pe_lc (own := [("a", 9)]) (tt := tYes) rfl sc_law_code.nd (pi_range1 (by rfl) T.z_range (pa_cons (pv 5) pa_nil)) (blkOk_by (by kernel_rfl)) (fun _ _ _ _ _ => (pg_name (i := 9) sc_law_code.nd rfl (by first | exact Or.inl rfl | exact Or.inr rfl))) (fun _ _ _ _ _ => pts_nil) (fun _ _ _ _ _ => (pe_cmpR op_ne (pe_ix (kix_tup (K := K)) (pe_ix (kix_tup (K := K)) (pv 2) pe_int (fun _ _ => rfl)) (pv 9) (fun _ _ => rfl)) pe_int (nomark _)))) pa_nil)))))) (pss_one (ps_set (i := 8) sc_law_code.nd rfl (by first | exact Or.inl rfl | exact Or.inr rfl) pe_str)) pss_nil)
      (C8.pss_cut (ps_if (pt_cmpR op_eq (pv 8) pe_str (nomark _)) (pss_one (ps_for (passes_of rfl) rfl (pi_range1 (by rfl) T.z_range (pa_cons (pv 5) pa_nil)) (pg_name (i := 9) sc_law_code.nd rfl (by first | exact Or.inl rfl | exact Or.inr rfl)) (pss_one (ps_for (passes_of rfl) rfl (pi_range1 (by rfl) T.z_range (pa_cons (pv 5) pa_nil)) (pg_name (i := 10) sc_law_code.nd rfl (by first | exact Or.inl rfl | exact Or.inr rfl)) (pss_one (ps_for (passes_of rfl) rfl (pi_range1 (by rfl) T.z_range (pa_cons (pv 5) pa_nil)) (pg_name (i := 11) sc_law_code.nd rfl (by first | exact Or.inl rfl | exact Or.inr rfl)) (pss_one (ps_if (pt_cmpR op_ne (pe_ix ix_tup (pe_ix ix_tup (pv 2) (pv 9) (fun _ _ => rfl)) (pe_ix ix_tup (pe_ix ix_tup (pv 1) (pv 10) (fun _ _ => rfl)) (pv 11) (fun _ _ => rfl)) (fun _ _ => rfl)) (pe_ix ix_tup (pe_ix ix_tup (pv 1) (pe_ix ix_tup (pe_ix ix_tup (pv 2) (pv 9) (fun _ _ => rfl)) (pv 10) (fun _ _ => rfl)) (fun _ _ => rfl)) (pe_ix ix_tup (pe_ix ix_tup (pv 2) (pv 9) (fun _ _ => rfl)) (pv 11) (fun _ _ => rfl)) (fun _ _ => rfl)) (nomark _)) (pss_one (ps_ret pe_str)) pss_nil)))))))) pss_nil)
      (pss_cons (ps_if (PW.pt (pw_and (pt_cmpR op_eq (pv 8) pe_str (nomark _)) (pw_and1 (pt_cmpR op_notN (pv 4) pe_non (nomark _))))) (pss_one (ps_if (pt_val (pe_callB (cr_any rfl) (by rfl) T.z_any (by decide +kernel) (pa_cons (pe_lc (own := [("a", 9)]) (tt := tYes) rfl sc_law_code.nd (pi_range1 (by rfl) T.z_range (pa_cons (pv 5) pa_nil)) (blkOk_by (by kernel_rfl)) (fun _ _ _ _ _ => (pg_name (i := 9) sc_law_code.nd rfl (by first | exact Or.inl rfl | exact Or.inr rfl))) (fun _ _ _ _ _ => pts_nil) (fun _ _ _ _ _ => (pe_and (pe_cmpR op_notN (pe_ix (kix_tup (K := K)) (pv 4) (pv 9) (fun _ _ => rfl)) pe_non (nomark _)) (pe_one (pe_cmpR op_ne (pe_ix (kix_tup (K := K)) (pe_ix (kix_tup (K := K)) (pv 1) (pv 3) (fun _ _ => rfl)) (pe_ix (kix_tup (K := K)) (pe_ix (kix_tup (K := K)) (pv 2) (pv 9) (fun _ _ => rfl)) (pe_ix (kix_tup (K := K)) (pv 4) (pv 9) (fun _ _ => rfl)) (fun _ _ => rfl)) (fun _ _ => rfl)) (pe_ix (kix_tup (K := K)) (pv 4) (pv 9) (fun _ _ => rfl)) (nomark _)))))) pa_nil))) (pss_one (ps_ret pe_str)) pss_nil)) pss_nil)
      (pss_one (ps_ret (pv 8)))))))))))))))), ?_⟩
    obtain ⟨rp, ep, lp⟩ := hp.len
    obtain ⟨rm, em, lm⟩ := hm.len
    refine ⟨_, rfl, t, _, rfl, SqT.of ht, rfl, _, _, rfl, _, _, rfl, _, _, rfl, _, _, rfl, rfl, ?_⟩
    refine go_nx (go_seq ⟨_, rfl, .ref p, _, rfl, .inr ⟨_, SqT.of ep, rfl⟩, ?_⟩)
    rw [lp]
    refine go_name rfl ?_
    have no : ¬ sizC A B st → Q (.str "size") H := fun h => k _ _ (Same.refl _) (by unfold codeOf; rw [if_neg h]; rfl)
    refine ⟨fun σ H' => σ = Sg t p m o us A.length none none none none none none ∧ H' = H ∧ 1 ≤ A.length ∧ A.length ≤ 32 ∧ B.length = A.length ∧ ∀ l, st = some l → l.length = A.length, ?_, ?_⟩
    · refine ⟨_, rfl, _, _, rfl, rfl, _, rfl, ?_⟩
      by_cases h1 : 1 ≤ A.length
      · rw [decide_eq_false (show ¬ (A.length : Int) < 1 by omega)]
        refine iteF ⟨_, rfl, _, _, rfl, rfl, _, rfl, ?_⟩
        by_cases h2 : A.length ≤ 32
        · rw [decide_eq_false (show ¬ (32 : Int) < (A.length : Int) by omega)]
          refine iteF ⟨_, rfl, .ref m, _, rfl, .inr ⟨_, SqT.of em, rfl⟩, _, rfl, rfl, _, rfl, ?_⟩
          rw [lm, intEq]
          by_cases h3 : B.length = A.length
          · rw [decide_eq_true h3]
            refine iteF ?_
            rcases hu with ⟨e1, e2⟩ | ⟨u, l, e1, e2, e3⟩
            · subst e2
              refine ⟨_, rfl, rfl, _, rfl, iteF (iteF (go_next ⟨rfl, rfl, h1, h2, h3, fun l z => by rw [e1] at z; cases z⟩))⟩
            · subst e2
              refine ⟨_, rfl, rfl, _, rfl, iteT ⟨_, rfl, .ref u, _, rfl, .inr ⟨_, SqT.of e3, rfl⟩, _, rfl, rfl, _, rfl, ?_⟩⟩
              rw [List.length_map, intEq]
              by_cases h4 : l.length = A.length
              · rw [decide_eq_true h4]
                exact iteF (go_next ⟨rfl, rfl, h1, h2, h3, fun l' z => by rw [e1] at z; cases z; exact h4⟩)
              · rw [decide_eq_false h4]
                exact iteT (no fun z => h4 (z.2.2.2.1 l e1))
          · rw [decide_eq_false h3]
            exact iteT (no fun z => h3 z.2.2.1)
        · rw [decide_eq_true (show (32 : Int) < (A.length : Int) by omega)]
          exact iteT (no fun z => h2 z.2.1)
      · rw [decide_eq_true (show (A.length : Int) < 1 by omega)]
        exact iteT (no fun z => h1 z.1)
    rintro σ H0 ⟨rfl, rfl, h1, h2, h3, h4⟩
    -- any row of another length
    have hlen : (rp ++ rm).length = (A ++ B).length := by rw [List.length_append, List.length_append, lp, lm]
    have hll : (rp ++ rm).length ≤ 64 := by rw [List.length_append]; omega
    have cat : ∀ {H' : Hp} {Q' : VK}, Same H0 H' → (∀ x H2, Same H' H2 → H2 x = some (.tup (rp ++ rm)) → Q' (.ref x) H2) → rCatT K (.ref p) (.ref m) H' Q' := fun s q =>
      ⟨p, m, rp, rm, rfl, rfl, SqT.of (s _ _ ep), SqT.of (s _ _ em), (fun z => by rw [z] at lp; simp at lp; omega), Nat.le_trans (by omega : rp.length + rm.length ≤ 64) (by decide), (fun z => absurd z (fun z => by rw [z] at lm; simp at lm; omega)), fun _ x hx => q x _ (same_new (Same.refl _) hx) upd_same⟩
    have hq : ∀ {x : Addr} {H2 : Hp}, Same H0 H2 → H2 x = some (.tup (rp ++ rm)) → RR H2 x (A ++ B) := fun s e => RR.app (hp.same fun c xs e => s _ _ e) (hm.same fun c xs e => s _ _ e) (s _ _ ep) (s _ _ em) e
    refine ⟨fun σ H' => σ = Sg t p m o us A.length none none none none none none ∧ Same H0 H' ∧ sizC A B st, ?_, ?_⟩
    · refine ⟨_, rfl, _, rfl, cat (Same.refl _) fun x H2 s2 hx => ⟨x, rfl, ⟨_, SqT.of hx⟩, fun D hD => ?_⟩⟩
      refine lc_tupR (K := K) (L := x) (xs := rp ++ rm) (fun i v H' => v = .bl (!decide (((A ++ B).getD i []).length = A.length))) hD (SqT.of hx) (fun H' s => SqT.of (s _ _ hx)) (fun i v H H' _ h => h) (by omega) (fun _ => rfl) (fun i v H' acc Kt hv s e kt => ?_) (fun H' rows s e l h => ?_)
      · obtain ⟨r, row, rfl, e4, e5⟩ := (hq s2 hx).at hx hv
        refine ⟨_, rfl, .ref r, _, rfl, .inr ⟨_, SqT.of (s _ _ e5), rfl⟩, _, rfl, rfl, kt _ _ (Same.refl _) ?_⟩
        rw [List.length_map, intEq, List.getD_eq_getElem?_getD, e4]
        rfl
      · rw [ext_of l h] at e
        refine ⟨D, (List.range (rp ++ rm).length).map (fun i => !decide (((A ++ B).getD i []).length = A.length)), rfl, SqL.of (by rw [List.map_map]; exact e), _, rfl, ?_⟩
        rcases hany : ((List.range (rp ++ rm).length).map (fun i => !decide (((A ++ B).getD i []).length = A.length))).any id with _ | _
        · refine iteF (go_next ⟨rfl, fun b o' z => s b o' (s2 b o' z), h1, h2, h3, h4, fun row hr => ?_⟩)
          obtain ⟨i, hi, ei⟩ := List.getElem_of_mem hr
          by_cases z : row.length = A.length
          · exact z
          · have := (any_map (b := fun i => !decide (((A ++ B).getD i []).length = A.length))).mpr ⟨i, (by omega : i < (rp ++ rm).length), show (!decide (((A ++ B).getD i []).length = A.length)) = true by rw [List.getD_eq_getElem?_getD, List.getElem?_eq_getElem hi, ei]; simpa using z⟩
            rw [hany] at this
            cases this
        · obtain ⟨i, hi, hx⟩ := any_map.mp hany
          refine iteT (k _ _ (fun b o' z => s b o' (s2 b o' z)) ?_)
          have h : ¬ sizC A B st := fun z => by
            have hi' : i < (A ++ B).length := by omega
            have z2 := z.2.2.2.2 _ (List.getElem_mem hi')
            rw [List.getD_eq_getElem?_getD, List.getElem?_eq_getElem hi'] at hx
            simp at hx
            exact hx z2
          unfold codeOf
          rw [if_neg h]
          rfl
    rintro σ H1 ⟨rfl, s1, sz⟩
    -- the entries
    refine go_seq (go_lst (go_cons ⟨_, rfl, by (show 1 ≤ sizeLine); decide, fun e0 he0 => go_name rfl ?_⟩))
    have sE : Same H1 (upd H1 e0 (.lst [V.int o])) := same_new (Same.refl _) he0
    refine ⟨fun σ H' => ∃ e r, σ = Sg t p m o us A.length (some (.ref e)) r none none none none ∧ Same H0 H' ∧ H' e = some (.lst ((o :: (A ++ B).flatten).map V.int)), ?_, ?_⟩
    · refine ⟨_, rfl, _, rfl, cat (fun b o' z => sE b o' (s1 b o' z)) fun x H2 s2 hx => ⟨x, rfl, ⟨_, SqT.of hx⟩, ?_⟩⟩
      have s02 : Same H0 H2 := fun b o' z => s2 b o' (sE b o' (s1 b o' z))
      refine for_tup (K := K) (xs := rp ++ rm) (fun i σ H' => ∃ e r, σ = Sg t p m o us A.length (some (.ref e)) r none none none none ∧ Same H2 H' ∧ H' e = some (.lst ((o :: ((A ++ B).take i).flatten).map V.int)) ∧ (((A ++ B).take i).flatten).length ≤ i * 32)
        ⟨e0, none, rfl, Same.refl _, s2 _ _ upd_same, Nat.zero_le _⟩ (fun i σ H' hi ⟨e, r, _, s3, _⟩ => SqT.of (s3 _ _ hx)) ?_ ?_
      · rintro i v σ H3 hv ⟨e, r, rfl, s3, e3, l3⟩
        have hi : i < (rp ++ rm).length := by
          rcases Nat.lt_or_ge i (rp ++ rm).length with h | h
          · exact h
          · rw [List.getElem?_eq_none h] at hv; cases hv
        obtain ⟨ra, row, rfl, hrow, hr⟩ := (hq (x := x) (H2 := H3) (fun b o' z => s3 b o' (s02 b o' z)) (s3 _ _ hx)).at (s3 _ _ hx) hv
        have hrl : row.length = A.length := sz.2.2.2.2 row (List.mem_of_getElem? hrow)
        refine go_name rfl ?_
        refine ⟨_, rfl, _, rfl, ra, _, rfl, .inr (SqT.of hr), fun l hl => ?_⟩
        have sl : Same H3 (upd H3 l (.lst (row.map V.int))) := same_new (Same.refl _) hl
        refine ⟨e, l, _, _, rfl, rfl, sl _ _ e3, upd_same, ?_, fun y hy => go_name rfl ?_⟩
        · rw [List.length_map, List.length_map, List.length_cons]
          exact Nat.le_trans (by omega : _ ≤ 4096) (by decide)
        have sy := same_new (o := .lst ((o :: ((A ++ B).take i).flatten).map V.int ++ row.map V.int)) (Same.refl _) hy
        refine ⟨y, _, rfl, fun b o' z => sy b o' (sl b o' (s3 b o' z)), ?_, ?_⟩
        · rw [upd_same, flat_succ hrow, ← List.map_append]
          rfl
        · rw [flat_succ hrow, List.length_append, Nat.succ_mul]
          omega
      · rintro σ H3 ⟨e, r, rfl, s3, e3, l3⟩
        rw [hlen, List.take_length] at e3
        exact ⟨e, r, rfl, fun b o' z => s3 b o' (s02 b o' z), e3⟩
    rintro σ H2 ⟨e, r, rfl, s2, e2⟩
    have lfl : ((A ++ B).flatten).length ≤ 4096 := by
      have key : ∀ (L : List (List Int)), (∀ row, row ∈ L → row.length = A.length) → L.flatten.length = L.length * A.length := fun L => by
        induction L with
        | nil => intro _; simp
        | cons a l ih => intro h; rw [List.flatten_cons, List.length_append, ih fun row hr => h row (List.mem_cons_of_mem _ hr), h a List.mem_cons_self, List.length_cons, Nat.succ_mul]; omega
      rw [key _ sz.2.2.2.2]
      have q1 : (A ++ B).length ≤ 64 := by omega
      exact Nat.le_trans (Nat.mul_le_mul q1 h2) (by decide)
    -- the stars
    refine ⟨fun σ H' => ∃ (e : Addr) (r : Option V) (L : List Int), σ = Sg t p m o us A.length (some (.ref e)) r none none none none ∧ Same H0 H' ∧ H' e = some (.lst (L.map V.int)) ∧ L.length ≤ 8192 ∧ ∀ x, x ∈ L ↔ x = o ∨ (∃ row, row ∈ A ++ B ∧ x ∈ row) ∨ ∃ l, st = some l ∧ some x ∈ l, ?_, ?_⟩
    · rcases hu with ⟨es, eu⟩ | ⟨u0, l0, es, eu, hu⟩
      · subst eu
        refine ⟨_, rfl, rfl, _, rfl, iteF (go_next ⟨e, r, _, rfl, s2, e2, by rw [List.length_cons]; omega, fun x => ?_⟩)⟩
        rw [List.mem_cons, List.mem_flatten]
        refine or_congr Iff.rfl ⟨fun h => .inl h, fun h => h.elim id fun ⟨l, h, _⟩ => by rw [es] at h; cases h⟩
      · subst eu
        have hu2 := s2 _ _ hu
        have hl0 := h4 l0 es
        refine ⟨_, rfl, rfl, _, rfl, iteT ⟨_, rfl, _, rfl, u0, rfl, ⟨_, SqT.of hu2⟩, fun D2 hD2 => ?_⟩⟩
        refine lc_tup (K := K) (xs := l0.map stI) (fun j H' => Same H2 H' ∧ H' D2 = some (.lst (((l0.take j).filterMap id).map V.int))) ⟨same_new (Same.refl _) hD2, upd_same⟩ (fun j H' _ ⟨s', _⟩ => SqT.of (s' _ _ hu2)) (fun j v H' hv ⟨s', z1⟩ => ?_) (fun H' ⟨s', z1⟩ => ?_)
        · refine ⟨rfl, _, rfl, rfl, _, rfl, ?_⟩
          rw [List.getElem?_map] at hv
          rcases hs : l0[j]? with _ | s
          · rw [hs] at hv; cases hv
          · rw [hs] at hv
            have hv' : stI s = v := Option.some.inj hv
            subst hv'
            cases s with
            | none =>
              refine iteF ⟨s', ?_⟩
              rw [z1, take_snoc hs, List.filterMap_append]
              simp
            | some s =>
              refine iteT ⟨_, rfl, _, z1, ?_, same_but hD2 s' but_app, ?_⟩
              · rw [List.length_map]
                have q1 := List.length_filterMap_le id (l0.take j)
                have q2 : (l0.take j).length ≤ l0.length := by rw [List.length_take]; omega
                exact Nat.lt_of_le_of_lt (by omega : _ ≤ 32) (by decide)
              · rw [upd_same, take_snoc hs, List.filterMap_append, List.map_append]
                rfl
        · rw [List.length_map, List.take_length] at z1
          have q1 := List.length_filterMap_le id l0
          refine ⟨e, D2, _, _, rfl, rfl, s' _ _ e2, z1, ?_, fun y hy => go_name rfl ?_⟩
          · rw [List.length_map, List.length_map, List.length_cons]
            exact Nat.le_trans (by omega : _ ≤ 8192) (by decide)
          have sy := same_new (o := .lst ((o :: (A ++ B).flatten).map V.int ++ (l0.filterMap id).map V.int)) (Same.refl _) hy
          refine ⟨y, r, (o :: (A ++ B).flatten) ++ l0.filterMap id, rfl, fun b o' z => sy b o' (s' b o' (s2 b o' z)), by rw [upd_same, List.map_append], by rw [List.length_append, List.length_cons]; omega, fun x => ?_⟩
          rw [List.mem_append, List.mem_cons, List.mem_flatten, List.mem_filterMap, or_assoc]
          refine or_congr Iff.rfl (or_congr Iff.rfl ?_)
          constructor
          · rintro ⟨a, ha, hx⟩
            have hx' : a = some x := hx
            subst hx'
            exact ⟨l0, es, ha⟩
          · rintro ⟨l, h, hx⟩
            rw [es] at h
            cases h
            exact ⟨some x, hx, rfl⟩
    rintro σ H3 ⟨e, r, L, rfl, s3, e3, hL, hmem⟩
    -- any entry out of range
    refine ⟨fun σ H' => ∃ e r, σ = Sg t p m o us A.length (some (.ref e)) r none none none none ∧ Same H0 H' ∧ rngC A.length A B o st, ?_, ?_⟩
    · refine ⟨_, rfl, e, rfl, ⟨_, SqL.of e3⟩, fun D hD => ?_⟩
      refine lc_lst (K := K) (L := e) (xs := L.map V.int) (fun i v H' => v = .bl (!decide (inR A.length (L.getD i 0)))) hD (SqL.of e3) (fun H' s => SqL.of (s _ _ e3)) (fun i v H H' _ h => h) (by rw [List.length_map]; omega) (fun _ => rfl) (fun i v H' acc Kt hv s _ kt => ?_) (fun H' rows s e' l h => ?_)
      · rw [List.getElem?_map] at hv
        rcases hx : L[i]? with _ | x
        · rw [hx] at hv; cases hv
        rw [hx] at hv
        have hv' : V.int x = v := Option.some.inj hv
        subst hv'
        have kt' := fun b (hb : b = !decide (inR A.length x)) => kt (.bl b) H' (Same.refl _) (by rw [List.getD_eq_getElem?_getD, hx, hb]; rfl)
        refine ⟨_, rfl, _, _, rfl, rfl, ?_⟩
        by_cases g1 : x < 0
        · refine ⟨true, by show V.bl (decide (x < 0)) = _; rw [decide_eq_true g1], iteT ?_⟩
          exact kt' true (by rw [decide_eq_false fun z => by have := z.1; omega]; rfl)
        · refine ⟨false, by show V.bl (decide (x < 0)) = _; rw [decide_eq_false g1], iteF ⟨_, rfl, _, rfl, _, _, rfl, rfl, ?_⟩⟩
          refine kt' _ ?_
          by_cases g2 : (A.length : Int) ≤ x
          · rw [decide_eq_true g2, decide_eq_false fun z => by have := z.2; omega]; rfl
          · rw [decide_eq_false g2, decide_eq_true (⟨by omega, by omega⟩ : inR A.length x)]; rfl
      · rw [ext_of l h, List.length_map] at e'
        refine ⟨D, (List.range L.length).map (fun i => !decide (inR A.length (L.getD i 0))), rfl, SqL.of (by rw [List.map_map]; exact e'), _, rfl, ?_⟩
        have sH : Same H0 H' := fun b o' z => s b o' (s3 b o' z)
        rcases hany : ((List.range L.length).map (fun i => !decide (inR A.length (L.getD i 0)))).any id with _ | _
        · have hall : ∀ x, x ∈ L → inR A.length x := fun x hx => by
            obtain ⟨i, hi, ei⟩ := List.getElem_of_mem hx
            by_cases z : inR A.length x
            · exact z
            · have := (any_map (b := fun i => !decide (inR A.length (L.getD i 0)))).mpr ⟨i, hi, by rw [List.getD_eq_getElem?_getD, List.getElem?_eq_getElem hi, ei]; show (!decide (inR A.length x)) = true; rw [decide_eq_false z]; rfl⟩
              rw [hany] at this
              cases this
          exact iteF (go_next ⟨e, r, rfl, sH, fun row hr x hx => hall x ((hmem x).mpr (.inr (.inl ⟨row, hr, hx⟩))), fun l hl x hx => hall x ((hmem x).mpr (.inr (.inr ⟨l, hl, hx⟩))), hall o ((hmem o).mpr (.inl rfl))⟩)
        · obtain ⟨i, hi, hx⟩ := any_map.mp hany
          refine iteT (k _ _ sH ?_)
          have h : ¬ rngC A.length A B o st := fun z => by
            rw [List.getD_eq_getElem?_getD, List.getElem?_eq_getElem hi] at hx
            have hin : inR A.length L[i] := by
              rcases (hmem _).mp (List.getElem_mem hi) with e | ⟨row, hr, hx⟩ | ⟨l, hl, hx⟩
              · rw [e]; exact z.2.2
              · exact z.1 row hr _ hx
              · exact z.2.1 l hl _ hx
            simp only [Option.getD_some] at hx
            rw [decide_eq_true hin] at hx
            cases hx
          unfold codeOf
          rw [if_pos sz, if_neg h]
          rfl
    rintro σ H4 ⟨e, r, rfl, s4, rg⟩
    obtain ⟨-, -, cA, cB, eo, ho⟩ := rng_tt hp hm sz rg
    have TA := fun {H' : Hp} (s : Same H0 H') => (rng_tt (hp.same (H' := H') fun c xs e => s _ _ e) (hm.same (H' := H') fun c xs e => s _ _ e) sz rg).1
    have TB := fun {H' : Hp} (s : Same H0 H') => (rng_tt (hp.same (H' := H') fun c xs e => s _ _ e) (hm.same (H' := H') fun c xs e => s _ _ e) sz rg).2.1
    obtain ⟨kc1, kc2⟩ := code_c3 sz rg
    refine go_seq ⟨_, rfl, go_cons (go_c (go_cons (go_lst ⟨by (show 3 ≤ sizeLine); decide, fun cs hcs => ?_⟩)))⟩
    have sc : Same H4 (upd H4 cs (.lst [V.str "plus-order", V.str "plus-group", V.str "zero"])) := same_new (Same.refl _) hcs
    refine ⟨p, cs, A.length, 0, fnN A, _, _, _, rfl, TA (fun b o' z => sc b o' (s4 b o' z)), hA, cA, h1, upd_same, fun H5 s5 => go_name rfl ?_⟩
    have s5 : Same H0 H5 := fun b o' z => s5 b o' (sc b o' (s4 b o' z))
    refine ⟨fun σ H' => σ = Sg t p m o us A.length (some (.ref e)) r (some (.str (if grpOf A.length (fnN A) 0 "plus-order" "plus-group" "zero" = "" then grpOf A.length (fnN B) o.toNat "times-order" "times-group" "one" else grpOf A.length (fnN A) 0 "plus-order" "plus-group" "zero"))) none none none ∧ Same H0 H', ?_, ?_⟩
    · refine ⟨_, rfl, rfl, _, rfl, ?_⟩
      rw [strEq]
      by_cases g : grpOf A.length (fnN A) 0 "plus-order" "plus-group" "zero" = ""
      · rw [decide_eq_true g, if_pos g]
        refine iteT ⟨_, rfl, _, rfl, go_cons (go_lst ⟨by (show 3 ≤ sizeLine); decide, fun cs2 hcs2 => ?_⟩)⟩
        have sc2 : Same H5 (upd H5 cs2 (.lst [V.str "times-order", V.str "times-group", V.str "one"])) := same_new (Same.refl _) hcs2
        exact ⟨m, cs2, A.length, o.toNat, fnN B, _, _, _, by rw [← eo], TB (fun b o' z => sc2 b o' (s5 b o' z)), hA, cB, ho, upd_same, fun H6 s6 => go_name rfl ⟨rfl, fun b o' z => s6 b o' (sc2 b o' (s5 b o' z))⟩⟩
      · rw [decide_eq_false g, if_neg g]
        exact iteF (go_next ⟨rfl, s5⟩)
    rintro σ H6 ⟨rfl, s6⟩
    refine ⟨fun σ H' => ∃ a : Option V, σ = Sg t p m o us A.length (some (.ref e)) r (some (.str (c3Of A.length (fnN A) (fnN B) o.toNat))) a none none ∧ Same H0 H', ?_, ?_⟩
    · have hc3a : (if grpOf A.length (fnN A) 0 "plus-order" "plus-group" "zero" = "" then grpOf A.length (fnN B) o.toNat "times-order" "times-group" "one" else grpOf A.length (fnN A) 0 "plus-order" "plus-group" "zero") = "" → (empC A.length (fnN B) → c3Of A.length (fnN A) (fnN B) o.toNat = "") ∧ (¬ empC A.length (fnN B) → c3Of A.length (fnN A) (fnN B) o.toNat = "empty") := fun z => by
        unfold c3Of
        by_cases g : grpOf A.length (fnN A) 0 "plus-order" "plus-group" "zero" = ""
        · rw [if_pos g] at z
          rw [if_pos g, if_pos z]
          exact ⟨fun h => if_pos h, fun h => if_neg h⟩
        · rw [if_neg g] at z
          exact absurd z g
      have hc3b : (if grpOf A.length (fnN A) 0 "plus-order" "plus-group" "zero" = "" then grpOf A.length (fnN B) o.toNat "times-order" "times-group" "one" else grpOf A.length (fnN A) 0 "plus-order" "plus-group" "zero") ≠ "" → c3Of A.length (fnN A) (fnN B) o.toNat = (if grpOf A.length (fnN A) 0 "plus-order" "plus-group" "zero" = "" then grpOf A.length (fnN B) o.toNat "times-order" "times-group" "one" else grpOf A.length (fnN A) 0 "plus-order" "plus-group" "zero") := fun z => by
        unfold c3Of
        by_cases g : grpOf A.length (fnN A) 0 "plus-order" "plus-group" "zero" = ""
        · rw [if_pos g] at z
          rw [if_pos g, if_pos g, if_neg z]
        · rw [if_neg g, if_neg g]
      generalize (if grpOf A.length (fnN A) 0 "plus-order" "plus-group" "zero" = "" then grpOf A.length (fnN B) o.toNat "times-order" "times-group" "one" else grpOf A.length (fnN A) 0 "plus-order" "plus-group" "zero") = c2 at hc3a hc3b
      refine ⟨_, rfl, rfl, _, rfl, ?_⟩
      rw [strEq]
      by_cases g : c2 = ""
      · rw [decide_eq_true g]
        refine iteT ?_
        refine any_lc (n := A.length) (fun j => !decide (fnN B 0 j = 0)) (by omega) (fun j H' Kt hj s' kt => ?_) (fun H' r' s' hr => ?_)
        · obtain ⟨r1, rows1, a1, a2, cells1, a3, a4⟩ := tt_at (TB (H' := H') fun b o' z => s' b o' (s6 b o' z)) h1 hj
          refine ⟨_, rfl, m, _, _, _, rfl, rfl, SqT.of a1, at_of (j := 0) rfl a2, _, rfl, r1, _, _, _, rfl, rfl, SqT.of a3, at_of rfl a4, rfl, ?_⟩
          rw [show decide (V.int ((fnN B 0 j : Nat) : Int) = V.int 0) = decide (fnN B 0 j = 0) from intEq (b := 0)]
          exact kt _ (Same.refl _)
        · refine ⟨_, rfl, ?_⟩
          have sH : Same H0 H' := fun b o' z => s' b o' (s6 b o' z)
          cases r' with
          | true =>
            obtain ⟨j, hj, hx⟩ := hr.mp rfl
            refine iteT (go_c (go_name rfl ?_))
            rw [(hc3a g).2 fun z => of_decide_eq_false (by simpa using hx) (z j hj)]
            exact ⟨_, rfl, sH⟩
          | false =>
            refine iteF (go_next ?_)
            rw [(hc3a g).1 fun a ha => by
              by_cases e : fnN B 0 a = 0
              · exact e
              · exact Bool.noConfusion (hr.mpr ⟨a, ha, by simp [e]⟩), g]
            exact ⟨_, rfl, sH⟩
      · rw [decide_eq_false g]
        refine iteF (iteF (go_next ?_))
        rw [hc3b g]
        exact ⟨_, rfl, s6⟩
    rintro σ H7 ⟨va, rfl, s7⟩
    refine ⟨fun σ H' => ∃ a b c : Option V, σ = Sg t p m o us A.length (some (.ref e)) r (some (.str (c3Of A.length (fnN A) (fnN B) o.toNat))) a b c ∧ Same H0 H' ∧ (c3Of A.length (fnN A) (fnN B) o.toNat = "" → disC A.length (fnN A) (fnN B)), ?_, ?_⟩
    · refine ⟨_, rfl, rfl, _, rfl, ?_⟩
      rw [strEq]
      by_cases g : c3Of A.length (fnN A) (fnN B) o.toNat = ""
      · rw [decide_eq_true g]
        refine iteT ?_
        refine ⟨_, rfl, _, rfl, by omega, by omega, ?_⟩
        rw [Int.toNat_natCast]
        refine for_range (lo := 0) (n := A.length) (fun i σ H' => ∃ va vb vc : Option V, σ = Sg t p m o us A.length (some (.ref e)) r (some (.str (c3Of A.length (fnN A) (fnN B) o.toNat))) va vb vc ∧ H' = H7 ∧ ∀ a, a < i → ∀ b, b < A.length → ∀ c, c < A.length → fnN B a (fnN A b c) = fnN A (fnN B a b) (fnN B a c)) ⟨_, _, _, rfl, rfl, fun a h => absurd h (Nat.not_lt_zero _)⟩ ?_ ?_
        · rintro i σ H8 hi ⟨va, vb, vc, rfl, rfl, ha⟩
          rw [Int.zero_add]
          refine go_name rfl ?_
          refine ⟨_, rfl, _, rfl, by omega, by omega, ?_⟩
          rw [Int.toNat_natCast]
          refine for_range (lo := 0) (n := A.length) (fun j σ H' => ∃ vb vc : Option V, σ = Sg t p m o us A.length (some (.ref e)) r (some (.str (c3Of A.length (fnN A) (fnN B) o.toNat))) (some (.int (i : Int))) vb vc ∧ H' = H8 ∧ ∀ b, b < j → ∀ c, c < A.length → fnN B i (fnN A b c) = fnN A (fnN B i b) (fnN B i c)) ⟨_, _, rfl, rfl, fun b h => absurd h (Nat.not_lt_zero _)⟩ ?_ ?_
          · rintro j σ H9 hj ⟨vb, vc, rfl, rfl, hb⟩
            rw [Int.zero_add]
            refine go_name rfl ?_
            refine ⟨_, rfl, _, rfl, by omega, by omega, ?_⟩
            rw [Int.toNat_natCast]
            refine for_range (lo := 0) (n := A.length) (fun l σ H' => ∃ vc : Option V, σ = Sg t p m o us A.length (some (.ref e)) r (some (.str (c3Of A.length (fnN A) (fnN B) o.toNat))) (some (.int (i : Int))) (some (.int (j : Int))) vc ∧ H' = H9 ∧ ∀ c, c < l → fnN B i (fnN A j c) = fnN A (fnN B i j) (fnN B i c)) ⟨_, rfl, rfl, fun c h => absurd h (Nat.not_lt_zero _)⟩ ?_ ?_
            · rintro l σ H10 hl ⟨vc, rfl, rfl, hc⟩
              rw [Int.zero_add]
              refine go_name rfl ?_
              obtain ⟨rw13, rww13, w131, w132, cw13, w133, w134⟩ := tt_at (TA s7) hj hl
              obtain ⟨rw14, rww14, w141, w142, cw14, w143, w144⟩ := tt_at (TB s7) hi (cA j hj l hl)
              obtain ⟨rw15, rww15, w151, w152, cw15, w153, w154⟩ := tt_at (TB s7) hi hj
              obtain ⟨rw16, rww16, w161, w162, cw16, w163, w164⟩ := tt_at (TB s7) hi hl
              obtain ⟨rw17, rww17, w171, w172, cw17, w173, w174⟩ := tt_at (TA s7) (cB i hi j hj) (cB i hi l hl)
              refine ⟨_, rfl, _, rfl, m, _, _, _, rfl, rfl, SqT.of w141, at_of rfl w142, _, rfl, _, rfl, p, _, _, _, rfl, rfl, SqT.of w131, at_of rfl w132, _, rfl, rw13, _, _, _, rfl, rfl, SqT.of w133, at_of rfl w134, rw14, _, _, _, rfl, rfl, SqT.of w143, at_of rfl w144, _, rfl, _, rfl, _, rfl, m, _, _, _, rfl, rfl, SqT.of w151, at_of rfl w152, _, rfl, rw15, _, _, _, rfl, rfl, SqT.of w153, at_of rfl w154, p, _, _, _, rfl, rfl, SqT.of w171, at_of rfl w172, _, rfl, _, rfl, m, _, _, _, rfl, rfl, SqT.of w161, at_of rfl w162, _, rfl, rw16, _, _, _, rfl, rfl, SqT.of w163, at_of rfl w164, rw17, _, _, _, rfl, rfl, SqT.of w173, at_of rfl w174, rfl, _, rfl, ?_⟩
              rw [intEq]
              by_cases e' : fnN B i (fnN A j l) = fnN A (fnN B i j) (fnN B i l)
              · rw [decide_eq_true e']
                refine iteF ⟨_, rfl, rfl, fun c h => ?_⟩
                by_cases h' : c < l
                · exact hc c h'
                · rw [show c = l by omega]; exact e'
              · rw [decide_eq_false e']
                exact iteT (k _ _ s7 ((kc2 g).2.2 fun z => e' (z i hi j hj l hl)).symm)
            · rintro σ H10 ⟨vc, rfl, rfl, hc⟩
              refine ⟨_, _, rfl, rfl, fun b h => ?_⟩
              by_cases h' : b < j
              · exact hb b h'
              · rw [show b = j by omega]; exact hc
          · rintro σ H9 ⟨vb, vc, rfl, rfl, hb⟩
            refine ⟨_, _, _, rfl, rfl, fun a h => ?_⟩
            by_cases h' : a < i
            · exact ha a h'
            · rw [show a = i by omega]; exact hb
        · rintro σ H8 ⟨va, vb, vc, rfl, rfl, ha⟩
          exact ⟨_, _, _, rfl, s7, fun _ => ha⟩
      · rw [decide_eq_false g]
        exact iteF (go_next ⟨_, _, _, rfl, s7, fun z => absurd z g⟩)
    rintro σ H8 ⟨va, vb, vc, rfl, s8, hdis⟩
    refine ⟨_, rfl, rfl, _, rfl, ?_⟩
    rw [strEq]
    by_cases g : c3Of A.length (fnN A) (fnN B) o.toNat = ""
    · rw [decide_eq_true g]
      refine iteT ?_
      have u8 := hu.same (H' := H8) fun c xs e => s8 _ _ e
      rcases u8 with ⟨es, eu⟩ | ⟨u0, l0, es, eu, hu8⟩
      · subst eu
        refine ⟨_, rfl, rfl, _, rfl, iteF (go_next ?_)⟩
        refine ⟨_, rfl, k _ _ s8 ?_⟩
        rw [(kc2 g).1 (hdis g) (by rw [es]; exact fun a s e => by simp at e), g]
      · subst eu
        refine ⟨_, rfl, rfl, _, rfl, iteT ?_⟩
        have es' : stO st = l0.map (Option.map Int.toNat) := by rw [es]; rfl
        have hsN : H8 u0 = some (.tup ((stO st).map stV)) := by rw [es', stO_map (rg.2.1 l0 es)]; exact hu8
        have hsl : (stO st).length = A.length := by rw [es', List.length_map]; exact h4 l0 es
        have hslt : ∀ (i s : Nat), (stO st)[i]? = some (some s) → s < A.length := by rw [es']; exact stO_lt (rg.2.1 l0 es)
        refine any_lc (n := A.length) (fun j => match (stO st)[j]? with | some (some s) => !decide (fnN A o.toNat (fnN B j s) = s) | _ => false) (by omega) (fun j H' Kt hj s' kt => ?_) (fun H' r' s' hr => ?_)
        · obtain ⟨v, hv⟩ : ∃ v, (stO st)[j]? = some v := ⟨_, List.getElem?_eq_getElem (by omega)⟩
          have hv' : ((stO st).map stV)[j]? = some (stV v) := by rw [List.getElem?_map, hv]; rfl
          have kt := kt H' (Same.refl _)
          simp only [hv] at kt
          refine ⟨_, rfl, _, rfl, u0, _, _, _, rfl, rfl, SqT.of (s' _ _ hsN), at_of rfl hv', rfl, _, rfl, ?_⟩
          cases v with
          | none => exact iteF kt
          | some x =>
            have hx := hslt j x hv
            have sH : Same H0 H' := fun b o' z => s' b o' (s8 b o' z)
            obtain ⟨rs, rws, t1, t2, cs', t3, t4⟩ := tt_at (TB sH) hj hx
            obtain ⟨rq, rwq, q1, q2, cq, q3, q4⟩ := tt_at (TA sH) ho (cB j hj x hx)
            refine iteT ⟨_, rfl, _, rfl, p, _, _, _, rfl, rfl, SqT.of q1, at_of eo q2, _, rfl, _, rfl, m, _, _, _, rfl, rfl, SqT.of t1, at_of rfl t2, _, rfl, _, rfl, u0, _, _, _, rfl, rfl, SqT.of (s' _ _ hsN), at_of rfl hv', rs, _, _, _, rfl, rfl, SqT.of t3, at_of rfl t4, rq, _, _, _, rfl, rfl, SqT.of q3, at_of rfl q4, ?_⟩
            refine ⟨_, rfl, _, rfl, u0, _, _, _, rfl, rfl, SqT.of (s' _ _ hsN), at_of rfl hv', rfl, ?_⟩
            rw [show decide (V.int ((fnN A o.toNat (fnN B j x) : Nat) : Int) = stV (some x)) = decide (fnN A o.toNat (fnN B j x) = x) from intEq]
            exact kt
        · refine ⟨_, rfl, ?_⟩
          have sH : Same H0 H' := fun b o' z => s' b o' (s8 b o' z)
          cases r' with
          | true =>
            obtain ⟨j, hj, hx⟩ := hr.mp rfl
            refine iteT (k _ _ sH ((kc2 g).2.1 (hdis g) fun z => ?_).symm)
            rcases hv : (stO st)[j]? with _ | _ | x
            · simp only [hv] at hx; cases hx
            · simp only [hv] at hx; cases hx
            · simp only [hv] at hx
              rw [decide_eq_true (z j x hv).symm] at hx
              cases hx
          | false =>
            refine iteF (go_next ⟨_, rfl, k _ _ sH ?_⟩)
            rw [(kc2 g).1 (hdis g) fun j x hv => ?_, g]
            by_cases e' : fnN A o.toNat (fnN B j x) = x
            · exact e'.symm
            · have hj : j < A.length := by
                rcases Nat.lt_or_ge j (stO st).length with h | h
                · omega
                · rw [List.getElem?_eq_none h] at hv; cases hv
              exact Bool.noConfusion (hr.mpr ⟨j, hj, by simp only [hv]; rw [decide_eq_false e']; rfl⟩)
    · rw [decide_eq_false g]
      refine iteF (iteF (go_next ⟨_, rfl, k _ _ s8 (kc1 g).symm⟩))
end
end K05

set_option Elab.async false
set_option linter.all false
set_option maxRecDepth 100000
set_option maxHeartbeats 4000000
namespace K05
open PySem L2 Ew Tb SRm GxR
local macro_rules | `(tactic| walk_at "len") => `(tactic| first | (intro h; obtain ⟨_, e, _⟩ := h; rw [e]; rfl) | (intro h; obtain ⟨_, _, e, _⟩ := h; rw [e]; rfl) | (intro h; obtain ⟨_, _, _, e, _⟩ := h; rw [e]; rfl) | (intro h; obtain ⟨_, _, _, _, e, _⟩ := h; rw [e]; rfl) | (intro h; obtain ⟨_, _, _, _, _, e, _⟩ := h; rw [e]; rfl) | (intro h; obtain ⟨_, _, _, _, _, _, e, _⟩ := h; rw [e]; rfl) | (intro h; obtain ⟨_, _, _, _, _, _, _, e, _⟩ := h; rw [e]; rfl) | (intro h; obtain ⟨_, _, _, _, _, _, _, _, e, _⟩ := h; rw [e]; rfl) | (intro h; obtain ⟨_, _, _, _, _, _, _, _, _, e, _⟩ := h; rw [e]; rfl) | (intro h; exact h.elim))
section
variable {P : Program} {w : World} {K : PySem.W.Frag} {mg : Str → Option Value} {base : Heap} {ad : Ad}
theorem cut_pre {xs : List V} {a : Nat} : cutV xs none (some (a : Int)) = xs.take a := by
  unfold cutV
  rw [HT.sIx_none, HT.sIx_nat, List.drop_zero, Nat.sub_zero]
  by_cases h : a ≤ xs.length
  · rw [Nat.min_eq_left h]
  · rw [Nat.min_eq_right (by omega), List.take_length, List.take_of_length_le (by omega)]
theorem cut_suf {xs : List V} {a : Nat} : cutV xs (some ((a : Int) + 1)) none = xs.drop (a + 1) := by
  unfold cutV
  rw [HT.sIx_none, show ((a : Int) + 1) = ((a + 1 : Nat) : Int) by omega, HT.sIx_nat]
  by_cases h : a + 1 ≤ xs.length
  · rw [Nat.min_eq_left h, List.take_of_length_le (by rw [List.length_drop]; omega)]
  · rw [Nat.min_eq_right (by omega), List.drop_length, List.drop_eq_nil_of_le (by omega)]
    simp
/-- a slice of a tuple, as a tuple -/
theorem slA {H : Hp} {a : Addr} {xs : List V} {lo hi : Option Int} {Q : VK} (h : H a = some (.tup xs)) (q : ∀ x H', Same H H' → H' x = some (.tup (cutV xs lo hi)) → Q (.ref x) H') : rSlA K (.ref a) lo hi H Q := by
  refine ⟨a, xs, rfl, SqT.of h, fun hw => q a H (Same.refl _) ?_, fun _ x hx => q x _ (same_new (Same.refl _) hx) upd_same⟩
  unfold cutV
  rw [hw.1, hw.2, List.drop_zero, Nat.sub_zero, List.take_length]
  exact h
/-- two tuples put together, as a tuple -/
theorem catA {H : Hp} {a b : Addr} {xs ys : List V} {Q : VK} (h1 : H a = some (.tup xs)) (h2 : H b = some (.tup ys)) (hl : xs.length + ys.length ≤ 1000) (q : ∀ x H', Same H H' → H' x = some (.tup (xs ++ ys)) → Q (.ref x) H') : rCatA K (.ref a) (.ref b) H Q := by
  refine ⟨a, b, xs, ys, rfl, rfl, SqT.of h1, SqT.of h2, Nat.le_trans hl (by decide), fun e => q b H (Same.refl _) (by rw [e]; exact h2), fun _ e => q a H (Same.refl _) (by rw [e, List.append_nil]; exact h1), fun _ _ x hx => q x _ (same_new (Same.refl _) hx) upd_same⟩
theorem RR.take {H : Hp} {p q : Addr} {A : List (List Int)} {rows : List V} {n : Nat} (x : RR H p A) (e : H p = some (.tup rows)) (e2 : H q = some (.tup (rows.take n))) : RR H q (A.take n) := by
  obtain ⟨rows', a1, a2, a3⟩ := x
  rw [e] at a1
  cases a1
  refine ⟨_, e2, by rw [List.length_take, List.length_take, a2], fun i row h => ?_⟩
  rw [List.getElem?_take] at h ⊢
  split at h
  · rename_i c
    rw [if_pos c]
    exact a3 i row h
  · cases h
theorem RR.drop {H : Hp} {p q : Addr} {A : List (List Int)} {rows : List V} {n : Nat} (x : RR H p A) (e : H p = some (.tup rows)) (e2 : H q = some (.tup (rows.drop n))) : RR H q (A.drop n) := by
  obtain ⟨rows', a1, a2, a3⟩ := x
  rw [e] at a1
  cases a1
  refine ⟨_, e2, by rw [List.length_drop, List.length_drop, a2], fun i row h => ?_⟩
  rw [List.getElem?_drop] at h ⊢
  exact a3 _ row h
theorem RR.one {H : Hp} {q r : Addr} {row : List Int} (e : H q = some (.tup [.ref r])) (e2 : H r = some (.tup (row.map V.int))) : RR H q [row] := by
  refine ⟨_, e, rfl, fun i row' h => ?_⟩
  cases i with
  | zero =>
    have : row = row' := by simpa using h
    subst this
    exact ⟨r, rfl, e2⟩
  | succ i => simp at h
theorem go_np {σ : L2.St} {H : Hp} {Q : Option Int → Hp → Prop} (h : Q none H) : tNoPart σ H Q := h
theorem hb_tail {b : Nat} {σ : L2.St} {i : Nat} {H : Hp} {Q : V → Hp → Prop} (hb : σ[b]? = some (some (.int (i : Int)))) (q : Q (.int ((i : Int) + 1)) H) : tOp (rI0 fun i j => V.int (i + j)) (tVar b) (tC (V.int 1)) σ H Q := ⟨_, hb, _, _, rfl, rfl, q⟩
/-- X[:b] + (v,) + X[b + 1:] -/
theorem mid_read {K : PySem.W.Frag} {te tm : TE} {b i : Nat} {a : Addr} {v : V} {xs : List V} {σ : L2.St} {H : Hp} {Q : VK} (hte : ∀ H' Q', Same H H' → Q' (.ref a) H' → te σ H' Q') (ha : H a = some (.tup xs)) (hb : σ[b]? = some (some (.int (i : Int)))) (hm : ∀ H' (Q' : VK), Same H H' → (∀ H'', Same H' H'' → Q' v H'') → tm σ H' Q') (hl : xs.length ≤ 100)
    (q : ∀ x H', Same H H' → H' x = some (.tup (xs.take i ++ [v] ++ xs.drop (i + 1))) → Q (.ref x) H') :
    tOp (rCatA K) (tOp (rCatA K) (tSl (rSlA K) te tNoPart (tPart (tVar b))) (tTup (tCons tm tNil))) (tSl (rSlA K) te (tPart (tOp (rI0 fun i j => V.int (i + j)) (tVar b) (tC (V.int 1)))) tNoPart) σ H Q := by
  refine hte H _ (Same.refl _) ?_
  refine ⟨_, hb, _, rfl, slA ha fun x1 H1 s1 e1 => ?_⟩
  rw [cut_pre] at e1
  refine go_tup (go_cons (hm H1 _ s1 fun H2 s2 => ⟨by (show 1 ≤ sizeLine); decide, fun x2 hx2 => ?_⟩))
  have s3 : Same H2 (upd H2 x2 (.tup [v])) := same_new (Same.refl _) hx2
  refine catA (s3 _ _ (s2 _ _ e1)) upd_same (by rw [List.length_take]; show _ + 1 ≤ 1000; omega) fun x3 H3 s4 e3 => ?_
  have S3 : Same H H3 := fun b o e => s4 b o (s3 b o (s2 b o (s1 b o e)))
  refine hte H3 _ S3 ?_
  refine hb_tail hb ⟨_, rfl, go_np (slA (S3 _ _ ha) fun x4 H4 s5 e4 => ?_)⟩
  rw [cut_suf] at e4
  refine catA (s5 _ _ e3) e4 (by rw [List.length_append, List.length_take, List.length_drop]; show _ + 1 + _ ≤ 1000; omega) fun x5 H5 s6 e5 => ?_
  exact q x5 H5 (fun b o e => s6 b o (s5 b o (S3 b o e))) e5
/-- X[:b] + X[b + 1:] -/
theorem cut_read {K : PySem.W.Frag} {te : TE} {b i : Nat} {a : Addr} {xs : List V} {σ : L2.St} {H : Hp} {Q : VK} (hte : ∀ H' Q', Same H H' → Q' (.ref a) H' → te σ H' Q') (ha : H a = some (.tup xs)) (hb : σ[b]? = some (some (.int (i : Int)))) (hl : xs.length ≤ 100)
    (q : ∀ x H', Same H H' → H' x = some (.tup (xs.take i ++ xs.drop (i + 1))) → Q (.ref x) H') :
    tOp (rCatA K) (tSl (rSlA K) te tNoPart (tPart (tVar b))) (tSl (rSlA K) te (tPart (tOp (rI0 fun i j => V.int (i + j)) (tVar b) (tC (V.int 1)))) tNoPart) σ H Q := by
  refine hte H _ (Same.refl _) ?_
  refine ⟨_, hb, _, rfl, slA ha fun x1 H1 s1 e1 => ?_⟩
  rw [cut_pre] at e1
  refine hte H1 _ s1 ?_
  refine hb_tail hb ⟨_, rfl, go_np (slA (s1 _ _ ha) fun x4 H4 s5 e4 => ?_)⟩
  rw [cut_suf] at e4
  refine catA (s5 _ _ e1) e4 (by rw [List.length_take, List.length_drop]; omega) fun x5 H5 s6 e5 => ?_
  exact q x5 H5 (fun b o e => s6 b o (s5 b o (s1 b o e))) e5
/-- rows as a list -/
def RRL (H : Hp) (rows : List V) (A : List (List Int)) : Prop := rows.length = A.length ∧ ∀ (i : Nat) row, A[i]? = some row → ∃ r, rows[i]? = some (.ref r) ∧ H r = some (.tup (row.map V.int))
theorem RRL.of {H : Hp} {p : Addr} {A : List (List Int)} {rows : List V} (x : RR H p A) (e : H p = some (.tup rows)) : RRL H rows A := by
  obtain ⟨rows', a1, a2, a3⟩ := x
  rw [e] at a1
  cases a1
  exact ⟨a2, a3⟩
theorem RRL.same {H H' : Hp} {rows : List V} {A : List (List Int)} (x : RRL H rows A) (s : ∀ b xs, H b = some (.tup xs) → H' b = some (.tup xs)) : RRL H' rows A := ⟨x.1, fun i row h => let ⟨r, h1, h2⟩ := x.2 i row h; ⟨r, h1, s _ _ h2⟩⟩
theorem RRL.take {H : Hp} {rows : List V} {A : List (List Int)} (x : RRL H rows A) (n : Nat) : RRL H (rows.take n) (A.take n) := by
  refine ⟨by rw [List.length_take, List.length_take, x.1], fun i row h => ?_⟩
  rw [List.getElem?_take] at h ⊢
  split at h
  · rename_i c
    rw [if_pos c]
    exact x.2 i row h
  · cases h
theorem RRL.drop {H : Hp} {rows : List V} {A : List (List Int)} (x : RRL H rows A) (n : Nat) : RRL H (rows.drop n) (A.drop n) := by
  refine ⟨by rw [List.length_drop, List.length_drop, x.1], fun i row h => ?_⟩
  rw [List.getElem?_drop] at h ⊢
  exact x.2 _ row h
theorem RRL.app {H : Hp} {rows rows' : List V} {A B : List (List Int)} (x : RRL H rows A) (y : RRL H rows' B) : RRL H (rows ++ rows') (A ++ B) := by
  refine ⟨by rw [List.length_append, List.length_append, x.1, y.1], fun i row h => ?_⟩
  by_cases c : i < A.length
  · rw [List.getElem?_append_left c] at h
    rw [List.getElem?_append_left (by rw [x.1]; exact c)]
    exact x.2 i row h
  · rw [List.getElem?_append_right (by omega)] at h
    rw [List.getElem?_append_right (by rw [x.1]; omega), x.1]
    exact y.2 _ row h
theorem RRL.one {H : Hp} {r : Addr} {row : List Int} (e2 : H r = some (.tup (row.map V.int))) : RRL H [.ref r] [row] := by
  refine ⟨rfl, fun i row' h => ?_⟩
  cases i with
  | zero =>
    have : row = row' := by simpa using h
    subst this
    exact ⟨r, rfl, e2⟩
  | succ i => simp at h
/-- X[:b] + (t,) + X[b + 1:], t made meanwhile -/
theorem mid_readR {K : PySem.W.Frag} {te tm : TE} {b i : Nat} {a : Addr} {xs : List V} {σ : L2.St} {H : Hp} {Q : VK} (R : V → Hp → Prop) (hR : ∀ v H' H'', R v H' → Same H' H'' → R v H'') (hte : ∀ H' Q', Same H H' → Q' (.ref a) H' → te σ H' Q') (ha : H a = some (.tup xs)) (hb : σ[b]? = some (some (.int (i : Int)))) (hm : ∀ H' (Q' : VK), Same H H' → (∀ v H'', Same H' H'' → R v H'' → Q' v H'') → tm σ H' Q') (hl : xs.length ≤ 100)
    (q : ∀ x v H', Same H H' → R v H' → H' x = some (.tup (xs.take i ++ [v] ++ xs.drop (i + 1))) → Q (.ref x) H') :
    tOp (rCatA K) (tOp (rCatA K) (tSl (rSlA K) te tNoPart (tPart (tVar b))) (tTup (tCons tm tNil))) (tSl (rSlA K) te (tPart (tOp (rI0 fun i j => V.int (i + j)) (tVar b) (tC (V.int 1)))) tNoPart) σ H Q := by
  refine hte H _ (Same.refl _) ?_
  refine ⟨_, hb, _, rfl, slA ha fun x1 H1 s1 e1 => ?_⟩
  rw [cut_pre] at e1
  refine go_tup (go_cons (hm H1 _ s1 fun v H2 s2 r2 => ⟨by (show 1 ≤ sizeLine); decide, fun x2 hx2 => ?_⟩))
  have s3 : Same H2 (upd H2 x2 (.tup [v])) := same_new (Same.refl _) hx2
  refine catA (s3 _ _ (s2 _ _ e1)) upd_same (by rw [List.length_take]; show _ + 1 ≤ 1000; omega) fun x3 H3 s4 e3 => ?_
  have S3 : Same H H3 := fun b o e => s4 b o (s3 b o (s2 b o (s1 b o e)))
  refine hte H3 _ S3 ?_
  refine hb_tail hb ⟨_, rfl, go_np (slA (S3 _ _ ha) fun x4 H4 s5 e4 => ?_)⟩
  rw [cut_suf] at e4
  refine catA (s5 _ _ e3) e4 (by rw [List.length_append, List.length_take, List.length_drop]; show _ + 1 + _ ≤ 1000; omega) fun x5 H5 s6 e5 => ?_
  exact q x5 v H5 (fun b o e => s6 b o (s5 b o (S3 b o e))) (hR _ _ _ (hR _ _ _ (hR _ _ _ (hR _ _ _ r2 s3) s4) s5) s6) e5
def spChg : Sp := fun vs H Q _ => ∃ (pot t : Addr) (A B : List (List Int)) (o : Int) (l : List (Option Int)) (n : Nat), vs = [.ref pot, .ref t] ∧ PotAt H pot ∧ RingG H t A B o (some l) ∧ A.length = n ∧ B.length = n ∧ (∀ row, row ∈ A → row.length = n) ∧ (∀ row, row ∈ B → row.length = n) ∧ l.length = n ∧ 1 ≤ n ∧ n ≤ 16 ∧
  ∀ H' q A' B' o' st', Fr1 pot H H' → PotAt H' pot → RingG H' q A' B' o' st' → A'.length ≤ 40 → B'.length ≤ 40 → Q (.ref q) H'
theorem ok_law_changed (c_law_next : CalX P w K mg base 1 "_law_next" spNext) {f : Addr} {fd : FuncData} (F : Fun K "_law_changed" "_law_changed" s_law_changed f fd) (T : Txt K mg ad) : FnOk P w K mg base (L2.CX P w) 2 f fd ["pot", "ring"] (spChg) := by
  refine F.okX sc_law_changed (fun vs H Q E => ?_) (fun cdv A outer s H vs Q E hr h => ?_)
  · walk_at "len"
  ·
    obtain ⟨pot, t, A, B, o, l, n, rfl, hpot, ⟨p, m, us, ht, hp, hm, hu⟩, hA, hB, hA2, hB2, hl, h1, hn, k⟩ := h
    refine ⟨_, (pss_cons (ps_asg (pv 1) (pg_tup rfl (pgs_cons (pg_name (i := 2) sc_law_changed.nd rfl (by first | exact Or.inl rfl | exact Or.inr rfl)) (pgs_cons (pg_name (i := 3) sc_law_changed.nd rfl (by first | exact Or.inl rfl | exact Or.inr rfl)) (pgs_cons (pg_name (i := 4) sc_law_changed.nd rfl (by first | exact Or.inl rfl | exact Or.inr rfl)) (pgs_cons (pg_name (i := 5) sc_law_changed.nd rfl (by first | exact Or.inl rfl | exact Or.inr rfl)) pgs_nil))))))
      (pss_cons (ps_set (i := 6) sc_law_changed.nd rfl (by first | exact Or.inl rfl | exact Or.inr rfl) (pe_callB call_len (by rfl) T.z_len (by decide +kernel) (pa_cons (pv 2) pa_nil)))
      (pss_cons (ps_set (i := 7) sc_law_changed.nd rfl (by first | exact Or.inl rfl | exact Or.inr rfl) (pc_call c_law_next hr (by first | decide | omega) (takes_of rfl rfl rfl rfl) (by rfl) (pa_cons (pv 0) (pa_cons pe_int pa_nil))))
      (pss_cons (ps_set (i := 8) sc_law_changed.nd rfl (by first | exact Or.inl rfl | exact Or.inr rfl) (pc_call c_law_next hr (by first | decide | omega) (takes_of rfl rfl rfl rfl) (by rfl) (pa_cons (pv 0) (pa_cons (pv 6) pa_nil))))
      (pss_cons (ps_set (i := 9) sc_law_changed.nd rfl (by first | exact Or.inl rfl | exact Or.inr rfl) (pc_call c_law_next hr (by first | decide | omega) (takes_of rfl rfl rfl rfl) (by rfl) (pa_cons (pv 0) (pa_cons (pv 6) pa_nil))))
      (pss_cons (ps_set (i := 10) sc_law_changed.nd rfl (by first | exact Or.inl rfl | exact Or.inr rfl) (pe_op op_sub (pc_call c_law_next hr (by first | decide | omega) (takes_of rfl rfl rfl rfl) (by rfl) (pa_cons (pv 0) (pa_cons (pe_op op_add (pv 6) pe_int) pa_nil))) (pe_callTy call_int1 (by rfl) T.z_int (by decide +kernel) (pa_cons (pe_cmpR op_eq (pc_call c_law_next hr (by first | decide | omega) (takes_of rfl rfl rfl rfl) (by rfl) (pa_cons (pv 0) (pa_cons pe_int pa_nil))) pe_int (nomark _)) pa_nil))))
      (pss_cons (ps_set (i := 11) sc_law_changed.nd rfl (by first | exact Or.inl rfl | exact Or.inr rfl) (pe_op op_catA (pe_op op_catA (pe_slice sl_tupA (pe_ix ix_tup (pv 2) (pv 8) (fun _ _ => rfl)) po_none (po_some (pv 9))) (pe_tup (pa_cons (pv 10) pa_nil))) (pe_slice sl_tupA (pe_ix ix_tup (pv 2) (pv 8) (fun _ _ => rfl)) (po_some (pe_op op_add (pv 9) pe_int)) po_none)))
      (pss_cons (ps_if (pt_cmpR op_lt (pv 7) pe_int (nomark _)) (pss_one (ps_ret (pe_tup (pa_cons (pe_op op_catA (pe_op op_catA (pe_slice sl_tupA (pv 2) po_none (po_some (pv 8))) (pe_tup (pa_cons (pv 11) pa_nil))) (pe_slice sl_tupA (pv 2) (po_some (pe_op op_add (pv 8) pe_int)) po_none)) (pa_cons (pv 3) (pa_cons (pv 4) (pa_cons (pv 5) pa_nil))))))) pss_nil)
      (pss_cons (ps_set (i := 11) sc_law_changed.nd rfl (by first | exact Or.inl rfl | exact Or.inr rfl) (pe_op op_catA (pe_op op_catA (pe_slice sl_tupA (pe_ix ix_tup (pv 3) (pv 8) (fun _ _ => rfl)) po_none (po_some (pv 9))) (pe_tup (pa_cons (pv 10) pa_nil))) (pe_slice sl_tupA (pe_ix ix_tup (pv 3) (pv 8) (fun _ _ => rfl)) (po_some (pe_op op_add (pv 9) pe_int)) po_none)))
      (pss_cons (ps_if (pt_cmpR op_lt (pv 7) pe_int (nomark _)) (pss_one (ps_ret (pe_tup (pa_cons (pv 2) (pa_cons (pe_op op_catA (pe_op op_catA (pe_slice sl_tupA (pv 3) po_none (po_some (pv 8))) (pe_tup (pa_cons (pv 11) pa_nil))) (pe_slice sl_tupA (pv 3) (po_some (pe_op op_add (pv 8) pe_int)) po_none)) (pa_cons (pv 4) (pa_cons (pv 5) pa_nil))))))) pss_nil)
      (pss_cons (ps_if (pt_cmpR op_eq (pv 7) pe_int (nomark _)) (pss_one (ps_ret (pe_tup (pa_cons (pv 2) (pa_cons (pv 3) (pa_cons (pv 10) (pa_cons (pv 5) pa_nil))))))) pss_nil)
      (pss_cons (ps_if (pt_cmpR op_eq (pv 7) pe_int (nomark _)) (pss_one (ps_ret (pe_tup (pa_cons (pv 2) (pa_cons (pv 3) (pa_cons (pv 4) (pa_cons (pe_op op_catA (pe_op op_catA (pe_slice sl_tupA (pv 5) po_none (po_some (pv 8))) (pe_tup (pa_cons (pv 10) pa_nil))) (pe_slice sl_tupA (pv 5) (po_some (pe_op op_add (pv 8) pe_int)) po_none)) pa_nil))))))) pss_nil)
      (pss_cons (ps_if (pt_cmpR op_eq (pv 7) pe_int (nomark _)) (pss_one (ps_ret (pe_tup (pa_cons (pe_op op_catA (pe_slice sl_tupA (pv 2) po_none (po_some (pv 8))) (pe_slice sl_tupA (pv 2) (po_some (pe_op op_add (pv 8) pe_int)) po_none)) (pa_cons (pv 3) (pa_cons (pv 4) (pa_cons (pv 5) pa_nil))))))) pss_nil)
      (pss_cons (ps_if (pt_cmpR op_eq (pv 7) pe_int (nomark _)) (pss_one (ps_ret (pe_tup (pa_cons (pv 2) (pa_cons (pe_op op_catA (pe_op op_catA (pe_slice sl_tupA (pv 3) po_none (po_some (pv 8))) (pe_tup (pa_cons (pe_op op_catA (pe_ix ix_tup (pv 3) (pv 8) (fun _ _ => rfl)) (pe_tup (pa_cons pe_int pa_nil))) pa_nil))) (pe_slice sl_tupA (pv 3) (po_some (pe_op op_add (pv 8) pe_int)) po_none)) (pa_cons (pv 4) (pa_cons (pv 5) pa_nil))))))) pss_nil)
      (pss_one (ps_ret (pe_tup (pa_cons (pv 2) (pa_cons (pv 3) (pa_cons (pv 4) (pa_cons (pe_ix ix_list (pe_lst (pa_cons (pe_op op_catA (pv 5) (pe_tup (pa_cons pe_non pa_nil))) (pa_cons pe_non pa_nil))) (pc_call c_law_next hr (by first | decide | omega) (takes_of rfl rfl rfl rfl) (by rfl) (pa_cons (pv 0) (pa_cons pe_int pa_nil))) (fun _ _ => rfl)) pa_nil))))))))))))))))))))), ?_⟩
    obtain ⟨rp, ep, lp⟩ := hp.len
    obtain ⟨rm, em, lm⟩ := hm.len
    refine ⟨_, rfl, t, _, rfl, SqT.of ht, rfl, _, _, rfl, _, _, rfl, _, _, rfl, _, _, rfl, rfl, ?_⟩
    refine go_nx (go_seq ⟨_, rfl, .ref p, _, rfl, .inr ⟨_, SqT.of ep, rfl⟩, ?_⟩)
    rw [lp, hA]
    refine go_name rfl ?_
    have lim : ∀ n : Nat, n ≤ 100 → (n : Int).natAbs < 2 ^ 250 := fun n h => Nat.lt_of_le_of_lt (by omega : (n : Int).natAbs ≤ 100) (by decide)
    refine go_seq ⟨_, rfl, pot, 9, rfl, hpot, by decide, by decide, fun H1 kd f1 P1 k0 k1 _ => go_name rfl ?_⟩
    refine go_seq ⟨_, rfl, _, rfl, pot, _, rfl, P1, by omega, lim n (by omega), fun H2 a f2 P2 a0 a1 _ => go_name rfl ?_⟩
    refine go_seq ⟨_, rfl, _, rfl, pot, _, rfl, P2, by omega, lim n (by omega), fun H3 b f3 P3 b0 b1 _ => go_name rfl ?_⟩
    refine go_seq ⟨_, rfl, _, rfl, _, _, rfl, rfl, pot, _, rfl, P3, by omega, lim (n + 2) (by omega), fun H4 en f4 P4 _ _ _ => ?_⟩
    refine ⟨_, rfl, pot, 5, rfl, P4, by decide, by decide, fun H5 dv f5 P5 _ _ _ => ⟨rfl, .inr ⟨_, rfl, _, _, rfl, rfl, go_name rfl ?_⟩⟩⟩
    obtain ⟨e, he⟩ : ∃ e : Int, e = en - (if decide (V.int dv = V.int 4) = true then 1 else 0) := ⟨_, rfl⟩
    have F5 : Fr1 pot H H5 := (((f1.trans f2).trans f3).trans f4).trans f5
    have npot : ∀ {b xs}, H b = some (.tup xs) → b ≠ pot := fun e z => by
      obtain ⟨_, _, _, _, _, h1, _⟩ := hpot
      rw [z, h1] at e
      cases e
    have keep : ∀ b xs, H b = some (.tup xs) → H5 b = some (.tup xs) := fun b xs e => F5 b _ (npot e) e
    obtain ⟨i, rfl⟩ : ∃ i : Nat, a = (i : Int) := ⟨a.toNat, by omega⟩
    obtain ⟨j, rfl⟩ : ∃ j : Nat, b = (j : Int) := ⟨b.toNat, by omega⟩
    have hi : i < n := by omega
    have hj : j < n := by omega
    have hp5 := hp.same keep
    have hm5 := hm.same keep
    have ep5 := keep _ _ ep
    have em5 := keep _ _ em
    obtain ⟨u, eu, hu5⟩ : ∃ u, us = .ref u ∧ H5 u = some (.tup (l.map stI)) := by
      rcases hu with ⟨z, _⟩ | ⟨u, l', e1, e2, e3⟩
      · cases z
      · cases e1
        exact ⟨u, e2, keep _ _ e3⟩
    subst eu
    have kf : ∀ H' q A' B' o' st', Same H5 H' → RingG H' q A' B' o' st' → A'.length ≤ 40 → B'.length ≤ 40 → Q (.ref q) H' := fun H' q A' B' o' st' s r l1 l2 => k H' q A' B' o' st' (F5.trans (Fr1.of s)) (P5.same s) r l1 l2
    obtain ⟨vp, hvp⟩ : ∃ v, rp[i]? = some v := ⟨_, List.getElem?_eq_getElem (by omega)⟩
    obtain ⟨ra, rowa, rfl, hra, hra2⟩ := hp5.at ep5 hvp
    obtain ⟨vm, hvm⟩ : ∃ v, rm[i]? = some v := ⟨_, List.getElem?_eq_getElem (by omega)⟩
    obtain ⟨rb, rowb, rfl, hrb, hrb2⟩ := hm5.at em5 hvm
    have la : rowa.length = n := hA2 rowa (List.mem_of_getElem? hra)
    have lb : rowb.length = n := hB2 rowb (List.mem_of_getElem? hrb)
    refine go_seq (mid_read (a := ra) (i := j) (v := .int e) (xs := rowa.map V.int) (fun H' Q' s q => ⟨_, rfl, _, rfl, p, _, _, _, rfl, rfl, SqT.of (s _ _ ep5), at_of rfl hvp, q⟩) hra2 rfl (fun H' Q' s q => ⟨_, rfl, by have z := q _ (Same.refl _); rw [he] at z; exact z⟩) (by rw [List.length_map]; omega) fun x H6 s6 e6 => go_name rfl ?_)
    have e6' : H6 x = some (.tup ((rowa.take j ++ [e] ++ rowa.drop (j + 1)).map V.int)) := by rw [e6, List.map_append, List.map_append, List.map_take, List.map_drop]; rfl
    -- plus with another row
    have ln : ∀ (L : List (List Int)) (r : List Int), L.length = n → (L.take i ++ [r] ++ L.drop (i + 1)).length ≤ 40 := fun L r h => by
      rw [List.length_append, List.length_append, List.length_take, List.length_drop]
      show _ + 1 + _ ≤ 40
      omega
    have upd_tab : ∀ {H' : Hp} {pp q y : Addr} {L : List (List Int)} {rows : List V} {r : List Int}, RR H' pp L → H' pp = some (.tup rows) → H' y = some (.tup (r.map V.int)) → H' q = some (.tup (rows.take i ++ [.ref y] ++ rows.drop (i + 1))) → RR H' q (L.take i ++ [r] ++ L.drop (i + 1)) := fun {H' pp q y L rows r} x e1 e2 e3 => by
      obtain ⟨rows', a1, a2, a3⟩ := x
      rw [e1] at a1
      cases a1
      refine ⟨_, e3, by simp only [List.length_append, List.length_take, List.length_drop, a2]; rfl, fun kk row h => ?_⟩
      by_cases c1 : kk < (L.take i ++ [r]).length
      · rw [List.getElem?_append_left c1] at h
        rw [List.getElem?_append_left (by simp only [List.length_append, List.length_take, a2, List.length_cons, List.length_nil] at c1 ⊢; exact c1)]
        by_cases c2 : kk < (L.take i).length
        · rw [List.getElem?_append_left c2, List.getElem?_take] at h
          rw [List.getElem?_append_left (by simp only [List.length_take, a2] at c2 ⊢; exact c2), List.getElem?_take]
          split at h
          · rename_i c3
            rw [if_pos c3]
            exact a3 kk row h
          · cases h
        · rw [List.getElem?_append_right (by omega)] at h
          rw [List.getElem?_append_right (by simp only [List.length_take, a2] at c2 ⊢; omega)]
          simp only [List.length_take, a2] at h ⊢
          rcases hk : kk - min i L.length with _ | z
          · rw [hk] at h
            have : r = row := by simpa using h
            subst this
            exact ⟨y, rfl, e2⟩
          · rw [hk] at h
            simp at h
      · rw [List.getElem?_append_right (by omega)] at h
        rw [List.getElem?_append_right (by simp only [List.length_append, List.length_take, a2, List.length_cons, List.length_nil] at c1 ⊢; omega)]
        simp only [List.length_append, List.length_take, a2, List.getElem?_drop, List.length_cons, List.length_nil] at h ⊢
        exact a3 _ row h
    refine ⟨_, rfl, _, _, rfl, rfl, _, rfl, ?_⟩
    by_cases g1 : kd < 2
    · rw [decide_eq_true g1]
      refine iteT (go_ret (go_tup (go_cons (mid_read (a := p) (i := i) (v := .ref x) (xs := rp) (fun H' Q' s q => ⟨_, rfl, q⟩) (s6 _ _ ep5) rfl (fun H' Q' s q => ⟨_, rfl, q _ (Same.refl _)⟩) (by omega) fun y H7 s7 e7 => ?_))))
      refine ⟨_, rfl, _, rfl, _, rfl, by (show 4 ≤ sizeLine); decide, fun q hq => ?_⟩
      have sq := same_new (o := .tup [V.ref y, .ref m, .int o, .ref u]) (Same.refl _) hq
      have S := fun b o' (z : H5 b = some o') => sq b o' (s7 b o' (s6 b o' z))
      exact kf _ q _ _ o (some l) S ⟨y, m, .ref u, upd_same, upd_tab (hp5.same fun c xs e => S _ _ e) (S _ _ ep5) (sq _ _ (s7 _ _ e6')) (sq _ _ e7), hm5.same fun c xs e => S _ _ e, .inr ⟨u, l, rfl, rfl, S _ _ hu5⟩⟩ (ln _ _ hA) (by omega)
    rw [decide_eq_false g1]
    refine iteF (go_next ?_)
    refine go_seq (mid_read (a := rb) (i := j) (v := .int e) (xs := rowb.map V.int) (fun H' Q' s q => ⟨_, rfl, _, rfl, m, _, _, _, rfl, rfl, SqT.of (s _ _ (s6 _ _ em5)), at_of rfl hvm, q⟩) (s6 _ _ hrb2) rfl (fun H' Q' s q => ⟨_, rfl, by have z := q _ (Same.refl _); rw [he] at z; exact z⟩) (by rw [List.length_map]; omega) fun x2 H7 s7 e7 => go_name rfl ?_)
    have e7' : H7 x2 = some (.tup ((rowb.take j ++ [e] ++ rowb.drop (j + 1)).map V.int)) := by rw [e7, List.map_append, List.map_append, List.map_take, List.map_drop]; rfl
    have s57 : Same H5 H7 := fun b o' z => s7 b o' (s6 b o' z)
    refine ⟨_, rfl, _, _, rfl, rfl, _, rfl, ?_⟩
    by_cases g2 : kd < 4
    · rw [decide_eq_true g2]
      refine iteT (go_ret (go_tup (⟨_, rfl, go_cons (mid_read (a := m) (i := i) (v := .ref x2) (xs := rm) (fun H' Q' s q => ⟨_, rfl, q⟩) (s57 _ _ em5) rfl (fun H' Q' s q => ⟨_, rfl, q _ (Same.refl _)⟩) (by omega) fun y H8 s8 e8 => ?_)⟩)))
      refine ⟨_, rfl, _, rfl, by (show 4 ≤ sizeLine); decide, fun q hq => ?_⟩
      have sq := same_new (o := .tup [V.ref p, .ref y, .int o, .ref u]) (Same.refl _) hq
      have S := fun b o' (z : H5 b = some o') => sq b o' (s8 b o' (s57 b o' z))
      exact kf _ q _ _ o (some l) S ⟨p, y, .ref u, upd_same, hp5.same fun c xs e => S _ _ e, upd_tab (hm5.same fun c xs e => S _ _ e) (S _ _ em5) (sq _ _ (s8 _ _ e7')) (sq _ _ e8), .inr ⟨u, l, rfl, rfl, S _ _ hu5⟩⟩ (by omega) (ln _ _ hB)
    rw [decide_eq_false g2]
    refine iteF (go_next ?_)
    refine ⟨_, rfl, rfl, _, rfl, ?_⟩
    rw [show decide (V.int kd = V.int 4) = decide (kd = 4) from intEqI]
    by_cases g3 : kd = 4
    · rw [decide_eq_true g3]
      refine iteT (go_ret (go_tup ⟨_, rfl, _, rfl, _, rfl, _, rfl, by (show 4 ≤ sizeLine); decide, fun q hq => ?_⟩))
      exact kf _ q A B _ (some l) (fun b o' z => same_new (Same.refl _) hq b o' (s57 b o' z)) ⟨p, m, .ref u, upd_same, hp5.same fun c xs e => same_new (Same.refl _) hq _ _ (s57 _ _ e), hm5.same fun c xs e => same_new (Same.refl _) hq _ _ (s57 _ _ e), .inr ⟨u, l, rfl, rfl, same_new (Same.refl _) hq _ _ (s57 _ _ hu5)⟩⟩ (by omega) (by omega)
    rw [decide_eq_false g3]
    refine iteF (go_next ?_)
    refine ⟨_, rfl, rfl, _, rfl, ?_⟩
    rw [show decide (V.int kd = V.int 5) = decide (kd = 5) from intEqI]
    by_cases g4 : kd = 5
    · rw [decide_eq_true g4]
      refine iteT (go_ret (go_tup ⟨_, rfl, _, rfl, _, rfl, go_cons (mid_read (a := u) (i := i) (v := .int e) (xs := l.map stI) (fun H' Q' s q => ⟨_, rfl, q⟩) (s57 _ _ hu5) rfl (fun H' Q' s q => ⟨_, rfl, by have z := q _ (Same.refl _); rw [he] at z; exact z⟩) (by rw [List.length_map]; omega) fun y H8 s8 e8 => ?_)⟩))
      refine ⟨by (show 4 ≤ sizeLine); decide, fun q hq => ?_⟩
      have sq := same_new (o := .tup [V.ref p, .ref m, .int o, .ref y]) (Same.refl _) hq
      have S := fun b o' (z : H5 b = some o') => sq b o' (s8 b o' (s57 b o' z))
      exact kf _ q A B o (some (l.take i ++ [some e] ++ l.drop (i + 1))) S ⟨p, m, .ref y, upd_same, hp5.same fun c xs e => S _ _ e, hm5.same fun c xs e => S _ _ e, .inr ⟨y, _, rfl, rfl, by rw [sq _ _ e8, List.map_append, List.map_append, List.map_take, List.map_drop]; rfl⟩⟩ (by omega) (by omega)
    rw [decide_eq_false g4]
    refine iteF (go_next ?_)
    refine ⟨_, rfl, rfl, _, rfl, ?_⟩
    rw [show decide (V.int kd = V.int 6) = decide (kd = 6) from intEqI]
    by_cases g5 : kd = 6
    · rw [decide_eq_true g5]
      refine iteT (go_ret (go_tup (go_cons (cut_read (a := p) (i := i) (xs := rp) (fun H' Q' s q => ⟨_, rfl, q⟩) (s57 _ _ ep5) rfl (by omega) fun y H8 s8 e8 => ?_))))
      refine ⟨_, rfl, _, rfl, _, rfl, by (show 4 ≤ sizeLine); decide, fun q hq => ?_⟩
      have sq := same_new (o := .tup [V.ref y, .ref m, .int o, .ref u]) (Same.refl _) hq
      have S := fun b o' (z : H5 b = some o') => sq b o' (s8 b o' (s57 b o' z))
      have h8 := hp5.same (H' := H8) fun c xs e => s8 _ _ (s57 _ _ e)
      refine kf _ q (A.take i ++ A.drop (i + 1)) B o (some l) S ⟨y, m, .ref u, upd_same, RR.same ⟨_, e8, ((RRL.of h8 (s8 _ _ (s57 _ _ ep5))).take i).app ((RRL.of h8 (s8 _ _ (s57 _ _ ep5))).drop (i + 1))⟩ fun c xs e => sq _ _ e, hm5.same fun c xs e => S _ _ e, .inr ⟨u, l, rfl, rfl, S _ _ hu5⟩⟩ (by rw [List.length_append, List.length_take, List.length_drop]; omega) (by omega)
    rw [decide_eq_false g5]
    refine iteF (go_next ?_)
    refine ⟨_, rfl, rfl, _, rfl, ?_⟩
    rw [show decide (V.int kd = V.int 7) = decide (kd = 7) from intEqI]
    by_cases g6 : kd = 7
    · rw [decide_eq_true g6]
      refine iteT (go_ret (go_tup ⟨_, rfl, go_cons (mid_readR (a := m) (i := i) (xs := rm) (fun v H' => ∃ r, v = .ref r ∧ H' r = some (.tup ((rowb ++ [0]).map V.int))) (fun v H' H'' ⟨r, e1, e2⟩ s => ⟨r, e1, s _ _ e2⟩) (fun H' Q' s q => ⟨_, rfl, q⟩) (s57 _ _ em5) rfl (fun H' Q' s q => ?_) (by omega) fun y v H8 s8 r8 e8 => ?_)⟩))
      · refine ⟨_, rfl, _, rfl, m, _, _, _, rfl, rfl, SqT.of (s _ _ (s57 _ _ em5)), at_of rfl hvm, go_tup (go_cons (go_c ⟨by (show 1 ≤ sizeLine); decide, fun x1 hx1 => ?_⟩))⟩
        have sx := same_new (o := .tup [V.int 0]) (Same.refl _) hx1
        refine catA (sx _ _ (s _ _ (s57 _ _ hrb2))) upd_same (by rw [List.length_map]; show _ + 1 ≤ 1000; omega) fun x3 H3 s3 e3 => ?_
        exact q _ H3 (fun b o' z => s3 b o' (sx b o' z)) ⟨x3, rfl, by rw [e3, List.map_append]; rfl⟩
      · obtain ⟨rr, rfl, er⟩ := r8
        refine ⟨_, rfl, _, rfl, by (show 4 ≤ sizeLine); decide, fun q hq => ?_⟩
        have sq := same_new (o := .tup [V.ref p, .ref y, .int o, .ref u]) (Same.refl _) hq
        have S := fun b o' (z : H5 b = some o') => sq b o' (s8 b o' (s57 b o' z))
        exact kf _ q A _ o (some l) S ⟨p, y, .ref u, upd_same, hp5.same fun c xs e => S _ _ e, upd_tab (hm5.same fun c xs e => S _ _ e) (S _ _ em5) (sq _ _ er) (sq _ _ e8), .inr ⟨u, l, rfl, rfl, S _ _ hu5⟩⟩ (by omega) (ln _ _ hB)
    rw [decide_eq_false g6]
    refine iteF (go_next ?_)
    refine go_ret (go_tup ⟨_, rfl, _, rfl, _, rfl, go_cons (go_lst ⟨_, rfl, go_tup (go_cons (go_c ⟨by (show 1 ≤ sizeLine); decide, fun x1 hx1 => ?_⟩))⟩)⟩)
    have sx := same_new (o := .tup [V.non]) (Same.refl _) hx1
    refine catA (sx _ _ (s57 _ _ hu5)) upd_same (by rw [List.length_map]; show _ + 1 ≤ 1000; omega) fun x3 H8 s8 e8 => ?_
    refine go_cons (go_c ⟨by (show 2 ≤ sizeLine); decide, fun L hL => ?_⟩)
    have sL := same_new (o := .lst [V.ref x3, .non]) (Same.refl _) hL
    have S9 := fun b o' (z : H5 b = some o') => sL b o' (s8 b o' (sx b o' (s57 b o' z)))
    have PL := P5.same S9
    refine ⟨_, rfl, pot, 2, rfl, PL, by decide, by decide, fun H9 dr f9 P9 d0 d1 _ => ?_⟩
    have nL : L ≠ pot := fun z => by
      obtain ⟨oo, ho⟩ := P5.some
      rw [z, s8 _ _ (sx _ _ (s57 _ _ ho))] at hL
      cases hL
    have nt : ∀ {b xs}, (upd H8 L (.lst [V.ref x3, .non])) b = some (.tup xs) → b ≠ pot := fun {b xs} e z => by
      obtain ⟨_, _, _, _, _, h1, _⟩ := PL
      rw [z, h1] at e
      cases e
    have S10 : ∀ b xs, H5 b = some (.tup xs) → H9 b = some (.tup xs) := fun b xs z => f9 b _ (nt (S9 _ _ z)) (S9 _ _ z)
    have F9 : Fr1 pot H H9 := (F5.trans (Fr1.of S9)).trans f9
    obtain ⟨z, rfl⟩ : ∃ z : Nat, dr = (z : Int) := ⟨dr.toNat, by omega⟩
    have fin : ∀ (v : V) (st' : Option (List (Option Int))), (∀ H', (∀ b xs, H9 b = some (.tup xs) → H' b = some (.tup xs)) → StG H' v st') → ∀ q, H9 q = none → Q (.ref q) (upd H9 q (.tup [.ref p, .ref m, .int o, v])) := fun v st' hv q hq => by
      have sq := same_new (o := .tup [V.ref p, .ref m, .int o, v]) (Same.refl _) hq
      exact k _ q A B o st' (F9.trans (Fr1.of sq)) (P9.same sq) ⟨p, m, v, upd_same, hp5.same fun c xs e => sq _ _ (S10 _ _ e), hm5.same fun c xs e => sq _ _ (S10 _ _ e), hv _ fun b xs e => sq _ _ e⟩ (by omega) (by omega)
    have hL9 := f9 L _ nL upd_same
    have hz : z = 0 ∨ z = 1 := by omega
    rcases hz with rfl | rfl
    · refine ⟨L, _, _, _, rfl, rfl, SqL.of hL9, at_of (j := 0) rfl rfl, by (show 4 ≤ sizeLine); decide, fun q hq => fin (.ref x3) (some (l ++ [none])) (fun H' s => .inr ⟨x3, _, rfl, rfl, s _ _ (f9 _ _ (nt (sL _ _ e8)) (by rw [sL _ _ e8, List.map_append]; rfl))⟩) q hq⟩
    · exact ⟨L, _, _, _, rfl, rfl, SqL.of hL9, at_of (j := 1) rfl rfl, by (show 4 ≤ sizeLine); decide, fun q hq => fin .non none (fun H' s => .inl ⟨rfl, rfl⟩) q hq⟩
end
end K05

set_option Elab.async false
set_option linter.all false
set_option maxRecDepth 100000
set_option maxHeartbeats 4000000
namespace K05
open PySem L2 Ew Tb SRm GxR
local macro_rules | `(tactic| walk_at "len") => `(tactic| first | (intro h; obtain ⟨_, e, _⟩ := h; rw [e]; rfl) | (intro h; obtain ⟨_, _, e, _⟩ := h; rw [e]; rfl) | (intro h; obtain ⟨_, _, _, e, _⟩ := h; rw [e]; rfl) | (intro h; obtain ⟨_, _, _, _, e, _⟩ := h; rw [e]; rfl) | (intro h; obtain ⟨_, _, _, _, _, e, _⟩ := h; rw [e]; rfl) | (intro h; obtain ⟨_, _, _, _, _, _, e, _⟩ := h; rw [e]; rfl) | (intro h; obtain ⟨_, _, _, _, _, _, _, e, _⟩ := h; rw [e]; rfl) | (intro h; obtain ⟨_, _, _, _, _, _, _, _, e, _⟩ := h; rw [e]; rfl) | (intro h; obtain ⟨_, _, _, _, _, _, _, _, _, e, _⟩ := h; rw [e]; rfl) | (intro h; exact h.elim))
section
variable {P : Program} {w : World} {K : PySem.W.Frag} {mg : Str → Option Value} {base : Heap} {ad : Ad}
theorem starF_at {st : List (Option Nat)} {i : Nat} {v : Option Nat} (h : st[i]? = some v) : starF st (.int (i : Int)) = v.map fun s => V.int (s : Int) := by
  show (match st[(i : Int).toNat]? with | some (some s) => some (V.int (s : Int)) | _ => none) = _
  rw [Int.toNat_natCast, h]
  cases v <;> rfl
/-- what a turn leaves: all but the pot, tables too -/
structure FrQ (a : Addr) (H H' : Hp) : Prop where
  keep : ∀ b o, b ≠ a → H b = some o → (∀ ps, o ≠ .tbl ps) → H' b = some o
  tabs : ∀ P, TabG H P → TabG H' P
theorem FrQ.refl (a : Addr) (H : Hp) : FrQ a H H := ⟨fun _ _ _ h _ => h, fun _ h => h⟩
theorem FrQ.trans {a : Addr} {H H' H'' : Hp} (x : FrQ a H H') (y : FrQ a H' H'') : FrQ a H H'' := ⟨fun b o n h t => y.keep b o n (x.keep b o n h t) t, fun P h => y.tabs P (x.tabs P h)⟩
theorem FrQ.ofT {a : Addr} {H H' : Hp} (x : FrT H H') : FrQ a H H' := ⟨fun b o _ h t => x.keep b o h t, x.tabs⟩
theorem FrQ.of1 {a : Addr} {H H' : Hp} (x : Fr1 a H H') (p : PotAt H a) : FrQ a H H' := by
  obtain ⟨_, _, _, _, _, e1, _⟩ := p
  refine ⟨fun b o n h _ => x b o n h, fun P h => ?_⟩
  obtain ⟨ps, e, t⟩ := h
  exact ⟨ps, x _ _ (fun z => by rw [z, e1] at e; cases e) e, t⟩
theorem FrQ.tup {a : Addr} {H H' : Hp} (x : FrQ a H H') (p : PotAt H a) {b : Addr} {xs : List V} (h : H b = some (.tup xs)) : H' b = some (.tup xs) := by
  obtain ⟨_, _, _, _, _, e1, _⟩ := p
  exact x.keep b _ (fun z => by rw [z, e1] at h; cases h) h fun ps z => by cases z
theorem FrQ.ins {a : Addr} {H H' : Hp} (x : FrQ a H H') (p : PotAt H a) {b C d : Addr} {fs : List (Str × V)} (h : H b = some (.ins C d fs)) : H' b = some (.ins C d fs) := by
  obtain ⟨_, _, _, _, _, e1, _⟩ := p
  exact x.keep b _ (fun z => by rw [z, e1] at h; cases h) h fun ps z => by cases z
theorem PotAt.frT {a : Addr} {H H' : Hp} (p : PotAt H a) (f : FrT H H') : PotAt H' a := by
  obtain ⟨b, ns, i, c, sd, h1, h2, h3⟩ := p
  exact ⟨b, ns, i, c, sd, f.lst h1, f.lst h2, h3⟩
theorem okF.tup {n o : Nat} {f g : Nat → Nat → Nat} {st : List (Option Nat)} {H H' : Hp} {fs : List (Str × V)} (x : okF n f g o st H fs) (k : ∀ c xs, H c = some (.tup xs) → H' c = some (.tup xs)) : okF n f g o st H' fs := by
  obtain ⟨tp, tm, ts, e, h1, h2, h3, h4⟩ := x
  exact ⟨tp, tm, ts, e, h1.same k, h2.same k, k _ _ h3, h4⟩
/-! ### a right semiring's tables as lists -/
def tabL (n : Nat) (f : Nat → Nat → Nat) : List (List Int) := (List.range n).map fun i => (List.range n).map fun j => (f i j : Int)
theorem tabL_len {n : Nat} {f : Nat → Nat → Nat} : (tabL n f).length = n := by unfold tabL; rw [List.length_map, List.length_range]
theorem tabL_row {n : Nat} {f : Nat → Nat → Nat} {row : List Int} (h : row ∈ tabL n f) : row.length = n := by
  obtain ⟨i, _, rfl⟩ := List.mem_map.mp h
  rw [List.length_map, List.length_range]
theorem tabL_rng {n : Nat} {f : Nat → Nat → Nat} (hf : cloC n f) {row : List Int} (h : row ∈ tabL n f) {x : Int} (hx : x ∈ row) : inR n x := by
  obtain ⟨i, hi, rfl⟩ := List.mem_map.mp h
  obtain ⟨j, hj, rfl⟩ := List.mem_map.mp hx
  have := hf i (List.mem_range.mp hi) j (List.mem_range.mp hj)
  exact ⟨by omega, by omega⟩
theorem range_at {n i : Nat} (h : i < n) : (List.range n)[i]? = some i := by rw [List.getElem?_eq_getElem (by simpa using h), List.getElem_range]
theorem fnN_tabL {n : Nat} {f : Nat → Nat → Nat} {i j : Nat} (hi : i < n) (hj : j < n) : fnN (tabL n f) i j = f i j := by
  unfold fnN fnI tabL
  rw [List.getD_eq_getElem?_getD, List.getD_eq_getElem?_getD, List.getElem?_map, range_at hi]
  show ((((List.range n).map fun j => (f i j : Int))[j]?).getD 0).toNat = f i j
  rw [List.getElem?_map, range_at hj]
  show ((f i j : Int)).toNat = f i j
  omega
theorem tt_rr {H : Hp} {p : Addr} {n : Nat} {f : Nat → Nat → Nat} (x : TT H p n (fun i j => (f i j : Int))) : RR H p (tabL n f) := by
  obtain ⟨rows, e1, e2, e3⟩ := x
  refine ⟨rows, e1, by rw [e2, tabL_len], fun i row h => ?_⟩
  have hi : i < n := by
    rcases Nat.lt_or_ge i (tabL n f).length with h' | h'
    · rw [tabL_len] at h'; exact h'
    · rw [List.getElem?_eq_none h'] at h; cases h
  obtain ⟨r, h1, h2⟩ := e3 i hi
  unfold tabL at h
  rw [List.getElem?_map, range_at hi] at h
  have : (List.range n).map (fun j => (f i j : Int)) = row := Option.some.inj h
  subst this
  exact ⟨r, h1, by rw [h2, List.map_map]; rfl⟩
abbrev stL (st : List (Option Nat)) : List (Option Int) := st.map (Option.map fun s : Nat => (s : Int))
theorem stL_map (st : List (Option Nat)) : (stL st).map stI = st.map stV := by
  rw [List.map_map]
  refine List.map_congr_left fun x _ => ?_
  cases x <;> rfl
theorem stL_back (st : List (Option Nat)) : (stL st).map (Option.map Int.toNat) = st := by
  rw [List.map_map]
  refine (List.map_congr_left fun x _ => ?_).trans (List.map_id _)
  cases x with
  | none => rfl
  | some x => show some ((x : Int).toNat) = some x; rw [Int.toNat_natCast]
theorem RingT.gen {H : Hp} {t n o : Nat} {f g : Nat → Nat → Nat} {st : List (Option Nat)} (x : RingT H t n f g o st) : RingG H t (tabL n f) (tabL n g) (o : Int) (some (stL st)) := by
  obtain ⟨p, m, u, h1, h2, h3, ⟨h4, _⟩, _⟩ := x
  exact ⟨p, m, .ref u, h1, tt_rr h2, tt_rr h3, .inr ⟨u, _, rfl, rfl, by rw [stL_map]; exact h4⟩⟩
/-- no check fails of a right semiring -/
theorem code_right {n o : Nat} {f g : Nat → Nat → Nat} {st : Option (List (Option Nat))} (sr : SR n f g o) (hn : n ≤ 16) (hl : ∀ l, st = some l → l.length = n ∧ ∀ (i s : Nat), l[i]? = some (some s) → s < n ∧ f o (g i s) = s) :
    codeOf (tabL n f) (tabL n g) (o : Int) (st.map stL) = none := by
  have F := fun {i j : Nat} (hi : i < n) (hj : j < n) => fnN_tabL (f := f) hi hj
  have G := fun {i j : Nat} (hi : i < n) (hj : j < n) => fnN_tabL (f := g) hi hj
  have hpos := sr.pos
  have sz : sizC (tabL n f) (tabL n g) (st.map stL) := by
    refine ⟨by rw [tabL_len]; exact hpos, by rw [tabL_len]; omega, by rw [tabL_len, tabL_len], fun l h => ?_, fun row h => ?_⟩
    · cases st with
      | none => cases h
      | some l0 =>
        have : stL l0 = l := Option.some.inj h
        subst this
        rw [tabL_len, List.length_map]
        exact (hl l0 rfl).1
    · rw [tabL_len]
      rcases List.mem_append.mp h with h | h <;> exact tabL_row h
  have rg : rngC (tabL n f).length (tabL n f) (tabL n g) (o : Int) (st.map stL) := by
    rw [tabL_len]
    refine ⟨fun row h x hx => ?_, fun l h x hx => ?_, by omega, by have := sr.oo; omega⟩
    · rcases List.mem_append.mp h with h | h
      · exact tabL_rng sr.pc h hx
      · exact tabL_rng sr.tc h hx
    · cases st with
      | none => cases h
      | some l0 =>
        have : stL l0 = l := Option.some.inj h
        subst this
        obtain ⟨i, hi, e⟩ := List.getElem_of_mem hx
        have e' : (stL l0)[i]? = some (some x) := by rw [List.getElem?_eq_getElem hi, e]
        rw [List.getElem?_map] at e'
        cases h0 : l0[i]? with
        | none => rw [h0] at e'; cases e'
        | some v =>
          rw [h0] at e'
          cases v with
          | none => cases e'
          | some s =>
            have : (s : Int) = x := by simpa using e'
            subst this
            have := ((hl l0 rfl).2 i s h0).1
            exact ⟨by omega, by omega⟩
  have h3 : symC (tabL n f).length (fnN (tabL n f)) := by rw [tabL_len]; exact fun a ha b hb => by rw [F ha hb, F hb ha]; exact sr.ps a ha b hb
  have h4 : assC (tabL n f).length (fnN (tabL n f)) := by rw [tabL_len]; exact fun a ha b hb c hc => by rw [F hb hc, F ha (sr.pc b hb c hc), F ha hb, F (sr.pc a ha b hb) hc]; exact sr.pa a ha b hb c hc
  have h5 : neuC (tabL n f).length (fnN (tabL n f)) 0 := by rw [tabL_len]; exact fun a ha => by rw [F hpos ha]; exact sr.p0 a ha
  have h6 : symC (tabL n f).length (fnN (tabL n g)) := by rw [tabL_len]; exact fun a ha b hb => by rw [G ha hb, G hb ha]; exact sr.ts a ha b hb
  have h7 : assC (tabL n f).length (fnN (tabL n g)) := by rw [tabL_len]; exact fun a ha b hb c hc => by rw [G hb hc, G ha (sr.tc b hb c hc), G ha hb, G (sr.tc a ha b hb) hc]; exact sr.ta a ha b hb c hc
  have h8 : neuC (tabL n f).length (fnN (tabL n g)) (o : Int).toNat := by rw [tabL_len, Int.toNat_natCast]; exact fun a ha => by rw [G sr.oo ha]; exact sr.t1 a ha
  have h9 : empC (tabL n f).length (fnN (tabL n g)) := by rw [tabL_len]; exact fun a ha => by rw [G hpos ha]; exact sr.t0 a ha
  have h10 : disC (tabL n f).length (fnN (tabL n f)) (fnN (tabL n g)) := by rw [tabL_len]; exact fun a ha b hb c hc => by rw [F hb hc, G ha (sr.pc b hb c hc), G ha hb, G ha hc, F (sr.tc a ha b hb) (sr.tc a ha c hc)]; exact sr.ds a ha b hb c hc
  have h11 : staO (fnN (tabL n f)) (fnN (tabL n g)) (o : Int).toNat (st.map stL) := by
    cases st with
    | none => exact fun a s e => by simp at e
    | some l0 =>
      intro a s e
      rw [show stO ((some l0).map stL) = l0 from stL_back l0] at e
      obtain ⟨h1, h2⟩ := (hl l0 rfl).2 a s e
      have ha : a < n := by
        have := (hl l0 rfl).1
        rcases Nat.lt_or_ge a l0.length with h | h
        · omega
        · rw [List.getElem?_eq_none h] at e; cases e
      rw [Int.toNat_natCast, G ha h1, F sr.oo (sr.tc a ha s h1), h2]
  unfold codeOf
  rw [if_pos sz, if_pos rg, if_pos h3, if_pos h4, if_pos h5, if_pos h6, if_pos h7, if_pos h8, if_pos h9, if_pos h10, if_pos h11]
theorem code_ne {A B : List (List Int)} {o : Int} {st : Option (List (Option Int))} {c : Str} (h : codeOf A B o st = some c) : ¬ codeL (some c) = "" := by
  obtain ⟨n1, n2, n3, n4, n5, n6, n7⟩ := str_ne
  have n8 : ("size" : Str) ≠ "" ∧ ("range" : Str) ≠ "" ∧ ("spread" : Str) ≠ "" ∧ ("star" : Str) ≠ "" := by decide +kernel
  unfold codeOf at h
  repeat (split at h)
  all_goals first | (cases h; done) | (have z := Option.some.inj h; subst z; show ¬ _ = _; first | assumption | exact n8.1 | exact n8.2.1 | exact n8.2.2.1 | exact n8.2.2.2)
/-- tuple([v for k in range(33)]) -/
theorem tup33 {K : PySem.W.Frag} {te : TE} {kk : Nat} {v : V} {σ : L2.St} {H : Hp} {Q : VK} (hte : ∀ H' (Q' : VK) (x : V), Same H H' → Q' v H' → te ((wipe σ [kk]).set kk (some x)) H' Q') (w1 : ∀ x, wipe ((wipe σ [kk]).set kk (some x)) [kk] = wipe σ [kk])
    (q : ∀ p H', Same H H' → H' p = some (.tup (List.replicate 33 v)) → Q (.ref p) H') : tCB (rTupOf K) (tCons (tLc (iRng1 (tCons (tC (V.int 33)) tNil)) (gName kk) tYes te [kk]) tNil) σ H Q := by
  refine ⟨_, rfl, by decide, by decide, fun D hD => ?_⟩
  refine lc_vals (lo := 0) (n := 33) (fun _ => v) hD (by decide) w1 (fun i H' Kt hi s kt => hte H' Kt _ s (kt H' (Same.refl _))) (fun H' s e => ?_)
  refine ⟨D, _, rfl, .inl ⟨SqL.of e, fun p hp => ?_⟩⟩
  have sp := same_new (o := .tup ((List.range 33).map fun _ => v)) (Same.refl _) hp
  exact q p _ (fun b o z => sp b o (s b o z)) (by rw [upd_same]; rfl)
def spLaw (K : PySem.W.Frag) (tabs : Hp → Prop) : Sp := fun vs H Q _ => ∃ (a : Addr) (ns : List Int), vs = [.ref a] ∧ SqL K H a (ns.map V.int) ∧ ns.length ≤ 63 ∧ tabs H ∧ ∀ H', Q (.bl true) H'
abbrev RgF (P : Program) (w : World) (K : PySem.W.Frag) (mg : Str → Option Value) (base : Heap) (ad : Ad) (nm : Str) (sp : (n : Nat) → (f g : Nat → Nat → Nat) → (o : Nat) → (st : List (Option Nat)) → Sp) : Prop := ∀ n f g o st, MetX P w K mg base 3 ad.Finite nm (sp n f g o st)
/-- all methods that the law comes to -/
structure Mets (P : Program) (w : World) (K : PySem.W.Frag) (mg : Str → Option Value) (base : Heap) (ad : Ad) : Prop where
  zero : RgF P w K mg base ad "zero" fun n f g o st => spNulG ad.Finite (okF n f g o st) (.int 0)
  one : RgF P w K mg base ad "one" fun n f g o st => spNulG ad.Finite (okF n f g o st) (.int (o : Int))
  size : RgF P w K mg base ad "size" fun n f g o st => spNulG ad.Finite (okF n f g o st) (.int (n : Int))
  plus : RgF P w K mg base ad "plus" fun n f g o st => spBinG ad.Finite (okF n f g o st) (elF n) (binF f)
  times : RgF P w K mg base ad "times" fun n f g o st => spBinG ad.Finite (okF n f g o st) (elF n) (binF g)
  elem : RgF P w K mg base ad "is_element" fun n f g o st => spElG ad.Finite (okF n f g o st) (betV 0 ((n : Int) - 1))
/-- isinstance(ring, str) of an object of Finite -/
structure NoStr (K : PySem.W.Frag) (C : Addr) : Prop where
  ha : PySem.W.findIn K (.ref C) "__class__" = some (some (.builtin "object.__class__"))
  hn : PySem.W.specialIn K (.builtin "object.__class__") "__get__" = some (some (.builtin "getset_descriptor.__get__"))
  ht : PySem.W.takesIn K (.builtin "object.__class__") = some true
  hm : PySem.W.mroIn K C (.type "object") = some true
  hk : PySem.W.kitOne K (.ref C) (.type "str") = some false
theorem ok_law {sz en sy ag ne di : Addr} (M : Mets P w K mg base ad) (NS : NoStr K ad.Finite) (c_law_pot : CalX P w K mg base 1 "_law_pot" (spPot K)) (c_law_ring : CalX P w K mg base 4 "_law_ring" spRing) (c_law_is_ring : CalX P w K mg base 1 "_law_is_ring" spIsRing) (c_law_made : CalX P w K mg base 8 "_law_made" (spMade (Six sz en sy ag ne di) ad.Finite)) (c_law_code : CalX P w K mg base 2 "_law_code" spCode) (c_law_changed : CalX P w K mg base 2 "_law_changed" spChg) (c_law_star : ∀ n f g o st, CalX P w K mg base 4 "_law_star" (spLS ad.Finite n o f g st)) (mFin3 : MakX P w K mg base 6 "Finite" ad.Finite (fun vs H Q E => spFIB ad.Finite ad.AxiomError (Six sz en sy ag ne di) (vs ++ [.non]) H Q E)) {f : Addr} {fd : FuncData} (F : Fun K "law" "law" s_law f fd) (T : Txt K mg ad) : FnOk P w K mg base (L2.CX P w) 21 f fd ["script"] (spLaw K (Six sz en sy ag ne di)) := by
  refine F.okX sc_law (fun vs H Q E => ?_) (fun cdv A outer s H vs Q E hr h => ?_)
  · walk_at "len"
  ·
    obtain ⟨a, ns, rfl, hS, hl, t6, k⟩ := h
    refine ⟨_, (pss_cons (ps_set (i := 1) sc_law.nd rfl (by first | exact Or.inl rfl | exact Or.inr rfl) (pc_call c_law_pot hr (by first | decide | omega) (takes_of rfl rfl rfl rfl) (by rfl) (pa_cons (pv 0) pa_nil)))
      (pss_cons (ps_set (i := 2) sc_law.nd rfl (by first | exact Or.inl rfl | exact Or.inr rfl) (pc_call c_law_ring hr (by first | decide | omega) (takes_of rfl rfl rfl rfl) (by rfl) (pa_cons (pv 1) pa_nil)))
      (pss_cons (ps_if (pt_not (pt_val (pc_call c_law_is_ring hr (by first | decide | omega) (takes_of rfl rfl rfl rfl) (by rfl) (pa_cons (pv 2) pa_nil)))) (pss_one (ps_ret pe_bl)) pss_nil)
      (pss_cons (ps_set (i := 3) sc_law.nd rfl (by first | exact Or.inl rfl | exact Or.inr rfl) (pc_call c_law_made hr (by first | decide | omega) (takes_of rfl rfl rfl rfl) (by rfl) (pa_cons (pv 2) pa_nil)))
      (pss_cons (ps_if (PW.pt (pw_or (pt_val (pe_callB call_isi (by rfl) T.z_isinstance (by decide +kernel) (pa_cons (pv 3) (pa_cons (pe_bltn (v := .ty "str") (by rfl) T.z_str (by decide +kernel) rfl) pa_nil)))) (pw_or (pt_cmpR op_ne (pd_meth0 hr (takes_of rfl rfl rfl rfl) (pv 3)) (pe_callB call_len (by rfl) T.z_len (by decide +kernel) (pa_cons (pe_ix ix_tup (pv 2) pe_int (fun _ _ => rfl)) pa_nil)) (nomark _)) (pw_or (pt_cmpR op_ne (pd_meth0 hr (takes_of rfl rfl rfl rfl) (pv 3)) pe_int (nomark _)) (pw_or1 (pt_cmpR op_ne (pd_meth0 hr (takes_of rfl rfl rfl rfl) (pv 3)) (pe_ix ix_tup (pv 2) pe_int (fun _ _ => rfl)) (nomark _))))))) (pss_one (ps_ret pe_bl)) pss_nil)
      (C8.pss_cut (ps_for (passes_of rfl) rfl (pi_range1 (by rfl) T.z_range (pa_cons (pe_callB call_len (by rfl) T.z_len (by decide +kernel) (pa_cons (pe_ix ix_tup (pv 2) pe_int (fun _ _ => rfl)) pa_nil)) pa_nil)) (pg_name (i := 4) sc_law.nd rfl (by first | exact Or.inl rfl | exact Or.inr rfl)) (pss_cons (ps_if (PW.pt (pw_or (pt_cmpR op_ne (pd_call hr (takes_of rfl rfl rfl rfl) (by rfl) (pa_cons (pv 3) (pa_cons (pv 4) pa_nil))) (pe_ix ix_tup (pe_ix ix_tup (pv 2) pe_int (fun _ _ => rfl)) (pv 4) (fun _ _ => rfl)) (nomark _)) (pw_or1 (pt_cmpR op_notBl (pd_meth hr (takes_of rfl rfl rfl rfl) (pv 3) (pa_cons (pv 4) pa_nil)) pe_bl (nomark _))))) (pss_one (ps_ret pe_bl)) pss_nil)
      (pss_one (ps_for (passes_of rfl) rfl (pi_range1 (by rfl) T.z_range (pa_cons (pe_callB call_len (by rfl) T.z_len (by decide +kernel) (pa_cons (pe_ix ix_tup (pv 2) pe_int (fun _ _ => rfl)) pa_nil)) pa_nil)) (pg_name (i := 5) sc_law.nd rfl (by first | exact Or.inl rfl | exact Or.inr rfl)) (pss_one (ps_if (PW.pt (pw_or (pt_cmpR op_ne (pd_meth hr (takes_of rfl rfl rfl rfl) (pv 3) (pa_cons (pv 4) (pa_cons (pv 5) pa_nil))) (pe_ix ix_tup (pe_ix ix_tup (pe_ix ix_tup (pv 2) pe_int (fun _ _ => rfl)) (pv 4) (fun _ _ => rfl)) (pv 5) (fun _ _ => rfl)) (nomark _)) (pw_or1 (pt_cmpR op_ne (pd_meth hr (takes_of rfl rfl rfl rfl) (pv 3) (pa_cons (pv 4) (pa_cons (pv 5) pa_nil))) (pe_ix ix_tup (pe_ix ix_tup (pe_ix ix_tup (pv 2) pe_int (fun _ _ => rfl)) (pv 4) (fun _ _ => rfl)) (pv 5) (fun _ _ => rfl)) (nomark _))))) (pss_one (ps_ret pe_bl)) pss_nil))))))
      (C8.pss_cut (ps_if (pt_val (pe_callB (cr_any rfl) (by rfl) T.z_any (by decide +kernel) (pa_cons (pe_lc (own := [("thing", 12)]) (tt := tYes) rfl sc_law.nd (pi_list (pe_lst (pa_cons (pe_un un_neg pe_int) (pa_cons (pe_callB call_len (by rfl) T.z_len (by decide +kernel) (pa_cons (pe_ix ix_tup (pv 2) pe_int (fun _ _ => rfl)) pa_nil)) (pa_cons pe_bl (pa_cons pe_non (pa_cons pe_str (pa_cons (pe_tup (pa_cons pe_int pa_nil)) pa_nil)))))))) (blkOk_by (by kernel_rfl)) (fun _ _ _ _ _ => (pg_name (i := 12) sc_law.nd rfl (by first | exact Or.inl rfl | exact Or.inr rfl))) (fun _ _ _ _ _ => pts_nil) (fun _ _ _ _ _ => (kpd_meth (P := P) (w := w) (K := K) (mg := mg) (base := base) hr takes0 (pv 3) (pa_cons (pv 12) pa_nil)))) pa_nil))) (pss_one (ps_ret pe_bl)) pss_nil)
      (C8.pss_cut (ps_for (passes_of rfl) rfl (pi_range1 (by rfl) T.z_range (pa_cons pe_int pa_nil)) (pg_name (i := 6) sc_law.nd rfl (by first | exact Or.inl rfl | exact Or.inr rfl)) (pss_cons (ps_set (i := 7) sc_law.nd rfl (by first | exact Or.inl rfl | exact Or.inr rfl) (pc_call c_law_changed hr (by first | decide | omega) (takes_of rfl rfl rfl rfl) (by rfl) (pa_cons (pv 1) (pa_cons (pv 2) pa_nil))))
      (pss_cons (ps_set (i := 8) sc_law.nd rfl (by first | exact Or.inl rfl | exact Or.inr rfl) (pc_call c_law_made hr (by first | decide | omega) (takes_of rfl rfl rfl rfl) (by rfl) (pa_cons (pv 7) pa_nil)))
      (pss_cons (ps_set (i := 9) sc_law.nd rfl (by first | exact Or.inl rfl | exact Or.inr rfl) (pc_call c_law_code hr (by first | decide | omega) (takes_of rfl rfl rfl rfl) (by rfl) (pa_cons (pv 7) pa_nil)))
      (pss_one (ps_if (PW.pt (pw_or (PW.pt (pw_and (pt_cmpR op_eq (pv 9) pe_str (nomark _)) (pw_and1 (pt_val (pe_callB call_isi (by rfl) T.z_isinstance (by decide +kernel) (pa_cons (pv 8) (pa_cons (pe_bltn (v := .ty "str") (by rfl) T.z_str (by decide +kernel) rfl) pa_nil))))))) (pw_or1 (PW.pt (pw_and (pt_cmpR op_ne (pv 9) pe_str (nomark _)) (pw_and1 (pt_cmpR op_ne (pv 8) (pv 9) (nomark _)))))))) (pss_one (ps_ret pe_bl)) pss_nil))))))
      (pss_cons (ps_set (i := 10) sc_law.nd rfl (by first | exact Or.inl rfl | exact Or.inr rfl) (pd_make hr (takes_of rfl rfl rfl rfl) (by rfl) (pa_cons (pe_ix ix_tup (pv 2) pe_int (fun _ _ => rfl)) (pa_cons (pe_ix ix_tup (pv 2) pe_int (fun _ _ => rfl)) (pa_cons (pe_ix ix_tup (pv 2) pe_int (fun _ _ => rfl)) pa_nil)))))
      (pss_cons (ps_set (i := 11) sc_law.nd rfl (by first | exact Or.inl rfl | exact Or.inr rfl) (pe_callTy call_tuple_of (by rfl) T.z_tuple (by decide +kernel) (pa_cons (pe_lc (own := [("k", 6)]) (tt := tYes) rfl sc_law.nd (pi_range1 (by rfl) T.z_range (pa_cons pe_int pa_nil)) (blkOk_by (by kernel_rfl)) (fun _ _ _ _ _ => (pg_name (i := 6) sc_law.nd rfl (by first | exact Or.inl rfl | exact Or.inr rfl))) (fun _ _ _ _ _ => pts_nil) (fun _ _ _ _ _ => pe_int)) pa_nil)))
      (pss_cons (ps_if (pt_cmpR op_ne (pc_call c_law_made hr (by first | decide | omega) (takes_of rfl rfl rfl rfl) (by rfl) (pa_cons (pe_tup (pa_cons (pe_callTy call_tuple_of (by rfl) T.z_tuple (by decide +kernel) (pa_cons (pe_lc (own := [("k", 6)]) (tt := tYes) rfl sc_law.nd (pi_range1 (by rfl) T.z_range (pa_cons pe_int pa_nil)) (blkOk_by (by kernel_rfl)) (fun _ _ _ _ _ => (pg_name (i := 6) sc_law.nd rfl (by first | exact Or.inl rfl | exact Or.inr rfl))) (fun _ _ _ _ _ => pts_nil) (fun _ _ _ _ _ => (pv 11))) pa_nil)) (pa_cons (pe_callTy call_tuple_of (by rfl) T.z_tuple (by decide +kernel) (pa_cons (pe_lc (own := [("k", 6)]) (tt := tYes) rfl sc_law.nd (pi_range1 (by rfl) T.z_range (pa_cons pe_int pa_nil)) (blkOk_by (by kernel_rfl)) (fun _ _ _ _ _ => (pg_name (i := 6) sc_law.nd rfl (by first | exact Or.inl rfl | exact Or.inr rfl))) (fun _ _ _ _ _ => pts_nil) (fun _ _ _ _ _ => (pv 11))) pa_nil)) (pa_cons pe_int (pa_cons pe_non pa_nil))))) pa_nil)) pe_str (nomark _)) (pss_one (ps_ret pe_bl)) pss_nil)
      (pss_one (ps_ret (pe_and (pe_cmpR op_isN (pd_call hr (takes_of rfl rfl rfl rfl) (by rfl) (pa_cons (pv 10) (pa_cons (pe_ix ix_tup (pv 2) pe_int (fun _ _ => rfl)) pa_nil))) pe_non (nomark _)) (pe_one (pe_cmpR op_eq (pc_call c_law_made hr (by first | decide | omega) (takes_of rfl rfl rfl rfl) (by rfl) (pa_cons (pe_tup (pa_cons (pe_tup pa_nil) (pa_cons (pe_tup pa_nil) (pa_cons pe_int (pa_cons pe_non pa_nil))))) pa_nil)) pe_str (nomark _))))))))))))))))), ?_⟩
    refine go_seq ⟨_, rfl, a, ns, rfl, hS, hl, fun H1 pot s1 _ p1 => go_name rfl ?_⟩
    refine go_seq ⟨_, rfl, pot, rfl, p1, fun H2 t n f g o st fr2 p2 R => go_name rfl ?_⟩
    have t62 : Six sz en sy ag ne di H2 := by
      have q := FrQ.of1 fr2 p1
      have T1 := t6.fr (FrT.of s1)
      exact ⟨q.tabs _ T1.sz, q.tabs _ T1.en, q.tabs _ T1.sy, q.tabs _ T1.ag, q.tabs _ T1.ne, q.tabs _ T1.di⟩
    have R0 := R
    obtain ⟨tp, tm, tu, ht, hp, hm, hu, sr, hn⟩ := R0
    refine ⟨_, rfl, t, n, o, f, g, st, rfl, R, _, rfl, iteF (go_next ?_)⟩
    have hc : codeOf (tabL n f) (tabL n g) (o : Int) (some (stL st)) = none := code_right (st := some st) sr hn fun l h => by cases h; exact hu.2
    refine go_seq ⟨_, rfl, t, tabL n f, tabL n g, (o : Int), some (stL st), rfl, R.gen, by rw [tabL_len]; omega, by rw [tabL_len]; omega, t62, fun _ H3 q dx fs f3 hq0 hq ok => go_name rfl ?_, fun c z => by rw [hc] at z; cases z⟩
    have q2 : FrQ pot H2 H3 := FrQ.ofT f3
    have p3 : PotAt H3 pot := p2.frT f3
    have t63 : Six sz en sy ag ne di H3 := t62.fr f3
    have ok' : okF n (fnN (tabL n f)) (fnN (tabL n g)) o st H3 fs := by
      rw [tabL_len, Int.toNat_natCast, show stF n (some (stL st)) = st from stL_back st] at ok
      exact ok
    have R3 := R.same (H' := H3) fun c xs e => f3.tup e
    have hno : ∀ m : Str, ¬ m = "_plus" → ¬ m = "_times" → ¬ m = "_one" → ¬ m = "_stars" → fs.lookup m = none := fun m h1 h2 h3 h4 => by
      obtain ⟨_, _, _, rfl, _⟩ := ok'
      exact fF_no _ _ _ _ h1 h2 h3 h4
    obtain ⟨rows, er, el⟩ := tt_len hp
    have ht3 := f3.tup ht
    have er3 := f3.tup er
    refine ⟨_, rfl, _, _, _, _, false, rfl, .ty _, .base (.ins hq T.c_Finite NS.ha NS.hn NS.ht NS.hm), NS.hk, _, rfl, iteF ?_⟩
    refine ⟨_, rfl, q, _, dx, fs, 3, _, rfl, hq, hno _ (by decide) (by decide) (by decide) (by decide), by decide, M.size n (fnN (tabL n f)) (fnN (tabL n g)) o st, q, dx, fs, rfl, hq, ok', _, rfl, t, _, _, _, rfl, rfl, SqT.of ht3, at_of (j := 0) rfl rfl, .ref tp, _, rfl, .inr ⟨_, SqT.of er3, rfl⟩, rfl, _, rfl, ?_⟩
    rw [el, decide_eq_true rfl]
    refine iteF ⟨_, rfl, q, _, dx, fs, 3, _, rfl, hq, hno _ (by decide) (by decide) (by decide) (by decide), by decide, M.zero n (fnN (tabL n f)) (fnN (tabL n g)) o st, q, dx, fs, rfl, hq, ok', rfl, _, rfl, ?_⟩
    rw [decide_eq_true rfl]
    refine iteF ⟨_, rfl, q, _, dx, fs, 3, _, rfl, hq, hno _ (by decide) (by decide) (by decide) (by decide), by decide, M.one n (fnN (tabL n f)) (fnN (tabL n g)) o st, q, dx, fs, rfl, hq, ok', _, rfl, t, _, _, _, rfl, rfl, SqT.of ht3, at_of (j := 2) rfl rfl, rfl, _, rfl, ?_⟩
    rw [decide_eq_true rfl]
    refine iteF (go_next ?_)
    refine ⟨fun σ H' => ∃ va vb : Option V, σ = [some (.ref a), some (.ref pot), some (.ref t), some (.ref q), va, vb, none, none, none, none, none, none, none] ∧ H' = H3, ?_, ?_⟩
    · refine ⟨_, rfl, t, _, _, _, rfl, rfl, SqT.of ht3, at_of (j := 0) rfl rfl, .ref tp, _, rfl, .inr ⟨_, SqT.of er3, rfl⟩, _, rfl, by omega, by omega, ?_⟩
      rw [el, Int.toNat_natCast]
      refine for_range (lo := 0) (n := n) (fun i σ H' => ∃ va vb : Option V, σ = [some (.ref a), some (.ref pot), some (.ref t), some (.ref q), va, vb, none, none, none, none, none, none, none] ∧ H' = H3) ⟨_, _, rfl, rfl⟩ ?_ ?_
      · rintro i σ H4 hi ⟨va, vb, rfl, rfl⟩
        rw [Int.zero_add]
        refine go_name rfl ?_
        obtain ⟨v, hv⟩ : ∃ v, st[i]? = some v := ⟨_, List.getElem?_eq_getElem (by have := hu.2.1; omega)⟩
        have hu4 := f3.tup hu.1
        have hv' : (st.map stV)[i]? = some (stV v) := by rw [List.getElem?_map, hv]; rfl
        have hst := starF_at hv
        have told3 : ∀ {x : V} {Q' : VK}, x = stV v → Q' (.bl false) H4 → tOp (rIxT K) (tOp (rIxT K) (tVar 2) (tC (.int 3))) (tVar 4) [some (.ref a), some (.ref pot), some (.ref t), some (.ref q), some (.int (i : Int)), vb, none, none, none, none, none, none, none] H4 (fun y H5 => rNe x y H5 Q') := fun {x Q'} ex q' => by
          refine ⟨_, rfl, t, _, _, _, rfl, rfl, SqT.of ht3, at_of (j := 3) rfl rfl, _, rfl, tu, _, _, _, rfl, rfl, SqT.of hu4, at_of rfl hv', ?_, ?_⟩
          · rw [ex]; cases v <;> rfl
          · rw [ex, decide_eq_true rfl]; exact q'
        rcases v with _ | s0
        case' none =>
          refine ⟨4, _, by decide, c_law_star n (fnN (tabL n f)) (fnN (tabL n g)) o st, _, rfl, _, rfl, q, dx, fs, .int (i : Int), rfl, hq, ok', ⟨i, rfl, hi⟩, fun s hs => (by rw [hst] at hs; cases hs), fun hs => told3 rfl ⟨_, rfl, iteF ?_⟩⟩
        case' some =>
          refine ⟨4, _, by decide, c_law_star n (fnN (tabL n f)) (fnN (tabL n g)) o st, _, rfl, _, rfl, q, dx, fs, .int (i : Int), rfl, hq, ok', ⟨i, rfl, hi⟩, fun s hs => told3 (by rw [hst] at hs; exact (Option.some.inj hs).symm) ⟨_, rfl, iteF ?_⟩, fun hs => (by rw [hst] at hs; cases hs)⟩
        all_goals
          refine ⟨_, rfl, q, _, dx, fs, 3, _, rfl, hq, hno _ (by decide) (by decide) (by decide) (by decide), by decide, M.elem n (fnN (tabL n f)) (fnN (tabL n g)) o st, _, rfl, q, dx, fs, .int (i : Int), rfl, hq, ok', .int _, ?_⟩
          rw [show betV 0 ((n : Int) - 1) (.int (i : Int)) = true from decide_eq_true ⟨by omega, by omega⟩]
          refine ⟨_, _, rfl, rfl, _, rfl, iteF (go_next ?_)⟩
          refine ⟨_, rfl, t, _, _, _, rfl, rfl, SqT.of ht3, at_of (j := 0) rfl rfl, .ref tp, _, rfl, .inr ⟨_, SqT.of er3, rfl⟩, _, rfl, by omega, by omega, ?_⟩
          rw [el, Int.toNat_natCast]
          refine for_range (lo := 0) (n := n) (fun j σ H' => ∃ vb : Option V, σ = [some (.ref a), some (.ref pot), some (.ref t), some (.ref q), some (.int (i : Int)), vb, none, none, none, none, none, none, none] ∧ H' = H4) ⟨_, rfl, rfl⟩ ?_ ?_
          · rintro j σ H5 hj ⟨vb, rfl, rfl⟩
            rw [Int.zero_add]
            refine go_name rfl ?_
            obtain ⟨r1, rows1, a1, a2, cells1, a3, a4⟩ := tt_at (hp.same (H' := H5) fun c xs e => f3.tup e) hi hj
            obtain ⟨r2, rows2, b1, b2, cells2, b3, b4⟩ := tt_at (hm.same (H' := H5) fun c xs e => f3.tup e) hi hj
            refine ⟨_, rfl, q, _, dx, fs, 3, _, rfl, hq, hno _ (by decide) (by decide) (by decide) (by decide), by decide, M.plus n (fnN (tabL n f)) (fnN (tabL n g)) o st, _, rfl, _, rfl, q, dx, fs, .int (i : Int), .int (j : Int), rfl, hq, ok', ⟨i, rfl, hi⟩, ⟨j, rfl, hj⟩, ?_⟩
            rw [show binF (fnN (tabL n f)) (.int (i : Int)) (.int (j : Int)) = .int ((f i j : Nat) : Int) by show V.int ((fnN (tabL n f) (i : Int).toNat (j : Int).toNat : Nat) : Int) = _; rw [Int.toNat_natCast, Int.toNat_natCast, fnN_tabL hi hj]]
            refine ⟨_, rfl, t, _, _, _, rfl, rfl, SqT.of ht3, at_of (j := 0) rfl rfl, _, rfl, tp, _, _, _, rfl, rfl, SqT.of a1, at_of rfl a2, _, rfl, r1, _, _, _, rfl, rfl, SqT.of a3, at_of rfl a4, rfl, _, rfl, ?_⟩
            rw [decide_eq_true rfl]
            refine iteF ⟨_, rfl, q, _, dx, fs, 3, _, rfl, hq, hno _ (by decide) (by decide) (by decide) (by decide), by decide, M.times n (fnN (tabL n f)) (fnN (tabL n g)) o st, _, rfl, _, rfl, q, dx, fs, .int (i : Int), .int (j : Int), rfl, hq, ok', ⟨i, rfl, hi⟩, ⟨j, rfl, hj⟩, ?_⟩
            rw [show binF (fnN (tabL n g)) (.int (i : Int)) (.int (j : Int)) = .int ((g i j : Nat) : Int) by show V.int ((fnN (tabL n g) (i : Int).toNat (j : Int).toNat : Nat) : Int) = _; rw [Int.toNat_natCast, Int.toNat_natCast, fnN_tabL hi hj]]
            refine ⟨_, rfl, t, _, _, _, rfl, rfl, SqT.of ht3, at_of (j := 1) rfl rfl, _, rfl, tm, _, _, _, rfl, rfl, SqT.of b1, at_of rfl b2, _, rfl, r2, _, _, _, rfl, rfl, SqT.of b3, at_of rfl b4, rfl, _, rfl, ?_⟩
            rw [decide_eq_true rfl]
            exact iteF ⟨_, rfl, rfl⟩
          · rintro σ H5 ⟨vb, rfl, rfl⟩
            exact ⟨_, _, rfl, rfl⟩
      · rintro σ H4 ⟨va, vb, rfl, rfl⟩
        exact ⟨_, _, rfl, rfl⟩
    rintro σ H4 ⟨va, vb, rfl, rfl⟩
    -- what is no element
    refine ⟨fun σ H' => σ = [some (.ref a), some (.ref pot), some (.ref t), some (.ref q), va, vb, none, none, none, none, none, none, none] ∧ FrQ pot H4 H' ∧ PotAt H' pot, ?_, ?_⟩
    · refine ⟨_, rfl, _, rfl, t, _, _, _, rfl, rfl, SqT.of ht3, at_of (j := 0) rfl rfl, .ref tp, _, rfl, .inr ⟨_, SqT.of er3, rfl⟩, by (show 1 ≤ sizeLine); decide, fun x0 hx0 => ⟨by (show 6 ≤ sizeLine); decide, fun L hL => ⟨L, rfl, ⟨_, SqL.of upd_same⟩, fun D hD => ?_⟩⟩⟩
      rw [el] at hD ⊢
      have sx := same_new (o := .tup [V.int 0]) (Same.refl _) hx0
      have sL := same_new (o := .lst [V.int (-1), .int (n : Int), .bl true, .non, .str "0", .ref x0]) (Same.refl _) hL
      have S5 : Same H4 _ := fun b o' z => sL b o' (sx b o' z)
      refine lc_lst (K := K) (L := L) (xs := [V.int (-1), .int (n : Int), .bl true, .non, .str "0", .ref x0]) (fun i v H' => v = .bl false) hD (SqL.of upd_same) (fun H' s => SqL.of (s _ _ upd_same)) (fun i v H H' _ h => h) (by show 6 ≤ 100000; decide) (fun _ => rfl) (fun i v H' acc Kt hv s _ kt => ?_) (fun H' rows' s e' l' h' => ?_)
      · have S := fun b o' (z : H4 b = some o') => s b o' (S5 b o' z)
        have hk : Thg H' v ∧ betV 0 ((n : Int) - 1) v = false := by
          have hm := List.mem_of_getElem? hv
          simp only [List.mem_cons, List.not_mem_nil, or_false] at hm
          rcases hm with rfl | rfl | rfl | rfl | rfl | rfl
          · exact ⟨.int _, by show decide ((0 : Int) ≤ -1 ∧ (-1 : Int) ≤ (n : Int) - 1) = false; exact decide_eq_false fun z => absurd z.1 (by decide)⟩
          · exact ⟨.int _, by show decide ((0 : Int) ≤ (n : Int) ∧ (n : Int) ≤ (n : Int) - 1) = false; exact decide_eq_false fun z => absurd z.2 (by omega)⟩
          · exact ⟨.bl _, rfl⟩
          · exact ⟨.non, rfl⟩
          · exact ⟨.str _, rfl⟩
          · exact ⟨.tup (s _ _ (sL _ _ upd_same)), rfl⟩
        refine ⟨_, rfl, q, _, dx, fs, 3, _, rfl, S _ _ hq, hno _ (by decide) (by decide) (by decide) (by decide), by decide, M.elem n (fnN (tabL n f)) (fnN (tabL n g)) o st, _, rfl, q, dx, fs, v, rfl, S _ _ hq, ok'.tup fun c xs e => S _ _ e, hk.1, ?_⟩
        rw [hk.2]
        exact kt _ _ (Same.refl _) rfl
      · have e2 := ext_of (f := fun _ => V.bl false) l' h'
        rw [e2] at e'
        refine ⟨D, (List.range 6).map (fun _ => false), rfl, SqL.of (by rw [List.map_map]; exact e'), _, rfl, ?_⟩
        rw [show ((List.range 6).map (fun _ => false)).any id = false by decide]
        have S := fun b o' (z : H4 b = some o') => s b o' (S5 b o' z)
        exact iteF (go_next ⟨rfl, FrQ.ofT (FrT.of S), p3.same S⟩)
    rintro σ H5 ⟨rfl, q5, p5⟩
    -- three changes
    have Rg : RingG H4 t (tabL n f) (tabL n g) (o : Int) (some (stL st)) := R3.gen
    refine ⟨fun σ H' => ∃ v6 v7 v8 v9 : Option V, σ = [some (.ref a), some (.ref pot), some (.ref t), some (.ref q), va, vb, v6, v7, v8, v9, none, none, none] ∧ FrQ pot H4 H' ∧ PotAt H' pot, ?_, ?_⟩
    · refine ⟨_, rfl, by decide, by decide, ?_⟩
      refine for_range (lo := 0) (n := 3) (fun i σ H' => ∃ v6 v7 v8 v9 : Option V, σ = [some (.ref a), some (.ref pot), some (.ref t), some (.ref q), va, vb, v6, v7, v8, v9, none, none, none] ∧ FrQ pot H4 H' ∧ PotAt H' pot) ⟨_, _, _, _, rfl, q5, p5⟩ ?_ ?_
      · rintro i σ H6 hi ⟨v6, v7, v8, v9, rfl, q6, p6⟩
        refine go_name rfl ?_
        refine go_seq ⟨_, rfl, _, rfl, pot, t, tabL n f, tabL n g, (o : Int), stL st, n, rfl, p6, Rg.same fun c xs e => q6.tup p3 e, tabL_len, tabL_len, fun row h => tabL_row h, fun row h => tabL_row h, by rw [List.length_map]; exact hu.2.1, sr.pos, hn, fun H7 cq A' B' o' st' f7 p7 R7 l7 l7' => go_name rfl ?_⟩
        have q7 : FrQ pot H4 H7 := q6.trans (FrQ.of1 f7 p6)
        have t67 : Six sz en sy ag ne di H7 := ⟨q7.tabs _ t63.sz, q7.tabs _ t63.en, q7.tabs _ t63.sy, q7.tabs _ t63.ag, q7.tabs _ t63.ne, q7.tabs _ t63.di⟩
        refine go_seq ⟨_, rfl, cq, A', B', o', st', rfl, R7, l7, l7', t67, fun hc H8 q2 d2 fs2 f8 _ hq2 ok2 => go_name rfl ?_, fun c hc H8 f8 => go_name rfl ?_⟩
        · refine go_seq ⟨_, rfl, cq, A', B', o', st', rfl, R7.same fun c xs e => f8.tup e, l7, l7', fun H9 c' s9 ec => go_name rfl ?_⟩
          rw [hc] at ec
          subst ec
          refine ⟨_, rfl, rfl, _, rfl, ?_⟩
          rw [strEq, decide_eq_true (show codeL none = "" from rfl)]
          refine iteT ⟨_, rfl, _, _, _, _, false, rfl, .ty _, .base (.ins (s9 _ _ hq2) T.c_Finite NS.ha NS.hn NS.ht NS.hm), NS.hk, _, rfl, iteF ?_⟩
          refine ⟨_, rfl, rfl, _, rfl, ?_⟩
          rw [strEq, decide_eq_true (show codeL none = "" from rfl)]
          refine iteF (iteF (go_next ⟨_, _, _, _, rfl, q7.trans ((FrQ.ofT f8).trans (FrQ.ofT (FrT.of s9))), (p7.frT f8).same s9⟩))
        · refine go_seq ⟨_, rfl, cq, A', B', o', st', rfl, R7.same fun c xs e => f8.tup e, l7, l7', fun H9 c' s9 ec => go_name rfl ?_⟩
          rw [hc] at ec
          subst ec
          have hne : ¬ c' = "" := code_ne hc
          refine ⟨_, rfl, rfl, _, rfl, ?_⟩
          rw [strEq, decide_eq_false hne]
          refine iteF (iteF ⟨_, rfl, rfl, _, rfl, ?_⟩)
          rw [strEq, decide_eq_false hne]
          refine iteT ⟨_, rfl, _, rfl, rfl, _, rfl, ?_⟩
          rw [decide_eq_true (show V.str c' = V.str c' from rfl)]
          refine iteF (go_next ⟨_, _, _, _, rfl, q7.trans ((FrQ.ofT f8).trans (FrQ.ofT (FrT.of s9))), (p7.frT f8).same s9⟩)
      · rintro σ H6 ⟨v6, v7, v8, v9, rfl, q6, p6⟩
        exact ⟨_, _, _, _, rfl, q6, p6⟩
    rintro σ H6 ⟨v6, v7, v8, v9, rfl, q6, p6⟩
    have t66 : Six sz en sy ag ne di H6 := ⟨q6.tabs _ t63.sz, q6.tabs _ t63.en, q6.tabs _ t63.sy, q6.tabs _ t63.ag, q6.tabs _ t63.ne, q6.tabs _ t63.di⟩
    have K6 := fun {c : Addr} {xs : List V} (e : H4 c = some (.tup xs)) => q6.tup p3 e
    have ht6 := K6 ht3
    have hp3 := hp.same (H' := H4) fun c xs e => f3.tup e
    have hm3 := hm.same (H' := H4) fun c xs e => f3.tup e
    -- without stars
    refine go_seq ⟨6, ad.Finite, _, by decide, mFin3, _, rfl, t, _, _, _, rfl, rfl, SqT.of ht6, at_of (j := 0) rfl rfl, _, rfl, t, _, _, _, rfl, rfl, SqT.of ht6, at_of (j := 1) rfl rfl, _, rfl, t, _, _, _, rfl, rfl, SqT.of ht6, at_of (j := 2) rfl rfl, fun y dy h1 h2 h3 => ?_⟩
    have ft : FrT H6 (upd (upd H6 dy (.own y)) y (.ins ad.Finite dy [])) := frT_new h1 h2 ⟨fun b o _ e _ => e, fun P' h => h⟩
    have hc0 : codeOf (tabL n f) (tabL n g) (o : Int) none = none := code_right (st := none) sr hn fun l h => by cases h
    refine ⟨y, dy, tp, tm, .non, tabL n f, tabL n g, (o : Int), none, rfl, upd_same, tt_rr (hp3.same fun c xs e => ft.tup (K6 e)), tt_rr (hm3.same fun c xs e => ft.tup (K6 e)), .inl ⟨rfl, rfl⟩, by rw [tabL_len]; omega, by rw [tabL_len]; omega, t66.fr ft, fun _ H7 fs7 fp hy7 ok7 => ⟨rfl, go_name rfl (go_seq ?_)⟩, fun c z => by rw [hc0] at z; cases z⟩
    have f67 : FrT H6 H7 := frT_new h1 h2 fp
    have t67 := t66.fr f67
    refine tup33 (kk := 6) (v := V.int 0) (fun H' Q' x s q => q) (fun _ => rfl) fun ln H8 s8 e8 => go_name rfl ?_
    have eln : H8 ln = some (.tup ((List.replicate 33 (0 : Int)).map V.int)) := by rw [e8]; rfl
    refine ⟨_, rfl, by decide, by decide, fun D1 hD1 => ?_⟩
    refine lc_vals (lo := 0) (n := 33) (fun _ => V.ref ln) hD1 (by decide) (fun _ => rfl) (fun i H' Kt hi s kt => ⟨_, rfl, kt H' (Same.refl _)⟩) (fun G1 g1 eG1 => ?_)
    refine ⟨D1, _, rfl, .inl ⟨SqL.of eG1, fun l1 hl1 => ?_⟩⟩
    have p1 := same_new (o := .tup ((List.range 33).map fun _ => V.ref ln)) (Same.refl _) hl1
    obtain ⟨H9, eH9⟩ : ∃ G, G = upd G1 l1 (.tup ((List.range 33).map fun _ => V.ref ln)) := ⟨_, rfl⟩
    rw [← eH9] at p1 ⊢
    have sH9 : Same H8 H9 := fun b o z => p1 b o (g1 b o z)
    have eH9' : H9 l1 = some (.tup (List.replicate 33 (V.ref ln))) := by rw [eH9, upd_same]; rfl
    refine ⟨_, rfl, by decide, by decide, fun D2 hD2 => ?_⟩
    refine lc_vals (lo := 0) (n := 33) (fun _ => V.ref ln) hD2 (by decide) (fun _ => rfl) (fun i H' Kt hi s kt => ⟨_, rfl, kt H' (Same.refl _)⟩) (fun G2 g2 eG2 => ?_)
    refine ⟨D2, _, rfl, .inl ⟨SqL.of eG2, fun l2 hl2 => ?_⟩⟩
    have p2 := same_new (o := .tup ((List.range 33).map fun _ => V.ref ln)) (Same.refl _) hl2
    obtain ⟨H10, eH10⟩ : ∃ G, G = upd G2 l2 (.tup ((List.range 33).map fun _ => V.ref ln)) := ⟨_, rfl⟩
    rw [← eH10] at p2 ⊢
    have sH10 : Same H9 H10 := fun b o z => p2 b o (g2 b o z)
    have eH10' : H10 l2 = some (.tup (List.replicate 33 (V.ref ln))) := by rw [eH10, upd_same]; rfl
    refine ⟨by (show 4 ≤ sizeLine); decide, fun tt htt => ?_⟩
    have st11 := same_new (o := .tup [V.ref l1, .ref l2, .int 0, .non]) (Same.refl _) htt
    have f8 : FrT H7 _ := FrT.of fun b o' z => st11 b o' (sH10 b o' (sH9 b o' (s8 b o' z)))
    have rr33 : ∀ {G : Hp} {p : Addr}, G p = some (.tup (List.replicate 33 (V.ref ln))) → G ln = some (.tup ((List.replicate 33 (0 : Int)).map V.int)) → RR G p (List.replicate 33 (List.replicate 33 (0 : Int))) := fun {G p} e1 e2 => by
      refine ⟨_, e1, by rw [List.length_replicate, List.length_replicate], fun i row h => ?_⟩
      rw [List.getElem?_replicate] at h ⊢
      split at h
      · rename_i c
        rw [if_pos c]
        cases h
        exact ⟨ln, rfl, e2⟩
      · cases h
    have csz : codeOf (List.replicate 33 (List.replicate 33 (0 : Int))) (List.replicate 33 (List.replicate 33 (0 : Int))) 0 none = some ("size" : Str) := by
      unfold codeOf
      rw [if_neg fun z => absurd z.2.1 (by rw [List.length_replicate]; decide)]
    refine ⟨tt, _, _, 0, none, rfl, ⟨l1, l2, .non, upd_same, rr33 (st11 _ _ (sH10 _ _ eH9')) (st11 _ _ (sH10 _ _ (sH9 _ _ eln))), rr33 (st11 _ _ eH10') (st11 _ _ (sH10 _ _ (sH9 _ _ eln))), .inl ⟨rfl, rfl⟩⟩, by rw [List.length_replicate]; decide, by rw [List.length_replicate]; decide, t67.fr f8, fun z => (by rw [csz] at z; cases z), fun c hc H11 f11 => ?_⟩
    rw [csz] at hc
    cases hc
    refine ⟨rfl, _, rfl, ?_⟩
    rw [strEq, decide_eq_true rfl]
    refine iteF (go_next ?_)
    have f711 : FrT H7 H11 := f8.trans f11
    have ok0 : okF n (fnN (tabL n f)) (fnN (tabL n g)) o (List.replicate n none) H7 fs7 := by
      rw [tabL_len, Int.toNat_natCast] at ok7
      exact ok7
    have ht11 := f711.tup (f67.tup ht6)
    have hrep : (List.replicate n (none : Option Nat))[o]? = some none := by rw [List.getElem?_replicate, if_pos sr.oo]
    refine go_ret ⟨4, _, by decide, c_law_star n (fnN (tabL n f)) (fnN (tabL n g)) o (List.replicate n none), _, rfl, _, rfl, t, _, _, _, rfl, rfl, SqT.of ht11, at_of (j := 2) rfl rfl, y, dy, fs7, .int (o : Int), rfl, f711.ins hy7, ok0.tup fun c xs e => f711.tup e, ⟨o, rfl, sr.oo⟩, fun s hs => (by rw [starF_at hrep] at hs; cases hs), fun _ => ⟨rfl, ?_⟩⟩
    refine ⟨_, rfl, iteT ⟨Nat.zero_le _, fun e1 he1 => ⟨Nat.zero_le _, fun e2 he2 => ⟨by (show 4 ≤ sizeLine); decide, fun t2 ht2 => ?_⟩⟩⟩⟩
    have z1 := same_new (o := .tup []) (Same.refl _) he1
    have z2 := same_new (o := .tup []) (Same.refl _) he2
    have z3 := same_new (o := .tup [V.ref e1, .ref e2, .int 0, .non]) (Same.refl _) ht2
    have f12 : FrT H11 _ := FrT.of fun b o' z => z3 b o' (z2 b o' (z1 b o' z))
    have cs0 : codeOf [] [] 0 none = some ("size" : Str) := by
      unfold codeOf
      rw [if_neg fun z => absurd z.1 (by decide)]
    have rr0 : ∀ {G : Hp} {p : Addr}, G p = some (.tup []) → RR G p [] := fun e => ⟨_, e, rfl, fun i row h => by simp at h⟩
    refine ⟨t2, [], [], 0, none, rfl, ⟨e1, e2, .non, upd_same, rr0 (z3 _ _ (z2 _ _ upd_same)), rr0 (z3 _ _ upd_same), .inl ⟨rfl, rfl⟩⟩, by decide, by decide, (t67.fr f711).fr f12, fun z => (by rw [cs0] at z; cases z), fun c hc H13 f13 => ?_⟩
    rw [cs0] at hc
    cases hc
    refine ⟨rfl, ?_⟩
    rw [strEq, decide_eq_true rfl]
    exact k _
end
end K05

set_option Elab.async false
set_option linter.all false
set_option maxRecDepth 100000
set_option maxHeartbeats 8000000
namespace K05
open PySem PySem.Spec PyProof.Rows L2 Ew Tb SRm GxR LamX
theorem tabIn_of {K : PySem.W.Frag} {x : Str} {f c P : Addr} {oc oc' : Value} {od od' : Option Addr} {fd : FuncData} {vs : Array Value} {sl sl' : Array (Option Value)} (ha : PySem.W.nsIn K mainGlobals x = some (some (.ref f))) (hl : K.lookup f = some ⟨oc, od, .func fd, sl⟩) (hcd : fd.code = .ref c) (hc : K.lookup c = some ⟨oc', od', .fields vs, sl'⟩) (hv : vs[11]? = some (.ref P)) : PySem.W.tabIn K x = some (c, P) := by
  unfold PySem.W.tabIn
  rw [ha]
  simp only [hl, hcd, hc, hv]
/-- the empty tables of the defs under their names -/
def TabsAt0 (q : Program) (K : PySem.W.Frag) (h : Heap) : Prop := ∀ nm : Str, ((PyProof.Rows.recsOf q).any fun e => e.name == nm) = true → ∀ c P, PySem.W.tabIn K nm = some (c, P) → PySem.W.CodeHd h c P ∧ h.get? P = some { cls := .none, data := .fields #[] }
theorem walk_ofTT {l : PySem.W.OpenLaw} {n k : Nat} {q : Program} {loose : List Str} {XP : (Str → Option Value) → Heap → Prop} {YP : World → Heap → Prop} {d : DefRec} {K : Params → PySem.W.Frag} {CX : World → CXT} {x : Str}
    (hn : l.most = some n) (hn2 : n ≤ sizeLine) (hdf : d.params.defaults = []) (hr : Room k callerA) (hY : ∀ (w : World) (h : Heap), YP w h → (K w.params).In h)
    (F : ∀ (w : World) (mg : Str → Option Value) (fa : Addr) (h : Heap), TabsAt0 q (K w.params) h → (K w.params).In h → h.Ns mainGlobals mg → mg d.name = some (.ref fa) → LawAtS l w (K w.params) (CX w) k n x mg fa h)
    (hCX : ∀ (w : World) (H : Hp) (s : Shared) (e : Value) (s' : Shared), CX w [] H s (fun _ _ _ => False) e s' → False) :
    PySem.W.WalkO q loose XP YP l.row.toRowW d [] (fun f vs => PySem.call f vs) := by
  refine Att.attach_callB hn hdf fun w s₀ s₁ mg mb fa o pm cd doc a vs ns G Y ho hd hcd hmg hobj hints hlen hbits hg => ?_
  have KX := hY w _ Y
  have TA : TabsAt0 q (K w.params) s₁.heap := fun nm hnm c P ht => by
    cases hf : (PyProof.Rows.recsOf q).find? (fun e => e.name == nm) with
    | none =>
      rw [List.find?_eq_none] at hf
      obtain ⟨e, he, hh⟩ := List.any_eq_true.mp hnm
      exact absurd hh (hf e he)
    | some dR => exact PySem.W.tab_of G.T KX hf ht
  obtain ⟨fd, cs, sp, hT, nT, C, hb, hsp, hF⟩ := F w mg fa _ TA KX G.T.g hmg
  exact law_callTs KX G.T.g G.T.b G.T.builtins G.T.nolimit hg hT nT C G.T.bmain hobj hints (Nat.le_trans hlen hn2) hr hF hb (fun H hH hS => hsp H a ns hlen hbits hH hS) fun H e s' => hCX w H s₁ e s'
theorem all_mk {q : Program} {l : PySem.W.OpenLaw} {w : World} {K : PySem.W.Frag} {h : Heap} {mg : Str → Option Value} {fa : Addr} (TA : TabsAt0 q K h) (X : K.In h) (G : h.Ns mainGlobals mg) (hfa : mg "law" = some (.ref fa))
    {nmA qA : Str} {NA : Addr} {bsA bmA : List Value} {snA : List Str} {subA : List Value} {abA : Bool} {colA : Option Bool} {ddA : Option Addr} {k0A k1A k2A k3A k5A : Option Value} {fA cdaA ccA : Addr} {clA cclA ocA kVA dcA pmA ctA : Value} {cldA cddA odA anA : Option Addr} {cslA ccsA oslA : Array (Option Value)} {vsA : Array Value} {fileA : Str} {tfA : Tok}
    {C_Finite : Addr}
    {C_AxiomError : Addr}
    {C_NoStar : Addr}
    {C_WorthError : Addr}
    {f_is_integer : Addr} {od_is_integer an_is_integer : Option Addr} {sl_is_integer : Array (Option Value)} {oc_is_integer kV_is_integer dc_is_integer pm_is_integer cd_is_integer ct_is_integer : Value}
    {f_is_between : Addr} {od_is_between an_is_between : Option Addr} {sl_is_between : Array (Option Value)} {oc_is_between kV_is_between dc_is_between pm_is_between cd_is_between ct_is_between : Value}
    {f_Finite_init : Addr} {od_Finite_init an_Finite_init : Option Addr} {sl_Finite_init : Array (Option Value)} {oc_Finite_init kV_Finite_init dc_Finite_init pm_Finite_init cd_Finite_init ct_Finite_init : Value}
    {dT_Finite_init : Addr} {dc2 : Value} {dd2 : Option Addr} {dn2 : Nat} {ds2 : Array (Option Value)}
    {f_Finite_zero : Addr} {od_Finite_zero an_Finite_zero : Option Addr} {sl_Finite_zero : Array (Option Value)} {oc_Finite_zero kV_Finite_zero dc_Finite_zero pm_Finite_zero cd_Finite_zero ct_Finite_zero : Value}
    {f_Finite_one : Addr} {od_Finite_one an_Finite_one : Option Addr} {sl_Finite_one : Array (Option Value)} {oc_Finite_one kV_Finite_one dc_Finite_one pm_Finite_one cd_Finite_one ct_Finite_one : Value}
    {f_Finite_plus : Addr} {od_Finite_plus an_Finite_plus : Option Addr} {sl_Finite_plus : Array (Option Value)} {oc_Finite_plus kV_Finite_plus dc_Finite_plus pm_Finite_plus cd_Finite_plus ct_Finite_plus : Value}
    {f_Finite_times : Addr} {od_Finite_times an_Finite_times : Option Addr} {sl_Finite_times : Array (Option Value)} {oc_Finite_times kV_Finite_times dc_Finite_times pm_Finite_times cd_Finite_times ct_Finite_times : Value}
    {f_Finite_star : Addr} {od_Finite_star an_Finite_star : Option Addr} {sl_Finite_star : Array (Option Value)} {oc_Finite_star kV_Finite_star dc_Finite_star pm_Finite_star cd_Finite_star ct_Finite_star : Value}
    {f_Finite_is_element : Addr} {od_Finite_is_element an_Finite_is_element : Option Addr} {sl_Finite_is_element : Array (Option Value)} {oc_Finite_is_element kV_Finite_is_element dc_Finite_is_element pm_Finite_is_element cd_Finite_is_element ct_Finite_is_element : Value}
    {f_Finite_size : Addr} {od_Finite_size an_Finite_size : Option Addr} {sl_Finite_size : Array (Option Value)} {oc_Finite_size kV_Finite_size dc_Finite_size pm_Finite_size cd_Finite_size ct_Finite_size : Value}
    {f_copied : Addr} {od_copied an_copied : Option Addr} {sl_copied : Array (Option Value)} {oc_copied kV_copied dc_copied pm_copied cd_copied ct_copied : Value}
    {f_first_failure : Addr} {od_first_failure an_first_failure : Option Addr} {sl_first_failure : Array (Option Value)} {oc_first_failure kV_first_failure dc_first_failure pm_first_failure cd_first_failure ct_first_failure : Value}
    {f_sizes_fit cc_sizes_fit PP_sizes_fit : Addr} {od_sizes_fit an_sizes_fit : Option Addr} {sl_sizes_fit : Array (Option Value)} {oc_sizes_fit kV_sizes_fit dc_sizes_fit pm_sizes_fit ct_sizes_fit : Value}
    {occ_sizes_fit : Value} {odc_sizes_fit : Option Addr} {vs_sizes_fit : Array Value} {slc_sizes_fit : Array (Option Value)}
    {f_entries_fit cc_entries_fit PP_entries_fit : Addr} {od_entries_fit an_entries_fit : Option Addr} {sl_entries_fit : Array (Option Value)} {oc_entries_fit kV_entries_fit dc_entries_fit pm_entries_fit ct_entries_fit : Value}
    {occ_entries_fit : Value} {odc_entries_fit : Option Addr} {vs_entries_fit : Array Value} {slc_entries_fit : Array (Option Value)}
    {f_is_symmetric cc_is_symmetric PP_is_symmetric : Addr} {od_is_symmetric an_is_symmetric : Option Addr} {sl_is_symmetric : Array (Option Value)} {oc_is_symmetric kV_is_symmetric dc_is_symmetric pm_is_symmetric ct_is_symmetric : Value}
    {occ_is_symmetric : Value} {odc_is_symmetric : Option Addr} {vs_is_symmetric : Array Value} {slc_is_symmetric : Array (Option Value)}
    {f_is_associative cc_is_associative PP_is_associative : Addr} {od_is_associative an_is_associative : Option Addr} {sl_is_associative : Array (Option Value)} {oc_is_associative kV_is_associative dc_is_associative pm_is_associative ct_is_associative : Value}
    {occ_is_associative : Value} {odc_is_associative : Option Addr} {vs_is_associative : Array Value} {slc_is_associative : Array (Option Value)}
    {f_is_neutral cc_is_neutral PP_is_neutral : Addr} {od_is_neutral an_is_neutral : Option Addr} {sl_is_neutral : Array (Option Value)} {oc_is_neutral kV_is_neutral dc_is_neutral pm_is_neutral ct_is_neutral : Value}
    {occ_is_neutral : Value} {odc_is_neutral : Option Addr} {vs_is_neutral : Array Value} {slc_is_neutral : Array (Option Value)}
    {f_is_distributive cc_is_distributive PP_is_distributive : Addr} {od_is_distributive an_is_distributive : Option Addr} {sl_is_distributive : Array (Option Value)} {oc_is_distributive kV_is_distributive dc_is_distributive pm_is_distributive ct_is_distributive : Value}
    {occ_is_distributive : Value} {odc_is_distributive : Option Addr} {vs_is_distributive : Array Value} {slc_is_distributive : Array (Option Value)}
    {f_stars_fit : Addr} {od_stars_fit an_stars_fit : Option Addr} {sl_stars_fit : Array (Option Value)} {oc_stars_fit kV_stars_fit dc_stars_fit pm_stars_fit cd_stars_fit ct_stars_fit : Value}
    {f_law_pot : Addr} {od_law_pot an_law_pot : Option Addr} {sl_law_pot : Array (Option Value)} {oc_law_pot kV_law_pot dc_law_pot pm_law_pot cd_law_pot ct_law_pot : Value}
    {f_law_next : Addr} {od_law_next an_law_next : Option Addr} {sl_law_next : Array (Option Value)} {oc_law_next kV_law_next dc_law_next pm_law_next cd_law_next ct_law_next : Value}
    {f_law_family : Addr} {od_law_family an_law_family : Option Addr} {sl_law_family : Array (Option Value)} {oc_law_family kV_law_family dc_law_family pm_law_family cd_law_family ct_law_family : Value}
    {f_law_paired : Addr} {od_law_paired an_law_paired : Option Addr} {sl_law_paired : Array (Option Value)} {oc_law_paired kV_law_paired dc_law_paired pm_law_paired cd_law_paired ct_law_paired : Value}
    {f_law_renamed : Addr} {od_law_renamed an_law_renamed : Option Addr} {sl_law_renamed : Array (Option Value)} {oc_law_renamed kV_law_renamed dc_law_renamed pm_law_renamed cd_law_renamed ct_law_renamed : Value}
    {f_law_stars : Addr} {od_law_stars an_law_stars : Option Addr} {sl_law_stars : Array (Option Value)} {oc_law_stars kV_law_stars dc_law_stars pm_law_stars cd_law_stars ct_law_stars : Value}
    {f_law_ring : Addr} {od_law_ring an_law_ring : Option Addr} {sl_law_ring : Array (Option Value)} {oc_law_ring kV_law_ring dc_law_ring pm_law_ring cd_law_ring ct_law_ring : Value}
    {f_law_is_ring : Addr} {od_law_is_ring an_law_is_ring : Option Addr} {sl_law_is_ring : Array (Option Value)} {oc_law_is_ring kV_law_is_ring dc_law_is_ring pm_law_is_ring cd_law_is_ring ct_law_is_ring : Value}
    {f_law_made : Addr} {od_law_made an_law_made : Option Addr} {sl_law_made : Array (Option Value)} {oc_law_made kV_law_made dc_law_made pm_law_made cd_law_made ct_law_made : Value}
    {f_law_group : Addr} {od_law_group an_law_group : Option Addr} {sl_law_group : Array (Option Value)} {oc_law_group kV_law_group dc_law_group pm_law_group cd_law_group ct_law_group : Value}
    {f_law_code : Addr} {od_law_code an_law_code : Option Addr} {sl_law_code : Array (Option Value)} {oc_law_code kV_law_code dc_law_code pm_law_code cd_law_code ct_law_code : Value}
    {f_law_changed : Addr} {od_law_changed an_law_changed : Option Addr} {sl_law_changed : Array (Option Value)} {oc_law_changed kV_law_changed dc_law_changed pm_law_changed cd_law_changed ct_law_changed : Value}
    {f_law_star : Addr} {od_law_star an_law_star : Option Addr} {sl_law_star : Array (Option Value)} {oc_law_star kV_law_star dc_law_star pm_law_star cd_law_star ct_law_star : Value}
    {f_law : Addr} {od_law an_law : Option Addr} {sl_law : Array (Option Value)} {oc_law kV_law dc_law pm_law cd_law ct_law : Value}
    {tk_MOST_NUMBERS : Tok}
    (aC_WorthError : PySem.W.nsIn K mainGlobals "WorthError" = some (some (.ref C_WorthError)))
    (aC_NoStar : PySem.W.nsIn K mainGlobals "NoStar" = some (some (.ref C_NoStar)))
    (aC_AxiomError : PySem.W.nsIn K mainGlobals "AxiomError" = some (some (.ref C_AxiomError)))
    (aC_Finite : PySem.W.nsIn K mainGlobals "Finite" = some (some (.ref C_Finite)))
    (a_is_integer : PySem.W.nsIn K mainGlobals "is_integer" = some (some (.ref f_is_integer)))
    (l_is_integer : K.lookup f_is_integer = some ⟨oc_is_integer, od_is_integer, .func (PySem.W.fnOf "is_integer" "is_integer" (defArgs s_is_integer) (defBody s_is_integer) (defScope s_is_integer) .none kV_is_integer dc_is_integer pm_is_integer an_is_integer cd_is_integer ct_is_integer), sl_is_integer⟩)
    (c_is_integer : PySem.W.codeIn K cd_is_integer "is_integer" = true)
    (k_is_integer : PySem.W.keepIn K (.ref f_is_integer) = true)
    (a_is_between : PySem.W.nsIn K mainGlobals "is_between" = some (some (.ref f_is_between)))
    (l_is_between : K.lookup f_is_between = some ⟨oc_is_between, od_is_between, .func (PySem.W.fnOf "is_between" "is_between" (defArgs s_is_between) (defBody s_is_between) (defScope s_is_between) .none kV_is_between dc_is_between pm_is_between an_is_between cd_is_between ct_is_between), sl_is_between⟩)
    (c_is_between : PySem.W.codeIn K cd_is_between "is_between" = true)
    (k_is_between : PySem.W.keepIn K (.ref f_is_between) = true)
    (a_Finite_init : PySem.W.findIn K (.ref C_Finite) "__init__" = some (some (.ref f_Finite_init)))
    (i_Finite_init : PySem.W.isFn K (.ref f_Finite_init) = true)
    (l_Finite_init : K.lookup f_Finite_init = some ⟨oc_Finite_init, od_Finite_init, .func (PySem.W.fnOf "__init__" "Finite.__init__" (defArgs s_Finite_init) (defBody s_Finite_init) (defScope s_Finite_init) (.ref dT_Finite_init) kV_Finite_init dc_Finite_init pm_Finite_init an_Finite_init cd_Finite_init ct_Finite_init), sl_Finite_init⟩)
    (c_Finite_init : PySem.W.codeIn K cd_Finite_init "Finite.__init__" = true)
    (k_Finite_init : PySem.W.keepIn K (.ref f_Finite_init) = true)
    (a_Finite_zero : PySem.W.findIn K (.ref C_Finite) "zero" = some (some (.ref f_Finite_zero)))
    (i_Finite_zero : PySem.W.isFn K (.ref f_Finite_zero) = true)
    (l_Finite_zero : K.lookup f_Finite_zero = some ⟨oc_Finite_zero, od_Finite_zero, .func (PySem.W.fnOf "zero" "Finite.zero" (defArgs s_Finite_zero) (defBody s_Finite_zero) (defScope s_Finite_zero) .none kV_Finite_zero dc_Finite_zero pm_Finite_zero an_Finite_zero cd_Finite_zero ct_Finite_zero), sl_Finite_zero⟩)
    (c_Finite_zero : PySem.W.codeIn K cd_Finite_zero "Finite.zero" = true)
    (k_Finite_zero : PySem.W.keepIn K (.ref f_Finite_zero) = true)
    (a_Finite_one : PySem.W.findIn K (.ref C_Finite) "one" = some (some (.ref f_Finite_one)))
    (i_Finite_one : PySem.W.isFn K (.ref f_Finite_one) = true)
    (l_Finite_one : K.lookup f_Finite_one = some ⟨oc_Finite_one, od_Finite_one, .func (PySem.W.fnOf "one" "Finite.one" (defArgs s_Finite_one) (defBody s_Finite_one) (defScope s_Finite_one) .none kV_Finite_one dc_Finite_one pm_Finite_one an_Finite_one cd_Finite_one ct_Finite_one), sl_Finite_one⟩)
    (c_Finite_one : PySem.W.codeIn K cd_Finite_one "Finite.one" = true)
    (k_Finite_one : PySem.W.keepIn K (.ref f_Finite_one) = true)
    (a_Finite_plus : PySem.W.findIn K (.ref C_Finite) "plus" = some (some (.ref f_Finite_plus)))
    (i_Finite_plus : PySem.W.isFn K (.ref f_Finite_plus) = true)
    (l_Finite_plus : K.lookup f_Finite_plus = some ⟨oc_Finite_plus, od_Finite_plus, .func (PySem.W.fnOf "plus" "Finite.plus" (defArgs s_Finite_plus) (defBody s_Finite_plus) (defScope s_Finite_plus) .none kV_Finite_plus dc_Finite_plus pm_Finite_plus an_Finite_plus cd_Finite_plus ct_Finite_plus), sl_Finite_plus⟩)
    (c_Finite_plus : PySem.W.codeIn K cd_Finite_plus "Finite.plus" = true)
    (k_Finite_plus : PySem.W.keepIn K (.ref f_Finite_plus) = true)
    (a_Finite_times : PySem.W.findIn K (.ref C_Finite) "times" = some (some (.ref f_Finite_times)))
    (i_Finite_times : PySem.W.isFn K (.ref f_Finite_times) = true)
    (l_Finite_times : K.lookup f_Finite_times = some ⟨oc_Finite_times, od_Finite_times, .func (PySem.W.fnOf "times" "Finite.times" (defArgs s_Finite_times) (defBody s_Finite_times) (defScope s_Finite_times) .none kV_Finite_times dc_Finite_times pm_Finite_times an_Finite_times cd_Finite_times ct_Finite_times), sl_Finite_times⟩)
    (c_Finite_times : PySem.W.codeIn K cd_Finite_times "Finite.times" = true)
    (k_Finite_times : PySem.W.keepIn K (.ref f_Finite_times) = true)
    (a_Finite_star : PySem.W.findIn K (.ref C_Finite) "star" = some (some (.ref f_Finite_star)))
    (i_Finite_star : PySem.W.isFn K (.ref f_Finite_star) = true)
    (l_Finite_star : K.lookup f_Finite_star = some ⟨oc_Finite_star, od_Finite_star, .func (PySem.W.fnOf "star" "Finite.star" (defArgs s_Finite_star) (defBody s_Finite_star) (defScope s_Finite_star) .none kV_Finite_star dc_Finite_star pm_Finite_star an_Finite_star cd_Finite_star ct_Finite_star), sl_Finite_star⟩)
    (c_Finite_star : PySem.W.codeIn K cd_Finite_star "Finite.star" = true)
    (k_Finite_star : PySem.W.keepIn K (.ref f_Finite_star) = true)
    (a_Finite_is_element : PySem.W.findIn K (.ref C_Finite) "is_element" = some (some (.ref f_Finite_is_element)))
    (i_Finite_is_element : PySem.W.isFn K (.ref f_Finite_is_element) = true)
    (l_Finite_is_element : K.lookup f_Finite_is_element = some ⟨oc_Finite_is_element, od_Finite_is_element, .func (PySem.W.fnOf "is_element" "Finite.is_element" (defArgs s_Finite_is_element) (defBody s_Finite_is_element) (defScope s_Finite_is_element) .none kV_Finite_is_element dc_Finite_is_element pm_Finite_is_element an_Finite_is_element cd_Finite_is_element ct_Finite_is_element), sl_Finite_is_element⟩)
    (c_Finite_is_element : PySem.W.codeIn K cd_Finite_is_element "Finite.is_element" = true)
    (k_Finite_is_element : PySem.W.keepIn K (.ref f_Finite_is_element) = true)
    (a_Finite_size : PySem.W.findIn K (.ref C_Finite) "size" = some (some (.ref f_Finite_size)))
    (i_Finite_size : PySem.W.isFn K (.ref f_Finite_size) = true)
    (l_Finite_size : K.lookup f_Finite_size = some ⟨oc_Finite_size, od_Finite_size, .func (PySem.W.fnOf "size" "Finite.size" (defArgs s_Finite_size) (defBody s_Finite_size) (defScope s_Finite_size) .none kV_Finite_size dc_Finite_size pm_Finite_size an_Finite_size cd_Finite_size ct_Finite_size), sl_Finite_size⟩)
    (c_Finite_size : PySem.W.codeIn K cd_Finite_size "Finite.size" = true)
    (k_Finite_size : PySem.W.keepIn K (.ref f_Finite_size) = true)
    (a_copied : PySem.W.nsIn K mainGlobals "_copied" = some (some (.ref f_copied)))
    (l_copied : K.lookup f_copied = some ⟨oc_copied, od_copied, .func (PySem.W.fnOf "_copied" "_copied" (defArgs s_copied) (defBody s_copied) (defScope s_copied) .none kV_copied dc_copied pm_copied an_copied cd_copied ct_copied), sl_copied⟩)
    (c_copied : PySem.W.codeIn K cd_copied "_copied" = true)
    (k_copied : PySem.W.keepIn K (.ref f_copied) = true)
    (a_first_failure : PySem.W.nsIn K mainGlobals "_first_failure" = some (some (.ref f_first_failure)))
    (l_first_failure : K.lookup f_first_failure = some ⟨oc_first_failure, od_first_failure, .func (PySem.W.fnOf "_first_failure" "_first_failure" (defArgs s_first_failure) (defBody s_first_failure) (defScope s_first_failure) .none kV_first_failure dc_first_failure pm_first_failure an_first_failure cd_first_failure ct_first_failure), sl_first_failure⟩)
    (c_first_failure : PySem.W.codeIn K cd_first_failure "_first_failure" = true)
    (k_first_failure : PySem.W.keepIn K (.ref f_first_failure) = true)
    (a_sizes_fit : PySem.W.nsIn K mainGlobals "_sizes_fit" = some (some (.ref f_sizes_fit)))
    (l_sizes_fit : K.lookup f_sizes_fit = some ⟨oc_sizes_fit, od_sizes_fit, .func (PySem.W.fnOf "_sizes_fit" "_sizes_fit" (defArgs s_sizes_fit) (defBody s_sizes_fit) (defScope s_sizes_fit) .none kV_sizes_fit dc_sizes_fit pm_sizes_fit an_sizes_fit (.ref cc_sizes_fit) ct_sizes_fit), sl_sizes_fit⟩)
    (c_sizes_fit : PySem.W.codeIn K (.ref cc_sizes_fit) "_sizes_fit" = true)
    (k_sizes_fit : PySem.W.keepIn K (.ref f_sizes_fit) = true)
    (lc_sizes_fit : K.lookup cc_sizes_fit = some ⟨occ_sizes_fit, odc_sizes_fit, .fields vs_sizes_fit, slc_sizes_fit⟩)
    (v_sizes_fit : vs_sizes_fit[11]? = some (.ref PP_sizes_fit))
    (nt_sizes_fit : K.lookup PP_sizes_fit = none)
    (r_sizes_fit : ((PyProof.Rows.recsOf q).any fun e => e.name == "_sizes_fit") = true)
    (a_entries_fit : PySem.W.nsIn K mainGlobals "_entries_fit" = some (some (.ref f_entries_fit)))
    (l_entries_fit : K.lookup f_entries_fit = some ⟨oc_entries_fit, od_entries_fit, .func (PySem.W.fnOf "_entries_fit" "_entries_fit" (defArgs s_entries_fit) (defBody s_entries_fit) (defScope s_entries_fit) .none kV_entries_fit dc_entries_fit pm_entries_fit an_entries_fit (.ref cc_entries_fit) ct_entries_fit), sl_entries_fit⟩)
    (c_entries_fit : PySem.W.codeIn K (.ref cc_entries_fit) "_entries_fit" = true)
    (k_entries_fit : PySem.W.keepIn K (.ref f_entries_fit) = true)
    (lc_entries_fit : K.lookup cc_entries_fit = some ⟨occ_entries_fit, odc_entries_fit, .fields vs_entries_fit, slc_entries_fit⟩)
    (v_entries_fit : vs_entries_fit[11]? = some (.ref PP_entries_fit))
    (nt_entries_fit : K.lookup PP_entries_fit = none)
    (r_entries_fit : ((PyProof.Rows.recsOf q).any fun e => e.name == "_entries_fit") = true)
    (a_is_symmetric : PySem.W.nsIn K mainGlobals "_is_symmetric" = some (some (.ref f_is_symmetric)))
    (l_is_symmetric : K.lookup f_is_symmetric = some ⟨oc_is_symmetric, od_is_symmetric, .func (PySem.W.fnOf "_is_symmetric" "_is_symmetric" (defArgs s_is_symmetric) (defBody s_is_symmetric) (defScope s_is_symmetric) .none kV_is_symmetric dc_is_symmetric pm_is_symmetric an_is_symmetric (.ref cc_is_symmetric) ct_is_symmetric), sl_is_symmetric⟩)
    (c_is_symmetric : PySem.W.codeIn K (.ref cc_is_symmetric) "_is_symmetric" = true)
    (k_is_symmetric : PySem.W.keepIn K (.ref f_is_symmetric) = true)
    (lc_is_symmetric : K.lookup cc_is_symmetric = some ⟨occ_is_symmetric, odc_is_symmetric, .fields vs_is_symmetric, slc_is_symmetric⟩)
    (v_is_symmetric : vs_is_symmetric[11]? = some (.ref PP_is_symmetric))
    (nt_is_symmetric : K.lookup PP_is_symmetric = none)
    (r_is_symmetric : ((PyProof.Rows.recsOf q).any fun e => e.name == "_is_symmetric") = true)
    (a_is_associative : PySem.W.nsIn K mainGlobals "_is_associative" = some (some (.ref f_is_associative)))
    (l_is_associative : K.lookup f_is_associative = some ⟨oc_is_associative, od_is_associative, .func (PySem.W.fnOf "_is_associative" "_is_associative" (defArgs s_is_associative) (defBody s_is_associative) (defScope s_is_associative) .none kV_is_associative dc_is_associative pm_is_associative an_is_associative (.ref cc_is_associative) ct_is_associative), sl_is_associative⟩)
    (c_is_associative : PySem.W.codeIn K (.ref cc_is_associative) "_is_associative" = true)
    (k_is_associative : PySem.W.keepIn K (.ref f_is_associative) = true)
    (lc_is_associative : K.lookup cc_is_associative = some ⟨occ_is_associative, odc_is_associative, .fields vs_is_associative, slc_is_associative⟩)
    (v_is_associative : vs_is_associative[11]? = some (.ref PP_is_associative))
    (nt_is_associative : K.lookup PP_is_associative = none)
    (r_is_associative : ((PyProof.Rows.recsOf q).any fun e => e.name == "_is_associative") = true)
    (a_is_neutral : PySem.W.nsIn K mainGlobals "_is_neutral" = some (some (.ref f_is_neutral)))
    (l_is_neutral : K.lookup f_is_neutral = some ⟨oc_is_neutral, od_is_neutral, .func (PySem.W.fnOf "_is_neutral" "_is_neutral" (defArgs s_is_neutral) (defBody s_is_neutral) (defScope s_is_neutral) .none kV_is_neutral dc_is_neutral pm_is_neutral an_is_neutral (.ref cc_is_neutral) ct_is_neutral), sl_is_neutral⟩)
    (c_is_neutral : PySem.W.codeIn K (.ref cc_is_neutral) "_is_neutral" = true)
    (k_is_neutral : PySem.W.keepIn K (.ref f_is_neutral) = true)
    (lc_is_neutral : K.lookup cc_is_neutral = some ⟨occ_is_neutral, odc_is_neutral, .fields vs_is_neutral, slc_is_neutral⟩)
    (v_is_neutral : vs_is_neutral[11]? = some (.ref PP_is_neutral))
    (nt_is_neutral : K.lookup PP_is_neutral = none)
    (r_is_neutral : ((PyProof.Rows.recsOf q).any fun e => e.name == "_is_neutral") = true)
    (a_is_distributive : PySem.W.nsIn K mainGlobals "_is_distributive" = some (some (.ref f_is_distributive)))
    (l_is_distributive : K.lookup f_is_distributive = some ⟨oc_is_distributive, od_is_distributive, .func (PySem.W.fnOf "_is_distributive" "_is_distributive" (defArgs s_is_distributive) (defBody s_is_distributive) (defScope s_is_distributive) .none kV_is_distributive dc_is_distributive pm_is_distributive an_is_distributive (.ref cc_is_distributive) ct_is_distributive), sl_is_distributive⟩)
    (c_is_distributive : PySem.W.codeIn K (.ref cc_is_distributive) "_is_distributive" = true)
    (k_is_distributive : PySem.W.keepIn K (.ref f_is_distributive) = true)
    (lc_is_distributive : K.lookup cc_is_distributive = some ⟨occ_is_distributive, odc_is_distributive, .fields vs_is_distributive, slc_is_distributive⟩)
    (v_is_distributive : vs_is_distributive[11]? = some (.ref PP_is_distributive))
    (nt_is_distributive : K.lookup PP_is_distributive = none)
    (r_is_distributive : ((PyProof.Rows.recsOf q).any fun e => e.name == "_is_distributive") = true)
    (a_stars_fit : PySem.W.nsIn K mainGlobals "_stars_fit" = some (some (.ref f_stars_fit)))
    (l_stars_fit : K.lookup f_stars_fit = some ⟨oc_stars_fit, od_stars_fit, .func (PySem.W.fnOf "_stars_fit" "_stars_fit" (defArgs s_stars_fit) (defBody s_stars_fit) (defScope s_stars_fit) .none kV_stars_fit dc_stars_fit pm_stars_fit an_stars_fit cd_stars_fit ct_stars_fit), sl_stars_fit⟩)
    (c_stars_fit : PySem.W.codeIn K cd_stars_fit "_stars_fit" = true)
    (k_stars_fit : PySem.W.keepIn K (.ref f_stars_fit) = true)
    (a_law_pot : PySem.W.nsIn K mainGlobals "_law_pot" = some (some (.ref f_law_pot)))
    (l_law_pot : K.lookup f_law_pot = some ⟨oc_law_pot, od_law_pot, .func (PySem.W.fnOf "_law_pot" "_law_pot" (defArgs s_law_pot) (defBody s_law_pot) (defScope s_law_pot) .none kV_law_pot dc_law_pot pm_law_pot an_law_pot cd_law_pot ct_law_pot), sl_law_pot⟩)
    (c_law_pot : PySem.W.codeIn K cd_law_pot "_law_pot" = true)
    (k_law_pot : PySem.W.keepIn K (.ref f_law_pot) = true)
    (a_law_next : PySem.W.nsIn K mainGlobals "_law_next" = some (some (.ref f_law_next)))
    (l_law_next : K.lookup f_law_next = some ⟨oc_law_next, od_law_next, .func (PySem.W.fnOf "_law_next" "_law_next" (defArgs s_law_next) (defBody s_law_next) (defScope s_law_next) .none kV_law_next dc_law_next pm_law_next an_law_next cd_law_next ct_law_next), sl_law_next⟩)
    (c_law_next : PySem.W.codeIn K cd_law_next "_law_next" = true)
    (k_law_next : PySem.W.keepIn K (.ref f_law_next) = true)
    (a_law_family : PySem.W.nsIn K mainGlobals "_law_family" = some (some (.ref f_law_family)))
    (l_law_family : K.lookup f_law_family = some ⟨oc_law_family, od_law_family, .func (PySem.W.fnOf "_law_family" "_law_family" (defArgs s_law_family) (defBody s_law_family) (defScope s_law_family) .none kV_law_family dc_law_family pm_law_family an_law_family cd_law_family ct_law_family), sl_law_family⟩)
    (c_law_family : PySem.W.codeIn K cd_law_family "_law_family" = true)
    (k_law_family : PySem.W.keepIn K (.ref f_law_family) = true)
    (a_law_paired : PySem.W.nsIn K mainGlobals "_law_paired" = some (some (.ref f_law_paired)))
    (l_law_paired : K.lookup f_law_paired = some ⟨oc_law_paired, od_law_paired, .func (PySem.W.fnOf "_law_paired" "_law_paired" (defArgs s_law_paired) (defBody s_law_paired) (defScope s_law_paired) .none kV_law_paired dc_law_paired pm_law_paired an_law_paired cd_law_paired ct_law_paired), sl_law_paired⟩)
    (c_law_paired : PySem.W.codeIn K cd_law_paired "_law_paired" = true)
    (k_law_paired : PySem.W.keepIn K (.ref f_law_paired) = true)
    (a_law_renamed : PySem.W.nsIn K mainGlobals "_law_renamed" = some (some (.ref f_law_renamed)))
    (l_law_renamed : K.lookup f_law_renamed = some ⟨oc_law_renamed, od_law_renamed, .func (PySem.W.fnOf "_law_renamed" "_law_renamed" (defArgs s_law_renamed) (defBody s_law_renamed) (defScope s_law_renamed) .none kV_law_renamed dc_law_renamed pm_law_renamed an_law_renamed cd_law_renamed ct_law_renamed), sl_law_renamed⟩)
    (c_law_renamed : PySem.W.codeIn K cd_law_renamed "_law_renamed" = true)
    (k_law_renamed : PySem.W.keepIn K (.ref f_law_renamed) = true)
    (a_law_stars : PySem.W.nsIn K mainGlobals "_law_stars" = some (some (.ref f_law_stars)))
    (l_law_stars : K.lookup f_law_stars = some ⟨oc_law_stars, od_law_stars, .func (PySem.W.fnOf "_law_stars" "_law_stars" (defArgs s_law_stars) (defBody s_law_stars) (defScope s_law_stars) .none kV_law_stars dc_law_stars pm_law_stars an_law_stars cd_law_stars ct_law_stars), sl_law_stars⟩)
    (c_law_stars : PySem.W.codeIn K cd_law_stars "_law_stars" = true)
    (k_law_stars : PySem.W.keepIn K (.ref f_law_stars) = true)
    (a_law_ring : PySem.W.nsIn K mainGlobals "_law_ring" = some (some (.ref f_law_ring)))
    (l_law_ring : K.lookup f_law_ring = some ⟨oc_law_ring, od_law_ring, .func (PySem.W.fnOf "_law_ring" "_law_ring" (defArgs s_law_ring) (defBody s_law_ring) (defScope s_law_ring) .none kV_law_ring dc_law_ring pm_law_ring an_law_ring cd_law_ring ct_law_ring), sl_law_ring⟩)
    (c_law_ring : PySem.W.codeIn K cd_law_ring "_law_ring" = true)
    (k_law_ring : PySem.W.keepIn K (.ref f_law_ring) = true)
    (a_law_is_ring : PySem.W.nsIn K mainGlobals "_law_is_ring" = some (some (.ref f_law_is_ring)))
    (l_law_is_ring : K.lookup f_law_is_ring = some ⟨oc_law_is_ring, od_law_is_ring, .func (PySem.W.fnOf "_law_is_ring" "_law_is_ring" (defArgs s_law_is_ring) (defBody s_law_is_ring) (defScope s_law_is_ring) .none kV_law_is_ring dc_law_is_ring pm_law_is_ring an_law_is_ring cd_law_is_ring ct_law_is_ring), sl_law_is_ring⟩)
    (c_law_is_ring : PySem.W.codeIn K cd_law_is_ring "_law_is_ring" = true)
    (k_law_is_ring : PySem.W.keepIn K (.ref f_law_is_ring) = true)
    (a_law_made : PySem.W.nsIn K mainGlobals "_law_made" = some (some (.ref f_law_made)))
    (l_law_made : K.lookup f_law_made = some ⟨oc_law_made, od_law_made, .func (PySem.W.fnOf "_law_made" "_law_made" (defArgs s_law_made) (defBody s_law_made) (defScope s_law_made) .none kV_law_made dc_law_made pm_law_made an_law_made cd_law_made ct_law_made), sl_law_made⟩)
    (c_law_made : PySem.W.codeIn K cd_law_made "_law_made" = true)
    (k_law_made : PySem.W.keepIn K (.ref f_law_made) = true)
    (a_law_group : PySem.W.nsIn K mainGlobals "_law_group" = some (some (.ref f_law_group)))
    (l_law_group : K.lookup f_law_group = some ⟨oc_law_group, od_law_group, .func (PySem.W.fnOf "_law_group" "_law_group" (defArgs s_law_group) (defBody s_law_group) (defScope s_law_group) .none kV_law_group dc_law_group pm_law_group an_law_group cd_law_group ct_law_group), sl_law_group⟩)
    (c_law_group : PySem.W.codeIn K cd_law_group "_law_group" = true)
    (k_law_group : PySem.W.keepIn K (.ref f_law_group) = true)
    (a_law_code : PySem.W.nsIn K mainGlobals "_law_code" = some (some (.ref f_law_code)))
    (l_law_code : K.lookup f_law_code = some ⟨oc_law_code, od_law_code, .func (PySem.W.fnOf "_law_code" "_law_code" (defArgs s_law_code) (defBody s_law_code) (defScope s_law_code) .none kV_law_code dc_law_code pm_law_code an_law_code cd_law_code ct_law_code), sl_law_code⟩)
    (c_law_code : PySem.W.codeIn K cd_law_code "_law_code" = true)
    (k_law_code : PySem.W.keepIn K (.ref f_law_code) = true)
    (a_law_changed : PySem.W.nsIn K mainGlobals "_law_changed" = some (some (.ref f_law_changed)))
    (l_law_changed : K.lookup f_law_changed = some ⟨oc_law_changed, od_law_changed, .func (PySem.W.fnOf "_law_changed" "_law_changed" (defArgs s_law_changed) (defBody s_law_changed) (defScope s_law_changed) .none kV_law_changed dc_law_changed pm_law_changed an_law_changed cd_law_changed ct_law_changed), sl_law_changed⟩)
    (c_law_changed : PySem.W.codeIn K cd_law_changed "_law_changed" = true)
    (k_law_changed : PySem.W.keepIn K (.ref f_law_changed) = true)
    (a_law_star : PySem.W.nsIn K mainGlobals "_law_star" = some (some (.ref f_law_star)))
    (l_law_star : K.lookup f_law_star = some ⟨oc_law_star, od_law_star, .func (PySem.W.fnOf "_law_star" "_law_star" (defArgs s_law_star) (defBody s_law_star) (defScope s_law_star) .none kV_law_star dc_law_star pm_law_star an_law_star cd_law_star ct_law_star), sl_law_star⟩)
    (c_law_star : PySem.W.codeIn K cd_law_star "_law_star" = true)
    (k_law_star : PySem.W.keepIn K (.ref f_law_star) = true)
    (a_law : PySem.W.nsIn K mainGlobals "law" = some (some (.ref f_law)))
    (l_law : K.lookup f_law = some ⟨oc_law, od_law, .func (PySem.W.fnOf "law" "law" (defArgs s_law) (defBody s_law) (defScope s_law) .none kV_law dc_law pm_law an_law cd_law ct_law), sl_law⟩)
    (c_law : PySem.W.codeIn K cd_law "law" = true)
    (k_law : PySem.W.keepIn K (.ref f_law) = true)
    (dl_Finite_init : K.lookup dT_Finite_init = some ⟨dc2, dd2, .seq #[Value.none] dn2, ds2⟩)
    (x_WorthError : PySem.W.excIn K C_WorthError [.type "ValueError", .type "Exception", .type "BaseException", .type "object"] "ValueError.__new__" = true)
    (kp_WorthError : PySem.W.keepIn K (.ref C_WorthError) = true)
    (b_WorthError : PySem.W.subIn K (.ref C_WorthError) (.type "BaseException") = some true)
    (t_WorthError : PySem.W.typeIn K (.ref C_WorthError) = some (.type "type"))
    (hd_WorthError : PySem.W.hasDictIn K C_WorthError = true)
    (ga_WorthError : PySem.W.findIn K (.ref C_WorthError) "__getattribute__" = some (some (.builtin "BaseException.__getattribute__")))
    (gg_WorthError : PySem.W.findIn K (.ref C_WorthError) "__getattr__" = some none)
    (cc_WorthError : PySem.W.findIn K (.ref C_WorthError) "__class__" = some (some (.builtin "object.__class__")))
    (mo_WorthError : PySem.W.mroIn K C_WorthError (.type "object") = some true)
    (x_NoStar : PySem.W.excIn K C_NoStar [.type "ValueError", .type "Exception", .type "BaseException", .type "object"] "ValueError.__new__" = true)
    (kp_NoStar : PySem.W.keepIn K (.ref C_NoStar) = true)
    (b_NoStar : PySem.W.subIn K (.ref C_NoStar) (.type "BaseException") = some true)
    (t_NoStar : PySem.W.typeIn K (.ref C_NoStar) = some (.type "type"))
    (hd_NoStar : PySem.W.hasDictIn K C_NoStar = true)
    (ga_NoStar : PySem.W.findIn K (.ref C_NoStar) "__getattribute__" = some (some (.builtin "BaseException.__getattribute__")))
    (gg_NoStar : PySem.W.findIn K (.ref C_NoStar) "__getattr__" = some none)
    (cc_NoStar : PySem.W.findIn K (.ref C_NoStar) "__class__" = some (some (.builtin "object.__class__")))
    (mo_NoStar : PySem.W.mroIn K C_NoStar (.type "object") = some true)
    (s_NoStar_WorthError : PySem.W.subIn K (.ref C_NoStar) (.ref C_WorthError) = some true)
    (kp_AxiomError : PySem.W.keepIn K (.ref C_AxiomError) = true)
    (b_AxiomError : PySem.W.subIn K (.ref C_AxiomError) (.type "BaseException") = some true)
    (t_AxiomError : PySem.W.typeIn K (.ref C_AxiomError) = some (.type "type"))
    (hd_AxiomError : PySem.W.hasDictIn K C_AxiomError = true)
    (ga_AxiomError : PySem.W.findIn K (.ref C_AxiomError) "__getattribute__" = some (some (.builtin "BaseException.__getattribute__")))
    (gg_AxiomError : PySem.W.findIn K (.ref C_AxiomError) "__getattr__" = some none)
    (cc_AxiomError : PySem.W.findIn K (.ref C_AxiomError) "__class__" = some (some (.builtin "object.__class__")))
    (mo_AxiomError : PySem.W.mroIn K C_AxiomError (.type "object") = some true)
    (s_AxiomError_WorthError : PySem.W.subIn K (.ref C_AxiomError) (.ref C_WorthError) = some true)
    (pg_Finite : PySem.W.plainGet K C_Finite Str.empty = true)
    (hd_Finite : PySem.W.hasDictIn K C_Finite = true)
    (po_Finite : PySem.W.plainOver K C_Finite = true)
    (sa_Finite : PySem.W.findIn K (.ref C_Finite) "__setattr__" = some (some (.builtin "object.__setattr__")))
    (mk_Finite : PySem.W.makesIn K C_Finite = true)
    (kc_Finite : PySem.W.keepIn K (.ref C_Finite) = true)
    (lA : K.lookup C_AxiomError = some ⟨.type "type", ddA, .cls { name := nmA, bases := bsA, mro := .ref C_AxiomError :: bmA, ns := NA, qualname := qA, hasDict := true, slotNames := snA, subclasses := subA, abstract := abA, collection := colA, hasDel := false }, #[k0A, k1A, k2A, k3A, some (.builtin "ValueError.__new__"), k5A]⟩)
    (rvA : PySem.HandSPX.refsVE bmA = true)
    (saA : PySem.W.findIn K (.ref C_AxiomError) "__setattr__" = some (some (.builtin "object.__setattr__")))
    (ksA : PySem.W.ks_superIn K C_AxiomError C_AxiomError "__init__" = some (some (.builtin "ValueError.__init__")))
    (svA : PySem.W.subIn K (.ref C_AxiomError) (.type "ValueError") = some true)
    (moA : PySem.W.mroIn K C_AxiomError (.ref C_AxiomError) = some true)
    (opA : PySem.W.nsIn K cStatics "thirdparty.any" = some none)
    (aA : PySem.W.findIn K (.ref C_AxiomError) "__init__" = some (some (.ref fA)))
    (lfA : K.lookup fA = some ⟨ocA, odA, .func (PySem.W.fnX "__init__" "AxiomError.__init__" (defArgs s_AxiomError_init) (defBody s_AxiomError_init) (defScope s_AxiomError_init) [("__class__", ccA)] .none kVA dcA pmA anA (.ref cdaA) ctA), oslA⟩)
    (tyA : PySem.W.typeIn K (.ref fA) = some (.type "function"))
    (ceA : K.lookup ccA = some ⟨clA, cldA, .cell (some (.ref C_AxiomError)), cslA⟩)
    (coA : K.lookup cdaA = some ⟨cclA, cddA, .fields vsA, ccsA⟩)
    (v2A : vsA[2]? = some (.str fileA tfA))
    (flA : ((l.prog.main.file : Str) == fileA) = true)
    (ciA : PySem.W.codeIn K (.ref cdaA) "AxiomError.__init__" = true)
    (toA : (l.prog.main.scope.names.lookup ("super" : Str)).isSome = false)
    (xnA : PySem.W.findIn K (.ref C_AxiomError) "code" = some none)
    (ccF : PySem.W.findIn K (.ref C_Finite) "__class__" = some (some (.builtin "object.__class__")))
    (moF : PySem.W.mroIn K C_Finite (.type "object") = some true)
    (ktF : PySem.W.kitOne K (.ref C_Finite) (.type "str") = some false)
    (spc : PySem.W.specialIn K (.builtin "object.__class__") "__get__" = some (some (.builtin "getset_descriptor.__get__")))
    (tki : PySem.W.takesIn K (.builtin "object.__class__") = some true)
    (n_Finite__plus : PySem.W.findIn K (.ref C_Finite) "_plus" = some none)
    (n_Finite__times : PySem.W.findIn K (.ref C_Finite) "_times" = some none)
    (n_Finite__one : PySem.W.findIn K (.ref C_Finite) "_one" = some none)
    (n_Finite__stars : PySem.W.findIn K (.ref C_Finite) "_stars" = some none)
    (g_MOST_NUMBERS : PySem.W.nsIn K mainGlobals "MOST_NUMBERS" = some (some (.int 32 tk_MOST_NUMBERS)))
    (z_super : PySem.W.nsIn K mainGlobals "super" = some none)
    (z_isinstance : PySem.W.nsIn K mainGlobals "isinstance" = some none)
    (z_int : PySem.W.nsIn K mainGlobals "int" = some none)
    (z_bool : PySem.W.nsIn K mainGlobals "bool" = some none)
    (z_str : PySem.W.nsIn K mainGlobals "str" = some none)
    (z_list : PySem.W.nsIn K mainGlobals "list" = some none)
    (z_tuple : PySem.W.nsIn K mainGlobals "tuple" = some none)
    (z_min : PySem.W.nsIn K mainGlobals "min" = some none)
    (z_max : PySem.W.nsIn K mainGlobals "max" = some none)
    (z_abs : PySem.W.nsIn K mainGlobals "abs" = some none)
    (z_len : PySem.W.nsIn K mainGlobals "len" = some none)
    (z_range : PySem.W.nsIn K mainGlobals "range" = some none)
    (z_all : PySem.W.nsIn K mainGlobals "all" = some none)
    (z_any : PySem.W.nsIn K mainGlobals "any" = some none)
    : LawAtS l w K (L2.CX l.prog w) 21 63 "script" mg fa h := by
  have e := hfa.symm.trans (PySem.W.mg_of X G a_law)
  cases e
  have F_is_integer := fun_mk (st := s_is_integer) l_is_integer c_is_integer k_is_integer
  have b_is_integer := F_is_integer.binds (ps := ["thing"]) fun _ _ _ _ _ _ us hl => match us, hl with | [_], _ => rfl
  have F_is_between := fun_mk (st := s_is_between) l_is_between c_is_between k_is_between
  have b_is_between := F_is_between.binds (ps := ["thing", "low", "high"]) fun _ _ _ _ _ _ us hl => match us, hl with | [_, _, _], _ => rfl
  have F_Finite_init : FunD K "__init__" "Finite.__init__" (defArgs s_Finite_init) (defBody s_Finite_init) (defScope s_Finite_init) [V.non] [] f_Finite_init (PySem.W.fnOf "__init__" "Finite.__init__" (defArgs s_Finite_init) (defBody s_Finite_init) (defScope s_Finite_init) (.ref dT_Finite_init) kV_Finite_init dc_Finite_init pm_Finite_init an_Finite_init cd_Finite_init ct_Finite_init) := ⟨⟨_, _, _, _, _, _, _, _, _, _, rfl, l_Finite_init, c_Finite_init, .inr ⟨by simp, dT_Finite_init, _, [Value.none], _, rfl, dl_Finite_init, rfl, .cons rfl .nil⟩, .inl rfl⟩, k_Finite_init⟩
  have b_Finite_init : Binds K (PySem.W.fnOf "__init__" "Finite.__init__" (defArgs s_Finite_init) (defBody s_Finite_init) (defScope s_Finite_init) (.ref dT_Finite_init) kV_Finite_init dc_Finite_init pm_Finite_init an_Finite_init cd_Finite_init ct_Finite_init) ["self", "plus_table", "times_table", "one", "stars"] [] := by
    obtain ⟨ds, v, b⟩ := F_Finite_init.binds1 (ps := ["self", "plus_table", "times_table", "one", "stars"]) 5 1 (by simp) rfl fun T kV doc pm an cdv ct us its hl hl2 => match us, its, hl, hl2 with | [_, _, _, _, _], [_], _, _ => ⟨_, rfl, rfl⟩
    cases v
    exact b
  have F_Finite_zero := fun_mk (st := s_Finite_zero) l_Finite_zero c_Finite_zero k_Finite_zero
  have b_Finite_zero := F_Finite_zero.binds (ps := ["self"]) fun _ _ _ _ _ _ us hl => match us, hl with | [_], _ => rfl
  have F_Finite_one := fun_mk (st := s_Finite_one) l_Finite_one c_Finite_one k_Finite_one
  have b_Finite_one := F_Finite_one.binds (ps := ["self"]) fun _ _ _ _ _ _ us hl => match us, hl with | [_], _ => rfl
  have F_Finite_plus := fun_mk (st := s_Finite_plus) l_Finite_plus c_Finite_plus k_Finite_plus
  have b_Finite_plus := F_Finite_plus.binds (ps := ["self", "a", "b"]) fun _ _ _ _ _ _ us hl => match us, hl with | [_, _, _], _ => rfl
  have F_Finite_times := fun_mk (st := s_Finite_times) l_Finite_times c_Finite_times k_Finite_times
  have b_Finite_times := F_Finite_times.binds (ps := ["self", "a", "b"]) fun _ _ _ _ _ _ us hl => match us, hl with | [_, _, _], _ => rfl
  have F_Finite_star := fun_mk (st := s_Finite_star) l_Finite_star c_Finite_star k_Finite_star
  have b_Finite_star := F_Finite_star.binds (ps := ["self", "a"]) fun _ _ _ _ _ _ us hl => match us, hl with | [_, _], _ => rfl
  have F_Finite_is_element := fun_mk (st := s_Finite_is_element) l_Finite_is_element c_Finite_is_element k_Finite_is_element
  have b_Finite_is_element := F_Finite_is_element.binds (ps := ["self", "a"]) fun _ _ _ _ _ _ us hl => match us, hl with | [_, _], _ => rfl
  have F_Finite_size := fun_mk (st := s_Finite_size) l_Finite_size c_Finite_size k_Finite_size
  have b_Finite_size := F_Finite_size.binds (ps := ["self"]) fun _ _ _ _ _ _ us hl => match us, hl with | [_], _ => rfl
  have F_copied := fun_mk (st := s_copied) l_copied c_copied k_copied
  have b_copied := F_copied.binds (ps := ["table"]) fun _ _ _ _ _ _ us hl => match us, hl with | [_], _ => rfl
  have F_first_failure := fun_mk (st := s_first_failure) l_first_failure c_first_failure k_first_failure
  have b_first_failure := F_first_failure.binds (ps := ["plus", "times", "one", "stars"]) fun _ _ _ _ _ _ us hl => match us, hl with | [_, _, _, _], _ => rfl
  have FC_sizes_fit := func_mk (st := s_sizes_fit) l_sizes_fit c_sizes_fit k_sizes_fit
  have F_sizes_fit := FC_sizes_fit.fun_
  have T_sizes_fit := TA "_sizes_fit" r_sizes_fit _ _ (tabIn_of a_sizes_fit l_sizes_fit rfl lc_sizes_fit v_sizes_fit)
  have b_sizes_fit := F_sizes_fit.binds (ps := ["plus", "times", "stars"]) fun _ _ _ _ _ _ us hl => match us, hl with | [_, _, _], _ => rfl
  have FC_entries_fit := func_mk (st := s_entries_fit) l_entries_fit c_entries_fit k_entries_fit
  have F_entries_fit := FC_entries_fit.fun_
  have T_entries_fit := TA "_entries_fit" r_entries_fit _ _ (tabIn_of a_entries_fit l_entries_fit rfl lc_entries_fit v_entries_fit)
  have b_entries_fit := F_entries_fit.binds (ps := ["plus", "times", "one", "stars"]) fun _ _ _ _ _ _ us hl => match us, hl with | [_, _, _, _], _ => rfl
  have FC_is_symmetric := func_mk (st := s_is_symmetric) l_is_symmetric c_is_symmetric k_is_symmetric
  have F_is_symmetric := FC_is_symmetric.fun_
  have T_is_symmetric := TA "_is_symmetric" r_is_symmetric _ _ (tabIn_of a_is_symmetric l_is_symmetric rfl lc_is_symmetric v_is_symmetric)
  have b_is_symmetric := F_is_symmetric.binds (ps := ["table"]) fun _ _ _ _ _ _ us hl => match us, hl with | [_], _ => rfl
  have FC_is_associative := func_mk (st := s_is_associative) l_is_associative c_is_associative k_is_associative
  have F_is_associative := FC_is_associative.fun_
  have T_is_associative := TA "_is_associative" r_is_associative _ _ (tabIn_of a_is_associative l_is_associative rfl lc_is_associative v_is_associative)
  have b_is_associative := F_is_associative.binds (ps := ["table"]) fun _ _ _ _ _ _ us hl => match us, hl with | [_], _ => rfl
  have FC_is_neutral := func_mk (st := s_is_neutral) l_is_neutral c_is_neutral k_is_neutral
  have F_is_neutral := FC_is_neutral.fun_
  have T_is_neutral := TA "_is_neutral" r_is_neutral _ _ (tabIn_of a_is_neutral l_is_neutral rfl lc_is_neutral v_is_neutral)
  have b_is_neutral := F_is_neutral.binds (ps := ["table", "number"]) fun _ _ _ _ _ _ us hl => match us, hl with | [_, _], _ => rfl
  have FC_is_distributive := func_mk (st := s_is_distributive) l_is_distributive c_is_distributive k_is_distributive
  have F_is_distributive := FC_is_distributive.fun_
  have T_is_distributive := TA "_is_distributive" r_is_distributive _ _ (tabIn_of a_is_distributive l_is_distributive rfl lc_is_distributive v_is_distributive)
  have b_is_distributive := F_is_distributive.binds (ps := ["plus", "times"]) fun _ _ _ _ _ _ us hl => match us, hl with | [_, _], _ => rfl
  have F_stars_fit := fun_mk (st := s_stars_fit) l_stars_fit c_stars_fit k_stars_fit
  have b_stars_fit := F_stars_fit.binds (ps := ["plus", "times", "one", "stars"]) fun _ _ _ _ _ _ us hl => match us, hl with | [_, _, _, _], _ => rfl
  have F_law_pot := fun_mk (st := s_law_pot) l_law_pot c_law_pot k_law_pot
  have b_law_pot := F_law_pot.binds (ps := ["script"]) fun _ _ _ _ _ _ us hl => match us, hl with | [_], _ => rfl
  have F_law_next := fun_mk (st := s_law_next) l_law_next c_law_next k_law_next
  have b_law_next := F_law_next.binds (ps := ["pot", "limit"]) fun _ _ _ _ _ _ us hl => match us, hl with | [_, _], _ => rfl
  have F_law_family := fun_mk (st := s_law_family) l_law_family c_law_family k_law_family
  have b_law_family := F_law_family.binds (ps := ["pot", "kind", "small"]) fun _ _ _ _ _ _ us hl => match us, hl with | [_, _, _], _ => rfl
  have F_law_paired := fun_mk (st := s_law_paired) l_law_paired c_law_paired k_law_paired
  have b_law_paired := F_law_paired.binds (ps := ["one", "other"]) fun _ _ _ _ _ _ us hl => match us, hl with | [_, _], _ => rfl
  have F_law_renamed := fun_mk (st := s_law_renamed) l_law_renamed c_law_renamed k_law_renamed
  have b_law_renamed := F_law_renamed.binds (ps := ["pot", "told"]) fun _ _ _ _ _ _ us hl => match us, hl with | [_, _], _ => rfl
  have F_law_stars := fun_mk (st := s_law_stars) l_law_stars c_law_stars k_law_stars
  have b_law_stars := F_law_stars.binds (ps := ["pot", "told"]) fun _ _ _ _ _ _ us hl => match us, hl with | [_, _], _ => rfl
  have F_law_ring := fun_mk (st := s_law_ring) l_law_ring c_law_ring k_law_ring
  have b_law_ring := F_law_ring.binds (ps := ["pot"]) fun _ _ _ _ _ _ us hl => match us, hl with | [_], _ => rfl
  have F_law_is_ring := fun_mk (st := s_law_is_ring) l_law_is_ring c_law_is_ring k_law_is_ring
  have b_law_is_ring := F_law_is_ring.binds (ps := ["ring"]) fun _ _ _ _ _ _ us hl => match us, hl with | [_], _ => rfl
  have F_law_made := fun_mk (st := s_law_made) l_law_made c_law_made k_law_made
  have b_law_made := F_law_made.binds (ps := ["ring"]) fun _ _ _ _ _ _ us hl => match us, hl with | [_], _ => rfl
  have F_law_group := fun_mk (st := s_law_group) l_law_group c_law_group k_law_group
  have b_law_group := F_law_group.binds (ps := ["table", "neutral", "codes"]) fun _ _ _ _ _ _ us hl => match us, hl with | [_, _, _], _ => rfl
  have F_law_code := fun_mk (st := s_law_code) l_law_code c_law_code k_law_code
  have b_law_code := F_law_code.binds (ps := ["ring"]) fun _ _ _ _ _ _ us hl => match us, hl with | [_], _ => rfl
  have F_law_changed := fun_mk (st := s_law_changed) l_law_changed c_law_changed k_law_changed
  have b_law_changed := F_law_changed.binds (ps := ["pot", "ring"]) fun _ _ _ _ _ _ us hl => match us, hl with | [_, _], _ => rfl
  have F_law_star := fun_mk (st := s_law_star) l_law_star c_law_star k_law_star
  have b_law_star := F_law_star.binds (ps := ["ring", "a"]) fun _ _ _ _ _ _ us hl => match us, hl with | [_, _], _ => rfl
  have F_law := fun_mk (st := s_law) l_law c_law k_law
  have b_law := F_law.binds (ps := ["script"]) fun _ _ _ _ _ _ us hl => match us, hl with | [_], _ => rfl
  have cl_Finite : Cls K C_Finite := ⟨pg_Finite, hd_Finite, po_Finite, sa_Finite⟩
  let ad : Ad := ⟨C_WorthError, C_NoStar, C_AxiomError, C_Finite⟩
  have kself : ∀ C : Addr, PySem.W.kitOne K (.ref C) (.ref C) = some true := fun C => by
    show (if (Value.ref C == Value.ref C) = true then some true else _) = some true
    rw [if_pos (by simp)]
  have T : Txt K mg ad :=
    { z_isinstance := PySem.W.mg_none_of X G z_isinstance, z_int := PySem.W.mg_none_of X G z_int, z_bool := PySem.W.mg_none_of X G z_bool, z_str := PySem.W.mg_none_of X G z_str, z_list := PySem.W.mg_none_of X G z_list, z_tuple := PySem.W.mg_none_of X G z_tuple, z_min := PySem.W.mg_none_of X G z_min, z_max := PySem.W.mg_none_of X G z_max, z_abs := PySem.W.mg_none_of X G z_abs, z_len := PySem.W.mg_none_of X G z_len, z_range := PySem.W.mg_none_of X G z_range, z_all := PySem.W.mg_none_of X G z_all, z_any := PySem.W.mg_none_of X G z_any,
      g_MOST_NUMBERS := ⟨_, PySem.W.mg_of X G g_MOST_NUMBERS⟩, g_WorthError := PySem.W.mg_of X G aC_WorthError, g_NoStar := PySem.W.mg_of X G aC_NoStar,
      x_NoStar := x_NoStar, k_NoStar := kp_NoStar, b_NoStar := b_NoStar, t_NoStar := t_NoStar,
      ec_NoStar := ⟨ga_NoStar, gg_NoStar, b_NoStar, hd_NoStar, cc_NoStar, spc, tki, mo_NoStar⟩,
      em_NoStar := PySem.W.exm_ref b_WorthError hd_WorthError t_WorthError s_NoStar_WorthError, ki_NoStar := kself _,
      em_AxiomError := PySem.W.exm_ref b_WorthError hd_WorthError t_WorthError s_AxiomError_WorthError, ec_AxiomError := ⟨ga_AxiomError, gg_AxiomError, b_AxiomError, hd_AxiomError, cc_AxiomError, spc, tki, mo_AxiomError⟩,
      g_AxiomError := PySem.W.mg_of X G aC_AxiomError, ki_AxiomError := kself _, xf_AxiomError := ⟨ga_AxiomError, gg_AxiomError, b_AxiomError, hd_AxiomError⟩, xn_AxiomError := xnA,
      c_Finite := cl_Finite,
      n_plus := n_Finite__plus, n_times := n_Finite__times, n_one := n_Finite__one, n_stars := n_Finite__stars }
  have oxA : OexC K C_AxiomError := ⟨⟨nmA, qA, NA, bsA, bmA, snA, subA, abA, colA, ddA, k0A, k1A, k2A, k3A, k5A, lA, rvA⟩, saA, b_AxiomError, t_AxiomError, kp_AxiomError⟩
  have supA : ExS.SupC l.prog K C_AxiomError cdaA ccA "AxiomError.__init__" := ⟨oxA, ksA, svA, moA, opA, ⟨_, _, _, ceA⟩, ⟨_, _, _, _, _, _, coA, v2A, flA⟩, ciA, toA⟩
  refine ⟨PySem.W.fnOf "law" "law" (defArgs s_law) (defBody s_law) (defScope s_law) .none kV_law dc_law pm_law an_law cd_law ct_law, [(cc_sizes_fit, PP_sizes_fit), (cc_entries_fit, PP_entries_fit), (cc_is_symmetric, PP_is_symmetric), (cc_is_associative, PP_is_associative), (cc_is_neutral, PP_is_neutral), (cc_is_distributive, PP_is_distributive)], spLaw K (Six PP_sizes_fit PP_entries_fit PP_is_symmetric PP_is_associative PP_is_neutral PP_is_distributive), (List.forall_mem_cons.mpr ⟨T_sizes_fit.2, (List.forall_mem_cons.mpr ⟨T_entries_fit.2, (List.forall_mem_cons.mpr ⟨T_is_symmetric.2, (List.forall_mem_cons.mpr ⟨T_is_associative.2, (List.forall_mem_cons.mpr ⟨T_is_neutral.2, (List.forall_mem_cons.mpr ⟨T_is_distributive.2, (fun _ z => nomatch z)⟩)⟩)⟩)⟩)⟩)⟩), (List.forall_mem_cons.mpr ⟨nt_sizes_fit, (List.forall_mem_cons.mpr ⟨nt_entries_fit, (List.forall_mem_cons.mpr ⟨nt_is_symmetric, (List.forall_mem_cons.mpr ⟨nt_is_associative, (List.forall_mem_cons.mpr ⟨nt_is_neutral, (List.forall_mem_cons.mpr ⟨nt_is_distributive, (fun _ z => nomatch z)⟩)⟩)⟩)⟩)⟩)⟩), (List.forall_mem_cons.mpr ⟨T_sizes_fit.1, (List.forall_mem_cons.mpr ⟨T_entries_fit.1, (List.forall_mem_cons.mpr ⟨T_is_symmetric.1, (List.forall_mem_cons.mpr ⟨T_is_associative.1, (List.forall_mem_cons.mpr ⟨T_is_neutral.1, (List.forall_mem_cons.mpr ⟨T_is_distributive.1, (fun _ z => nomatch z)⟩)⟩)⟩)⟩)⟩)⟩), fun s v => .of_eq rfl, ?_, fun base _ _ TBa => ?_⟩
  · intro H a ns hl _ hT hS
    have tg : ∀ P, H P = some (.tbl #[]) → TabG H P := fun P e => ⟨#[], e, by first | trivial | decide | exact TriplesOk_nil | simp [TriplesOk]⟩
    exact ⟨a, ns, rfl, hS, hl, ⟨tg _ (hT (cc_sizes_fit, PP_sizes_fit) (by simp)), tg _ (hT (cc_entries_fit, PP_entries_fit) (by simp)), tg _ (hT (cc_is_symmetric, PP_is_symmetric) (by simp)), tg _ (hT (cc_is_associative, PP_is_associative) (by simp)), tg _ (hT (cc_is_neutral, PP_is_neutral) (by simp)), tg _ (hT (cc_is_distributive, PP_is_distributive) (by simp))⟩, fun _ => rfl⟩
  have TB_sizes_fit : GxR.TabB base mg cc_sizes_fit PP_sizes_fit := by
    have z := TBa (cc_sizes_fit, PP_sizes_fit) (by simp)
    exact ⟨z.code, z.bm, z.gP⟩
  have TB_entries_fit : GxR.TabB base mg cc_entries_fit PP_entries_fit := by
    have z := TBa (cc_entries_fit, PP_entries_fit) (by simp)
    exact ⟨z.code, z.bm, z.gP⟩
  have TB_is_symmetric : GxR.TabB base mg cc_is_symmetric PP_is_symmetric := by
    have z := TBa (cc_is_symmetric, PP_is_symmetric) (by simp)
    exact ⟨z.code, z.bm, z.gP⟩
  have TB_is_associative : GxR.TabB base mg cc_is_associative PP_is_associative := by
    have z := TBa (cc_is_associative, PP_is_associative) (by simp)
    exact ⟨z.code, z.bm, z.gP⟩
  have TB_is_neutral : GxR.TabB base mg cc_is_neutral PP_is_neutral := by
    have z := TBa (cc_is_neutral, PP_is_neutral) (by simp)
    exact ⟨z.code, z.bm, z.gP⟩
  have TB_is_distributive : GxR.TabB base mg cc_is_distributive PP_is_distributive := by
    have z := TBa (cc_is_distributive, PP_is_distributive) (by simp)
    exact ⟨z.code, z.bm, z.gP⟩
  have c_is_integer := cal_mk (x := "is_integer") (ok_is_integer (P := l.prog) (w := w) (K := K) (mg := mg) (base := base) (ad := ad)  F_is_integer T) (PySem.W.mg_of X G a_is_integer) k_is_integer b_is_integer
  have c_is_between := cal_mk (x := "is_between") (ok_is_between (P := l.prog) (w := w) (K := K) (mg := mg) (base := base) (ad := ad) c_is_integer F_is_between T) (PySem.W.mg_of X G a_is_between) k_is_between b_is_between
  have c_copied := cal_mk (x := "_copied") (ok_copied (P := l.prog) (w := w) (K := K) (mg := mg) (base := base) (ad := ad)  F_copied T) (PySem.W.mg_of X G a_copied) k_copied b_copied
  have c_sizes_fit := cal_mk (x := "_sizes_fit") (ok_sizes_fit (P := l.prog) (w := w) (K := K) (mg := mg) (base := base) (ad := ad)  FC_sizes_fit TB_sizes_fit T) (PySem.W.mg_of X G a_sizes_fit) k_sizes_fit b_sizes_fit
  have c_entries_fit := cal_mk (x := "_entries_fit") (ok_entries_fit (P := l.prog) (w := w) (K := K) (mg := mg) (base := base) (ad := ad) c_is_between FC_entries_fit TB_entries_fit T) (PySem.W.mg_of X G a_entries_fit) k_entries_fit b_entries_fit
  have c_is_symmetric := cal_mk (x := "_is_symmetric") (ok_is_symmetric (P := l.prog) (w := w) (K := K) (mg := mg) (base := base) (ad := ad)  FC_is_symmetric TB_is_symmetric T) (PySem.W.mg_of X G a_is_symmetric) k_is_symmetric b_is_symmetric
  have c_is_associative := cal_mk (x := "_is_associative") (ok_is_associative (P := l.prog) (w := w) (K := K) (mg := mg) (base := base) (ad := ad)  FC_is_associative TB_is_associative T) (PySem.W.mg_of X G a_is_associative) k_is_associative b_is_associative
  have c_is_neutral := cal_mk (x := "_is_neutral") (ok_is_neutral (P := l.prog) (w := w) (K := K) (mg := mg) (base := base) (ad := ad)  FC_is_neutral TB_is_neutral T) (PySem.W.mg_of X G a_is_neutral) k_is_neutral b_is_neutral
  have c_is_distributive := cal_mk (x := "_is_distributive") (ok_is_distributive (P := l.prog) (w := w) (K := K) (mg := mg) (base := base) (ad := ad)  FC_is_distributive TB_is_distributive T) (PySem.W.mg_of X G a_is_distributive) k_is_distributive b_is_distributive
  have c_stars_fit := cal_mk (x := "_stars_fit") (ok_stars_fit (P := l.prog) (w := w) (K := K) (mg := mg) (base := base) (ad := ad)  F_stars_fit T) (PySem.W.mg_of X G a_stars_fit) k_stars_fit b_stars_fit
  have c_first_failure := cal_mk (x := "_first_failure") (ok_first_failure (P := l.prog) (w := w) (K := K) (mg := mg) (base := base) (ad := ad) c_sizes_fit c_entries_fit c_is_symmetric c_is_associative c_is_neutral c_is_distributive c_stars_fit F_first_failure T) (PySem.W.mg_of X G a_first_failure) k_first_failure b_first_failure
  have c_law_pot := cal_mk (x := "_law_pot") (ok_law_pot (P := l.prog) (w := w) (K := K) (mg := mg) (base := base) (ad := ad)  F_law_pot T) (PySem.W.mg_of X G a_law_pot) k_law_pot b_law_pot
  have c_law_next := cal_mk (x := "_law_next") (ok_law_next (P := l.prog) (w := w) (K := K) (mg := mg) (base := base) (ad := ad)  F_law_next T) (PySem.W.mg_of X G a_law_next) k_law_next b_law_next
  have c_law_family := cal_mk (x := "_law_family") (ok_law_family (P := l.prog) (w := w) (K := K) (mg := mg) (base := base) (ad := ad) c_law_next F_law_family T) (PySem.W.mg_of X G a_law_family) k_law_family b_law_family
  have c_law_paired := cal_mk (x := "_law_paired") (ok_law_paired (P := l.prog) (w := w) (K := K) (mg := mg) (base := base) (ad := ad)  F_law_paired T) (PySem.W.mg_of X G a_law_paired) k_law_paired b_law_paired
  have c_law_renamed := cal_mk (x := "_law_renamed") (ok_law_renamed (P := l.prog) (w := w) (K := K) (mg := mg) (base := base) (ad := ad) c_law_next F_law_renamed T) (PySem.W.mg_of X G a_law_renamed) k_law_renamed b_law_renamed
  have c_law_stars := cal_mk (x := "_law_stars") (ok_law_stars (P := l.prog) (w := w) (K := K) (mg := mg) (base := base) (ad := ad) c_law_next F_law_stars T) (PySem.W.mg_of X G a_law_stars) k_law_stars b_law_stars
  have c_law_ring := cal_mk (x := "_law_ring") (ok_law_ring (P := l.prog) (w := w) (K := K) (mg := mg) (base := base) (ad := ad) c_law_next c_law_family c_law_paired c_law_renamed c_law_stars F_law_ring T) (PySem.W.mg_of X G a_law_ring) k_law_ring b_law_ring
  have c_law_is_ring := cal_mk (x := "_law_is_ring") (ok_law_is_ring (P := l.prog) (w := w) (K := K) (mg := mg) (base := base) (ad := ad)  F_law_is_ring T) (PySem.W.mg_of X G a_law_is_ring) k_law_is_ring b_law_is_ring
  have r_AxiomError : ExS.RaiX l.prog w K mg base 1 "AxiomError" ad.AxiomError :=
    ⟨fA, _, oxA, aA, tyA, ok_AxiomError_init (P := l.prog) (w := w) (mg := mg) (base := base) (ad := ad) supA (PySem.W.mg_none_of X G z_super) xnA lfA, .all fun us hl => match us, hl with | [_, _], _ => rfl, PySem.W.mg_of X G aC_AxiomError⟩
  have okF_init := ok_Finite_init (P := l.prog) (w := w) (K := K) (mg := mg) (base := base) (ad := ad) c_copied c_first_failure r_AxiomError F_Finite_init T
  have mFin := mak_mk ⟨mk_Finite, a_Finite_init, i_Finite_init, kc_Finite⟩ (PySem.W.mg_of X G aC_Finite) okF_init b_Finite_init
  obtain ⟨ds3, v3, b3⟩ := F_Finite_init.binds1 (ps := ["self", "plus_table", "times_table", "one", "stars"]) 4 0 (by simp) rfl fun T kV doc pm an cdv ct us its hl hl2 => match us, its, hl, hl2 with | [_, _, _, _], [_], _, _ => ⟨_, rfl, rfl⟩
  have mFin3 : MakX l.prog w K mg base 6 "Finite" ad.Finite (fun vs H Q E => spFIB ad.Finite ad.AxiomError (Six PP_sizes_fit PP_entries_fit PP_is_symmetric PP_is_associative PP_is_neutral PP_is_distributive) (vs ++ [.non]) H Q E) :=
    ⟨_, _, _, ds3, [.non], _, ⟨mk_Finite, a_Finite_init, i_Finite_init, kc_Finite⟩, PySem.W.mg_of X G aC_Finite, okF_init, b3, v3, fun vs H Q E h => h⟩
  have mSize : ∀ (n : Nat) (f g : Nat → Nat → Nat) (o : Nat) (st : List (Option Nat)), MetX l.prog w K mg base 1 ad.Finite "size" (spNulG ad.Finite (okF n f g o st) (.int (n : Int))) := fun n f g o st => (met_mk cl_Finite ⟨a_Finite_size, i_Finite_size, k_Finite_size⟩ ((ok_Finite_size (P := l.prog) (w := w) (K := K) (mg := mg) (base := base) (ad := ad)  F_Finite_size T).mono (by decide)) b_Finite_size)
  have M : Mets l.prog w K mg base ad :=
    { zero := fun n f g o st => (met_mk cl_Finite ⟨a_Finite_zero, i_Finite_zero, k_Finite_zero⟩ ((ok_Finite_zero (P := l.prog) (w := w) (K := K) (mg := mg) (base := base) (ad := ad)  F_Finite_zero T).mono (by decide)) b_Finite_zero)
      one := fun n f g o st => (met_mk cl_Finite ⟨a_Finite_one, i_Finite_one, k_Finite_one⟩ ((ok_Finite_one (P := l.prog) (w := w) (K := K) (mg := mg) (base := base) (ad := ad)  F_Finite_one T).mono (by decide)) b_Finite_one)
      size := fun n f g o st => (met_mk cl_Finite ⟨a_Finite_size, i_Finite_size, k_Finite_size⟩ ((ok_Finite_size (P := l.prog) (w := w) (K := K) (mg := mg) (base := base) (ad := ad)  F_Finite_size T).mono (by decide)) b_Finite_size)
      plus := fun n f g o st => (met_mk cl_Finite ⟨a_Finite_plus, i_Finite_plus, k_Finite_plus⟩ ((ok_Finite_plus (P := l.prog) (w := w) (K := K) (mg := mg) (base := base) (ad := ad)  F_Finite_plus T).mono (by decide)) b_Finite_plus)
      times := fun n f g o st => (met_mk cl_Finite ⟨a_Finite_times, i_Finite_times, k_Finite_times⟩ ((ok_Finite_times (P := l.prog) (w := w) (K := K) (mg := mg) (base := base) (ad := ad)  F_Finite_times T).mono (by decide)) b_Finite_times)
      elem := fun n f g o st => (met_mk cl_Finite ⟨a_Finite_is_element, i_Finite_is_element, k_Finite_is_element⟩ ((ok_Finite_is_element (P := l.prog) (w := w) (K := K) (mg := mg) (base := base) (ad := ad) c_is_between (mSize n f g o st) F_Finite_is_element T).mono (by decide)) b_Finite_is_element) }
  have c_law_made := cal_mk (x := "_law_made") (ok_law_made (P := l.prog) (w := w) (K := K) (mg := mg) (base := base) (ad := ad) mFin F_law_made T) (PySem.W.mg_of X G a_law_made) k_law_made b_law_made
  have c_law_group := cal_mk (x := "_law_group") (ok_law_group (P := l.prog) (w := w) (K := K) (mg := mg) (base := base) (ad := ad)  F_law_group T) (PySem.W.mg_of X G a_law_group) k_law_group b_law_group
  have c_law_code := cal_mk (x := "_law_code") (ok_law_code (P := l.prog) (w := w) (K := K) (mg := mg) (base := base) (ad := ad) c_law_group F_law_code T) (PySem.W.mg_of X G a_law_code) k_law_code b_law_code
  have c_law_changed := cal_mk (x := "_law_changed") (ok_law_changed (P := l.prog) (w := w) (K := K) (mg := mg) (base := base) (ad := ad) c_law_next F_law_changed T) (PySem.W.mg_of X G a_law_changed) k_law_changed b_law_changed
  have c_law_star : ∀ n f g o st, CalX l.prog w K mg base 4 "_law_star" (spLS ad.Finite n o f g st) := fun n f g o st =>
    cal_mk (ok_law_star (ad := ad) (met_mk cl_Finite ⟨a_Finite_star, i_Finite_star, k_Finite_star⟩ ((ok_Finite_star (P := l.prog) (w := w) (K := K) (mg := mg) (base := base) (ad := ad)  F_Finite_star T).mono (by decide)) b_Finite_star) F_law_star T) (PySem.W.mg_of X G a_law_star) k_law_star b_law_star
  exact ok_law (P := l.prog) (w := w) (K := K) (mg := mg) (base := base) (ad := ad) M ⟨ccF, spc, tki, moF, ktF⟩ c_law_pot c_law_ring c_law_is_ring c_law_made c_law_code c_law_changed c_law_star mFin3 F_law T
theorem walk {l : PySem.W.OpenLaw} {q : Program} {loose : List Str} {XP : (Str → Option Value) → Heap → Prop} {YP : World → Heap → Prop} {d : DefRec} {K : Params → PySem.W.Frag} (hn : l.most = some 63) (hdf : d.params.defaults = [])
    (hY : ∀ (w : World) (h : Heap), YP w h → (K w.params).In h)
    (F : ∀ (w : World) (mg : Str → Option Value) (fa : Addr) (h : Heap), TabsAt0 q (K w.params) h → (K w.params).In h → h.Ns mainGlobals mg → mg d.name = some (.ref fa) → LawAtS l w (K w.params) (L2.CX l.prog w) 21 63 "script" mg fa h) :
    PySem.W.WalkO q loose XP YP l.row.toRowW d [] (fun f vs => PySem.call f vs) :=
  walk_ofTT (n := 63) (k := 21) (x := "script") (CX := fun w => L2.CX l.prog w) hn (by decide) hdf ⟨rfl, by decide, by decide⟩ hY F fun _ _ _ _ _ h => by
    obtain ⟨_, _, _, _, _, _, _, _, _, _, _, _, z⟩ := h
    exact z
end K05

open PySem PySem.W PyProof.Rows
set_option maxRecDepth 100000 in
set_option maxHeartbeats 0 in
theorem PySem.Challenge.cw_everyworth_k05_finite_semirings_holds : PySem.Challenge.rw_everyworth_k05_finite_semirings.Holds := by
  w_on; o_law; k_head; (case hw => w_witness2)
  k_fill
  refine K05.walk (l := PySem.Challenge.rw_everyworth_k05_finite_semirings) rfl rfl (fun w h Y => PySem.W.kIn_of Y) ?F
  case F =>
    intro w mg fa h TA KX G hmg
    refine' K05.all_mk TA KX G hmg ?aC_WorthError ?aC_NoStar ?aC_AxiomError ?aC_Finite ?a_is_integer ?l_is_integer ?c_is_integer ?k_is_integer ?a_is_between ?l_is_between ?c_is_between ?k_is_between ?a_Finite_init ?i_Finite_init ?l_Finite_init ?c_Finite_init ?k_Finite_init ?a_Finite_zero ?i_Finite_zero ?l_Finite_zero ?c_Finite_zero ?k_Finite_zero ?a_Finite_one ?i_Finite_one ?l_Finite_one ?c_Finite_one ?k_Finite_one ?a_Finite_plus ?i_Finite_plus ?l_Finite_plus ?c_Finite_plus ?k_Finite_plus ?a_Finite_times ?i_Finite_times ?l_Finite_times ?c_Finite_times ?k_Finite_times ?a_Finite_star ?i_Finite_star ?l_Finite_star ?c_Finite_star ?k_Finite_star ?a_Finite_is_element ?i_Finite_is_element ?l_Finite_is_element ?c_Finite_is_element ?k_Finite_is_element ?a_Finite_size ?i_Finite_size ?l_Finite_size ?c_Finite_size ?k_Finite_size ?a_copied ?l_copied ?c_copied ?k_copied ?a_first_failure ?l_first_failure ?c_first_failure ?k_first_failure ?a_sizes_fit ?l_sizes_fit ?c_sizes_fit ?k_sizes_fit ?lc_sizes_fit ?v_sizes_fit ?nt_sizes_fit ?r_sizes_fit ?a_entries_fit ?l_entries_fit ?c_entries_fit ?k_entries_fit ?lc_entries_fit ?v_entries_fit ?nt_entries_fit ?r_entries_fit ?a_is_symmetric ?l_is_symmetric ?c_is_symmetric ?k_is_symmetric ?lc_is_symmetric ?v_is_symmetric ?nt_is_symmetric ?r_is_symmetric ?a_is_associative ?l_is_associative ?c_is_associative ?k_is_associative ?lc_is_associative ?v_is_associative ?nt_is_associative ?r_is_associative ?a_is_neutral ?l_is_neutral ?c_is_neutral ?k_is_neutral ?lc_is_neutral ?v_is_neutral ?nt_is_neutral ?r_is_neutral ?a_is_distributive ?l_is_distributive ?c_is_distributive ?k_is_distributive ?lc_is_distributive ?v_is_distributive ?nt_is_distributive ?r_is_distributive ?a_stars_fit ?l_stars_fit ?c_stars_fit ?k_stars_fit ?a_law_pot ?l_law_pot ?c_law_pot ?k_law_pot ?a_law_next ?l_law_next ?c_law_next ?k_law_next ?a_law_family ?l_law_family ?c_law_family ?k_law_family ?a_law_paired ?l_law_paired ?c_law_paired ?k_law_paired ?a_law_renamed ?l_law_renamed ?c_law_renamed ?k_law_renamed ?a_law_stars ?l_law_stars ?c_law_stars ?k_law_stars ?a_law_ring ?l_law_ring ?c_law_ring ?k_law_ring ?a_law_is_ring ?l_law_is_ring ?c_law_is_ring ?k_law_is_ring ?a_law_made ?l_law_made ?c_law_made ?k_law_made ?a_law_group ?l_law_group ?c_law_group ?k_law_group ?a_law_code ?l_law_code ?c_law_code ?k_law_code ?a_law_changed ?l_law_changed ?c_law_changed ?k_law_changed ?a_law_star ?l_law_star ?c_law_star ?k_law_star ?a_law ?l_law ?c_law ?k_law ?dl_Finite_init ?x_WorthError ?kp_WorthError ?b_WorthError ?t_WorthError ?hd_WorthError ?ga_WorthError ?gg_WorthError ?cc_WorthError ?mo_WorthError ?x_NoStar ?kp_NoStar ?b_NoStar ?t_NoStar ?hd_NoStar ?ga_NoStar ?gg_NoStar ?cc_NoStar ?mo_NoStar ?s_NoStar_WorthError ?kp_AxiomError ?b_AxiomError ?t_AxiomError ?hd_AxiomError ?ga_AxiomError ?gg_AxiomError ?cc_AxiomError ?mo_AxiomError ?s_AxiomError_WorthError ?pg_Finite ?hd_Finite ?po_Finite ?sa_Finite ?mk_Finite ?kc_Finite ?lA ?rvA ?saA ?ksA ?svA ?moA ?opA ?aA ?lfA ?tyA ?ceA ?coA ?v2A ?flA ?ciA ?toA ?xnA ?ccF ?moF ?ktF ?spc ?tki ?n_Finite__plus ?n_Finite__times ?n_Finite__one ?n_Finite__stars ?g_MOST_NUMBERS ?z_super ?z_isinstance ?z_int ?z_bool ?z_str ?z_list ?z_tuple ?z_min ?z_max ?z_abs ?z_len ?z_range ?z_all ?z_any
    (case aC_WorthError => k_is)
    (case aC_NoStar => k_is)
    (case aC_AxiomError => k_is)
    (case aC_Finite => k_is)
    (case a_is_integer => k_is)
    (case l_is_integer => k_is)
    (case c_is_integer => k_is)
    (case k_is_integer => k_is)
    (case a_is_between => k_is)
    (case l_is_between => k_is)
    (case c_is_between => k_is)
    (case k_is_between => k_is)
    (case a_Finite_init => k_is)
    (case i_Finite_init => k_is)
    (case l_Finite_init => k_is)
    (case c_Finite_init => k_is)
    (case k_Finite_init => k_is)
    (case a_Finite_zero => k_is)
    (case i_Finite_zero => k_is)
    (case l_Finite_zero => k_is)
    (case c_Finite_zero => k_is)
    (case k_Finite_zero => k_is)
    (case a_Finite_one => k_is)
    (case i_Finite_one => k_is)
    (case l_Finite_one => k_is)
    (case c_Finite_one => k_is)
    (case k_Finite_one => k_is)
    (case a_Finite_plus => k_is)
    (case i_Finite_plus => k_is)
    (case l_Finite_plus => k_is)
    (case c_Finite_plus => k_is)
    (case k_Finite_plus => k_is)
    (case a_Finite_times => k_is)
    (case i_Finite_times => k_is)
    (case l_Finite_times => k_is)
    (case c_Finite_times => k_is)
    (case k_Finite_times => k_is)
    (case a_Finite_star => k_is)
    (case i_Finite_star => k_is)
    (case l_Finite_star => k_is)
    (case c_Finite_star => k_is)
    (case k_Finite_star => k_is)
    (case a_Finite_is_element => k_is)
    (case i_Finite_is_element => k_is)
    (case l_Finite_is_element => k_is)
    (case c_Finite_is_element => k_is)
    (case k_Finite_is_element => k_is)
    (case a_Finite_size => k_is)
    (case i_Finite_size => k_is)
    (case l_Finite_size => k_is)
    (case c_Finite_size => k_is)
    (case k_Finite_size => k_is)
    (case a_copied => k_is)
    (case l_copied => k_is)
    (case c_copied => k_is)
    (case k_copied => k_is)
    (case a_first_failure => k_is)
    (case l_first_failure => k_is)
    (case c_first_failure => k_is)
    (case k_first_failure => k_is)
    (case a_sizes_fit => k_is)
    (case l_sizes_fit => k_is)
    (case c_sizes_fit => k_is)
    (case k_sizes_fit => k_is)
    (case lc_sizes_fit => k_is)
    (case v_sizes_fit => first | rfl | kernel_rfl)
    (case nt_sizes_fit => first | k_is | kernel_rfl)
    (case r_sizes_fit => first | rfl | kernel_rfl | decide +kernel)
    (case a_entries_fit => k_is)
    (case l_entries_fit => k_is)
    (case c_entries_fit => k_is)
    (case k_entries_fit => k_is)
    (case lc_entries_fit => k_is)
    (case v_entries_fit => first | rfl | kernel_rfl)
    (case nt_entries_fit => first | k_is | kernel_rfl)
    (case r_entries_fit => first | rfl | kernel_rfl | decide +kernel)
    (case a_is_symmetric => k_is)
    (case l_is_symmetric => k_is)
    (case c_is_symmetric => k_is)
    (case k_is_symmetric => k_is)
    (case lc_is_symmetric => k_is)
    (case v_is_symmetric => first | rfl | kernel_rfl)
    (case nt_is_symmetric => first | k_is | kernel_rfl)
    (case r_is_symmetric => first | rfl | kernel_rfl | decide +kernel)
    (case a_is_associative => k_is)
    (case l_is_associative => k_is)
    (case c_is_associative => k_is)
    (case k_is_associative => k_is)
    (case lc_is_associative => k_is)
    (case v_is_associative => first | rfl | kernel_rfl)
    (case nt_is_associative => first | k_is | kernel_rfl)
    (case r_is_associative => first | rfl | kernel_rfl | decide +kernel)
    (case a_is_neutral => k_is)
    (case l_is_neutral => k_is)
    (case c_is_neutral => k_is)
    (case k_is_neutral => k_is)
    (case lc_is_neutral => k_is)
    (case v_is_neutral => first | rfl | kernel_rfl)
    (case nt_is_neutral => first | k_is | kernel_rfl)
    (case r_is_neutral => first | rfl | kernel_rfl | decide +kernel)
    (case a_is_distributive => k_is)
    (case l_is_distributive => k_is)
    (case c_is_distributive => k_is)
    (case k_is_distributive => k_is)
    (case lc_is_distributive => k_is)
    (case v_is_distributive => first | rfl | kernel_rfl)
    (case nt_is_distributive => first | k_is | kernel_rfl)
    (case r_is_distributive => first | rfl | kernel_rfl | decide +kernel)
    (case a_stars_fit => k_is)
    (case l_stars_fit => k_is)
    (case c_stars_fit => k_is)
    (case k_stars_fit => k_is)
    (case a_law_pot => k_is)
    (case l_law_pot => k_is)
    (case c_law_pot => k_is)
    (case k_law_pot => k_is)
    (case a_law_next => k_is)
    (case l_law_next => k_is)
    (case c_law_next => k_is)
    (case k_law_next => k_is)
    (case a_law_family => k_is)
    (case l_law_family => k_is)
    (case c_law_family => k_is)
    (case k_law_family => k_is)
    (case a_law_paired => k_is)
    (case l_law_paired => k_is)
    (case c_law_paired => k_is)
    (case k_law_paired => k_is)
    (case a_law_renamed => k_is)
    (case l_law_renamed => k_is)
    (case c_law_renamed => k_is)
    (case k_law_renamed => k_is)
    (case a_law_stars => k_is)
    (case l_law_stars => k_is)
    (case c_law_stars => k_is)
    (case k_law_stars => k_is)
    (case a_law_ring => k_is)
    (case l_law_ring => k_is)
    (case c_law_ring => k_is)
    (case k_law_ring => k_is)
    (case a_law_is_ring => k_is)
    (case l_law_is_ring => k_is)
    (case c_law_is_ring => k_is)
    (case k_law_is_ring => k_is)
    (case a_law_made => k_is)
    (case l_law_made => k_is)
    (case c_law_made => k_is)
    (case k_law_made => k_is)
    (case a_law_group => k_is)
    (case l_law_group => k_is)
    (case c_law_group => k_is)
    (case k_law_group => k_is)
    (case a_law_code => k_is)
    (case l_law_code => k_is)
    (case c_law_code => k_is)
    (case k_law_code => k_is)
    (case a_law_changed => k_is)
    (case l_law_changed => k_is)
    (case c_law_changed => k_is)
    (case k_law_changed => k_is)
    (case a_law_star => k_is)
    (case l_law_star => k_is)
    (case c_law_star => k_is)
    (case k_law_star => k_is)
    (case a_law => k_is)
    (case l_law => k_is)
    (case c_law => k_is)
    (case k_law => k_is)
    (case dl_Finite_init => k_is)
    (case x_WorthError => k_exc)
    (case kp_WorthError => k_is)
    (case b_WorthError => k_is)
    (case t_WorthError => k_is)
    (case hd_WorthError => k_is)
    (case ga_WorthError => k_is)
    (case gg_WorthError => k_is)
    (case cc_WorthError => k_is)
    (case mo_WorthError => k_is)
    (case x_NoStar => k_exc)
    (case kp_NoStar => k_is)
    (case b_NoStar => k_is)
    (case t_NoStar => k_is)
    (case hd_NoStar => k_is)
    (case ga_NoStar => k_is)
    (case gg_NoStar => k_is)
    (case cc_NoStar => k_is)
    (case mo_NoStar => k_is)
    (case s_NoStar_WorthError => k_is)
    (case kp_AxiomError => k_is)
    (case b_AxiomError => k_is)
    (case t_AxiomError => k_is)
    (case hd_AxiomError => k_is)
    (case ga_AxiomError => k_is)
    (case gg_AxiomError => k_is)
    (case cc_AxiomError => k_is)
    (case mo_AxiomError => k_is)
    (case s_AxiomError_WorthError => k_is)
    (case pg_Finite => k_is)
    (case hd_Finite => k_is)
    (case po_Finite => k_is)
    (case sa_Finite => k_is)
    (case mk_Finite => k_is)
    (case kc_Finite => k_is)
    (case lA => first | k_is | kernel_rfl | decide +kernel)
    (case rvA => first | rfl | decide +kernel)
    (case saA => k_is)
    (case ksA => first | ks_is | kernel_rfl)
    (case svA => k_is)
    (case moA => k_is)
    (case opA => k_is)
    (case aA => k_is)
    (case lfA => first | k_is | kernel_rfl | decide +kernel)
    (case tyA => k_is)
    (case ceA => k_is)
    (case coA => k_is)
    (case v2A => first | rfl | decide +kernel)
    (case flA => first | rfl | decide +kernel)
    (case ciA => k_is)
    (case toA => first | rfl | decide +kernel)
    (case xnA => k_is)
    (case ccF => k_is)
    (case moF => k_is)
    (case ktF => first | k_is | kernel_rfl | decide +kernel)
    (case spc => k_is)
    (case tki => k_is)
    (case n_Finite__plus => k_is)
    (case n_Finite__times => k_is)
    (case n_Finite__one => k_is)
    (case n_Finite__stars => k_is)
    (case g_MOST_NUMBERS => k_is)
    (case z_super => k_is)
    (case z_isinstance => k_is)
    (case z_int => k_is)
    (case z_bool => k_is)
    (case z_str => k_is)
    (case z_list => k_is)
    (case z_tuple => k_is)
    (case z_min => k_is)
    (case z_max => k_is)
    (case z_abs => k_is)
    (case z_len => k_is)
    (case z_range => k_is)
    (case z_all => k_is)
    (case z_any => k_is)
