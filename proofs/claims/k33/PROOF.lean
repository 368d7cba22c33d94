import PyProof.Rows.All
import Wide.All
import OpenK.AllK
import Wide.FinOn
import HandS.ForMost
import HandS.ForExc
import HandS.IsInst
import HandS.ExcIs
import HandS.CallSlots
import HandS.Wide
import HandS.EndBits
import HandS.Flow
import HandS.AnyAll
import HandS.SortKw
import HandS.GenOver
import HandS.GenList
import PyProof.GenRules
import PyProof.GenQ
import HandS.Steps
import HandS.Codes
import HandS.NestedK
import HandS.ExcInit
import HandS.ExcField
import HandS.FStr
import KE.KExcSuper
import KE.KExcIs
import HandS.TupAny
import HandS.TupMul
import HandS.SortInts
import PySem.Challenge.RW_everyworth_k33_least_costs
import HandS.Style
import HandS.TryOnly
import HandS.EndTab
import HandS.EndOwn
set_option Elab.async false
set_option linter.all false
set_option maxRecDepth 100000
set_option maxHeartbeats 4000000
/-! Rules whose callee is told by the reading: calls of defs, methods, classes by what stands in the heap. -/
namespace Ew
open PySem PySem.Spec PyProof.Rows L2

/-- a def under its name keeps sp at level k -/
structure CalX (P : Program) (w : World) (K : PySem.W.Frag) (mg : Str → Option Value) (base : Heap) (k : Nat) (x : Str) (sp : Sp) : Prop where
  ex : ∃ (f : Addr) (fd : FuncData) (ps : List Str) (ds : List Value) (dvs : List V) (sp0 : Sp), FnOk P w K mg base (L2.CX P w) k f fd ps sp0 ∧ mg x = some (.ref f) ∧ PySem.W.keepIn K (.ref f) = true ∧ Binds K fd ps ds ∧ Vals dvs ds ∧
    ∀ vs H Q E, sp vs H Q E → sp0 (vs ++ dvs) H Q E
/-- a method m of the class at C keeps sp at level k -/
structure MetX (P : Program) (w : World) (K : PySem.W.Frag) (mg : Str → Option Value) (base : Heap) (k : Nat) (C : Addr) (m : Str) (sp : Sp) : Prop where
  ex : ∃ (f : Addr) (fd : FuncData) (ps : List Str) (ds : List Value) (dvs : List V) (sp0 : Sp), Cls K C ∧ Meth K C m f ∧ FnOk P w K mg base (L2.CX P w) k f fd ps sp0 ∧ Binds K fd ps ds ∧ Vals dvs ds ∧
    ∀ vs H Q E, sp vs H Q E → sp0 (vs ++ dvs) H Q E
/-- a class under its name, its __init__ keeps sp at level k -/
structure MakX (P : Program) (w : World) (K : PySem.W.Frag) (mg : Str → Option Value) (base : Heap) (k : Nat) (x : Str) (C : Addr) (sp : Sp) : Prop where
  ex : ∃ (f : Addr) (fd : FuncData) (ps : List Str) (ds : List Value) (dvs : List V) (sp0 : Sp), Mk K C f ∧ mg x = some (.ref C) ∧ FnOk P w K mg base (L2.CX P w) k f fd ps sp0 ∧ Binds K fd ps ds ∧ Vals dvs ds ∧
    ∀ vs H Q E, sp vs H Q E → sp0 (vs ++ dvs) H Q E

def tCallD (P : Program) (w : World) (K : PySem.W.Frag) (mg : Str → Option Value) (base : Heap) (j : Nat) (x : Str) (W : WX) (t : TA) : TE := fun σ H Q =>
  ∃ (k : Nat) (sp : Sp), k ≤ j ∧ CalX P w K mg base k x sp ∧ t σ H fun vs H1 => sp vs H1 Q (WE W σ)
def tMethD (P : Program) (w : World) (K : PySem.W.Frag) (mg : Str → Option Value) (base : Heap) (j : Nat) (m : Str) (W : WX) (ta : TE) (t : TA) : TE := fun σ H Q => ta σ H fun x H1 =>
  ∃ (a C dx : Addr) (fs : List (Str × V)) (k : Nat) (sp : Sp), x = .ref a ∧ H1 a = some (.ins C dx fs) ∧ fs.lookup m = none ∧ k ≤ j ∧ MetX P w K mg base k C m sp ∧ t σ H1 fun vs H2 => sp (x :: vs) H2 Q (WE W σ)
def tMakeD (P : Program) (w : World) (K : PySem.W.Frag) (mg : Str → Option Value) (base : Heap) (j : Nat) (x : Str) (W : WX) (t : TA) : TE := fun σ H Q =>
  ∃ (k : Nat) (C : Addr) (sp : Sp), k + 1 ≤ j ∧ MakX P w K mg base k x C sp ∧ t σ H fun vs H1 => ∀ y dy, H1 y = none → H1 dy = none → dy ≠ y →
    sp (.ref y :: vs) (upd (upd H1 dy (.own y)) y (.ins C dy [])) (fun v H2 => v = .non ∧ Q (.ref y) H2) (WE W σ)

section
variable {X : Cx} {j : Nat} {x m : Str} {p pos apos : Pos} {e o : Expr} {es : List Expr} {ta : TE} {t : TA} {W : WX}

theorem pd_call (hr : Room j X.A) (tk : Takes X W) (hg : Gl X x) (ha : PA X (e :: es) t)
    (hdb : (x == ("__debug__" : Str)) = false := by decide) (he : starEach (e :: es) X.env = (false, eval e X.env) :: starEach es X.env := by rfl) (hpl : (backTo pos (starEach es X.env)).any (·.1) = false := by rfl) :
    PE X (.Call (.Name x p) (e :: es) [] pos) (tCallD X.prog X.w X.K X.mg X.base j x W t) := by
  refine ⟨fun pins s σ H Q I h => ?_⟩
  obtain ⟨k, sp, hk, c, h⟩ := h
  obtain ⟨f, fd, ps, ds, dvs, sp0, F, hm, kp, b, d, imp⟩ := c.ex
  refine wpAny_Call_Name_kw (ld_glob I hg hm ?_ hdb)
  refine PySem.W.callWith_K (h₀ := X.base) I.ok.mod.kin kp (thn (ha.run pos pins s σ H _ I h) fun us s1 ⟨vs, H1, I1, r, q⟩ => ⟨I1.kIn, ?_⟩) he hpl
  exact run_fnSD (E := WE W) F (hr.mono hk) b d (passAt tk σ) I1 r (imp _ _ _ _ q)
theorem pd_call0 (hr : Room j X.A) (tk : Takes X W) (hg : Gl X x) (hdb : (x == ("__debug__" : Str)) = false := by decide) :
    PE X (.Call (.Name x p) [] [] pos) (tCallD X.prog X.w X.K X.mg X.base j x W tNil) := by
  refine ⟨fun pins s σ H Q I h => ?_⟩
  obtain ⟨k, sp, hk, c, h⟩ := h
  obtain ⟨f, fd, ps, ds, dvs, sp0, F, hm, kp, b, d, imp⟩ := c.ex
  refine wpAny_Call_Name_kw (ld_glob I hg hm ?_ hdb)
  exact PySem.W.callWith_K0 I.kIn kp (run_fnSD (us := []) (E := WE W) F (hr.mono hk) b d (passAt tk σ) I .nil (imp _ _ _ _ h))

theorem pd_meth {pl : Sem Bool} (hr : Room j X.A) (tk : Takes X W) (he : PE X o ta) (ha : PA X (e :: es) t)
    (hst : starEach (e :: es) X.env = (false, eval e X.env) :: starEach es X.env := by rfl) (hpl : (backTo pos (starEach es X.env)).any (·.1) = false := by rfl)
    (ht : eval (.Call (.Attribute o m apos) (e :: es) [] pos) X.env = (do
      let ov ← eval o X.env
      standAt apos.atName
      let (f, first) ← holding [ov] (getMethod ov m pl)
      callWith pos f first (backTo pos (starEach (e :: es) X.env)) (backToKw pos (keywordEach [] X.env))) := by rfl) :
    PE X (.Call (.Attribute o m apos) (e :: es) [] pos) (tMethD X.prog X.w X.K X.mg X.base j m W ta t) := by
  refine ⟨fun pins s σ H Q I h => ?_⟩
  refine PySem.W.methodCall_KW (pl := pl) (thn (he.run pins s σ H _ I h) fun u s1 hh => ?_) ht
  obtain ⟨x, H1, I1, rx, a, C, dx, fs, k, sp, ex, ea, l, hk, c, q⟩ := hh
  obtain ⟨f, fd, ps, ds, dvs, sp0, hc, hm, F, b, d, imp⟩ := c.ex
  subst ex
  obtain rfl : u = Value.ref a := rx
  refine getmeth_ok I1 ea hc hm l ?_
  refine PySem.W.callWith_K (first := [.ref a]) (h₀ := X.base) I.ok.mod.kin hm.kp (thn (ha.run pos pins s1 σ H1 _ I1 q) fun us s2 ⟨vs, H2, I2, r, q2⟩ => ⟨I2.kIn, ?_⟩) hst hpl
  exact run_fnSD (us := .ref a :: us) (vs := .ref a :: vs) (E := WE W) F (hr.mono hk) b d (passAt tk σ) I2 (.cons rfl r) (imp _ _ _ _ q2)
theorem pd_meth0 {pl : Sem Bool} (hr : Room j X.A) (tk : Takes X W) (he : PE X o ta)
    (ht : eval (.Call (.Attribute o m apos) [] [] pos) X.env = (do
      let ov ← eval o X.env
      standAt apos.atName
      let (f, first) ← holding [ov] (getMethod ov m pl)
      callWith pos f first (backTo pos (starEach [] X.env)) (backToKw pos (keywordEach [] X.env))) := by rfl) :
    PE X (.Call (.Attribute o m apos) [] [] pos) (tMethD X.prog X.w X.K X.mg X.base j m W ta tNil) := by
  refine ⟨fun pins s σ H Q I h => ?_⟩
  refine PySem.W.methodCall_KW (pl := pl) (thn (he.run pins s σ H _ I h) fun u s1 hh => ?_) ht
  obtain ⟨x, H1, I1, rx, a, C, dx, fs, k, sp, ex, ea, l, hk, c, q⟩ := hh
  obtain ⟨f, fd, ps, ds, dvs, sp0, hc, hm, F, b, d, imp⟩ := c.ex
  subst ex
  obtain rfl : u = Value.ref a := rx
  refine getmeth_ok I1 ea hc hm l ?_
  exact PySem.W.callWith_K0 (first := [.ref a]) I1.kIn hm.kp (run_fnSD (us := [.ref a]) (vs := [.ref a]) (E := WE W) F (hr.mono hk) b d (passAt tk σ) I1 (.cons rfl .nil) (imp _ _ _ _ q))

theorem run_makeD {pins : List (Addr × Obj)} {σ : L2.St} {H : Hp} {s : Shared} {Q : VK} {us : List Value} {vs : List V} {k : Nat} {C f : Addr} {fd : FuncData} {ps : List Str} {ds : List Value} {dvs : List V} {sp : Sp} {E : L2.St → XK}
    (M : Mk X.K C f) (F : FnOk X.prog X.w X.K X.mg X.base (L2.CX X.prog X.w) k f fd ps sp) (hr : Room (k + 1) X.A) (hb : Binds X.K fd ps ds) (hd : Vals dvs ds)
    (hx : PassesAt (L2.CX X.prog X.w) X σ (E σ)) (I : Inv X pins σ H s) (r : Vals vs us)
    (h : ∀ x dx, H x = none → H dx = none → dx ≠ x → sp (.ref x :: (vs ++ dvs)) (upd (upd H dx (.own x)) x (.ins C dx [])) (fun v H2 => v = .non ∧ Q (.ref x) H2) (E σ)) :
    wpAny (model X.prog X.w) X.A (call (.ref C) us) (EP X pins σ Q) X.xe s := by
  have hq := h (s.heap.objs.size + 1) s.heap.objs.size (I.hok.fresh (Nat.le_succ _)) (I.hok.fresh (Nat.le_refl _)) (Nat.ne_of_lt (Nat.lt_succ_self _))
  have I2 := Inv.made (C := C) I
  have r2 : Vals (V.ref (s.heap.objs.size + 1) :: (vs ++ dvs)) (Value.ref (s.heap.objs.size + 1) :: (us ++ ds)) := .cons rfl (r.append hd)
  have hl : (Value.ref (s.heap.objs.size + 1) :: us ++ ds).length = ps.length := by
    have e := r2.length
    rw [F.len _ _ _ _ hq] at e
    exact e.symm
  refine wpAny_call (make_map (f := f) I.kIn M.makes M.init (beq_iff_eq.mp M.fn) (codeAny_mono (F.run _ X.stack _ _ ⟨Value.ref (s.heap.objs.size + 1) :: us, []⟩ (Value.ref (s.heap.objs.size + 1) :: (us ++ ds)) _ _ (E σ) (hr.make C us [])
    (I2.env0.make C us []) (hb _ (Value.ref (s.heap.objs.size + 1) :: us) I2.kIn hl) r2 hq) fun r s' hq' => ?_))
  cases r with
  | error e => exact hx pins _ _ e s' I2 hq'
  | ok fl =>
    cases fl with
    | ret u =>
      obtain ⟨v, H', I3, rv, ev, q3⟩ := I2.after hq'
      subst ev
      exact ⟨rv, ⟨V.ref (s.heap.objs.size + 1), H', I3, rfl, q3⟩⟩
    | next => exact False.elim hq'
    | brk => exact False.elim hq'
    | cont => exact False.elim hq'
theorem pd_make (hr : Room j X.A) (tk : Takes X W) (hg : Gl X x) (ha : PA X (e :: es) t)
    (hdb : (x == ("__debug__" : Str)) = false := by decide) (he : starEach (e :: es) X.env = (false, eval e X.env) :: starEach es X.env := by rfl) (hpl : (backTo pos (starEach es X.env)).any (·.1) = false := by rfl) :
    PE X (.Call (.Name x p) (e :: es) [] pos) (tMakeD X.prog X.w X.K X.mg X.base j x W t) := by
  refine ⟨fun pins s σ H Q I h => ?_⟩
  obtain ⟨k, C, sp, hk, c, h⟩ := h
  obtain ⟨f, fd, ps, ds, dvs, sp0, M, hm, F, b, d, imp⟩ := c.ex
  refine wpAny_Call_Name_kw (ld_glob I hg hm ?_ hdb)
  refine PySem.W.callWith_K (h₀ := X.base) I.ok.mod.kin M.kp (thn (ha.run pos pins s σ H _ I h) fun us s1 ⟨vs, H1, I1, r, q⟩ => ⟨I1.kIn, ?_⟩) he hpl
  exact run_makeD (E := WE W) M F (hr.mono hk) b d (passAt tk σ) I1 r fun y dy h1 h2 h3 => imp _ _ _ _ (q y dy h1 h2 h3)
theorem pd_make0 (hr : Room j X.A) (tk : Takes X W) (hg : Gl X x)
    (hdb : (x == ("__debug__" : Str)) = false := by decide) :
    PE X (.Call (.Name x p) [] [] pos) (tMakeD X.prog X.w X.K X.mg X.base j x W tNil) := by
  refine ⟨fun pins s σ H Q I h => ?_⟩
  obtain ⟨k, C, sp, hk, c, h⟩ := h
  obtain ⟨f, fd, ps, ds, dvs, sp0, M, hm, F, b, d, imp⟩ := c.ex
  refine wpAny_Call_Name_kw (ld_glob I hg hm ?_ hdb)
  exact PySem.W.callWith_K0 I.kIn M.kp (run_makeD (us := []) (E := WE W) M F (hr.mono hk) b d (passAt tk σ) I .nil fun y dy h1 h2 h3 => imp _ _ _ _ (h y dy h1 h2 h3))

/-- a class that has no __init__ of its own -/
structure Mk0 (K : PySem.W.Frag) (mg : Str → Option Value) (x : Str) (C : Addr) : Prop where
  mgC : mg x = some (.ref C)
  makes : PySem.W.makesIn K C = true
  init : PySem.W.findIn K (.ref C) "__init__" = some (some (.builtin "object.__init__"))
  kp : PySem.W.keepIn K (.ref C) = true
def tNew0D (K : PySem.W.Frag) (mg : Str → Option Value) (x : Str) : TE := fun _ H Q =>
  ∃ C, Mk0 K mg x C ∧ ∀ y dy, H y = none → H dy = none → dy ≠ y → Q (.ref y) (upd (upd H dy (.own y)) y (.ins C dy []))
theorem pd_new0 (hg : Gl X x) (hdb : (x == ("__debug__" : Str)) = false := by decide) : PE X (.Call (.Name x p) [] [] pos) (tNew0D X.K X.mg x) := by
  refine ⟨fun pins s σ H Q I h => ?_⟩
  obtain ⟨C, M, h⟩ := h
  refine wpAny_Call_Name_kw (ld_glob I hg M.mgC ?_ hdb)
  have hq := h (s.heap.objs.size + 1) s.heap.objs.size (I.hok.fresh (Nat.le_succ _)) (I.hok.fresh (Nat.le_refl _)) (Nat.ne_of_lt (Nat.lt_succ_self _))
  have I2 := Inv.made (C := C) I
  refine PySem.W.callWith_K0 I.kIn M.kp ?_
  show wpAny (model X.prog X.w) X.A (call (.ref C) []) _ _ _
  have I0 := I
  obtain ⟨hh, g, d, tk, os⟩ := s
  have Y := PySem.W.makes_of (M := model X.prog X.w) I0.kIn M.makes
  refine wpAny_call (PySem.W.make_core Y (PySem.W.looks_findIn I0.kIn M.init) (fun self => PySem.W.Looks.of_pure (PySem.W.oi_bind self)) (.inr ⟨rfl, rfl⟩) ?_)
  have hx : ((hh.push PySem.W.emptyDict).push (PySem.W.instObj C hh.objs.size)).get? (hh.objs.size + 1) = some (PySem.W.instObj C hh.objs.size) := by heap_get
  have t1 : PySem.W.Looks (model X.prog X.w) ((hh.push PySem.W.emptyDict).push (PySem.W.instObj C hh.objs.size)) (typeOf (.ref (hh.objs.size + 1))) (.ref C) := (PySem.W.Looks.ld hx).andThen .now
  have t2 : PySem.W.Looks (model X.prog X.w) ((hh.push PySem.W.emptyDict).push (PySem.W.instObj C hh.objs.size)) (isInstance (.ref (hh.objs.size + 1)) (.type "object")) true := t1.andThen (Y.top.keeps fun b o e => Heap.get?_push_of_some _ (Heap.get?_push_of_some _ e))
  refine codeAny_call_builtin PySem.W.oi_plain PySem.W.entry_oi (@PySem.W.check_slot (model X.prog X.w) _ _ _ "object.__init__" "object" "__init__" (.ref (hh.objs.size + 1)) [] [] _ PySem.W.oi_kind PySem.W.oi_split t2 (PySem.W.oi_args (.ref (hh.objs.size + 1))) ?_)
  rw [PySem.W.oi_run]
  exact wpAny_pure (And.intro rfl ⟨V.ref (hh.objs.size + 1), _, I2, rfl, hq⟩)

/-- f(e, ..) by a known promise -/
def tCallF (sp : Sp) (W : WX) (t : TA) : TE := fun σ H Q => t σ H fun vs H1 => sp vs H1 Q (WE W σ)
theorem pc_call {k : Nat} {sp : Sp} (c : CalX X.prog X.w X.K X.mg X.base k x sp) (hr : Room j X.A) (hk : k ≤ j) (tk : Takes X W) (hg : Gl X x) (ha : PA X (e :: es) t)
    (hdb : (x == ("__debug__" : Str)) = false := by decide) (he : starEach (e :: es) X.env = (false, eval e X.env) :: starEach es X.env := by rfl) (hpl : (backTo pos (starEach es X.env)).any (·.1) = false := by rfl) :
    PE X (.Call (.Name x p) (e :: es) [] pos) (tCallF sp W t) :=
  ⟨fun pins s σ H Q I h => (pd_call (p := p) (pos := pos) hr tk hg ha hdb he hpl).run pins s σ H Q I ⟨k, sp, hk, c, h⟩⟩
theorem pc_call0 {k : Nat} {sp : Sp} (c : CalX X.prog X.w X.K X.mg X.base k x sp) (hr : Room j X.A) (hk : k ≤ j) (tk : Takes X W) (hg : Gl X x) (hdb : (x == ("__debug__" : Str)) = false := by decide) :
    PE X (.Call (.Name x p) [] [] pos) (tCallF sp W tNil) :=
  ⟨fun pins s σ H Q I h => (pd_call0 (p := p) (pos := pos) hr tk hg hdb).run pins s σ H Q I ⟨k, sp, hk, c, h⟩⟩
theorem pe_gint {n : Int} (hg : Gl X x) (h : ∃ t, X.mg x = some (.int n t)) (hdb : (x == ("__debug__" : Str)) = false := by decide) : PE X (.Name x pos) (tC (.int n)) := by
  obtain ⟨t, h⟩ := h
  exact pe_glob hg h ⟨t, rfl⟩ hdb
theorem pe_gcls {C : Addr} (hg : Gl X x) (h : X.mg x = some (.ref C)) (hdb : (x == ("__debug__" : Str)) = false := by decide) : PE X (.Name x pos) (tC (.ref C)) := pe_glob hg h rfl hdb

/-! ### the same rules, the written part named K (within a comprehension's block the reading must not speak of the block) -/
section
variable {K : PySem.W.Frag}
theorem kix_list (hK : X.K = K := by rfl) : IxR X (rIxL K) := hK ▸ ix_list
theorem kix_tup (hK : X.K = K := by rfl) : IxR X (rIxT K) := hK ▸ ix_tup
theorem kix_seq (hK : X.K = K := by rfl) : IxR X (rIx K) := hK ▸ ix_seq
theorem kcall_len (hK : X.K = K := by rfl) : CallR X (.builtin "len") (fun xs H Q => ∃ x n, xs = [x] ∧ LenV K x H n ∧ Q (.int n) H) := hK ▸ call_len
theorem kcall_isi (hK : X.K = K := by rfl) : CallR X (.builtin "isinstance") (rIsi K) := hK ▸ call_isi
theorem kin_seq (hK : X.K = K := by rfl) : OpR X (compareOp .In) (rIn K false) := hK ▸ op_in_seq
theorem knotIn_seq (hK : X.K = K := by rfl) : OpR X (compareOp .NotIn) (rIn K true) := hK ▸ op_notIn_seq
theorem kpe_fld {f : Str} (he : PE X e ta) (hb : attributeBase e f X.env (eval e X.env) = eval e X.env) (hK : X.K = K := by rfl) : PE X (.Attribute e f pos) (tFld K ta f) := hK ▸ pe_fld he hb
theorem kpi_list {tg l : Expr} {tl : TE} (hl : PE X l tl) (hK : X.K = K := by rfl) : PI X tg l (iList K tl) := hK ▸ pi_list hl
theorem kpi_tup {tg l : Expr} {tl : TE} (hl : PE X l tl) (hK : X.K = K := by rfl) : PI X tg l (iTup K tl) := hK ▸ pi_tup hl
end
theorem kpd_meth {P : Program} {w : World} {K : PySem.W.Frag} {mg : Str → Option Value} {base : Heap} {pl : Sem Bool} (hr : Room j X.A) (tk : Takes X W) (he : PE X o ta) (ha : PA X (e :: es) t)
    (hP : X.prog = P := by rfl) (hw : X.w = w := by rfl) (hK : X.K = K := by rfl) (hm : X.mg = mg := by rfl) (hB : X.base = base := by rfl)
    (hst : starEach (e :: es) X.env = (false, eval e X.env) :: starEach es X.env := by rfl) (hpl : (backTo pos (starEach es X.env)).any (·.1) = false := by rfl)
    (ht : eval (.Call (.Attribute o m apos) (e :: es) [] pos) X.env = (do
      let ov ← eval o X.env
      standAt apos.atName
      let (f, first) ← holding [ov] (getMethod ov m pl)
      callWith pos f first (backTo pos (starEach (e :: es) X.env)) (backToKw pos (keywordEach [] X.env))) := by rfl) :
    PE X (.Call (.Attribute o m apos) (e :: es) [] pos) (tMethD P w K mg base j m W ta t) := by
  subst hP hw hK hm hB
  exact pd_meth (pl := pl) hr tk he ha hst hpl ht
theorem kpd_meth0 {P : Program} {w : World} {K : PySem.W.Frag} {mg : Str → Option Value} {base : Heap} {pl : Sem Bool} (hr : Room j X.A) (tk : Takes X W) (he : PE X o ta)
    (hP : X.prog = P := by rfl) (hw : X.w = w := by rfl) (hK : X.K = K := by rfl) (hm : X.mg = mg := by rfl) (hB : X.base = base := by rfl)
    (ht : eval (.Call (.Attribute o m apos) [] [] pos) X.env = (do
      let ov ← eval o X.env
      standAt apos.atName
      let (f, first) ← holding [ov] (getMethod ov m pl)
      callWith pos f first (backTo pos (starEach [] X.env)) (backToKw pos (keywordEach [] X.env))) := by rfl) :
    PE X (.Call (.Attribute o m apos) [] [] pos) (tMethD P w K mg base j m W ta tNil) := by
  subst hP hw hK hm hB
  exact pd_meth0 (pl := pl) hr tk he ht

/-! ### both ways of a two-place rule -/
def rOr (r r' : R2) : R2 := fun x y H Q => r x y H Q ∨ r' x y H Q
theorem op_or2 {f : Value → Value → Sem Value} {r r' : R2} (h : OpR X f r) (h' : OpR X f r') : OpR X f (rOr r r') := OpR.or h h'
theorem call_or2 {f : Value} {r r' : List V → Hp → VK → Prop} (h : CallR X f r) (h' : CallR X f r') : CallR X f (fun xs H Q => r xs H Q ∨ r' xs H Q) := by
  intro pins s σ H xs us Q I v q
  rcases q with q | q
  · exact h pins s σ H xs us Q I v q
  · exact h' pins s σ H xs us Q I v q
/-- isinstance(e, c) of what a suite holds, its class told by the reading -/
def rIsED (K : PySem.W.Frag) (a : Addr) (cls : Value) (d : Option Addr) : List V → Hp → VK → Prop := fun xs H Q => ∃ D, cls = .ref D ∧ d = none ∧ ExcC K D ∧ rIsE K D a xs H Q
theorem call_isED {a : Addr} {oe : Obj} {pn : List (Addr × Obj)} {cls : Value} {d : Option Addr} (hz : Zc cls d oe) (hf : ∃ vs, oe.data = .fields vs) : CallR (X.suite a ((a, oe) :: pn)) (.builtin "isinstance") (rIsED X.K a cls d) := by
  intro pins s σ H xs us Q I r h
  obtain ⟨D, rfl, rfl, C, q⟩ := h
  exact call_isE C hz hf pins s σ H xs us Q I r q
/-- text * 0 or 1 -/
def rMulS : R2 := fun x y H Q => ∃ (a : Str) (b : Bool), x = .str a ∧ y = .int (if b then 1 else 0) ∧ Q (.str (if b then a else Str.empty)) H
theorem op_mulS : OpR X (binaryOp .Mult) rMulS := by
  intro pins s σ H x y v u Q I rx ry h
  obtain ⟨a, b, rfl, rfl, q⟩ := h
  obtain ⟨t, rfl⟩ := rx
  obtain ⟨t', rfl⟩ := ry
  cases b with
  | true =>
    refine SB.mul ⟨by decide, fun _ z => absurd z (by simp), fun _ z => absurd z (by simp)⟩ fun t' k => ?_
    refine ⟨.str a, H, I.tok _, ⟨t', ?_⟩, q⟩
    unfold Txt.mul
    rfl
  | false =>
    refine SB.mul ⟨by decide, fun z => absurd (show (0:Int) < 1 by decide) z, fun z => absurd (show (0:Int) < 1 by decide) z⟩ fun t' k => ?_
    refine ⟨.str Str.empty, H, I.tok _, ⟨t', ?_⟩, q⟩
    unfold Txt.mul
    rfl
end
/-! ### try: the body's and the suite's terms are given where the reading stands -/
section
variable {X : Cx} {x n : Str} {c : Value} {i : Nat} {body suite : List Stmt} {b0 : Stmt} {np pos pos' : Pos} {Wout : WX}
def tsD (X : Cx) (b0 : Stmt) (suite : List Stmt) (a : Addr) (cls : Value) (d : Option Addr) : TS := fun D σ H =>
  ∀ (oe : Obj) (pn : List (Addr × Obj)), Zc cls d oe → (∃ vs, oe.data = .fields vs) → ∃ t, PSs (X.suite a ((a, oe) :: pn)) (b0 :: suite) t ∧ t D σ H
def tbD (X : Cx) (body : List Stmt) (W : WX) : TS := fun D σ H =>
  ∀ (pn : List (Addr × Obj)) (xe : Value → Shared → Prop), Takes (X.tr pn xe) W → PassesOwn (model X.prog X.w) X.A X.env xe → ∃ t, PSs (X.tr pn xe) body t ∧ t D σ H
theorem ps_tryD (hs : X.stack = X.env :: X.outer) (hf : X.env.frame = some X.env.locals) (hN : X.N.Nodup) (hi : X.N[i]? = some n) (hln : X.env.kindOf n = some .local) (hc : Names X x c) (tk : Takes X Wout) :
    PS X (.Try body [.ExceptHandler (some (.Name x np)) (some n) (b0 :: suite) pos'] [] [] pos) (fun D σ H => tbD X body (wAs X.K c i (tsD X b0 suite) Wout D) D σ H) :=
  ps_try_as (tb := tbD X body) (ts := tsD X b0 suite) hs hf hN hi hln hc tk
    (fun _ pn xe tk1 po => ⟨fun pins s σ H D I h => let ⟨_, p, q⟩ := h pn xe tk1 po; p.run pins s σ H D I q⟩)
    (fun a oe cls d pn hz hv => ⟨fun pins s σ H D I h => let ⟨_, p, q⟩ := h oe pn hz hv; p.run pins s σ H D I q⟩)
end
/-! ### from a def's own promise -/
section
variable {P : Program} {w : World} {K : PySem.W.Frag} {mg : Str → Option Value} {base : Heap} {k : Nat} {f C : Addr} {fd : FuncData} {ps : List Str} {sp : Sp} {x m : Str}
theorem cal_mk (G : FnOk P w K mg base (L2.CX P w) k f fd ps sp) (hm : mg x = some (.ref f)) (kp : PySem.W.keepIn K (.ref f) = true) (b : Binds K fd ps []) : CalX P w K mg base k x sp :=
  ⟨f, fd, ps, [], [], sp, G, hm, kp, b, .nil, fun _ _ _ _ h => by rw [List.append_nil]; exact h⟩
theorem met_mk (c : Cls K C) (me : Meth K C m f) (G : FnOk P w K mg base (L2.CX P w) k f fd ps sp) (b : Binds K fd ps []) : MetX P w K mg base k C m sp :=
  ⟨f, fd, ps, [], [], sp, c, me, G, b, .nil, fun _ _ _ _ h => by rw [List.append_nil]; exact h⟩
theorem mak_mk (M : Mk K C f) (hm : mg x = some (.ref C)) (G : FnOk P w K mg base (L2.CX P w) k f fd ps sp) (b : Binds K fd ps []) : MakX P w K mg base k x C sp :=
  ⟨f, fd, ps, [], [], sp, M, hm, G, b, .nil, fun _ _ _ _ h => by rw [List.append_nil]; exact h⟩
theorem cal_false (hm : mg x = some (.ref f)) (kp : PySem.W.keepIn K (.ref f) = true) (b : Binds K fd ps []) : CalX P w K mg base 0 x (fun _ _ _ _ => False) :=
  cal_mk ⟨fun _ _ _ _ h => h.elim, fun _ _ _ _ _ _ _ _ _ _ _ _ _ h => h.elim⟩ hm kp b
theorem CalX.imp {sp' : Sp} (c : CalX P w K mg base k x sp) (h : ∀ vs H Q E, sp' vs H Q E → sp vs H Q E) : CalX P w K mg base k x sp' := by
  obtain ⟨f, fd, ps, ds, dvs, sp0, F, hm, kp, b, d, imp⟩ := c.ex
  exact ⟨f, fd, ps, ds, dvs, sp0, F, hm, kp, b, d, fun vs H Q E q => imp vs H Q E (h vs H Q E q)⟩
theorem MetX.imp {sp' : Sp} (c : MetX P w K mg base k C m sp) (h : ∀ vs H Q E, sp' vs H Q E → sp vs H Q E) : MetX P w K mg base k C m sp' := by
  obtain ⟨f, fd, ps, ds, dvs, sp0, F, hm, kp, b, d, imp⟩ := c.ex
  exact ⟨f, fd, ps, ds, dvs, sp0, F, hm, kp, b, d, fun vs H Q E q => imp vs H Q E (h vs H Q E q)⟩
/-- two promises of one def at once -/
theorem FnOk.or {sp' : Sp} (F : FnOk P w K mg base (L2.CX P w) k f fd ps sp) (G : FnOk P w K mg base (L2.CX P w) k f fd ps sp') : FnOk P w K mg base (L2.CX P w) k f fd ps (fun vs H Q E => sp vs H Q E ∨ sp' vs H Q E) :=
  ⟨fun vs H Q E h => h.elim (F.len vs H Q E) (G.len vs H Q E), fun A outer s H args us vs Q E hr he hb hv hs => hs.elim (F.run A outer s H args us vs Q E hr he hb hv) (G.run A outer s H args us vs Q E hr he hb hv)⟩
end
end Ew

set_option Elab.async false
set_option linter.all false
set_option maxRecDepth 100000
set_option maxHeartbeats 4000000
/-! all(.. for ..), any(.. for ..): the element is any expression that the reading serves. -/
namespace EwG
open PySem PySem.Spec PyProof.Rows L2 Ew GxR

/-- the context of a generator expression's frame -/
abbrev gx (X : Cx) (A1 : Around) (s : Shared) (H : Hp) (cenv : Env) (fp : List Addr) (pn : List (Addr × Obj)) : Cx :=
  { X with A := A1, s_0 := s, H_0 := H, env := cenv, outer := X.stack, stack := cenv :: X.stack, ex := fp, fn := fun _ => false, calm := true, pn := pn, xe := fun _ _ => False }

theorem inv_same {X : Cx} {pins : List (Addr × Obj)} {σ : L2.St} {H : Hp} {s s' : Shared} (I : Inv X pins σ H s) (hh : s'.heap = s.heap) (ho : s'.os = s.os) (hb : AllBare s'.gens) : Inv X pins σ H s' := by
  obtain ⟨h', g', d', t', o'⟩ := s'
  have e1 : h' = s.heap := hh
  have e2 : o' = s.os := ho
  subst e1 e2
  exact ⟨I.ok, I.os, hb, I.base, I.loc, I.cell, I.free, I.freeC, I.pin, I.hok, I.len⟩

section
variable {X : Cx} {pins : List (Addr × Obj)} {σ : L2.St} {H : Hp} {s : Shared}
abbrev genv (X : Cx) (scope : Scope) (C : Addr) (code : Value) : Env := genEnv scope (cloFrom X.env.cells scope.names []) C code builtinsNs X.env

theorem gen_start {scope : Scope} {own : List (Str × Nat)} {fp : List Addr} {A1 : Around} {h' : Heap} {obj : Obj} {code : Value} {m : Str → Option Value} {g' : Array GenState} {t' : Nat}
    (I : Inv X pins σ H s) (ok : BlkOk X.N X.env.scope scope own) (hcell : ∀ y ∈ scope.names, y.2 ≠ .cell) (hN : X.N.Nodup) (hfp : ∀ b ∈ fp, FpOk X pins H b ∧ b < s.heap.objs.size)
    (hA : A1.handled = none) (hfr : A1.frames = some (genv X scope s.heap.objs.size code :: X.stack)) (hn' : h'.Ns s.heap.objs.size m) (kp0 : ∀ b o, s.heap.get? b = some o → h'.get? b = some o) (hs : h'.objs.size = s.heap.objs.size + 1)
    (hob : (h'.push obj).get? h'.objs.size = some obj) (hod : ∀ v, obj.data ≠ .cell v) (hg : AllBare g') :
    Inv (gx X A1 s H (genv X scope s.heap.objs.size code) fp [(h'.objs.size, obj)]) [] (wipe σ (own.map (·.2))) H { s with heap := h'.push obj, gens := g', toks := t' } := by
  have hfree : ∀ y ∈ scope.names, y.2 = .free → ∃ c, X.env.cells.lookup y.1 = some c := fun y hy e => by
    rcases ok.free y hy e with k | k
    · exact I.ok.has _ (.inl k)
    · exact I.ok.has _ (.inr k)
  have kp : ∀ b o, s.heap.get? b = some o → (h'.push obj).get? b = some o := fun b o e => Heap.get?_push_of_some _ (kp0 b o e)
  generalize hcenv : genv X scope s.heap.objs.size code = cenv at hfr
  have hL : cenv.locals = s.heap.objs.size := by rw [← hcenv]; rfl
  have hF : cenv.frame = some cenv.locals := by rw [← hcenv]; rfl
  have hcl : cenv.cells = cloFrom X.env.cells scope.names [] := by rw [← hcenv]; rfl
  have hsc : cenv.scope = scope := by rw [← hcenv]; rfl
  have cm : ∀ {y c}, cenv.cells.lookup y = some c → X.env.cells.lookup y = some c ∧ c < s.heap.objs.size := fun {y c} hm => by
    rw [hcl] at hm
    rcases cloFrom_mem (PySem.mem_of_lookup hm) with hm | ⟨h1, rfl⟩
    · cases hm
    · obtain ⟨c, hc⟩ := hfree _ h1 rfl
      rw [hc]
      obtain ⟨w, z⟩ := I.cell _ _ hc
      exact ⟨rfl, z.lt⟩
  have look : ∀ {y}, scope.names.lookup y = some .free → ∃ c, cenv.cells.lookup y = some c ∧ X.env.cells.lookup y = some c := fun {y} hl => by
    have hy : (y, NameKind.free) ∈ scope.names := PySem.mem_of_lookup hl
    obtain ⟨c', e'⟩ := mem_lookup (cloFrom_has (cells := X.env.cells) (acc := []) hy)
    rw [← hcl] at e'
    exact ⟨c', e', (cm e').1⟩
  have okB : (gx X A1 s H cenv fp [(h'.objs.size, obj)]).Ok := by
    refine ⟨I.ok.mod, by show cenv.scope.kind = _; rw [hsc]; exact ok.kind, by show cenv.globals = _; rw [← hcenv]; exact I.ok.glob, by show cenv.builtins = _; rw [← hcenv]; rfl, by show s.heap.objs.size ≤ cenv.locals; rw [hL]; exact Nat.le_refl _,
      fun y z c e1 e2 => I.ok.inj y z c (cm e1).1 (cm e2).1, fun y hy => ?_, fun y c z e => absurd (show false = true from z) Bool.false_ne_true, fun _ => hA, hfr, .inr ⟨rfl, hF⟩, fun b hb => ⟨?_, fun y c e z => ?_⟩, I.bs, Nat.le_trans I.ok.bsz I.sz, fun b o e hb => ?_, fun b hb z => ?_, I.stack, I.stkFree⟩
    · show ∃ c, cenv.cells.lookup y = some c
      rcases hy with hy | hy
      · have hy : cenv.scope.names.lookup y = some .cell := hy
        rw [hsc] at hy
        exact absurd rfl (hcell _ (PySem.mem_of_lookup hy))
      · have hy : cenv.scope.names.lookup y = some .free := hy
        rw [hsc] at hy
        obtain ⟨c, h1, _⟩ := look hy
        exact ⟨c, h1⟩
    · show b ≠ cenv.locals
      rw [hL]; exact Nat.ne_of_lt (hfp b hb).2
    · exact (hfp b hb).1.2.2.2.2.1 y c (cm e).1 z
    · rcases (hfp b hb).1.2.2.2.1 with z | z
      · exact I.ok.noex b o e z
      · exact absurd (Nat.lt_of_lt_of_le (Heap.lt_size e) (Nat.le_trans I.ok.bsz z)) (Nat.lt_irrefl _)
    · rcases List.mem_cons.mp (I.stkSub b z) with z | z
      · exact (hfp b hb).1.2.1 z
      · exact (hfp b hb).1.2.2.1 z
  refine ⟨okB, rfl, hg, Un.kept kp, ⟨m, ?_, fun i y av e1 e2 e3 => ?_⟩, fun y c e => ?_, ?_, fun y c e => ?_, fun p hp => ?_, I.hok.kept kp, by rw [wipe_length]; exact I.len⟩
  · show Heap.Ns _ cenv.locals _
    rw [hL]
    exact hn'.push _
  · obtain ⟨e2, hne⟩ := wipe_some e2
    have hfr : scope.names.lookup y = some .free := by
      have key : ∀ k, scope.names.lookup y = some k → k = .local ∨ k = .cell → False := fun k hk hh => by
        rcases ok.own _ (PySem.mem_of_lookup hk) hh with e' | e'
        · obtain ⟨p, hp, hpy⟩ := List.mem_map.mp e'
          have e3 := ok.ix p hp
          have : p.1 = y := hpy
          rw [this] at e3
          exact hne (List.mem_map.mpr ⟨p, hp, nodup_ix hN e3 e1⟩)
        · exact e' (List.mem_of_getElem? e1)
      have e3 : Vis cenv.scope y := e3
      rw [hsc] at e3
      rcases e3 with e3 | e3 | e3
      · exact (key _ e3 (.inl rfl)).elim
      · exact (key _ e3 (.inr rfl)).elim
      · exact e3
    obtain ⟨m, hn, hl⟩ := I.loc
    have hvis : Vis X.env.scope y := (ok.free _ (PySem.mem_of_lookup hfr) rfl).elim (fun k => .inr (.inl k)) (fun k => .inr (.inr k))
    obtain ⟨w, r, q⟩ := hl i y av e1 e2 hvis
    refine ⟨w, r, .inr ⟨.inr (by show cenv.scope.names.lookup y = _; rw [hsc]; exact hfr), ?_⟩⟩
    obtain ⟨c, h1, h2⟩ := look hfr
    rcases q with ⟨k, _⟩ | ⟨_, c', e', z⟩
    · have k : X.env.scope.names.lookup y = some .local := k
      rcases ok.free _ (PySem.mem_of_lookup hfr) rfl with k' | k' <;> rw [show X.env.scope.names.lookup y = _ from k'] at k <;> cases k
    · rw [h2] at e'; cases e'
      exact ⟨c, h1, z.keeps kp⟩
  · obtain ⟨w, z⟩ := I.cell y c (cm e).1
    exact ⟨w, z.keeps kp⟩
  · show H cenv.locals = none
    rw [hL]; exact I.hok.fresh (Nat.le_refl _)
  · exact I.freeC y c (cm e).1
  · have e : p = (h'.objs.size, obj) := by
      have hp : p ∈ [(h'.objs.size, obj)] ++ [] := hp
      simpa using hp
    subst e
    have le : s.heap.objs.size ≤ h'.objs.size := by omega
    refine ⟨hob, I.hok.fresh le, ?_, fun z => ?_, hod⟩
    · show h'.objs.size ≠ cenv.locals
      rw [hL, hs]; exact Nat.succ_ne_self _
    · rcases List.mem_cons.mp (I.stkSub _ z) with z | z
      · have := I.lt
        rw [← show h'.objs.size = X.env.locals from z] at this
        exact absurd (Nat.lt_of_lt_of_le this le) (Nat.lt_irrefl _)
      · exact I.nofs le z

/-- e: the truth that goes on (all: True, any: False) -/
def GW (J : It) (g : TG) (te : TE) (vs : List Nat) (σ : L2.St) (e : Bool) (Q : VK) (W : Nat → Nat → Hp → Prop) : Prop := ∀ i m H, W i m H →
  (J.stop i H ∧ Q (.bl e) H) ∨ (J.go i H ∧ ∀ x H', J.yld i H x H' → g x (wipe σ vs) H' fun σ2 H2 => wipe σ2 vs = wipe σ vs ∧ te σ2 H2 fun y H3 => ∃ b, y = .bl b ∧ (b = e → ∃ m', m' < m ∧ W (i + 1) m' H3) ∧ (b ≠ e → Q (.bl b) H3))
abbrev GP (Y : Cx) (e : Bool) (Q : VK) : Nat → Shared → Shared → Prop := fun _ _ s => ∃ σ H, Inv Y [] σ H s ∧ Q (.bl e) H
abbrev GRn (Y : Cx) (e : Bool) (Q : VK) : GenEnd := fun n s₀ r s => r = .ok .next ∧ GP Y e Q n s₀ s
def GYp (Y : Cx) (e : Bool) (Q : VK) : Protocol := fun n s₀ v s kap => ∃ b σ H, v = .bool b ∧ Inv Y [] σ H s ∧ (b ≠ e → Q (.bl b) H) ∧ (b = e → ∀ s' : Shared, s'.heap = s.heap → s'.os = s.os → AllBare s'.gens → kap (.send .none) s')

theorem seg_loop {Y : Cx} {A2 : Around} {elt tg iter : Expr} {scope : Scope} {pos : Pos} {it : Addr} {fp : List Addr} {tn : Nat → Heap → Prop} {J : It} {g : TG} {te : TE} {vs : List Nat} {σ : L2.St} {e : Bool} {Q : VK} {W : Nat → Nat → Hp → Prop}
    (hA : Y.A = A2.over (.compLoop (.GeneratorExp elt [⟨tg, iter, [], 0⟩] scope pos) 0 (.ref it) .none Y.env) []) (hex : Y.ex = fp) (hc : Y.calm = true) (hx : Y.xe = fun _ _ => False) (hpn : ∀ b ∈ fp, ∀ p ∈ Y.pn, p.1 ≠ b) (hco : Y.env.scope.isCoroutine = false)
    (T : Turn Y.prog Y.w Y.K tg J fp it tn) (pg : PG Y tg g) (pe : PE Y elt te) (hW : GW J g te vs σ e Q W) :
    ∀ (m i n : Nat) (s₀ s : Shared) (H : Hp), m < n → Inv Y [] (wipe σ vs) H s → tn i s.heap → (∀ b ∈ fp, H b = none) → W i m H →
      Seg (model Y.prog Y.w) A2 (GRn Y e Q) (GYp Y e Q) n s₀ (.compLoop (.GeneratorExp elt [⟨tg, iter, [], 0⟩] scope pos) 0 (.ref it) .none Y.env)
        ((model Y.prog Y.w).den (.compLoop (.GeneratorExp elt [⟨tg, iter, [], 0⟩] scope pos) 0 (.ref it) .none Y.env)) [] s := by
  have stat : ∀ {σ' : L2.St} {H' : Hp} {s' : Shared}, Inv Y [] σ' H' s' → (∀ b ∈ fp, H' b = none) → ∀ b ∈ fp, FpOk Y [] H' b := fun {σ' H' s'} I' hn b hb =>
    have hb' : b ∈ Y.ex := by rw [hex]; exact hb
    ⟨hn b hb, (I'.ok.exf b hb').1, I'.ok.exfs b hb', .inl hb', fun x c e => (I'.ok.exf b hb').2 x c e, fun p hp => hpn b hb p (by simpa using hp)⟩
  intro m
  induction m using Nat.strongRecOn with
  | ind m ih =>
    intro i n s₀ s H hmn I st hn w
    show Seg _ A2 _ _ _ s₀ _ ((compTurn (.GeneratorExp elt [⟨tg, iter, [], 0⟩] scope pos) 0 (.ref it) .none Y.env).onRaise (leaving Y.env)) [] s
    rw [compTurn_gen, Sem.onRaise_eq_wrap]
    refine seg_bind_wrap (wpAny_standAt ?_)
    rcases hW i m H w with ⟨stop, q⟩ | ⟨go, step⟩
    · refine seg_bind_wrap ?_
      rw [← hA]
      refine thnF (T.done Y rfl rfl rfl hc i [] s _ H (fun _ _ => False) I (stat I hn) st stop) fun r s6 ⟨hr, I6⟩ => ?_
      subst hr
      exact seg_end (.ok .next) ⟨rfl, _, H, I6, q⟩
    · refine seg_bind_wrap ?_
      rw [← hA]
      refine thnF (T.item Y rfl rfl rfl hc i [] s _ H (fun _ _ => False) I (stat I hn) st go) fun r s6 ⟨u, hr, h6⟩ => ?_
      subst hr
      refine seg_bind_wrap ?_
      rw [← hA]
      refine thnF h6 fun _ s7 ⟨x, H7, I7, r7, y7, st7, n7⟩ => ?_
      have I7' := I7.pinned (stat I7 n7) (T.obj _ _ st7)
      refine seg_bind_wrap ?_
      rw [← hA]
      have hpg := pg.run _ s7 _ H7 x u _ I7' r7 (step x H7 y7)
      rw [hx] at hpg
      refine thnF hpg fun _ s8 ⟨σ8, H8, I8, hw8, q8⟩ => ?_
      refine seg_bind_wrap ?_
      rw [← hA]
      refine wpAny_tests_nil ?_
      simp only [if_true]
      have hy : ∀ v, yieldOut Y.env v = yieldValue v := fun v => by simp only [yieldOut, hco, Bool.false_eq_true, if_false]
      simp only [hy]
      rw [Sem.bind_eq_wrap', Sem.bind_eq_wrap', Sem.wrap_wrap, Sem.wrap_wrap]
      refine seg_wrap ?_
      rw [← hA]
      have hpe := pe.run _ s8 σ8 H8 _ I8 q8
      rw [hx] at hpe
      refine thnF hpe fun z s9 ⟨y, H9, I9, r9, b, hyb, q9⟩ => ?_
      subst hyb
      have hz : z = .bool b := r9
      subst hz
      have pin' : ∀ c ∈ fp, ∀ o, s7.heap.get? c = some o → s9.heap.get? c = some o ∧ H9 c = none := fun c hb o e =>
        let z := I9.pin (c, o) (List.mem_append_right _ (List.mem_append_right _ (mem_pinsAt hb e)))
        ⟨z.1, z.2.1⟩
      have hl : (wipe σ vs).length = σ8.length := by rw [← hw8, wipe_length]
      have I10 : Inv Y [] (wipe σ vs) H9 s9 := (I9.unpinned (pins := [])).weak hl fun j v e => by
        rw [← hw8] at e
        exact (wipe_some e).1
      obtain ⟨n', rfl⟩ : ∃ n', n = n' + 1 := ⟨n - 1, by omega⟩
      refine seg_at (seg_yield rfl rfl rfl ⟨b, _, H9, rfl, I10, q9.2, fun hb s' hh ho hg => ?_⟩)
      obtain ⟨m', hm, w'⟩ := q9.1 hb
      refine seg_again rfl (ih m' hm (i + 1) n' s' s' H9 (by omega) (inv_same I10 hh ho hg) ?_ (fun c hc => ?_) w')
      · rw [hh]
        exact T.keep _ _ _ st7 fun c hb o e => (pin' c hb o e).1
      · obtain ⟨o, e, _⟩ := T.obj _ _ st7 c hc
        exact (pin' c hc o e).2

theorem seg_start {Y : Cx} {A2 : Around} {elt tg iter : Expr} {scope : Scope} {pos : Pos} {it : Addr} {fp : List Addr} {tn : Nat → Heap → Prop} {J : It} {e : Bool} {Q : VK} {n : Nat} {s₀ s : Shared}
    (T : Turn Y.prog Y.w Y.K tg J fp it tn) (st : tn 0 s.heap)
    (loop : Seg (model Y.prog Y.w) A2 (GRn Y e Q) (GYp Y e Q) n s₀ (.compLoop (.GeneratorExp elt [⟨tg, iter, [], 0⟩] scope pos) 0 (.ref it) .none Y.env)
        ((model Y.prog Y.w).den (.compLoop (.GeneratorExp elt [⟨tg, iter, [], 0⟩] scope pos) 0 (.ref it) .none Y.env)) [] s) :
    Seg (model Y.prog Y.w) A2 (GRn Y e Q) (GYp Y e Q) n s₀ (.compStart (.GeneratorExp elt [⟨tg, iter, [], 0⟩] scope pos) 0 (.ref it) .none Y.env)
        ((model Y.prog Y.w).den (.compStart (.GeneratorExp elt [⟨tg, iter, [], 0⟩] scope pos) 0 (.ref it) .none Y.env)) [] s := by
  show Seg _ A2 _ _ _ s₀ _ ((compStart (.GeneratorExp elt [⟨tg, iter, [], 0⟩] scope pos) 0 (.ref it) .none Y.env).onRaise (leaving Y.env)) [] s
  unfold compStart
  rw [Sem.onRaise_eq_wrap]
  show Seg _ A2 _ _ _ s₀ _ ((ask >>= _).wrap _ _ _ _) [] s
  refine seg_bind_wrap (wpAny_askSetting ?_)
  split
  · exact seg_again rfl loop
  · first
      | exact seg_bind_wrap (wpAny_rule (seg_bind_wrap (wpAny_standAt (seg_bind_wrap (T.self _ 0 s _ _ st (seg_again rfl loop))))))
      | (refine seg_bind_wrap (wpAny_rule ?_); show Seg _ A2 _ _ _ s₀ _ ((standAt iter.pos >>= _).wrap _ _ _ _) [] s; exact seg_bind_wrap (wpAny_standAt (seg_bind_wrap (T.self _ 0 s _ _ st (seg_again rfl loop)))))

theorem fin_heap {Y : Cx} {σ : L2.St} {H : Hp} {s₁ : Shared} {g : Nat} {h' : Heap} (I : Inv Y [] σ H s₁) (k : ∀ b o, s₁.heap.get? b = some o → h'.get? b = some o) : Inv Y [] σ H { s₁.setGen g .finished with heap := h' } :=
  inv_same (s' := { s₁.setGen g .finished with heap := h' }) (Inv.kept (t' := s₁.toks) I k) rfl rfl (allBare_setGen I.bare rfl)

/-- one step of the walk -/
theorem next_gen {Y : Cx} {A : Around} {a : Addr} {g n : Nat} {gs : GenState} {e : Bool} {Q : VK} {s : Shared} {Qo : Option Value → Shared → Prop} {E : Value → Shared → Prop} (hh : A.handled = none) (hroom : A.depth < recursionLimit)
    (hl : s.heap.NoLimit) (hg : s.heap.IsGen a g) (hgs : s.gens[g]? = some gs) (hb : AllBare s.gens)
    (hgo : ∀ s' : Shared, s'.heap = s.heap → s'.os = s.os → AllBare s'.gens → gs.Goes (model Y.prog Y.w) A.in1 (GRn Y e Q) (GYp Y e Q) n (.send .none) s')
    (hE : ∀ σ H s', Inv Y [] σ H s' → Q (.bl e) H → Qo none s')
    (hO : ∀ b σ H s', b ≠ e → Inv Y [] σ H s' → Q (.bl b) H → Qo (some (.bool b)) s')
    (hN : ∀ n' gs' σ H s', n = n' + 1 → Inv Y [] σ H s' → s'.gens[g]? = some gs' → (∀ s'' : Shared, s''.heap = s'.heap → s''.os = s'.os → AllBare s''.gens → gs'.Goes (model Y.prog Y.w) A.in1 (GRn Y e Q) (GYp Y e Q) n' (.send .none) s'') → Qo (some (.bool e)) s') :
    wpAny (model Y.prog Y.w) A (pyNext (.ref a)) Qo E s := by
  have hgl : g < s.gens.size := by
    rcases Nat.lt_or_ge g s.gens.size with h | h
    · exact h
    · rw [Array.getElem?_eq_none h] at hgs; cases hgs
  refine GenW.wpAny_gsz (Nat.le_refl s.gens.size) ?_
  refine wpAny_pyNext_genexpQ (P := GP Y e Q) hh hl hroom hg hgs (hgo _ rfl rfl (allBare_setGen hb rfl)) (fun v s₁ gs' hbr hY => ?_) (fun s₁ hP h' hk => ?_)
  · obtain ⟨b, σ, H, rfl, I, qne, qe⟩ := hY
    intro hsz
    have hsz1 : g < s₁.gens.size := by
      rw [GenW.setGen_size] at hsz
      omega
    have I' : Inv Y [] σ H (s₁.setGen g gs') := inv_same (s' := s₁.setGen g gs') I rfl rfl (allBare_setGen I.bare hbr)
    by_cases hbe : b = e
    · subst hbe
      have k := qe rfl
      cases n with
      | zero => exact False.elim (k s₁ rfl rfl I.bare)
      | succ n' =>
        refine hN n' gs' σ H _ rfl I' (setGen_self (gs := s₁.gens[g]) (Array.getElem?_eq_getElem hsz1)) fun s'' h1 h2 h3 => ?_
        exact k s'' h1 h2 h3
    · exact hO b σ H _ hbe I' (qne hbe)
  · obtain ⟨σ, H, I, q⟩ := hP
    intro _
    exact hE σ H _ (fin_heap I hk) q

theorem drv_all {Y : Cx} {A : Around} {a : Addr} {g : Nat} {Q : VK} {R : Result → Shared → Prop} {og : Obj} (hpn : (a, og) ∈ Y.pn) (hig : ∀ h : Heap, h.get? a = some og → h.IsGen a g)
    (hh : A.in1.handled = none) (hroom : A.in1.depth < recursionLimit) (hR : ∀ b σ H s', Inv Y [] σ H s' → Q (.bl b) H → R (.ok (.ret (.bool b))) s') :
    ∀ (n : Nat) (gs : GenState) (σ : L2.St) (H : Hp) (s : Shared), Inv Y [] σ H s → s.gens[g]? = some gs →
      (∀ s' : Shared, s'.heap = s.heap → s'.os = s.os → AllBare s'.gens → gs.Goes (model Y.prog Y.w) A.in1.in1 (GRn Y true Q) (GYp Y true Q) n (.send .none) s') →
      codeAny (model Y.prog Y.w) A (.builtin "all.loop" ⟨[.ref a], []⟩) R s := by
  intro n
  induction n with
  | zero =>
    intro gs σ H s I hgs hgo
    refine codeAny_builtin F.entry_all_loop ?_
    rw [Around.under_plainId F.plain_all_loop _]
    show wpAny _ A.in1 (pyNext (.ref a) >>= _) _ _ s
    refine wpAny_bind (next_gen hh hroom I.nolimit (hig _ (I.pin _ (List.mem_append_left _ hpn)).1) hgs I.bare hgo (fun σ H s' I' q => ?_) (fun b σ H s' hb I' q => ?_) fun n' gs' σ H s' hn I' h1 h2 => absurd hn (Nat.succ_ne_zero n').symm)
    · exact wpAny_bind (wpAny_rule (wpAny_pure (hR true σ H s' I' q)))
    · have hb : b = false := by cases b <;> simp_all
      subst hb
      refine wpAny_bind (wpAny_holding (wpAny_truthy_bool ?_))
      refine wpAny_bind (wpAny_letGo ?_)
      simp only [Bool.false_eq_true, if_false]
      exact wpAny_bind (wpAny_rule (wpAny_pure (hR false σ H s' I' q)))
  | succ n ih =>
    intro gs σ H s I hgs hgo
    refine codeAny_builtin F.entry_all_loop ?_
    rw [Around.under_plainId F.plain_all_loop _]
    show wpAny _ A.in1 (pyNext (.ref a) >>= _) _ _ s
    refine wpAny_bind (next_gen hh hroom I.nolimit (hig _ (I.pin _ (List.mem_append_left _ hpn)).1) hgs I.bare hgo (fun σ H s' I' q => ?_) (fun b σ H s' hb I' q => ?_) fun n' gs' σ H s' hn I' h1 h2 => ?_)
    · exact wpAny_bind (wpAny_rule (wpAny_pure (hR true σ H s' I' q)))
    · have hb : b = false := by cases b <;> simp_all
      subst hb
      refine wpAny_bind (wpAny_holding (wpAny_truthy_bool ?_))
      refine wpAny_bind (wpAny_letGo ?_)
      simp only [Bool.false_eq_true, if_false]
      exact wpAny_bind (wpAny_rule (wpAny_pure (hR false σ H s' I' q)))
    · cases hn
      refine wpAny_bind (wpAny_holding (wpAny_truthy_bool ?_))
      refine wpAny_bind (wpAny_letGo ?_)
      simp only [if_true]
      exact wpAny_pure ⟨plainId_quiet F.plain_all_loop _, ih gs' σ H s' I' h1 h2⟩
theorem drv_any {Y : Cx} {A : Around} {a : Addr} {g : Nat} {Q : VK} {R : Result → Shared → Prop} {og : Obj} (hpn : (a, og) ∈ Y.pn) (hig : ∀ h : Heap, h.get? a = some og → h.IsGen a g)
    (hh : A.in1.handled = none) (hroom : A.in1.depth < recursionLimit) (hR : ∀ b σ H s', Inv Y [] σ H s' → Q (.bl b) H → R (.ok (.ret (.bool b))) s') :
    ∀ (n : Nat) (gs : GenState) (σ : L2.St) (H : Hp) (s : Shared), Inv Y [] σ H s → s.gens[g]? = some gs →
      (∀ s' : Shared, s'.heap = s.heap → s'.os = s.os → AllBare s'.gens → gs.Goes (model Y.prog Y.w) A.in1.in1 (GRn Y false Q) (GYp Y false Q) n (.send .none) s') →
      codeAny (model Y.prog Y.w) A (.builtin "any.loop" ⟨[.ref a], []⟩) R s := by
  intro n
  induction n with
  | zero =>
    intro gs σ H s I hgs hgo
    refine codeAny_builtin F.entry_any_loop ?_
    rw [Around.under_plainId F.plain_any_loop _]
    show wpAny _ A.in1 (pyNext (.ref a) >>= _) _ _ s
    refine wpAny_bind (next_gen hh hroom I.nolimit (hig _ (I.pin _ (List.mem_append_left _ hpn)).1) hgs I.bare hgo (fun σ H s' I' q => ?_) (fun b σ H s' hb I' q => ?_) fun n' gs' σ H s' hn I' h1 h2 => absurd hn (Nat.succ_ne_zero n').symm)
    · exact wpAny_bind (wpAny_rule (wpAny_pure (hR false σ H s' I' q)))
    · have hb : b = true := by cases b <;> simp_all
      subst hb
      refine wpAny_bind (wpAny_holding (wpAny_truthy_bool ?_))
      refine wpAny_bind (wpAny_letGo ?_)
      simp only [if_true]
      exact wpAny_bind (wpAny_rule (wpAny_pure (hR true σ H s' I' q)))
  | succ n ih =>
    intro gs σ H s I hgs hgo
    refine codeAny_builtin F.entry_any_loop ?_
    rw [Around.under_plainId F.plain_any_loop _]
    show wpAny _ A.in1 (pyNext (.ref a) >>= _) _ _ s
    refine wpAny_bind (next_gen hh hroom I.nolimit (hig _ (I.pin _ (List.mem_append_left _ hpn)).1) hgs I.bare hgo (fun σ H s' I' q => ?_) (fun b σ H s' hb I' q => ?_) fun n' gs' σ H s' hn I' h1 h2 => ?_)
    · exact wpAny_bind (wpAny_rule (wpAny_pure (hR false σ H s' I' q)))
    · have hb : b = true := by cases b <;> simp_all
      subst hb
      refine wpAny_bind (wpAny_holding (wpAny_truthy_bool ?_))
      refine wpAny_bind (wpAny_letGo ?_)
      simp only [if_true]
      exact wpAny_bind (wpAny_rule (wpAny_pure (hR true σ H s' I' q)))
    · cases hn
      refine wpAny_bind (wpAny_holding (wpAny_truthy_bool ?_))
      refine wpAny_bind (wpAny_letGo ?_)
      simp only [Bool.false_eq_true, if_false]
      exact wpAny_pure ⟨plainId_quiet F.plain_any_loop _, ih gs' σ H s' I' h1 h2⟩

/-- the around of the generator's body, of a consumer that is called at A -/
abbrev gA (A : Around) (elt tg iter : Expr) (scope : Scope) (pos : Pos) (it : Addr) (cenv : Env) : Around := A.in1.in1.over (.compLoop (.GeneratorExp elt [⟨tg, iter, [], 0⟩] scope pos) 0 (.ref it) .none cenv) []
theorem gA_room {k : Nat} {A : Around} {elt tg iter : Expr} {scope : Scope} {pos : Pos} {it : Addr} {cenv : Env} (r : Room (k + 1) A) : Room k (gA A elt tg iter scope pos it cenv) :=
  ⟨r.hd, by have := r.dp; show A.depth + 0 + 1 + 3 * k + 5 < _; omega, by have := r.un; show A.units + 1 + 1 + 0 + 3 + 16 * k + 200 < _; omega⟩
theorem gA_frames {A : Around} {elt tg iter : Expr} {scope : Scope} {pos : Pos} {it : Addr} {cenv : Env} {l : List Env} (h : A.frames = some l) : (gA A elt tg iter scope pos it cenv).frames = some (cenv :: l) := by
  show pushEnvs [cenv] (pushEnvs [] A.frames) = _
  rw [h]
  rfl

/-- the generator at a, that has not begun -/
def Ready2 (X : Cx) (pins : List (Addr × Obj)) (σ : L2.St) (e : Bool) (Q : VK) (a : Addr) (s5 : Shared) : Prop :=
  ∃ (A1 : Around) (s4 : Shared) (H4 : Hp) (cenv : Env) (fp : List Addr) (pn : List (Addr × Obj)) (og : Obj) (g : Nat) (gs : GenState) (σ' : L2.St) (H5 : Hp) (n : Nat),
    (a, og) ∈ pn ∧ (∀ h : Heap, h.get? a = some og → h.IsGen a g) ∧ Inv (gx X A1 s4 H4 cenv fp pn) [] σ' H5 s5 ∧ s5.gens[g]? = some gs ∧
    (∀ s' : Shared, s'.heap = s5.heap → s'.os = s5.os → AllBare s'.gens → gs.Goes (model X.prog X.w) X.A.in1.in1 (GRn (gx X A1 s4 H4 cenv fp pn) e Q) (GYp (gx X A1 s4 H4 cenv fp pn) e Q) n (.send .none) s') ∧
    ∀ σ' H' s', Inv (gx X A1 s4 H4 cenv fp pn) [] σ' H' s' → Inv X pins σ H' s'

/-- all(.., any(..: the reading; e: the truth that goes on -/
def tGen (e : Bool) (P : Addr) (wi : TI) (g : TG) (te : TE) (vs : List Nat) : TE := fun σ H Q => wi σ H fun J H1 => TabG H1 P ∧ ∀ H2, Tabbed P H1 H2 → ∃ W : Nat → Nat → Hp → Prop, (∃ m, W 0 m H2) ∧ GW J g te vs σ e Q W

theorem gen_make {c P : Addr} {elt tg iter : Expr} {gpos : Pos} {scope : Scope} {own : List (Str × Nat)} {wi : TI} {g : TG} {te : TE} {k : Nat} {e : Bool} {Q : VK} {Q' : Value → Shared → Prop}
    (hr : Room (k + 1) X.A) (TB : TabB X.base X.mg c P) (hcode : X.env.code = .ref c) (hN : X.N.Nodup) (ok : BlkOk X.N X.env.scope scope own) (hcell : ∀ y ∈ scope.names, y.2 ≠ .cell) (hco : scope.isCoroutine = false) (h0 : scope.names.lookup (".0" : Str) = some NameKind.local)
    (hi : PI X tg iter wi)
    (hpg : ∀ (A1 : Around) (s : Shared) (H : Hp) (C : Addr) (code : Value) (fp : List Addr) (pn : List (Addr × Obj)), PG (gx X A1 s H (genv X scope C code) fp pn) tg g)
    (hpe : ∀ (A1 : Around) (s : Shared) (H : Hp) (C : Addr) (code : Value) (fp : List Addr) (pn : List (Addr × Obj)), Room k A1 → PE (gx X A1 s H (genv X scope C code) fp pn) elt te)
    (hs : ∀ v, genFold iter X.env v = pure v) (I : Inv X pins σ H s) (h : tGen e P wi g te (own.map (·.2)) σ H Q)
    (hQ : ∀ a s5, Ready2 X pins σ e Q a s5 → Q' (.ref a) s5) :
    wpAny (model X.prog X.w) X.A (eval (.GeneratorExp elt [⟨tg, iter, [], 0⟩] scope gpos) X.env) Q' X.xe s := by
  have hfree : ∀ y ∈ scope.names, y.2 = .free → ∃ c, X.env.cells.lookup y.1 = some c := fun y hy e => by
    rcases ok.free y hy e with k | k
    · exact I.ok.has _ (.inl k)
    · exact I.ok.has _ (.inr k)
  refine wpAny_GeneratorExp_make hco (closure_ok hfree) hcell h0 ok.kind (by have := hr.dp; omega) ?_ hs
  refine thn (hi.run pins s σ H _ I h) fun xv s1 hx => thn hx fun itv s2 h2 => ?_
  obtain ⟨it, fp, tn, J, H2, e2, I2, T, st2, f2, ⟨ps, hP, ht⟩, q⟩ := h2
  subst e2
  have hPs : s2.heap.get? P = some { cls := .none, data := .fields ps } := I2.hok P _ hP
  have cd : PySem.W.CodeHd s2.heap c P := TB.code.keeps fun b u e => I2.bk b u e
  have sz : ∀ b ∈ fp, b < s2.heap.objs.size := fun b hb => by
    obtain ⟨o, e, _⟩ := T.obj _ _ st2 b hb
    exact Heap.lt_size e
  have cont : ∀ (code : Value) (h3 : Heap) (tk : Nat) (ps' : Array Value), Heap.ExtBut P s2.heap h3 → s2.heap.objs.size ≤ h3.objs.size → h3.get? P = some { cls := .none, data := .fields ps' } → (∃ more, ps' = ps ++ more) → TriplesOk ps'.toList →
      wpAny (model X.prog X.w) X.A (builtinsFor X.env.globals X.env.builtins) (fun bi s₄ =>
        ∀ h', h'.Ns s₄.heap.objs.size (fun y => if y = ".0" then some (.ref it) else none) → Heap.SameBut s₄.heap.objs.size (s₄.heap.push { cls := .type "frame", data := .dict #[] }) h' →
          Q' (.ref h'.objs.size) { s₄ with
            gens := s₄.gens.push (.fresh (.compStart (.GeneratorExp elt [⟨tg, iter, [], 0⟩] scope gpos) 0 (.ref it) .none (genEnv scope (cloFrom X.env.cells scope.names []) s₄.heap.objs.size code bi X.env))),
            toks := s₄.toks + 1 + 1 + 1,
            heap := h'.push { cls := .type "generator", data := .fields #[.int s₄.gens.size 0, .str "<genexpr>" (s₄.toks + 1), .str (X.env.qual ++ "<genexpr>") (s₄.toks + 1 + 1)] } }) X.xe { s2 with heap := h3, toks := tk } := by
    intro code h3 tk ps' hx hsz hP3 hmore ht3
    obtain ⟨bm, ob, e1, e2, e3, e4, e5, e6, e7, e8⟩ := TB.bm
    have keep3 : ∀ b u, b ≠ P → s2.heap.get? b = some u → h3.get? b = some u := fun b u hb e => hx b u hb e
    refine wpAny_builtinsFor (m := X.mg) (by rw [I2.ok.glob]; exact (I2.mod.glob.keeps I2.bk).extBut hx TB.gP) e1 e2 (keep3 _ _ e4 (I2.bk _ _ e5)) e6 e7 e8 ?_
    obtain ⟨more, em⟩ := hmore
    have I4 : Inv X pins σ (upd H2 P (.tbl (ps ++ more))) { s2 with heap := h3, toks := tk } :=
      inv_tab (more := more) (h' := h3) (g' := s2.gens) (d' := s2.drawn) (t' := tk) I2 hP keep3 (by rw [← em]; exact hP3) I2.bare
    have nP : ∀ b ∈ fp, b ≠ P := fun b hb z => by
      have := (f2 b hb).1
      rw [z, hP] at this
      cases this
    have f4 : ∀ b ∈ fp, FpOk X pins (upd H2 P (.tbl (ps ++ more))) b ∧ b < h3.objs.size := fun b hb =>
      ⟨⟨by rw [upd_ne (nP b hb)]; exact (f2 b hb).1, (f2 b hb).2⟩, Nat.lt_of_lt_of_le (sz b hb) hsz⟩
    have st4 : tn 0 h3 := T.keep _ _ _ st2 fun b hb o e => keep3 b o (nP b hb) e
    obtain ⟨W, ⟨m0, w0⟩, gw⟩ := q _ ⟨⟨ps ++ more, upd_same, by rw [← em]; exact ht3⟩, fun b hb => upd_ne hb⟩
    intro h' hn' hs'
    have hn' : h'.Ns h3.objs.size (fun y => if y = ".0" then some (.ref it) else none) := hn'
    have hs' : Heap.SameBut h3.objs.size (h3.push { cls := .type "frame", data := .dict #[] }) h' := hs'
    have hsz' : h'.objs.size = h3.objs.size + 1 := by rw [hs'.1, Heap.size_push]
    have keep' : ∀ b o, h3.get? b = some o → h'.get? b = some o := fun b o e => hs'.extBut b o (Nat.ne_of_lt (Heap.lt_size e)) (Heap.get?_push_of_some _ e)
    generalize hcenv : genv X scope h3.objs.size code = cenv
    have I5 := gen_start (A1 := gA X.A elt tg iter scope gpos it cenv) (code := code) (t' := tk + 1 + 1 + 1)
      (obj := { cls := .type "generator", data := .fields #[.int s2.gens.size 0, .str "<genexpr>" (tk + 1), .str (X.env.qual ++ "<genexpr>") (tk + 1 + 1)] })
      (g' := s2.gens.push (.fresh (.compStart (.GeneratorExp elt [⟨tg, iter, [], 0⟩] scope gpos) 0 (.ref it) .none cenv)))
      I4 ok hcell hN f4 hr.hd (by rw [hcenv]; exact gA_frames I.ok.frames) hn' keep' hsz' (Heap.get?_push_size _ rfl) (fun v z => by cases z) (I2.bare.push rfl)
    have pg := hpg (gA X.A elt tg iter scope gpos it cenv) { s2 with heap := h3, toks := tk } (upd H2 P (.tbl (ps ++ more))) h3.objs.size code fp [(h'.objs.size, { cls := .type "generator", data := .fields #[.int s2.gens.size 0, .str "<genexpr>" (tk + 1), .str (X.env.qual ++ "<genexpr>") (tk + 1 + 1)] })]
    have pe := hpe (gA X.A elt tg iter scope gpos it cenv) { s2 with heap := h3, toks := tk } (upd H2 P (.tbl (ps ++ more))) h3.objs.size code fp [(h'.objs.size, { cls := .type "generator", data := .fields #[.int s2.gens.size 0, .str "<genexpr>" (tk + 1), .str (X.env.qual ++ "<genexpr>") (tk + 1 + 1)] })] (gA_room hr)
    have I5 : Inv (gx X (gA X.A elt tg iter scope gpos it cenv) { s2 with heap := h3, toks := tk } (upd H2 P (.tbl (ps ++ more))) (genv X scope h3.objs.size code) fp [(h'.objs.size, _)]) [] (wipe σ (own.map (·.2))) _ _ := I5
    rw [hcenv] at I5 pg pe
    have hcoE : cenv.scope.isCoroutine = false := by rw [← hcenv]; exact hco
    generalize hog : ({ cls := .type "generator", data := .fields #[.int s2.gens.size 0, .str "<genexpr>" (tk + 1), .str (X.env.qual ++ "<genexpr>") (tk + 1 + 1)] } : Obj) = og at I5 pg pe
    have hig : ∀ h : Heap, h.get? h'.objs.size = some og → h.IsGen h'.objs.size s2.gens.size := fun hh e => ⟨og, _, _, e, by rw [← hog], by rw [← hog], by rw [← hog]⟩
    have mI5 : ∀ b ∈ fp, (upd H2 P (.tbl (ps ++ more))) b = none := fun b hb => (f4 b hb).1.1
    have back : ∀ σ' H' s', Inv (gx X (gA X.A elt tg iter scope gpos it cenv) { s2 with heap := h3, toks := tk } (upd H2 P (.tbl (ps ++ more))) cenv fp [(h'.objs.size, og)]) [] σ' H' s' → Inv X pins σ H' s' := fun σ' H' s' I6 =>
      I4.call' (ch := fp) I6.os I6.base I6.hok I6.bare fun b hb => ⟨(f4 b hb).1.2.2.2.1, (f4 b hb).1.2.1, (f4 b hb).1.2.2.2.2.1, (f4 b hb).1.2.2.2.2.2⟩
    have goes : ∀ s' : Shared, s'.heap = h'.push og → s'.os = s2.os → AllBare s'.gens →
        Seg (model X.prog X.w) X.A.in1.in1 (GRn (gx X (gA X.A elt tg iter scope gpos it cenv) { s2 with heap := h3, toks := tk } (upd H2 P (.tbl (ps ++ more))) cenv fp [(h'.objs.size, og)]) e Q)
          (GYp (gx X (gA X.A elt tg iter scope gpos it cenv) { s2 with heap := h3, toks := tk } (upd H2 P (.tbl (ps ++ more))) cenv fp [(h'.objs.size, og)]) e Q) (m0 + 1) s'
          (.compStart (.GeneratorExp elt [⟨tg, iter, [], 0⟩] scope gpos) 0 (.ref it) .none cenv) ((model X.prog X.w).den (.compStart (.GeneratorExp elt [⟨tg, iter, [], 0⟩] scope gpos) 0 (.ref it) .none cenv)) [] s' := fun s' hh ho hg => by
      have I6 := inv_same (s' := s') I5 hh ho hg
      have st6 : tn 0 s'.heap := by
        rw [hh]
        exact T.keep _ _ _ st4 fun b _ o e => Heap.get?_push_of_some _ (keep' b o e)
      refine seg_start (Y := gx X (gA X.A elt tg iter scope gpos it cenv) { s2 with heap := h3, toks := tk } (upd H2 P (.tbl (ps ++ more))) cenv fp [(h'.objs.size, og)]) T st6
        (seg_loop rfl rfl rfl rfl (fun b hb p hp z => ?_) hcoE T pg pe gw m0 0 (m0 + 1) s' s' _ (Nat.lt_succ_self _) I6 st6 mI5 w0)
      have hp : p ∈ [(h'.objs.size, og)] := hp
      rw [List.mem_singleton.mp hp] at z
      have z : h'.objs.size = b := z
      have h9 := (f4 b hb).2
      rw [← z, hsz'] at h9
      exact absurd h9 (Nat.not_lt.mpr (Nat.le_succ _))
    have ee : genEnv scope (cloFrom X.env.cells scope.names []) h3.objs.size code builtinsNs X.env = cenv := hcenv
    have fin := hQ h'.objs.size { s2 with heap := h'.push og, gens := s2.gens.push (.fresh (.compStart (.GeneratorExp elt [⟨tg, iter, [], 0⟩] scope gpos) 0 (.ref it) .none cenv)), toks := tk + 1 + 1 + 1 }
      ⟨gA X.A elt tg iter scope gpos it cenv, { s2 with heap := h3, toks := tk }, upd H2 P (.tbl (ps ++ more)), cenv, fp, [(h'.objs.size, og)], og, s2.gens.size, .fresh (.compStart (.GeneratorExp elt [⟨tg, iter, [], 0⟩] scope gpos) 0 (.ref it) .none cenv), wipe σ (own.map (·.2)), upd H2 P (.tbl (ps ++ more)), m0 + 1,
        List.mem_singleton.mpr rfl, hig, I5, Array.getElem?_push_size .., fun s' hh ho hg => ⟨rfl, goes s' hh ho hg⟩, back⟩
    rw [← ee] at fin
    exact fin
  cases hf : codeAmong gpos ps.toList with
  | none =>
    refine ⟨I2.nolimit, ?_⟩
    refine wpAny_genexprCodeX hcode (cd.code hPs ht) (cd.tab hPs) hf fun c' h' tk hx hge hlt hco' _ htab' _ => ?_
    obtain ⟨o1, vs, f1, tf, fl, tg, inF, tx, tt, op, _, _, _, _, _, _, _, _, _, htr, _⟩ := hco'
    exact cont _ h' tk _ hx (Nat.le_trans hge (Nat.le_of_lt hlt)) htab'.2 ⟨_, rfl⟩ htr
  | some cv =>
    refine ⟨I2.nolimit, ?_⟩
    refine wpAny_genexprCode_hit hcode (cd.code hPs ht) hf ?_
    exact cont cv s2.heap s2.toks ps (Heap.ExtBut.refl _ _) (Nat.le_refl _) hPs ⟨#[], by simp⟩ ht

theorem pe_all {c P : Addr} {elt tg iter : Expr} {p pos gpos : Pos} {scope : Scope} {own : List (Str × Nat)} {wi : TI} {g : TG} {te : TE} {k : Nat}
    (hr : Room (k + 1) X.A) (hg : Gl X "all") (hm : X.mg "all" = none) (TB : TabB X.base X.mg c P) (hcode : X.env.code = .ref c) (hN : X.N.Nodup) (ok : BlkOk X.N X.env.scope scope own) (hcell : ∀ y ∈ scope.names, y.2 ≠ .cell) (hco : scope.isCoroutine = false) (h0 : scope.names.lookup (".0" : Str) = some NameKind.local)
    (hi : PI X tg iter wi)
    (hpg : ∀ (A1 : Around) (s : Shared) (H : Hp) (C : Addr) (code : Value) (fp : List Addr) (pn : List (Addr × Obj)), PG (gx X A1 s H (genv X scope C code) fp pn) tg g)
    (hpe : ∀ (A1 : Around) (s : Shared) (H : Hp) (C : Addr) (code : Value) (fp : List Addr) (pn : List (Addr × Obj)), Room k A1 → PE (gx X A1 s H (genv X scope C code) fp pn) elt te)
    (hs : ∀ v, genFold iter X.env v = pure v := by intro _; rfl)
    (he : starEach [.GeneratorExp elt [⟨tg, iter, [], 0⟩] scope gpos] X.env = (false, eval (.GeneratorExp elt [⟨tg, iter, [], 0⟩] scope gpos) X.env) :: starEach [] X.env := by rfl) :
    PE X (.Call (.Name "all" p) [.GeneratorExp elt [⟨tg, iter, [], 0⟩] scope gpos] [] pos) (tGen true P wi g te (own.map (·.2))) := by
  refine ⟨fun pins s σ H Q I h => ?_⟩
  refine wpAny_Call_Name_kw (ld_blt I hg hm boot_all ?_)
  refine PyProof.Rows.callWith_builtin1 ?_ he (by rfl)
  rw [he]
  show wpAny _ _ (spliced ((false, eval (.GeneratorExp elt [⟨tg, iter, [], 0⟩] scope gpos) X.env) :: backTo pos (starEach [] X.env))) _ _ s
  refine Calls.spliced_cons (gen_make (e := true) (Q := Q) hr TB hcode hN ok hcell hco h0 hi hpg hpe hs I h fun a s5 hG => ?_)
  obtain ⟨A1, s4, H4, cenv, fp, pn, og, gi, gs, σ', H5, n, hpn, hig, I5, hgs, hgo, back⟩ := hG
  refine Calls.spliced_nil ?_
  refine call_function_tree F.kind_all F.plain_all F.entry_all (F.args_all1 _) ?_
  unfold Builtin.«all»
  refine wpAny_bind (m := oneArg "all" _) (wpAny_pure ?_)
  refine wpAny_bind (wpAny_pyIter_gen (hig _ (I5.pin _ (List.mem_append_left _ hpn)).1) ?_)
  refine wpAny_pure ⟨plainId_quiet F.plain_all_loop _, drv_all (Y := gx X A1 s4 H4 cenv fp pn) (A := X.A) hpn hig hr.hd (by have := hr.dp; show X.A.depth + 0 < _; omega) (fun b σ6 H6 s6 I6 q => ?_) n gs σ' H5 s5 I5 hgs hgo⟩
  exact ⟨.bl b, H6, back σ6 H6 s6 I6, rfl, q⟩
theorem pe_any {c P : Addr} {elt tg iter : Expr} {p pos gpos : Pos} {scope : Scope} {own : List (Str × Nat)} {wi : TI} {g : TG} {te : TE} {k : Nat}
    (hr : Room (k + 1) X.A) (hg : Gl X "any") (hm : X.mg "any" = none) (TB : TabB X.base X.mg c P) (hcode : X.env.code = .ref c) (hN : X.N.Nodup) (ok : BlkOk X.N X.env.scope scope own) (hcell : ∀ y ∈ scope.names, y.2 ≠ .cell) (hco : scope.isCoroutine = false) (h0 : scope.names.lookup (".0" : Str) = some NameKind.local)
    (hi : PI X tg iter wi)
    (hpg : ∀ (A1 : Around) (s : Shared) (H : Hp) (C : Addr) (code : Value) (fp : List Addr) (pn : List (Addr × Obj)), PG (gx X A1 s H (genv X scope C code) fp pn) tg g)
    (hpe : ∀ (A1 : Around) (s : Shared) (H : Hp) (C : Addr) (code : Value) (fp : List Addr) (pn : List (Addr × Obj)), Room k A1 → PE (gx X A1 s H (genv X scope C code) fp pn) elt te)
    (hs : ∀ v, genFold iter X.env v = pure v := by intro _; rfl)
    (he : starEach [.GeneratorExp elt [⟨tg, iter, [], 0⟩] scope gpos] X.env = (false, eval (.GeneratorExp elt [⟨tg, iter, [], 0⟩] scope gpos) X.env) :: starEach [] X.env := by rfl) :
    PE X (.Call (.Name "any" p) [.GeneratorExp elt [⟨tg, iter, [], 0⟩] scope gpos] [] pos) (tGen false P wi g te (own.map (·.2))) := by
  refine ⟨fun pins s σ H Q I h => ?_⟩
  refine wpAny_Call_Name_kw (ld_blt I hg hm boot_any ?_)
  refine PyProof.Rows.callWith_builtin1 ?_ he (by rfl)
  rw [he]
  show wpAny _ _ (spliced ((false, eval (.GeneratorExp elt [⟨tg, iter, [], 0⟩] scope gpos) X.env) :: backTo pos (starEach [] X.env))) _ _ s
  refine Calls.spliced_cons (gen_make (e := false) (Q := Q) hr TB hcode hN ok hcell hco h0 hi hpg hpe hs I h fun a s5 hG => ?_)
  obtain ⟨A1, s4, H4, cenv, fp, pn, og, gi, gs, σ', H5, n, hpn, hig, I5, hgs, hgo, back⟩ := hG
  refine Calls.spliced_nil ?_
  refine call_function_tree F.kind_any F.plain_any F.entry_any (F.args_any1 _) ?_
  unfold Builtin.«any»
  refine wpAny_bind (m := oneArg "any" _) (wpAny_pure ?_)
  refine wpAny_bind (wpAny_pyIter_gen (hig _ (I5.pin _ (List.mem_append_left _ hpn)).1) ?_)
  refine wpAny_pure ⟨plainId_quiet F.plain_any_loop _, drv_any (Y := gx X A1 s4 H4 cenv fp pn) (A := X.A) hpn hig hr.hd (by have := hr.dp; show X.A.depth + 0 < _; omega) (fun b σ6 H6 s6 I6 q => ?_) n gs σ' H5 s5 I5 hgs hgo⟩
  exact ⟨.bl b, H6, back σ6 H6 s6 I6, rfl, q⟩
end
end EwG

set_option Elab.async false
set_option linter.all false
set_option maxRecDepth 100000
set_option maxHeartbeats 4000000
/-! all(.. for .. for ..): two clauses. -/
namespace EwG
open PySem PySem.Spec PyProof.Rows L2 Ew GxR
open Sem (wp)

theorem eval_GE2 (elt t0 i0 t1 i1 : Expr) (scope : Scope) (pos : Pos) (env : Env) (hco : scope.isCoroutine = false) :
    eval (.GeneratorExp elt [⟨t0, i0, [], 0⟩, ⟨t1, i1, [], 0⟩] scope pos) env = (do
      let x ← eval i0 env
      standAt i0.pos
      let x ← genFold i0 env x
      let it ← holding [x] (pyIter x)
      enterFrame
      let cl ← closureFor scope env
      let code ← genexprCode env pos (env.qual ++ "<genexpr>") scope
      let bi ← builtinsFor env.globals env.builtins
      let cenv ← newFunctionEnv scope env.globals cl [(".0", it)] (env.qual ++ "<genexpr>.") none code none bi
      newGenerator (.compStart (.GeneratorExp elt [⟨t0, i0, [], 0⟩, ⟨t1, i1, [], 0⟩] scope pos) 0 it .none cenv) "<genexpr>" (env.qual ++ "<genexpr>")) := by
  rw [arm_eval_GeneratorExp]
  simp only [hco, Bool.false_eq_true, if_false]
  cases i0 <;> rfl

theorem make_GE2 {M : Model} {A : Around} {E : Value → Shared → Prop} {s : Shared} {env : Env} {elt t0 i0 t1 i1 : Expr} {scope : Scope} {cl : List (Str × Addr)} {pos : Pos} {Q : Value → Shared → Prop}
    (hco : scope.isCoroutine = false) (hclos : closureFor scope env = pure cl) (hcell : ∀ y ∈ scope.names, y.2 ≠ .cell) (h0 : scope.names.lookup (".0" : Str) = some NameKind.local) (hkind : scope.kind = .function)
    (hroom : A.depth < recursionLimit)
    (h : wpAny M A (eval i0 env) (fun xv s₁ => wpAny M A (pyIter xv) (fun it s₂ => s₂.heap.NoLimit ∧
      wpAny M A (genexprCode env pos (env.qual ++ "<genexpr>") scope) (fun code s₃ => wpAny M A (builtinsFor env.globals env.builtins) (fun bi s₄ =>
        ∀ h', h'.Ns s₄.heap.objs.size (fun y => if y = ".0" then some it else none) → Heap.SameBut s₄.heap.objs.size (s₄.heap.push { cls := .type "frame", data := .dict #[] }) h' →
          Q (.ref h'.objs.size) { s₄ with
            gens := s₄.gens.push (.fresh (.compStart (.GeneratorExp elt [⟨t0, i0, [], 0⟩, ⟨t1, i1, [], 0⟩] scope pos) 0 it .none (genEnv scope cl s₄.heap.objs.size code bi env))),
            toks := s₄.toks + 1 + 1 + 1,
            heap := h'.push { cls := .type "generator", data := .fields #[.int s₄.gens.size 0, .str "<genexpr>" (s₄.toks + 1), .str (env.qual ++ "<genexpr>") (s₄.toks + 1 + 1)] } }) E s₃) E s₂) E s₁) E s)
    (hs : ∀ x, genFold i0 env x = pure x) :
    wpAny M A (eval (.GeneratorExp elt [⟨t0, i0, [], 0⟩, ⟨t1, i1, [], 0⟩] scope pos) env) Q E s := by
  rw [eval_GE2 _ _ _ _ _ _ _ _ hco, hclos]
  refine wpAny_bind (wpAny_mono h (fun xv s₁ h₁ => ?_) fun _ _ e => e)
  refine wpAny_bind (wpAny_standAt ?_)
  refine wpAny_bind (wpAny_of_eq (hs xv) ?_)
  refine wpAny_bind (wpAny_holding (wpAny_mono h₁ (fun it s₂ h₂ => ?_) fun _ _ e => e))
  refine wpAny_bind (wpAny_enterFrame h₂.1 hroom ?_)
  refine wpAny_bind (wpAny_pure ?_)
  refine wpAny_bind (wpAny_mono h₂.2 (fun code s₃ h₃ => ?_) fun _ _ e => e)
  refine wpAny_bind (wpAny_mono h₃ (fun bi s₄ h₄ => ?_) fun _ _ e => e)
  have hbinds : ∀ y ∈ ([((".0" : Str), it)] : List (Str × Value)), scope.names.lookup y.1 = some NameKind.local := by
    intro y hy
    rcases List.mem_cons.mp hy with rfl | hy
    · exact h0
    · cases hy
  refine wpAny_bind (wpAny_newFunctionEnv hcell hbinds (fun h' hn' hs' => ?_) hkind)
  have e : (fun y : Str => ([((".0" : Str), it)] : List (Str × Value)).reverse.lookup y) = fun y : Str => if y = (".0" : Str) then some it else none := by
    funext y
    by_cases hy : y = ".0"
    · subst hy; simp
    · have : (y == (".0" : Str)) = false := by simpa using hy
      simp [List.lookup, this, hy]
  rw [e] at hn'
  simp only [newGenerator, newFields]
  refine wpAny_bind (wpAny_newGen (wpAny_bind (wpAny_mkText (wpAny_bind (wpAny_mkText (wpAny_newObj_type ?_ (by size_fits)))))))
  exact h₄ h' hn' hs'

theorem turn2_out (elt t0 i0 t1 i1 : Expr) (scope : Scope) (pos : Pos) (it acc : Value) (env : Env) :
    compTurn (.GeneratorExp elt [⟨t0, i0, [], 0⟩, ⟨t1, i1, [], 0⟩] scope pos) 0 it acc env = (do
      standAt i0.pos
      match ← pyNext it with
      | none => pure (.done .next)
      | some v =>
        letOwnedTupleGo t0 it v
        assign t0 env v
        let mut ok := true
        for c in ([] : List Expr) do
          if ok then ok ← isTrue c env (eval c env)
        if ok then
          let x ← eval i1 env
          standAt i1.pos
          let x ← foldedSetIterable i1 env x
          let _ ← runOwn (.compStart (.GeneratorExp elt [⟨t0, i0, [], 0⟩, ⟨t1, i1, [], 0⟩] scope pos) 1 (← holding [x] (pyIter x)) acc env) env
        again (.compLoop (.GeneratorExp elt [⟨t0, i0, [], 0⟩, ⟨t1, i1, [], 0⟩] scope pos) 0 it acc env)) := by rfl
theorem turn2_in (elt t0 i0 t1 i1 : Expr) (scope : Scope) (pos : Pos) (it acc : Value) (env : Env) :
    compTurn (.GeneratorExp elt [⟨t0, i0, [], 0⟩, ⟨t1, i1, [], 0⟩] scope pos) 1 it acc env = (do
      standAt i1.pos
      match ← pyNext it with
      | none => pure (.done .next)
      | some v =>
        letOwnedTupleGo t1 it v
        assign t1 env v
        let mut ok := true
        for c in ([] : List Expr) do
          if ok then ok ← isTrue c env (eval c env)
        if ok then
          (do let v ← eval elt env; standAt elt.pos; let _ ← yieldOut env v)
        again (.compLoop (.GeneratorExp elt [⟨t0, i0, [], 0⟩, ⟨t1, i1, [], 0⟩] scope pos) 1 it acc env)) := by rfl

def GW2 (J : It) (g : TG) (wi1 : TI) (g1 : TG) (te : TE) (vs vs1 : List Nat) (σ : L2.St) (e : Bool) (Q : VK) (W : Nat → Nat → Hp → Prop) : Prop := ∀ i m H, W i m H →
  (J.stop i H ∧ Q (.bl e) H) ∨ (J.go i H ∧ ∀ x H', J.yld i H x H' → g x (wipe σ vs) H' fun σ2 H2 => wipe σ2 vs = wipe σ vs ∧ wi1 σ2 H2 fun J1 H3 => ∃ W1 : Nat → Nat → Hp → Prop, (∃ k, k < m ∧ W1 0 k H3) ∧ ∀ j k H, W1 j k H →
    (J1.stop j H ∧ ∃ m', m' ≤ k ∧ m' < m ∧ W (i + 1) m' H) ∨ (J1.go j H ∧ ∀ x H', J1.yld j H x H' → g1 x (wipe σ2 vs1) H' fun σ3 H5 => wipe σ3 vs1 = wipe σ2 vs1 ∧ te σ3 H5 fun y H6 => ∃ b, y = .bl b ∧ (b = e → ∃ k', k' < k ∧ W1 (j + 1) k' H6) ∧ (b ≠ e → Q (.bl b) H6)))

section
variable {X : Cx} {pins : List (Addr × Obj)} {σ : L2.St} {H : Hp} {s : Shared}
theorem seg_in {Y : Cx} {A2 : Around} {elt t0 i0 t1 i1 : Expr} {scope : Scope} {pos : Pos} {it1 : Addr} {fp1 : List Addr} {tn1 : Nat → Heap → Prop} {J1 : It} {g1 : TG} {te : TE} {vs1 : List Nat} {σ8 : L2.St} {e : Bool} {Q : VK} {W1 : Nat → Nat → Hp → Prop} {Nx : Nat → Hp → Prop} {fs : List Frame} {pins : List (Addr × Obj)}
    (hA : Y.A = A2.over (.compLoop (.GeneratorExp elt [⟨t0, i0, [], 0⟩, ⟨t1, i1, [], 0⟩] scope pos) 1 (.ref it1) .none Y.env) fs) (hsp : splitAtGen fs = none) (hgd : fs.any Frame.guarded = false) (hc : Y.calm = true) (hx : Y.xe = fun _ _ => False) (hco : Y.env.scope.isCoroutine = false)
    (T1 : Turn Y.prog Y.w Y.K t1 J1 fp1 it1 tn1) (stat1 : ∀ {H' : Hp}, (∀ b ∈ fp1, H' b = none) → ∀ b ∈ fp1, FpOk Y pins H' b) (pg1 : PG Y t1 g1) (pe : PE Y elt te)
    (hW1 : ∀ j k H, W1 j k H → (J1.stop j H ∧ Nx k H) ∨ (J1.go j H ∧ ∀ x H', J1.yld j H x H' → g1 x (wipe σ8 vs1) H' fun σ3 H5 => wipe σ3 vs1 = wipe σ8 vs1 ∧ te σ3 H5 fun y H6 => ∃ b, y = .bl b ∧ (b = e → ∃ k', k' < k ∧ W1 (j + 1) k' H6) ∧ (b ≠ e → Q (.bl b) H6)))
    (leave : ∀ (k n : Nat) (s₀ s : Shared) (H : Hp), k < n → Inv Y pins (wipe σ8 vs1) H s → Nx k H → Seg (model Y.prog Y.w) A2 (GRn Y e Q) (GYp Y e Q) n s₀ (.compLoop (.GeneratorExp elt [⟨t0, i0, [], 0⟩, ⟨t1, i1, [], 0⟩] scope pos) 1 (.ref it1) .none Y.env) (leafOf (.ok .next)) fs s) :
    ∀ (k j n : Nat) (s₀ s : Shared) (H : Hp), k < n → Inv Y pins (wipe σ8 vs1) H s → tn1 j s.heap → (∀ b ∈ fp1, H b = none) → W1 j k H →
      Seg (model Y.prog Y.w) A2 (GRn Y e Q) (GYp Y e Q) n s₀ (.compLoop (.GeneratorExp elt [⟨t0, i0, [], 0⟩, ⟨t1, i1, [], 0⟩] scope pos) 1 (.ref it1) .none Y.env)
        ((model Y.prog Y.w).den (.compLoop (.GeneratorExp elt [⟨t0, i0, [], 0⟩, ⟨t1, i1, [], 0⟩] scope pos) 1 (.ref it1) .none Y.env)) fs s := by
  intro k
  induction k using Nat.strongRecOn with
  | ind k ih =>
    intro j n s₀ s H hkn I st hn w
    show Seg _ A2 _ _ _ s₀ _ ((compTurn (.GeneratorExp elt [⟨t0, i0, [], 0⟩, ⟨t1, i1, [], 0⟩] scope pos) 1 (.ref it1) .none Y.env).onRaise (fun x => do noteFrame x Y.env; theTreesLotGoes x)) fs s
    rw [turn2_in, Sem.onRaise_eq_wrap]
    refine seg_bind_wrap (wpAny_standAt ?_)
    rcases hW1 j k H w with ⟨stop, q⟩ | ⟨go, step⟩
    · refine seg_bind_wrap ?_
      rw [← hA]
      refine thnF (T1.done Y rfl rfl rfl hc j pins s _ H (fun _ _ => False) I (stat1 hn) st stop) fun r s6 ⟨hr, I6⟩ => ?_
      subst hr
      exact leave k n s₀ s6 H hkn I6 q
    · refine seg_bind_wrap ?_
      rw [← hA]
      refine thnF (T1.item Y rfl rfl rfl hc j pins s _ H (fun _ _ => False) I (stat1 hn) st go) fun r s6 ⟨u, hr, h6⟩ => ?_
      subst hr
      refine seg_bind_wrap ?_
      rw [← hA]
      refine thnF h6 fun _ s7 ⟨x, H7, I7, r7, y7, st7, n7⟩ => ?_
      have I7' := I7.pinned (stat1 n7) (T1.obj _ _ st7)
      refine seg_bind_wrap ?_
      rw [← hA]
      have hpg := pg1.run _ s7 _ H7 x u _ I7' r7 (step x H7 y7)
      rw [hx] at hpg
      refine thnF hpg fun _ s8 ⟨σ15, H8, I8, hw8, q8⟩ => ?_
      refine seg_bind_wrap ?_
      rw [← hA]
      refine wpAny_tests_nil ?_
      simp only [if_true]
      have hy : ∀ v, yieldOut Y.env v = yieldValue v := fun v => by simp only [yieldOut, hco, Bool.false_eq_true, if_false]
      simp only [hy]
      rw [Sem.bind_eq_wrap', Sem.bind_eq_wrap', Sem.wrap_wrap, Sem.wrap_wrap]
      refine seg_wrap ?_
      rw [← hA]
      have hpe := pe.run _ s8 σ15 H8 _ I8 q8
      rw [hx] at hpe
      refine thnF hpe fun z s9 ⟨y, H9, I9, r9, b, hyb, q9⟩ => ?_
      subst hyb
      have hz : z = .bool b := r9
      subst hz
      have pin' : ∀ c ∈ fp1, ∀ o, s7.heap.get? c = some o → s9.heap.get? c = some o ∧ H9 c = none := fun c hb o e =>
        let z := I9.pin (c, o) (List.mem_append_right _ (List.mem_append_right _ (mem_pinsAt hb e)))
        ⟨z.1, z.2.1⟩
      have hl : (wipe σ8 vs1).length = σ15.length := by rw [← hw8, wipe_length]
      have I10 : Inv Y pins (wipe σ8 vs1) H9 s9 := (I9.unpinned (pins := pins)).weak hl fun j v e => by
        rw [← hw8] at e
        exact (wipe_some e).1
      obtain ⟨n', rfl⟩ : ∃ n', n = n' + 1 := ⟨n - 1, by omega⟩
      refine seg_at (seg_yield hsp rfl hgd ⟨b, _, H9, rfl, I10.pins_of (pins' := []) (fun p hp => absurd hp (by simp)), q9.2, fun hb s' hh ho hg => ?_⟩)
      obtain ⟨k', hk, w'⟩ := q9.1 hb
      refine seg_again rfl (ih k' hk (j + 1) n' s' s' H9 (by omega) (inv_same I10 hh ho hg) ?_ (fun c hc => ?_) w')
      · rw [hh]
        exact T1.keep _ _ _ st7 fun c hb o e => (pin' c hb o e).1
      · obtain ⟨o, e, _⟩ := T1.obj _ _ st7 c hc
        exact (pin' c hc o e).2

theorem seg_loop2 {Y : Cx} {A2 : Around} {elt t0 i0 t1 i1 : Expr} {scope : Scope} {pos : Pos} {it : Addr} {fp : List Addr} {tn : Nat → Heap → Prop} {J : It} {g g1 : TG} {wi1 : TI} {te : TE} {vs vs1 : List Nat} {σ : L2.St} {e : Bool} {Q : VK} {W : Nat → Nat → Hp → Prop}
    (hA : Y.A = A2.over (.compLoop (.GeneratorExp elt [⟨t0, i0, [], 0⟩, ⟨t1, i1, [], 0⟩] scope pos) 0 (.ref it) .none Y.env) []) (hex : Y.ex = fp) (hc : Y.calm = true) (hx : Y.xe = fun _ _ => False) (hpn : ∀ b ∈ fp, ∀ p ∈ Y.pn, p.1 ≠ b) (hco : Y.env.scope.isCoroutine = false)
    (T : Turn Y.prog Y.w Y.K t0 J fp it tn) (pg : PG Y t0 g) (pi1 : PI Y t1 i1 wi1) (pg1 : PG Y t1 g1) (pe : PE Y elt te) (hs1 : ∀ x, foldedSetIterable i1 Y.env x = pure x) (hv : ∀ i ∈ vs1, i ∈ vs) (hW : GW2 J g wi1 g1 te vs vs1 σ e Q W) :
    ∀ (m i n : Nat) (s₀ s : Shared) (H : Hp), m < n → Inv Y [] (wipe σ vs) H s → tn i s.heap → (∀ b ∈ fp, H b = none) → W i m H →
      Seg (model Y.prog Y.w) A2 (GRn Y e Q) (GYp Y e Q) n s₀ (.compLoop (.GeneratorExp elt [⟨t0, i0, [], 0⟩, ⟨t1, i1, [], 0⟩] scope pos) 0 (.ref it) .none Y.env)
        ((model Y.prog Y.w).den (.compLoop (.GeneratorExp elt [⟨t0, i0, [], 0⟩, ⟨t1, i1, [], 0⟩] scope pos) 0 (.ref it) .none Y.env)) [] s := by
  have stat : ∀ {σ' : L2.St} {H' : Hp} {s' : Shared}, Inv Y [] σ' H' s' → (∀ b ∈ fp, H' b = none) → ∀ b ∈ fp, FpOk Y [] H' b := fun {σ' H' s'} I' hn b hb =>
    have hb' : b ∈ Y.ex := by rw [hex]; exact hb
    ⟨hn b hb, (I'.ok.exf b hb').1, I'.ok.exfs b hb', .inl hb', fun x c e => (I'.ok.exf b hb').2 x c e, fun p hp => hpn b hb p (by simpa using hp)⟩
  intro m
  induction m using Nat.strongRecOn with
  | ind m ih =>
    intro i n s₀ s H hmn I st hn w
    show Seg _ A2 _ _ _ s₀ _ ((compTurn (.GeneratorExp elt [⟨t0, i0, [], 0⟩, ⟨t1, i1, [], 0⟩] scope pos) 0 (.ref it) .none Y.env).onRaise (leaving Y.env)) [] s
    rw [turn2_out, Sem.onRaise_eq_wrap]
    refine seg_bind_wrap (wpAny_standAt ?_)
    rcases hW i m H w with ⟨stop, q⟩ | ⟨go, step⟩
    · refine seg_bind_wrap ?_
      rw [← hA]
      refine thnF (T.done Y rfl rfl rfl hc i [] s _ H (fun _ _ => False) I (stat I hn) st stop) fun r s6 ⟨hr, I6⟩ => ?_
      subst hr
      exact seg_end (.ok .next) ⟨rfl, _, H, I6, q⟩
    · refine seg_bind_wrap ?_
      rw [← hA]
      refine thnF (T.item Y rfl rfl rfl hc i [] s _ H (fun _ _ => False) I (stat I hn) st go) fun r s6 ⟨u, hr, h6⟩ => ?_
      subst hr
      refine seg_bind_wrap ?_
      rw [← hA]
      refine thnF h6 fun _ s7 ⟨x, H7, I7, r7, y7, st7, n7⟩ => ?_
      have I7' := I7.pinned (stat I7 n7) (T.obj _ _ st7)
      refine seg_bind_wrap ?_
      rw [← hA]
      have hpg := pg.run _ s7 _ H7 x u _ I7' r7 (step x H7 y7)
      rw [hx] at hpg
      refine thnF hpg fun _ s8 ⟨σ8, H8, I8, hw8, q8⟩ => ?_
      refine seg_bind_wrap ?_
      rw [← hA]
      refine wpAny_tests_nil ?_
      simp only [if_true]
      refine seg_bind_wrap ?_
      rw [← hA]
      have hpi := pi1.run _ s8 σ8 H8 _ I8 q8
      rw [hx] at hpi
      refine thnF hpi fun xv s9 h9 => ?_
      refine seg_bind_wrap (wpAny_standAt ?_)
      refine seg_bind_wrap (wpAny_of_eq (hs1 xv) ?_)
      refine seg_bind_wrap ?_
      rw [← hA]
      refine wpAny_holding (thnF h9 fun itv s11 h11 => ?_)
      obtain ⟨it1, fp1, tn1, J1, H11, e1, I11, T1, st11, f11, W1, ⟨k1, hk1, w1⟩, turn1⟩ := h11
      subst e1
      rw [Sem.bind_eq_wrap', Sem.wrap_wrap]
      unfold runOwn
      rw [Sem.onRaise_eq_wrap, Sem.wrap_wrap]
      have pin' : ∀ {σ' : L2.St} {H' : Hp} {s' : Shared}, Inv Y ([] ++ pinsAt fp s7.heap) σ' H' s' → ∀ c ∈ fp, ∀ o, s7.heap.get? c = some o → s'.heap.get? c = some o ∧ H' c = none := fun I' c hb o e =>
        let z := I'.pin (c, o) (List.mem_append_right _ (List.mem_append_right _ (mem_pinsAt hb e)))
        ⟨z.1, z.2.1⟩
      have hl : (wipe σ vs).length = (wipe σ8 vs1).length := by rw [← hw8, wipe_length, wipe_length]
      refine seg_call fun pc => ?_
      have hA1 : Y.A = A2.over (.compLoop (.GeneratorExp elt [⟨t0, i0, [], 0⟩, ⟨t1, i1, [], 0⟩] scope pos) 0 (.ref it) .none Y.env) [] := hA
      generalize hK : (fun r : Result => _) = kk
      have loop1 := seg_in (e := e) (Q := Q) (Nx := fun k H => ∃ m', m' ≤ k ∧ m' < m ∧ W (i + 1) m' H) (A2 := A2) (t0 := t0) (i0 := i0) (i1 := i1) (scope := scope) (pos := pos) (fs := [.ret kk none (id false) (id []) (.compLoop (.GeneratorExp elt [⟨t0, i0, [], 0⟩, ⟨t1, i1, [], 0⟩] scope pos) 0 (.ref it) .none Y.env) pc []])
        (hA.trans (GenW.over_loop (c := .compLoop (.GeneratorExp elt [⟨t0, i0, [], 0⟩, ⟨t1, i1, [], 0⟩] scope pos) 0 (.ref it) .none Y.env) rfl rfl).symm) rfl rfl hc hx hco T1 (fun hn b hb => ⟨hn b hb, (f11 b hb).2⟩) pg1 pe turn1 (fun k n s₀ s' H' hkn I' ⟨m', hm1, hm2, w'⟩ => ?_) k1 0 n s₀ s11 H11 (by omega) (I11.weak (wipe_length _ _) fun j v e => (wipe_some e).1) st11 (fun b hb => (f11 b hb).1) w1
      · show Seg _ A2 _ _ _ s₀ _ ((compStart (.GeneratorExp elt [⟨t0, i0, [], 0⟩, ⟨t1, i1, [], 0⟩] scope pos) 1 (.ref it1) .none Y.env).onRaise (fun x => do noteFrame x Y.env; standAt theWindowsPlace)) _ s11
        unfold compStart
        rw [Sem.onRaise_eq_wrap]
        show Seg _ A2 _ _ _ s₀ _ ((ask >>= _).wrap _ _ _ _) _ s11
        refine seg_bind_wrap (wpAny_askSetting ?_)
        split
        · exact seg_again rfl loop1
        · first
            | exact seg_bind_wrap (wpAny_rule (seg_bind_wrap (wpAny_standAt (seg_bind_wrap (T1.self _ 0 s11 _ _ st11 (seg_again rfl loop1))))))
            | (refine seg_bind_wrap (wpAny_rule ?_); show Seg _ A2 _ _ _ s₀ _ ((standAt i1.pos >>= _).wrap _ _ _ _) _ s11; exact seg_bind_wrap (wpAny_standAt (seg_bind_wrap (T1.self _ 0 s11 _ _ st11 (seg_again rfl loop1)))))
      · subst hK
        refine seg_leaf (.ok .next) ?_
        refine seg_again rfl (ih m' hm2 (i + 1) n s₀ s' H' (by omega) ((I'.unpinned (pins := [])).weak hl fun j v e => ?_) (T.keep _ _ _ st7 fun c hb o e => (pin' I' c hb o e).1) (fun c hc => ?_) w')
        · rw [← hw8] at e
          obtain ⟨e1, e2⟩ := wipe_some e
          rw [wipe_out fun z => e2 (hv j z)]
          exact e1
        · obtain ⟨o, e, _⟩ := T.obj _ _ st7 c hc
          exact (pin' I' c hc o e).2
theorem seg_start2 {Y : Cx} {A2 : Around} {elt t0 i0 t1 i1 : Expr} {scope : Scope} {pos : Pos} {it : Addr} {fp : List Addr} {tn : Nat → Heap → Prop} {J : It} {e : Bool} {Q : VK} {n : Nat} {s₀ s : Shared}
    (T : Turn Y.prog Y.w Y.K t0 J fp it tn) (st : tn 0 s.heap)
    (loop : Seg (model Y.prog Y.w) A2 (GRn Y e Q) (GYp Y e Q) n s₀ (.compLoop (.GeneratorExp elt [⟨t0, i0, [], 0⟩, ⟨t1, i1, [], 0⟩] scope pos) 0 (.ref it) .none Y.env)
        ((model Y.prog Y.w).den (.compLoop (.GeneratorExp elt [⟨t0, i0, [], 0⟩, ⟨t1, i1, [], 0⟩] scope pos) 0 (.ref it) .none Y.env)) [] s) :
    Seg (model Y.prog Y.w) A2 (GRn Y e Q) (GYp Y e Q) n s₀ (.compStart (.GeneratorExp elt [⟨t0, i0, [], 0⟩, ⟨t1, i1, [], 0⟩] scope pos) 0 (.ref it) .none Y.env)
        ((model Y.prog Y.w).den (.compStart (.GeneratorExp elt [⟨t0, i0, [], 0⟩, ⟨t1, i1, [], 0⟩] scope pos) 0 (.ref it) .none Y.env)) [] s := by
  show Seg _ A2 _ _ _ s₀ _ ((compStart (.GeneratorExp elt [⟨t0, i0, [], 0⟩, ⟨t1, i1, [], 0⟩] scope pos) 0 (.ref it) .none Y.env).onRaise (leaving Y.env)) [] s
  unfold compStart
  rw [Sem.onRaise_eq_wrap]
  show Seg _ A2 _ _ _ s₀ _ ((ask >>= _).wrap _ _ _ _) [] s
  refine seg_bind_wrap (wpAny_askSetting ?_)
  split
  · exact seg_again rfl loop
  · first
      | exact seg_bind_wrap (wpAny_rule (seg_bind_wrap (wpAny_standAt (seg_bind_wrap (T.self _ 0 s _ _ st (seg_again rfl loop))))))
      | (refine seg_bind_wrap (wpAny_rule ?_); show Seg _ A2 _ _ _ s₀ _ ((standAt i0.pos >>= _).wrap _ _ _ _) [] s; exact seg_bind_wrap (wpAny_standAt (seg_bind_wrap (T.self _ 0 s _ _ st (seg_again rfl loop)))))

/-- the around of the generator's body, of a consumer that is called at A -/
abbrev gB (A : Around) (elt t0 i0 t1 i1 : Expr) (scope : Scope) (pos : Pos) (it : Addr) (cenv : Env) : Around := A.in1.in1.over (.compLoop (.GeneratorExp elt [⟨t0, i0, [], 0⟩, ⟨t1, i1, [], 0⟩] scope pos) 0 (.ref it) .none cenv) []
theorem gB_room {k : Nat} {A : Around} {elt t0 i0 t1 i1 : Expr} {scope : Scope} {pos : Pos} {it : Addr} {cenv : Env} (r : Room (k + 1) A) : Room k (gB A elt t0 i0 t1 i1 scope pos it cenv) :=
  ⟨r.hd, by have := r.dp; show A.depth + 0 + 1 + 3 * k + 5 < _; omega, by have := r.un; show A.units + 1 + 1 + 0 + 3 + 16 * k + 200 < _; omega⟩
theorem gB_frames {A : Around} {elt t0 i0 t1 i1 : Expr} {scope : Scope} {pos : Pos} {it : Addr} {cenv : Env} {l : List Env} (h : A.frames = some l) : (gB A elt t0 i0 t1 i1 scope pos it cenv).frames = some (cenv :: l) := by
  show pushEnvs [cenv] (pushEnvs [] A.frames) = _
  rw [h]
  rfl

def tGen2 (e : Bool) (P : Addr) (wi : TI) (g : TG) (wi1 : TI) (g1 : TG) (te : TE) (vs vs1 : List Nat) : TE := fun σ H Q => wi σ H fun J H1 => TabG H1 P ∧ ∀ H2, Tabbed P H1 H2 → ∃ W : Nat → Nat → Hp → Prop, (∃ m, W 0 m H2) ∧ GW2 J g wi1 g1 te vs vs1 σ e Q W

theorem gen_make2 {c P : Addr} {elt t0 i0 t1 i1 : Expr} {gpos : Pos} {scope : Scope} {own : List (Str × Nat)} {wi wi1 : TI} {g g1 : TG} {vs1 : List Nat} {te : TE} {k : Nat} {e : Bool} {Q : VK} {Q' : Value → Shared → Prop}
    (hr : Room (k + 1) X.A) (TB : TabB X.base X.mg c P) (hcode : X.env.code = .ref c) (hN : X.N.Nodup) (ok : BlkOk X.N X.env.scope scope own) (hcell : ∀ y ∈ scope.names, y.2 ≠ .cell) (hco : scope.isCoroutine = false) (h0 : scope.names.lookup (".0" : Str) = some NameKind.local)
    (hi : PI X t0 i0 wi) (hv : ∀ i ∈ vs1, i ∈ own.map (·.2))
    (hpg : ∀ (A1 : Around) (s : Shared) (H : Hp) (C : Addr) (code : Value) (fp : List Addr) (pn : List (Addr × Obj)), PG (gx X A1 s H (genv X scope C code) fp pn) t0 g)
    (hpi1 : ∀ (A1 : Around) (s : Shared) (H : Hp) (C : Addr) (code : Value) (fp : List Addr) (pn : List (Addr × Obj)), Room k A1 → PI (gx X A1 s H (genv X scope C code) fp pn) t1 i1 wi1)
    (hpg1 : ∀ (A1 : Around) (s : Shared) (H : Hp) (C : Addr) (code : Value) (fp : List Addr) (pn : List (Addr × Obj)), PG (gx X A1 s H (genv X scope C code) fp pn) t1 g1)
    (hpe : ∀ (A1 : Around) (s : Shared) (H : Hp) (C : Addr) (code : Value) (fp : List Addr) (pn : List (Addr × Obj)), Room k A1 → PE (gx X A1 s H (genv X scope C code) fp pn) elt te)
    (hs : ∀ v, genFold i0 X.env v = pure v) (hs1 : ∀ env x, foldedSetIterable i1 env x = pure x) (I : Inv X pins σ H s) (h : tGen2 e P wi g wi1 g1 te (own.map (·.2)) vs1 σ H Q)
    (hQ : ∀ a s5, Ready2 X pins σ e Q a s5 → Q' (.ref a) s5) :
    wpAny (model X.prog X.w) X.A (eval (.GeneratorExp elt [⟨t0, i0, [], 0⟩, ⟨t1, i1, [], 0⟩] scope gpos) X.env) Q' X.xe s := by
  have hfree : ∀ y ∈ scope.names, y.2 = .free → ∃ c, X.env.cells.lookup y.1 = some c := fun y hy e => by
    rcases ok.free y hy e with k | k
    · exact I.ok.has _ (.inl k)
    · exact I.ok.has _ (.inr k)
  refine make_GE2 hco (closure_ok hfree) hcell h0 ok.kind (by have := hr.dp; omega) ?_ hs
  refine thn (hi.run pins s σ H _ I h) fun xv s1 hx => thn hx fun itv s2 h2 => ?_
  obtain ⟨it, fp, tn, J, H2, e2, I2, T, st2, f2, ⟨ps, hP, ht⟩, q⟩ := h2
  subst e2
  have hPs : s2.heap.get? P = some { cls := .none, data := .fields ps } := I2.hok P _ hP
  have cd : PySem.W.CodeHd s2.heap c P := TB.code.keeps fun b u e => I2.bk b u e
  have sz : ∀ b ∈ fp, b < s2.heap.objs.size := fun b hb => by
    obtain ⟨o, e, _⟩ := T.obj _ _ st2 b hb
    exact Heap.lt_size e
  have cont : ∀ (code : Value) (h3 : Heap) (tk : Nat) (ps' : Array Value), Heap.ExtBut P s2.heap h3 → s2.heap.objs.size ≤ h3.objs.size → h3.get? P = some { cls := .none, data := .fields ps' } → (∃ more, ps' = ps ++ more) → TriplesOk ps'.toList →
      wpAny (model X.prog X.w) X.A (builtinsFor X.env.globals X.env.builtins) (fun bi s₄ =>
        ∀ h', h'.Ns s₄.heap.objs.size (fun y => if y = ".0" then some (.ref it) else none) → Heap.SameBut s₄.heap.objs.size (s₄.heap.push { cls := .type "frame", data := .dict #[] }) h' →
          Q' (.ref h'.objs.size) { s₄ with
            gens := s₄.gens.push (.fresh (.compStart (.GeneratorExp elt [⟨t0, i0, [], 0⟩, ⟨t1, i1, [], 0⟩] scope gpos) 0 (.ref it) .none (genEnv scope (cloFrom X.env.cells scope.names []) s₄.heap.objs.size code bi X.env))),
            toks := s₄.toks + 1 + 1 + 1,
            heap := h'.push { cls := .type "generator", data := .fields #[.int s₄.gens.size 0, .str "<genexpr>" (s₄.toks + 1), .str (X.env.qual ++ "<genexpr>") (s₄.toks + 1 + 1)] } }) X.xe { s2 with heap := h3, toks := tk } := by
    intro code h3 tk ps' hx hsz hP3 hmore ht3
    obtain ⟨bm, ob, e1, e2, e3, e4, e5, e6, e7, e8⟩ := TB.bm
    have keep3 : ∀ b u, b ≠ P → s2.heap.get? b = some u → h3.get? b = some u := fun b u hb e => hx b u hb e
    refine wpAny_builtinsFor (m := X.mg) (by rw [I2.ok.glob]; exact (I2.mod.glob.keeps I2.bk).extBut hx TB.gP) e1 e2 (keep3 _ _ e4 (I2.bk _ _ e5)) e6 e7 e8 ?_
    obtain ⟨more, em⟩ := hmore
    have I4 : Inv X pins σ (upd H2 P (.tbl (ps ++ more))) { s2 with heap := h3, toks := tk } :=
      inv_tab (more := more) (h' := h3) (g' := s2.gens) (d' := s2.drawn) (t' := tk) I2 hP keep3 (by rw [← em]; exact hP3) I2.bare
    have nP : ∀ b ∈ fp, b ≠ P := fun b hb z => by
      have := (f2 b hb).1
      rw [z, hP] at this
      cases this
    have f4 : ∀ b ∈ fp, FpOk X pins (upd H2 P (.tbl (ps ++ more))) b ∧ b < h3.objs.size := fun b hb =>
      ⟨⟨by rw [upd_ne (nP b hb)]; exact (f2 b hb).1, (f2 b hb).2⟩, Nat.lt_of_lt_of_le (sz b hb) hsz⟩
    have st4 : tn 0 h3 := T.keep _ _ _ st2 fun b hb o e => keep3 b o (nP b hb) e
    obtain ⟨W, ⟨m0, w0⟩, gw⟩ := q _ ⟨⟨ps ++ more, upd_same, by rw [← em]; exact ht3⟩, fun b hb => upd_ne hb⟩
    intro h' hn' hs'
    have hn' : h'.Ns h3.objs.size (fun y => if y = ".0" then some (.ref it) else none) := hn'
    have hs' : Heap.SameBut h3.objs.size (h3.push { cls := .type "frame", data := .dict #[] }) h' := hs'
    have hsz' : h'.objs.size = h3.objs.size + 1 := by rw [hs'.1, Heap.size_push]
    have keep' : ∀ b o, h3.get? b = some o → h'.get? b = some o := fun b o e => hs'.extBut b o (Nat.ne_of_lt (Heap.lt_size e)) (Heap.get?_push_of_some _ e)
    generalize hcenv : genv X scope h3.objs.size code = cenv
    have I5 := gen_start (A1 := gB X.A elt t0 i0 t1 i1 scope gpos it cenv) (code := code) (t' := tk + 1 + 1 + 1)
      (obj := { cls := .type "generator", data := .fields #[.int s2.gens.size 0, .str "<genexpr>" (tk + 1), .str (X.env.qual ++ "<genexpr>") (tk + 1 + 1)] })
      (g' := s2.gens.push (.fresh (.compStart (.GeneratorExp elt [⟨t0, i0, [], 0⟩, ⟨t1, i1, [], 0⟩] scope gpos) 0 (.ref it) .none cenv)))
      I4 ok hcell hN f4 hr.hd (by rw [hcenv]; exact gB_frames I.ok.frames) hn' keep' hsz' (Heap.get?_push_size _ rfl) (fun v z => by cases z) (I2.bare.push rfl)
    have pg := hpg (gB X.A elt t0 i0 t1 i1 scope gpos it cenv) { s2 with heap := h3, toks := tk } (upd H2 P (.tbl (ps ++ more))) h3.objs.size code fp [(h'.objs.size, { cls := .type "generator", data := .fields #[.int s2.gens.size 0, .str "<genexpr>" (tk + 1), .str (X.env.qual ++ "<genexpr>") (tk + 1 + 1)] })]
    have pi1 := hpi1 (gB X.A elt t0 i0 t1 i1 scope gpos it cenv) { s2 with heap := h3, toks := tk } (upd H2 P (.tbl (ps ++ more))) h3.objs.size code fp [(h'.objs.size, { cls := .type "generator", data := .fields #[.int s2.gens.size 0, .str "<genexpr>" (tk + 1), .str (X.env.qual ++ "<genexpr>") (tk + 1 + 1)] })] (gB_room hr)
    have pg1 := hpg1 (gB X.A elt t0 i0 t1 i1 scope gpos it cenv) { s2 with heap := h3, toks := tk } (upd H2 P (.tbl (ps ++ more))) h3.objs.size code fp [(h'.objs.size, { cls := .type "generator", data := .fields #[.int s2.gens.size 0, .str "<genexpr>" (tk + 1), .str (X.env.qual ++ "<genexpr>") (tk + 1 + 1)] })]
    have pe := hpe (gB X.A elt t0 i0 t1 i1 scope gpos it cenv) { s2 with heap := h3, toks := tk } (upd H2 P (.tbl (ps ++ more))) h3.objs.size code fp [(h'.objs.size, { cls := .type "generator", data := .fields #[.int s2.gens.size 0, .str "<genexpr>" (tk + 1), .str (X.env.qual ++ "<genexpr>") (tk + 1 + 1)] })] (gB_room hr)
    have I5 : Inv (gx X (gB X.A elt t0 i0 t1 i1 scope gpos it cenv) { s2 with heap := h3, toks := tk } (upd H2 P (.tbl (ps ++ more))) (genv X scope h3.objs.size code) fp [(h'.objs.size, _)]) [] (wipe σ (own.map (·.2))) _ _ := I5
    rw [hcenv] at I5 pg pi1 pg1 pe
    have hcoE : cenv.scope.isCoroutine = false := by rw [← hcenv]; exact hco
    generalize hog : ({ cls := .type "generator", data := .fields #[.int s2.gens.size 0, .str "<genexpr>" (tk + 1), .str (X.env.qual ++ "<genexpr>") (tk + 1 + 1)] } : Obj) = og at I5 pg pi1 pg1 pe
    have hig : ∀ h : Heap, h.get? h'.objs.size = some og → h.IsGen h'.objs.size s2.gens.size := fun hh e => ⟨og, _, _, e, by rw [← hog], by rw [← hog], by rw [← hog]⟩
    have mI5 : ∀ b ∈ fp, (upd H2 P (.tbl (ps ++ more))) b = none := fun b hb => (f4 b hb).1.1
    have back : ∀ σ' H' s', Inv (gx X (gB X.A elt t0 i0 t1 i1 scope gpos it cenv) { s2 with heap := h3, toks := tk } (upd H2 P (.tbl (ps ++ more))) cenv fp [(h'.objs.size, og)]) [] σ' H' s' → Inv X pins σ H' s' := fun σ' H' s' I6 =>
      I4.call' (ch := fp) I6.os I6.base I6.hok I6.bare fun b hb => ⟨(f4 b hb).1.2.2.2.1, (f4 b hb).1.2.1, (f4 b hb).1.2.2.2.2.1, (f4 b hb).1.2.2.2.2.2⟩
    have goes : ∀ s' : Shared, s'.heap = h'.push og → s'.os = s2.os → AllBare s'.gens →
        Seg (model X.prog X.w) X.A.in1.in1 (GRn (gx X (gB X.A elt t0 i0 t1 i1 scope gpos it cenv) { s2 with heap := h3, toks := tk } (upd H2 P (.tbl (ps ++ more))) cenv fp [(h'.objs.size, og)]) e Q)
          (GYp (gx X (gB X.A elt t0 i0 t1 i1 scope gpos it cenv) { s2 with heap := h3, toks := tk } (upd H2 P (.tbl (ps ++ more))) cenv fp [(h'.objs.size, og)]) e Q) (m0 + 1) s'
          (.compStart (.GeneratorExp elt [⟨t0, i0, [], 0⟩, ⟨t1, i1, [], 0⟩] scope gpos) 0 (.ref it) .none cenv) ((model X.prog X.w).den (.compStart (.GeneratorExp elt [⟨t0, i0, [], 0⟩, ⟨t1, i1, [], 0⟩] scope gpos) 0 (.ref it) .none cenv)) [] s' := fun s' hh ho hg => by
      have I6 := inv_same (s' := s') I5 hh ho hg
      have st6 : tn 0 s'.heap := by
        rw [hh]
        exact T.keep _ _ _ st4 fun b _ o e => Heap.get?_push_of_some _ (keep' b o e)
      refine seg_start2 (Y := gx X (gB X.A elt t0 i0 t1 i1 scope gpos it cenv) { s2 with heap := h3, toks := tk } (upd H2 P (.tbl (ps ++ more))) cenv fp [(h'.objs.size, og)]) T st6
        (seg_loop2 rfl rfl rfl rfl (fun b hb p hp z => ?_) hcoE T pg pi1 pg1 pe (hs1 _) hv gw m0 0 (m0 + 1) s' s' _ (Nat.lt_succ_self _) I6 st6 mI5 w0)
      have hp : p ∈ [(h'.objs.size, og)] := hp
      rw [List.mem_singleton.mp hp] at z
      have z : h'.objs.size = b := z
      have h9 := (f4 b hb).2
      rw [← z, hsz'] at h9
      exact absurd h9 (Nat.not_lt.mpr (Nat.le_succ _))
    have ee : genEnv scope (cloFrom X.env.cells scope.names []) h3.objs.size code builtinsNs X.env = cenv := hcenv
    have fin := hQ h'.objs.size { s2 with heap := h'.push og, gens := s2.gens.push (.fresh (.compStart (.GeneratorExp elt [⟨t0, i0, [], 0⟩, ⟨t1, i1, [], 0⟩] scope gpos) 0 (.ref it) .none cenv)), toks := tk + 1 + 1 + 1 }
      ⟨gB X.A elt t0 i0 t1 i1 scope gpos it cenv, { s2 with heap := h3, toks := tk }, upd H2 P (.tbl (ps ++ more)), cenv, fp, [(h'.objs.size, og)], og, s2.gens.size, .fresh (.compStart (.GeneratorExp elt [⟨t0, i0, [], 0⟩, ⟨t1, i1, [], 0⟩] scope gpos) 0 (.ref it) .none cenv), wipe σ (own.map (·.2)), upd H2 P (.tbl (ps ++ more)), m0 + 1,
        List.mem_singleton.mpr rfl, hig, I5, Array.getElem?_push_size .., fun s' hh ho hg => ⟨rfl, goes s' hh ho hg⟩, back⟩
    rw [← ee] at fin
    exact fin
  cases hf : codeAmong gpos ps.toList with
  | none =>
    refine ⟨I2.nolimit, ?_⟩
    refine wpAny_genexprCodeX hcode (cd.code hPs ht) (cd.tab hPs) hf fun c' h' tk hx hge hlt hco' _ htab' _ => ?_
    obtain ⟨o1, vs, f1, tf, fl, tg, inF, tx, tt, op, _, _, _, _, _, _, _, _, _, htr, _⟩ := hco'
    exact cont _ h' tk _ hx (Nat.le_trans hge (Nat.le_of_lt hlt)) htab'.2 ⟨_, rfl⟩ htr
  | some cv =>
    refine ⟨I2.nolimit, ?_⟩
    refine wpAny_genexprCode_hit hcode (cd.code hPs ht) hf ?_
    exact cont cv s2.heap s2.toks ps (Heap.ExtBut.refl _ _) (Nat.le_refl _) hPs ⟨#[], by simp⟩ ht

theorem pe_all2 {c P : Addr} {elt t0 i0 t1 i1 : Expr} {p pos gpos : Pos} {scope : Scope} {own : List (Str × Nat)} {wi wi1 : TI} {g g1 : TG} {vs1 : List Nat} {te : TE} {k : Nat}
    (hr : Room (k + 1) X.A) (hg : Gl X "all") (hm : X.mg "all" = none) (TB : TabB X.base X.mg c P) (hcode : X.env.code = .ref c) (hN : X.N.Nodup) (ok : BlkOk X.N X.env.scope scope own) (hcell : ∀ y ∈ scope.names, y.2 ≠ .cell) (hco : scope.isCoroutine = false) (h0 : scope.names.lookup (".0" : Str) = some NameKind.local)
    (hi : PI X t0 i0 wi) (hv : ∀ i ∈ vs1, i ∈ own.map (·.2))
    (hpg : ∀ (A1 : Around) (s : Shared) (H : Hp) (C : Addr) (code : Value) (fp : List Addr) (pn : List (Addr × Obj)), PG (gx X A1 s H (genv X scope C code) fp pn) t0 g)
    (hpi1 : ∀ (A1 : Around) (s : Shared) (H : Hp) (C : Addr) (code : Value) (fp : List Addr) (pn : List (Addr × Obj)), Room k A1 → PI (gx X A1 s H (genv X scope C code) fp pn) t1 i1 wi1)
    (hpg1 : ∀ (A1 : Around) (s : Shared) (H : Hp) (C : Addr) (code : Value) (fp : List Addr) (pn : List (Addr × Obj)), PG (gx X A1 s H (genv X scope C code) fp pn) t1 g1)
    (hpe : ∀ (A1 : Around) (s : Shared) (H : Hp) (C : Addr) (code : Value) (fp : List Addr) (pn : List (Addr × Obj)), Room k A1 → PE (gx X A1 s H (genv X scope C code) fp pn) elt te)
    (hs : ∀ v, genFold i0 X.env v = pure v := by intro _; rfl)
    (hs1 : ∀ env x, foldedSetIterable i1 env x = pure x := by intro _ _; rfl)
    (he : starEach [.GeneratorExp elt [⟨t0, i0, [], 0⟩, ⟨t1, i1, [], 0⟩] scope gpos] X.env = (false, eval (.GeneratorExp elt [⟨t0, i0, [], 0⟩, ⟨t1, i1, [], 0⟩] scope gpos) X.env) :: starEach [] X.env := by rfl) :
    PE X (.Call (.Name "all" p) [.GeneratorExp elt [⟨t0, i0, [], 0⟩, ⟨t1, i1, [], 0⟩] scope gpos] [] pos) (tGen2 true P wi g wi1 g1 te (own.map (·.2)) vs1) := by
  refine ⟨fun pins s σ H Q I h => ?_⟩
  refine wpAny_Call_Name_kw (ld_blt I hg hm boot_all ?_)
  refine PyProof.Rows.callWith_builtin1 ?_ he (by rfl)
  rw [he]
  show wpAny _ _ (spliced ((false, eval (.GeneratorExp elt [⟨t0, i0, [], 0⟩, ⟨t1, i1, [], 0⟩] scope gpos) X.env) :: backTo pos (starEach [] X.env))) _ _ s
  refine Calls.spliced_cons (gen_make2 (e := true) (Q := Q) hr TB hcode hN ok hcell hco h0 hi hv hpg hpi1 hpg1 hpe hs hs1 I h fun a s5 hG => ?_)
  obtain ⟨A1, s4, H4, cenv, fp, pn, og, gi, gs, σ', H5, n, hpn, hig, I5, hgs, hgo, back⟩ := hG
  refine Calls.spliced_nil ?_
  refine call_function_tree F.kind_all F.plain_all F.entry_all (F.args_all1 _) ?_
  unfold Builtin.«all»
  refine wpAny_bind (m := oneArg "all" _) (wpAny_pure ?_)
  refine wpAny_bind (wpAny_pyIter_gen (hig _ (I5.pin _ (List.mem_append_left _ hpn)).1) ?_)
  refine wpAny_pure ⟨plainId_quiet F.plain_all_loop _, drv_all (Y := gx X A1 s4 H4 cenv fp pn) (A := X.A) hpn hig hr.hd (by have := hr.dp; show X.A.depth + 0 < _; omega) (fun b σ6 H6 s6 I6 q => ?_) n gs σ' H5 s5 I5 hgs hgo⟩
  exact ⟨.bl b, H6, back σ6 H6 s6 I6, rfl, q⟩
end
end EwG

set_option Elab.async false
set_option linter.all false
set_option maxRecDepth 100000
set_option maxHeartbeats 4000000
/-! Finite commutative semirings given by tables. -/
namespace SRm
structure SR (n : Nat) (p t : Nat → Nat → Nat) (o : Nat) : Prop where
  pos : 0 < n
  oo : o < n
  pc : ∀ a, a < n → ∀ b, b < n → p a b < n
  tc : ∀ a, a < n → ∀ b, b < n → t a b < n
  p0 : ∀ a, a < n → p 0 a = a
  ps : ∀ a, a < n → ∀ b, b < n → p a b = p b a
  pa : ∀ a, a < n → ∀ b, b < n → ∀ c, c < n → p a (p b c) = p (p a b) c
  t1 : ∀ a, a < n → t o a = a
  t0 : ∀ a, a < n → t 0 a = 0
  ts : ∀ a, a < n → ∀ b, b < n → t a b = t b a
  ta : ∀ a, a < n → ∀ b, b < n → ∀ c, c < n → t a (t b c) = t (t a b) c
  ds : ∀ a, a < n → ∀ b, b < n → ∀ c, c < n → t a (p b c) = p (t a b) (t a c)
abbrev SRp (n : Nat) (p t : Nat → Nat → Nat) (o : Nat) : Prop :=
  0 < n ∧ o < n ∧ (∀ a, a < n → p 0 a = a ∧ t o a = a ∧ t 0 a = 0 ∧ ∀ b, b < n → p a b < n ∧ t a b < n ∧ p a b = p b a ∧ t a b = t b a ∧ ∀ c, c < n → p a (p b c) = p (p a b) c ∧ t a (t b c) = t (t a b) c ∧ t a (p b c) = p (t a b) (t a c))
theorem SR.of {n : Nat} {p t : Nat → Nat → Nat} {o : Nat} (h : SRp n p t o) : SR n p t o where
  pos := h.1
  oo := h.2.1
  pc := fun a ha b hb => ((h.2.2 a ha).2.2.2 b hb).1
  tc := fun a ha b hb => ((h.2.2 a ha).2.2.2 b hb).2.1
  p0 := fun a ha => (h.2.2 a ha).1
  ps := fun a ha b hb => ((h.2.2 a ha).2.2.2 b hb).2.2.1
  pa := fun a ha b hb c hc => (((h.2.2 a ha).2.2.2 b hb).2.2.2.2 c hc).1
  t1 := fun a ha => (h.2.2 a ha).2.1
  t0 := fun a ha => (h.2.2 a ha).2.2.1
  ts := fun a ha b hb => ((h.2.2 a ha).2.2.2 b hb).2.2.2.1
  ta := fun a ha b hb c hc => (((h.2.2 a ha).2.2.2 b hb).2.2.2.2 c hc).2.1
  ds := fun a ha b hb c hc => (((h.2.2 a ha).2.2.2 b hb).2.2.2.2 c hc).2.2
/-- equal within the range -/
theorem SR.congr {n : Nat} {p t p' t' : Nat → Nat → Nat} {o : Nat} (h : SR n p t o) (hp : ∀ a, a < n → ∀ b, b < n → p' a b = p a b) (ht : ∀ a, a < n → ∀ b, b < n → t' a b = t a b) : SR n p' t' o := by
  refine SR.of ⟨h.pos, h.oo, fun a ha => ⟨by rw [hp _ h.pos _ ha]; exact h.p0 a ha, by rw [ht _ h.oo _ ha]; exact h.t1 a ha, by rw [ht _ h.pos _ ha]; exact h.t0 a ha, fun b hb => ?_⟩⟩
  have e1 := hp _ ha _ hb
  have e2 := hp _ hb _ ha
  have e3 := ht _ ha _ hb
  have e4 := ht _ hb _ ha
  refine ⟨by rw [e1]; exact h.pc a ha b hb, by rw [e3]; exact h.tc a ha b hb, by rw [e1, e2]; exact h.ps a ha b hb, by rw [e3, e4]; exact h.ts a ha b hb, fun c hc => ?_⟩
  have pbc := h.pc b hb c hc
  have pab := h.pc a ha b hb
  have tbc := h.tc b hb c hc
  have tab := h.tc a ha b hb
  have tac := h.tc a ha c hc
  refine ⟨?_, ?_, ?_⟩
  · rw [hp _ hb _ hc, e1, hp _ ha _ pbc, hp _ pab _ hc]; exact h.pa a ha b hb c hc
  · rw [ht _ hb _ hc, e3, ht _ ha _ tbc, ht _ tab _ hc]; exact h.ta a ha b hb c hc
  · rw [hp _ hb _ hc, e3, ht _ ha _ pbc, ht _ ha _ hc, hp _ tab _ tac]; exact h.ds a ha b hb c hc
/-- the drawn families -/
def fP (kind n : Nat) : Nat → Nat → Nat := fun a b => match kind with
  | 0 => (a + b) % n
  | 1 => min (a + b) (n - 1)
  | 2 => max a b
  | 3 => a ||| b
  | 4 => a ^^^ b
  | _ => if a * b = 0 then max a b else min a b
def fT (kind n : Nat) : Nat → Nat → Nat := fun a b => match kind with
  | 0 => (a * b) % n
  | 1 => min (a * b) (n - 1)
  | 2 => min a b
  | 3 => a &&& b
  | 4 => a &&& b
  | _ => if a * b = 0 then 0 else min (a + b - 1) (n - 1)
def fO (kind n : Nat) : Nat := match kind with
  | 0 => 1 % n
  | 1 => min 1 (n - 1)
  | 2 => n - 1
  | 3 => n - 1
  | 4 => n - 1
  | _ => 1
def SRb (n : Nat) (p t : Nat → Nat → Nat) (o : Nat) : Bool :=
  Nat.blt 0 n && Nat.blt o n && (List.range n).all fun a => p 0 a == a && t o a == a && t 0 a == 0 && (List.range n).all fun b => Nat.blt (p a b) n && Nat.blt (t a b) n && p a b == p b a && t a b == t b a &&
    (List.range n).all fun c => p a (p b c) == p (p a b) c && t a (t b c) == t (t a b) c && t a (p b c) == p (t a b) (t a c)
theorem SR.ofb {n : Nat} {p t : Nat → Nat → Nat} {o : Nat} (h : SRb n p t o = true) : SR n p t o := by
  unfold SRb at h
  simp only [Bool.and_eq_true, List.all_eq_true, List.mem_range, beq_iff_eq, Nat.blt_eq] at h
  obtain ⟨⟨h1, h2⟩, h3⟩ := h
  refine SR.of ⟨h1, h2, fun a ha => ?_⟩
  obtain ⟨⟨⟨a1, a2⟩, a3⟩, a4⟩ := h3 a ha
  refine ⟨a1, a2, a3, fun b hb => ?_⟩
  obtain ⟨⟨⟨⟨b1, b2⟩, b3⟩, b4⟩, b5⟩ := a4 b hb
  refine ⟨b1, b2, b3, b4, fun c hc => ?_⟩
  obtain ⟨⟨c1, c2⟩, c3⟩ := b5 c hc
  exact ⟨c1, c2, c3⟩
theorem sr_smallb : ((List.range 3).all fun k => (List.range 6).all fun n => SRb (n + 1) (fP k (n + 1)) (fT k (n + 1)) (fO k (n + 1))) = true := by decide +kernel
theorem sr_bitsb : ((List.range 3).all fun k => (List.range 3).all fun m => SRb (2 ^ (m + 1)) (fP (k + 3) (2 ^ (m + 1))) (fT (k + 3) (2 ^ (m + 1))) (fO (k + 3) (2 ^ (m + 1)))) = true := by decide +kernel
theorem sr_small {k n : Nat} (hk : k < 3) (h0 : 0 < n) (hn : n < 7) : SR n (fP k n) (fT k n) (fO k n) := by
  have h := sr_smallb
  simp only [List.all_eq_true, List.mem_range] at h
  have q := h k hk (n - 1) (by omega)
  rw [show n - 1 + 1 = n by omega] at q
  exact SR.ofb q
theorem sr_bits {k m : Nat} (hk : k < 3) (hm : m < 3) : SR (2 ^ (m + 1)) (fP (k + 3) (2 ^ (m + 1))) (fT (k + 3) (2 ^ (m + 1))) (fO (k + 3) (2 ^ (m + 1))) := by
  have h := sr_bitsb
  simp only [List.all_eq_true, List.mem_range] at h
  exact SR.ofb (h k hk m hm)

theorem dm {m x y : Nat} (h : y < m) : (x * m + y) / m = x ∧ (x * m + y) % m = y := by
  have hm : 0 < m := Nat.lt_of_le_of_lt (Nat.zero_le _) h
  refine ⟨?_, ?_⟩
  · rw [Nat.mul_comm, Nat.mul_add_div hm, Nat.div_eq_of_lt h]; rfl
  · rw [Nat.mul_comm, Nat.mul_add_mod, Nat.mod_eq_of_lt h]
theorem lt_mul {n m x y : Nat} (hx : x < n) (hy : y < m) : x * m + y < n * m := by
  have : (x + 1) * m ≤ n * m := Nat.mul_le_mul_right m hx
  rw [Nat.succ_mul] at this
  omega
/-- both at once -/
def pr2 (m : Nat) (f g : Nat → Nat → Nat) : Nat → Nat → Nat := fun a b => f (a / m) (b / m) * m + g (a % m) (b % m)
theorem sr_pair {n m o o' : Nat} {p t p' t' : Nat → Nat → Nat} (x : SR n p t o) (y : SR m p' t' o') : SR (n * m) (pr2 m p p') (pr2 m t t') (o * m + o') := by
  have hm := y.pos
  have dl : ∀ {a}, a < n * m → a / m < n := fun h => Nat.div_lt_of_lt_mul (by rw [Nat.mul_comm]; exact h)
  have ml : ∀ a, a % m < m := fun a => Nat.mod_lt _ hm
  have eq : ∀ a, a / m * m + a % m = a := fun a => by rw [Nat.mul_comm]; exact Nat.div_add_mod a m
  have z : 0 / m = 0 ∧ 0 % m = 0 := ⟨Nat.zero_div _, Nat.zero_mod _⟩
  refine SR.of ⟨Nat.mul_pos x.pos hm, lt_mul x.oo y.oo, fun a ha => ⟨?_, ?_, ?_, fun b hb => ⟨?_, ?_, ?_, ?_, fun c hc => ⟨?_, ?_, ?_⟩⟩⟩⟩
  · unfold pr2; rw [z.1, z.2, x.p0 _ (dl ha), y.p0 _ (ml a), eq]
  · unfold pr2; rw [(dm y.oo).1, (dm y.oo).2, x.t1 _ (dl ha), y.t1 _ (ml a), eq]
  · unfold pr2; rw [z.1, z.2, x.t0 _ (dl ha), y.t0 _ (ml a)]; simp
  · exact lt_mul (x.pc _ (dl ha) _ (dl hb)) (y.pc _ (ml a) _ (ml b))
  · exact lt_mul (x.tc _ (dl ha) _ (dl hb)) (y.tc _ (ml a) _ (ml b))
  · unfold pr2; rw [x.ps _ (dl ha) _ (dl hb), y.ps _ (ml a) _ (ml b)]
  · unfold pr2; rw [x.ts _ (dl ha) _ (dl hb), y.ts _ (ml a) _ (ml b)]
  · unfold pr2
    rw [(dm (y.pc _ (ml b) _ (ml c))).1, (dm (y.pc _ (ml b) _ (ml c))).2, (dm (y.pc _ (ml a) _ (ml b))).1, (dm (y.pc _ (ml a) _ (ml b))).2, x.pa _ (dl ha) _ (dl hb) _ (dl hc), y.pa _ (ml a) _ (ml b) _ (ml c)]
  · unfold pr2
    rw [(dm (y.tc _ (ml b) _ (ml c))).1, (dm (y.tc _ (ml b) _ (ml c))).2, (dm (y.tc _ (ml a) _ (ml b))).1, (dm (y.tc _ (ml a) _ (ml b))).2, x.ta _ (dl ha) _ (dl hb) _ (dl hc), y.ta _ (ml a) _ (ml b) _ (ml c)]
  · unfold pr2
    rw [(dm (y.pc _ (ml b) _ (ml c))).1, (dm (y.pc _ (ml b) _ (ml c))).2, (dm (y.tc _ (ml a) _ (ml b))).1, (dm (y.tc _ (ml a) _ (ml b))).2, (dm (y.tc _ (ml a) _ (ml c))).1, (dm (y.tc _ (ml a) _ (ml c))).2, x.ds _ (dl ha) _ (dl hb) _ (dl hc), y.ds _ (ml a) _ (ml b) _ (ml c)]
/-- renamed by s, back by b -/
theorem sr_ren {n o : Nat} {p t : Nat → Nat → Nat} {s b : Nat → Nat} (x : SR n p t o) (hs : ∀ i, i < n → s i < n) (hb : ∀ i, i < n → b i < n) (sb : ∀ i, i < n → s (b i) = i) (bs : ∀ i, i < n → b (s i) = i) (s0 : s 0 = 0) :
    SR n (fun i j => s (p (b i) (b j))) (fun i j => s (t (b i) (b j))) (s o) := by
  have b0 : b 0 = 0 := by have := bs 0 x.pos; rw [s0] at this; exact this
  refine SR.of ⟨x.pos, hs _ x.oo, fun i hi => ⟨?_, ?_, ?_, fun j hj => ⟨?_, ?_, ?_, ?_, fun k hk => ⟨?_, ?_, ?_⟩⟩⟩⟩
  · show s (p (b 0) (b i)) = i
    rw [b0, x.p0 _ (hb i hi), sb i hi]
  · show s (t (b (s o)) (b i)) = i
    rw [bs _ x.oo, x.t1 _ (hb i hi), sb i hi]
  · show s (t (b 0) (b i)) = 0
    rw [b0, x.t0 _ (hb i hi), s0]
  · exact hs _ (x.pc _ (hb i hi) _ (hb j hj))
  · exact hs _ (x.tc _ (hb i hi) _ (hb j hj))
  · show s (p (b i) (b j)) = s (p (b j) (b i))
    rw [x.ps _ (hb i hi) _ (hb j hj)]
  · show s (t (b i) (b j)) = s (t (b j) (b i))
    rw [x.ts _ (hb i hi) _ (hb j hj)]
  · show s (p (b i) (b (s (p (b j) (b k))))) = s (p (b (s (p (b i) (b j)))) (b k))
    rw [bs _ (x.pc _ (hb j hj) _ (hb k hk)), bs _ (x.pc _ (hb i hi) _ (hb j hj)), x.pa _ (hb i hi) _ (hb j hj) _ (hb k hk)]
  · show s (t (b i) (b (s (t (b j) (b k))))) = s (t (b (s (t (b i) (b j)))) (b k))
    rw [bs _ (x.tc _ (hb j hj) _ (hb k hk)), bs _ (x.tc _ (hb i hi) _ (hb j hj)), x.ta _ (hb i hi) _ (hb j hj) _ (hb k hk)]
  · show s (t (b i) (b (s (p (b j) (b k))))) = s (p (b (s (t (b i) (b j)))) (b (s (t (b i) (b k)))))
    rw [bs _ (x.pc _ (hb j hj) _ (hb k hk)), bs _ (x.tc _ (hb i hi) _ (hb j hj)), bs _ (x.tc _ (hb i hi) _ (hb k hk)), x.ds _ (hb i hi) _ (hb j hj) _ (hb k hk)]
end SRm

set_option Elab.async false
set_option linter.all false
set_option maxRecDepth 100000
set_option maxHeartbeats 4000000
/-! Readings of comprehensions and loops over tables. -/
namespace Tb
open PySem PySem.Spec PyProof.Rows L2 Ew EwG GxR

theorem yes_then {σ : L2.St} {H : Hp} {Q : Bool → Hp → Prop} (q : Q true H) : tYes σ H Q := q
/-- all but what stands at a is as it was -/
def But (a : Addr) (H H' : Hp) : Prop := ∀ b o, b ≠ a → H b = some o → H' b = some o
theorem but_app {D : Addr} {H : Hp} {o : HO} : But D H (upd H D o) := fun b u n e => by rw [upd_ne n]; exact e
theorem But.of {D : Addr} {H H' : Hp} (s : Same H H') : But D H H' := fun b o _ e => s b o e
theorem But.trans {D : Addr} {H H' H'' : Hp} (x : But D H H') (y : But D H' H'') : But D H H'' := fun b o n e => y b o n (x b o n e)
theorem same_but {D : Addr} {H1 H H' : Hp} (hD : H1 D = none) (s : Same H1 H) (b : But D H H') : Same H1 H' := fun c o e => b c o (ne_of_none e hD) (s c o e)
theorem same_new {p : Addr} {H H1 : Hp} {o : HO} (x : Same H H1) (h : H p = none) : Same H (L2.upd H1 p o) := fun b u e => by rw [upd_ne (ne_of_none e h)]; exact x b u e
theorem ext_of {xs : List V} {n : Nat} {f : Nat → V} (hl : xs.length = n) (h : ∀ (i : Nat) v, xs[i]? = some v → v = f i) : xs = (List.range n).map f := by
  refine List.ext_getElem? fun i => ?_
  rw [List.getElem?_map]
  by_cases c : i < n
  · have e : (List.range n)[i]? = some i := by rw [List.getElem?_eq_getElem (by simpa using c), List.getElem_range]
    rw [e]
    obtain ⟨v, hv⟩ : ∃ v, xs[i]? = some v := ⟨_, List.getElem?_eq_getElem (by omega)⟩
    rw [hv, h i v hv]
    rfl
  · rw [List.getElem?_eq_none (by omega), List.getElem?_eq_none (by simpa using c)]
    rfl
theorem at_map {n i : Nat} {f : Nat → V} (h : i < n) : ((List.range n).map f)[i]? = some (f i) := by
  rw [List.getElem?_map, List.getElem?_eq_getElem (by simpa using h), List.getElem_range]
  rfl

/-- [e for x in range(lo, lo + n)]: the heap grows; each element satisfies R -/
theorem lc_rng {lo : Int} {n k : Nat} {te : TE} {vs : List Nat} {σ : L2.St} {H1 : Hp} {D : Addr} {Qd : Hp → Prop} (R : Nat → V → Hp → Prop) (hD : H1 D = none)
    (NR : ∀ i v H H', But D H H' → R i v H → R i v H') (hn : n ≤ 100000) (hw : ∀ x, wipe ((wipe σ vs).set k (some x)) vs = wipe σ vs)
    (hs : ∀ (i : Nat) (H : Hp) (acc : List V) (Kt : VK), i < n → Same H1 H → H D = some (.lst acc) → (∀ y H4, Same H H4 → R i y H4 → Kt y H4) → te ((wipe σ vs).set k (some (.int (lo + i)))) H Kt)
    (hd : ∀ H rows, Same H1 H → H D = some (.lst rows) → rows.length = n → (∀ (i : Nat) v, rows[i]? = some v → R i v H) → Qd H) :
    ∃ W : Nat → Nat → Hp → Prop, (∃ m, W 0 m (upd H1 D (.lst []))) ∧ ∀ i m H, W i m H →
      ((Itr lo n).stop i H ∧ Qd H) ∨ ((Itr lo n).go i H ∧ ∃ Nx : Hp → Prop, (∀ H', Nx H' → ∃ m', m' < m ∧ W (i + 1) m' H') ∧ ∀ x H', (Itr lo n).yld i H x H' → gName k x (wipe σ vs) H' fun σ2 H2 => wipe σ2 vs = wipe σ vs ∧ tYes σ2 H2 fun b H3 =>
        if b = true then te σ2 H3 fun y H4 => ∃ acc, H4 D = some (.lst acc) ∧ acc.length < sizeLine ∧ Nx (upd H4 D (.lst (acc ++ [y]))) else Nx H3) := by
  refine lc_range (fun i H => Same H1 H ∧ ∃ rows, H D = some (.lst rows) ∧ rows.length = i ∧ ∀ (j : Nat) v, rows[j]? = some v → R j v H) ⟨same_new (Same.refl _) hD, [], upd_same, rfl, fun j v e => by simp at e⟩ (fun i H hi ⟨s1, rows, e1, e2, e3⟩ => ?_) (fun H ⟨s1, rows, e1, e2, e3⟩ => hd H rows s1 e1 e2 e3)
  refine ⟨hw _, ?_⟩
  refine yes_then ?_
  refine iteT ?_
  refine hs i H rows _ hi s1 e1 fun y H4 s4 r4 => ⟨rows, s4 _ _ e1, ?_, same_but hD (fun b o e => s4 b o (s1 b o e)) but_app, rows ++ [y], upd_same, by rw [List.length_append, e2]; rfl, fun j v e => ?_⟩
  · rw [e2]
    exact Nat.lt_of_lt_of_le hi (Nat.le_trans hn (by decide))
  · by_cases c : j < rows.length
    · rw [List.getElem?_append_left c] at e
      exact NR _ _ _ _ (But.trans (But.of s4) but_app) (e3 j v e)
    · rw [List.getElem?_append_right (by omega)] at e
      have hj : j = i := by
        have : j - rows.length < [y].length := by
          rcases Nat.lt_or_ge (j - rows.length) [y].length with h | h
          · exact h
          · rw [List.getElem?_eq_none h] at e; cases e
        have h1 : [y].length = 1 := rfl
        omega
      subst hj
      rw [e2, Nat.sub_self] at e
      have : y = v := by simpa using e
      subst this
      exact NR _ _ _ _ but_app r4
/-- .. whose elements are plain values -/
theorem lc_vals {lo : Int} {n k : Nat} {te : TE} {vs : List Nat} {σ : L2.St} {H1 : Hp} {D : Addr} {Qd : Hp → Prop} (f : Nat → V) (hD : H1 D = none)
    (hn : n ≤ 100000) (hw : ∀ x, wipe ((wipe σ vs).set k (some x)) vs = wipe σ vs)
    (hs : ∀ (i : Nat) (H : Hp) (Kt : VK), i < n → Same H1 H → (∀ H4, Same H H4 → Kt (f i) H4) → te ((wipe σ vs).set k (some (.int (lo + i)))) H Kt)
    (hd : ∀ H, Same H1 H → H D = some (.lst ((List.range n).map f)) → Qd H) :
    ∃ W : Nat → Nat → Hp → Prop, (∃ m, W 0 m (upd H1 D (.lst []))) ∧ ∀ i m H, W i m H →
      ((Itr lo n).stop i H ∧ Qd H) ∨ ((Itr lo n).go i H ∧ ∃ Nx : Hp → Prop, (∀ H', Nx H' → ∃ m', m' < m ∧ W (i + 1) m' H') ∧ ∀ x H', (Itr lo n).yld i H x H' → gName k x (wipe σ vs) H' fun σ2 H2 => wipe σ2 vs = wipe σ vs ∧ tYes σ2 H2 fun b H3 =>
        if b = true then te σ2 H3 fun y H4 => ∃ acc, H4 D = some (.lst acc) ∧ acc.length < sizeLine ∧ Nx (upd H4 D (.lst (acc ++ [y]))) else Nx H3) :=
  lc_rng (fun i v _ => v = f i) hD (fun _ _ _ _ _ h => h) hn hw (fun i H _ Kt hi s _ k => hs i H Kt hi s fun H4 s4 => k _ H4 s4 rfl) fun H rows s e l h => hd H s (by rw [e, ext_of l h])

/-- a list (at D) of n lists of n ints; none of them at a -/
def LL (a : Addr) (H : Hp) (D : Addr) (n : Nat) (F : Nat → Nat → Int) : Prop :=
  ∃ rows : List V, D ≠ a ∧ H D = some (.lst rows) ∧ rows.length = n ∧ ∀ i, i < n → ∃ r, rows[i]? = some (.ref r) ∧ r ≠ a ∧ H r = some (.lst ((List.range n).map fun j => V.int (F i j)))
theorem LL.but {a D : Addr} {H H' : Hp} {n : Nat} {F : Nat → Nat → Int} (x : LL a H D n F) (b : But a H H') : LL a H' D n F := by
  obtain ⟨rows, h1, h2, h3, h4⟩ := x
  exact ⟨rows, h1, b _ _ h1 h2, h3, fun i hi => let ⟨r, e1, e2, e3⟩ := h4 i hi; ⟨r, e1, e2, b _ _ e2 e3⟩⟩
theorem LL.congr {a D : Addr} {H : Hp} {n : Nat} {F G : Nat → Nat → Int} (x : LL a H D n F) (e : ∀ i, i < n → ∀ j, j < n → F i j = G i j) : LL a H D n G := by
  obtain ⟨rows, h1, h2, h3, h4⟩ := x
  refine ⟨rows, h1, h2, h3, fun i hi => ?_⟩
  obtain ⟨r, e1, e2, e3⟩ := h4 i hi
  refine ⟨r, e1, e2, ?_⟩
  rw [e3]
  refine congrArg (fun z => some (HO.lst z)) (List.map_congr_left fun j hj => ?_)
  rw [e i hi j (List.mem_range.mp hj)]
/-- a tuple of n tuples of n ints -/
def TT (H : Hp) (D : Addr) (n : Nat) (F : Nat → Nat → Int) : Prop :=
  ∃ rows : List V, H D = some (.tup rows) ∧ rows.length = n ∧ ∀ i, i < n → ∃ r, rows[i]? = some (.ref r) ∧ H r = some (.tup ((List.range n).map fun j => V.int (F i j)))
theorem TT.same {D : Addr} {H H' : Hp} {n : Nat} {F : Nat → Nat → Int} (x : TT H D n F) (b : ∀ c xs, H c = some (.tup xs) → H' c = some (.tup xs)) : TT H' D n F := by
  obtain ⟨rows, h2, h3, h4⟩ := x
  exact ⟨rows, b _ _ h2, h3, fun i hi => let ⟨r, e1, e3⟩ := h4 i hi; ⟨r, e1, b _ _ e3⟩⟩
/-- [[e for b in range(n)] for a in range(n)] : the outer one -/
theorem lc_LL {a : Addr} {ao : HO} {n k : Nat} {te : TE} {vs : List Nat} {σ : L2.St} {H1 : Hp} {D : Addr} {Qd : Hp → Prop} (F : Nat → Nat → Int) (hD : H1 D = none) (ha : H1 a = some ao)
    (hn : n ≤ 100000) (hw : ∀ x, wipe ((wipe σ vs).set k (some x)) vs = wipe σ vs)
    (hs : ∀ (i : Nat) (H : Hp) (Kt : VK), i < n → Same H1 H → (∀ r H4, Same H H4 → H r = none → H4 r = some (.lst ((List.range n).map fun j => V.int (F i j))) → Kt (.ref r) H4) → te ((wipe σ vs).set k (some (.int (0 + i)))) H Kt)
    (hd : ∀ H, Same H1 H → LL a H D n F → Qd H) :
    ∃ W : Nat → Nat → Hp → Prop, (∃ m, W 0 m (upd H1 D (.lst []))) ∧ ∀ i m H, W i m H →
      ((Itr 0 n).stop i H ∧ Qd H) ∨ ((Itr 0 n).go i H ∧ ∃ Nx : Hp → Prop, (∀ H', Nx H' → ∃ m', m' < m ∧ W (i + 1) m' H') ∧ ∀ x H', (Itr 0 n).yld i H x H' → gName k x (wipe σ vs) H' fun σ2 H2 => wipe σ2 vs = wipe σ vs ∧ tYes σ2 H2 fun b H3 =>
        if b = true then te σ2 H3 fun y H4 => ∃ acc, H4 D = some (.lst acc) ∧ acc.length < sizeLine ∧ Nx (upd H4 D (.lst (acc ++ [y]))) else Nx H3) := by
  refine lc_rng (fun i v H => ∃ r, v = .ref r ∧ r ≠ D ∧ r ≠ a ∧ H r = some (.lst ((List.range n).map fun j => V.int (F i j)))) hD (fun i v H H' b ⟨r, e1, e2, e3, e4⟩ => ⟨r, e1, e2, e3, b _ _ e2 e4⟩) hn hw
    (fun i H acc Kt hi s e k => hs i H Kt hi s fun r H4 s4 hr h4 => k _ H4 s4 ⟨r, rfl, (fun z => by rw [z, e] at hr; cases hr), (fun z => by rw [z, s _ _ ha] at hr; cases hr), h4⟩) fun H rows s e l h => hd H s ⟨rows, (fun z => by rw [z, ha] at hD; cases hD), e, l, fun i hi => ?_⟩
  obtain ⟨v, hv⟩ : ∃ v, rows[i]? = some v := ⟨_, List.getElem?_eq_getElem (by omega)⟩
  obtain ⟨r, rfl, _, h1, h2⟩ := h i v hv
  exact ⟨r, hv, h1, h2⟩

/-- [[e for b in range(n)] for a in range(n)] as a reading -/
theorem tab_lc {a : Addr} {ao : HO} {n ns ka kb : Nat} {te : TE} {σ : L2.St} {H : Hp} {Q : VK} (F : Nat → Nat → Int) (ha : H a = some ao) (hn : n ≤ 100000)
    (hs : ∀ (i j : Nat) (H' : Hp) (Kt : VK), i < n → j < n → Same H H' → (∀ H4, Same H' H4 → Kt (.int (F i j)) H4) → te ((wipe ((wipe σ [ka]).set ka (some (.int (i : Int)))) [kb]).set kb (some (.int (j : Int)))) H' Kt)
    (hd : ∀ H' D, Same H H' → H D = none → LL a H' D n F → Q (.ref D) H')
    (h1 : σ[ns]? = some (some (.int (n : Int))) := by rfl) (h2 : ∀ x, ((wipe σ [ka]).set ka (some x))[ns]? = some (some (.int (n : Int))) := by intro _; rfl)
    (w1 : ∀ x, wipe ((wipe σ [ka]).set ka (some x)) [ka] = wipe σ [ka] := by intro _; rfl) (w2 : ∀ y x, wipe ((wipe ((wipe σ [ka]).set ka (some y)) [kb]).set kb (some x)) [kb] = wipe ((wipe σ [ka]).set ka (some y)) [kb] := by intro _ _; rfl) :
    tLc (iRng1 (tCons (tVar ns) tNil)) (gName ka) tYes (tLc (iRng1 (tCons (tVar ns) tNil)) (gName kb) tYes te [kb]) [ka] σ H Q := by
  refine ⟨_, h1, _, rfl, by omega, by omega, fun D hD => ?_⟩
  refine lc_LL (a := a) F hD ha hn w1 (fun i H' Kt hi s k => ?_) (fun H' s l => hd H' D s hD l)
  refine ⟨_, h2 _, _, rfl, by omega, by omega, fun D' hD' => ?_⟩
  refine lc_vals (fun j => V.int (F i j)) hD' hn (w2 _) (fun j H4 Kt4 hj s4 k4 => ?_) (fun H4 s4 e4 => k D' H4 s4 hD' e4)
  rw [Int.zero_add, Int.zero_add]
  exact hs i j H4 Kt4 hi hj (fun b o e => s4 b o (s b o e)) k4

/-- [e for x in l], l a list that the turns leave as it is -/
theorem lc_lst {K : PySem.W.Frag} {L : Addr} {xs : List V} {k : Nat} {te : TE} {vs : List Nat} {σ : L2.St} {H1 : Hp} {D : Addr} {Qd : Hp → Prop} (R : Nat → V → Hp → Prop) (hD : H1 D = none) (hL : SqL K H1 L xs) (hLs : ∀ H, Same H1 H → SqL K H L xs)
    (NR : ∀ i v H H', But D H H' → R i v H → R i v H') (hn : xs.length ≤ 100000) (hw : ∀ x, wipe ((wipe σ vs).set k (some x)) vs = wipe σ vs)
    (hs : ∀ (i : Nat) (x : V) (H : Hp) (acc : List V) (Kt : VK), xs[i]? = some x → Same H1 H → H D = some (.lst acc) → (∀ y H4, Same H H4 → R i y H4 → Kt y H4) → te ((wipe σ vs).set k (some x)) H Kt)
    (hd : ∀ H rows, Same H1 H → H D = some (.lst rows) → rows.length = xs.length → (∀ (i : Nat) v, rows[i]? = some v → R i v H) → Qd H) :
    ∃ W : Nat → Nat → Hp → Prop, (∃ m, W 0 m (upd H1 D (.lst []))) ∧ ∀ i m H, W i m H →
      ((Itl K L).stop i H ∧ Qd H) ∨ ((Itl K L).go i H ∧ ∃ Nx : Hp → Prop, (∀ H', Nx H' → ∃ m', m' < m ∧ W (i + 1) m' H') ∧ ∀ x H', (Itl K L).yld i H x H' → gName k x (wipe σ vs) H' fun σ2 H2 => wipe σ2 vs = wipe σ vs ∧ tYes σ2 H2 fun b H3 =>
        if b = true then te σ2 H3 fun y H4 => ∃ acc, H4 D = some (.lst acc) ∧ acc.length < sizeLine ∧ Nx (upd H4 D (.lst (acc ++ [y]))) else Nx H3) := by
  refine lc_list (fun i H => Same H1 H ∧ ∃ rows, H D = some (.lst rows) ∧ rows.length = i ∧ ∀ (j : Nat) v, rows[j]? = some v → R j v H) ⟨same_new (Same.refl _) hD, [], upd_same, rfl, fun j v e => by simp at e⟩ (fun i H _ ⟨s1, _⟩ => hLs H s1) (fun i x H hx ⟨s1, rows, e1, e2, e3⟩ => ?_) (fun H ⟨s1, rows, e1, e2, e3⟩ => hd H rows s1 e1 e2 e3)
  refine ⟨hw _, ?_⟩
  refine yes_then ?_
  refine iteT ?_
  have hi : i < xs.length := by
    rcases Nat.lt_or_ge i xs.length with h | h
    · exact h
    · rw [List.getElem?_eq_none h] at hx; cases hx
  refine hs i x H rows _ hx s1 e1 fun y H4 s4 r4 => ⟨rows, s4 _ _ e1, ?_, same_but hD (fun b o e => s4 b o (s1 b o e)) but_app, rows ++ [y], upd_same, by rw [List.length_append, e2]; rfl, fun j v e => ?_⟩
  · rw [e2]
    exact Nat.lt_of_lt_of_le hi (Nat.le_trans hn (by decide))
  · by_cases c : j < rows.length
    · rw [List.getElem?_append_left c] at e
      exact NR _ _ _ _ (But.trans (But.of s4) but_app) (e3 j v e)
    · rw [List.getElem?_append_right (by omega)] at e
      have hj : j = i := by
        have : j - rows.length < [y].length := by
          rcases Nat.lt_or_ge (j - rows.length) [y].length with h | h
          · exact h
          · rw [List.getElem?_eq_none h] at e; cases e
        have h1 : [y].length = 1 := rfl
        omega
      subst hj
      rw [e2, Nat.sub_self] at e
      have : y = v := by simpa using e
      subst this
      exact NR _ _ _ _ but_app r4
/-- [[e for b in l] for a in l], l a list of n things, as a reading: a list of n lists of n ints -/
theorem tab_lst {K : PySem.W.Frag} {a L : Addr} {ao : HO} {xs : List V} {n ns ka kb : Nat} {te : TE} {σ : L2.St} {H : Hp} {Q : VK} (F : Nat → Nat → Int) (ha : H a = some ao) (hL : H L = some (.lst xs)) (hxl : xs.length = n) (hn : n ≤ 100000)
    (hs : ∀ (i j : Nat) (x y : V) (H' : Hp) (Kt : VK), i < n → j < n → xs[i]? = some x → xs[j]? = some y → Same H H' → (∀ H4, Same H' H4 → Kt (.int (F i j)) H4) → te ((wipe ((wipe σ [ka]).set ka (some x)) [kb]).set kb (some y)) H' Kt)
    (hd : ∀ H' D, Same H H' → H D = none → LL a H' D n F → Q (.ref D) H')
    (h1 : σ[ns]? = some (some (.ref L)) := by rfl) (h2 : ∀ x, ((wipe σ [ka]).set ka (some x))[ns]? = some (some (.ref L)) := by intro _; rfl)
    (w1 : ∀ x, wipe ((wipe σ [ka]).set ka (some x)) [ka] = wipe σ [ka] := by intro _; rfl) (w2 : ∀ y x, wipe ((wipe ((wipe σ [ka]).set ka (some y)) [kb]).set kb (some x)) [kb] = wipe ((wipe σ [ka]).set ka (some y)) [kb] := by intro _ _; rfl) :
    tLc (iList K (tVar ns)) (gName ka) tYes (tLc (iList K (tVar ns)) (gName kb) tYes te [kb]) [ka] σ H Q := by
  have at_ : ∀ {i : Nat} {x : V}, xs[i]? = some x → i < n := fun {i x} h => by
    rcases Nat.lt_or_ge i xs.length with h' | h'
    · omega
    · rw [List.getElem?_eq_none h'] at h; cases h
  refine ⟨_, h1, L, rfl, ⟨xs, SqL.of hL⟩, fun D hD => ?_⟩
  refine lc_lst (K := K) (xs := xs) (fun i v H => ∃ r, v = .ref r ∧ r ≠ D ∧ r ≠ a ∧ H r = some (.lst ((List.range n).map fun j => V.int (F i j)))) hD (SqL.of hL) (fun H' s => SqL.of (s _ _ hL)) (fun i v H H' b ⟨r, e1, e2, e3, e4⟩ => ⟨r, e1, e2, e3, b _ _ e2 e4⟩) (by omega) w1 (fun i x H' acc Kt hx s e k => ?_) (fun H' rows s e l h => ?_)
  · refine ⟨_, h2 _, L, rfl, ⟨xs, SqL.of (s _ _ hL)⟩, fun D' hD' => ?_⟩
    refine lc_lst (K := K) (xs := xs) (fun j v _ => v = V.int (F i j)) hD' (SqL.of (s _ _ hL)) (fun H4 s4 => SqL.of (s4 _ _ (s _ _ hL))) (fun _ _ _ _ _ h => h) (by omega) (w2 _) (fun j y H4 acc' Kt4 hy s4 e4 k4 => ?_) (fun H4 rows s4 e4 l4 h4 => ?_)
    · exact hs i j x y H4 Kt4 (at_ hx) (at_ hy) hx hy (fun b o e => s4 b o (s b o e)) fun H5 s5 => k4 _ H5 s5 rfl
    · refine k _ H4 s4 ⟨D', rfl, (fun z => by rw [z, e] at hD'; cases hD'), (fun z => by rw [z, s _ _ ha] at hD'; cases hD'), ?_⟩
      rw [e4, ext_of (l4.trans hxl) h4]
  · refine hd H' D s hD ⟨rows, (fun z => by rw [z, ha] at hD; cases hD), e, l.trans hxl, fun i hi => ?_⟩
    obtain ⟨v, hv⟩ : ∃ v, rows[i]? = some v := ⟨_, List.getElem?_eq_getElem (by omega)⟩
    obtain ⟨r, rfl, _, h1, h2⟩ := h i v hv
    exact ⟨r, hv, h1, h2⟩
abbrev rTupOf (K : PySem.W.Frag) : List V → Hp → VK → Prop := fun xs H Q => ∃ p ys, xs = [.ref p] ∧ ((SqL K H p ys ∧ ∀ l, H l = none → Q (.ref l) (upd H l (.tup ys))) ∨ (SqT K H p ys ∧ Q (.ref p) H))
/-- tuple([tuple([e for b in range(n)]) for a in range(n)]) as a reading -/
theorem tab_tt {K : PySem.W.Frag} {n ns ka kb : Nat} {te : TE} {σ : L2.St} {H : Hp} {Q : VK} (F : Nat → Nat → Int) (hn : n ≤ 100000)
    (hs : ∀ (i j : Nat) (H' : Hp) (Kt : VK), i < n → j < n → Same H H' → (∀ H4, Same H' H4 → Kt (.int (F i j)) H4) → te ((wipe ((wipe σ [ka]).set ka (some (.int (i : Int)))) [kb]).set kb (some (.int (j : Int)))) H' Kt)
    (hd : ∀ H' D, Same H H' → TT H' D n F → Q (.ref D) H')
    (h1 : σ[ns]? = some (some (.int (n : Int))) := by rfl) (h2 : ∀ x, ((wipe σ [ka]).set ka (some x))[ns]? = some (some (.int (n : Int))) := by intro _; rfl)
    (w1 : ∀ x, wipe ((wipe σ [ka]).set ka (some x)) [ka] = wipe σ [ka] := by intro _; rfl) (w2 : ∀ y x, wipe ((wipe ((wipe σ [ka]).set ka (some y)) [kb]).set kb (some x)) [kb] = wipe ((wipe σ [ka]).set ka (some y)) [kb] := by intro _ _; rfl) :
    tCB (rTupOf K) (tCons (tLc (iRng1 (tCons (tVar ns) tNil)) (gName ka) tYes (tCB (rTupOf K) (tCons (tLc (iRng1 (tCons (tVar ns) tNil)) (gName kb) tYes te [kb]) tNil)) [ka]) tNil) σ H Q := by
  refine ⟨_, h1, _, rfl, by omega, by omega, fun D hD => ?_⟩
  rw [Int.toNat_natCast]
  refine lc_rng (lo := 0) (n := n) (fun i v H => ∃ r, v = .ref r ∧ r ≠ D ∧ H r = some (.tup ((List.range n).map fun j => V.int (F i j)))) hD (fun i v H H' b ⟨r, e1, e2, e3⟩ => ⟨r, e1, e2, b _ _ e2 e3⟩) hn w1 (fun i H' acc Kt hi s e k => ?_) (fun H' rows s e l h => ?_)
  · rw [Int.zero_add]
    refine ⟨_, h2 _, _, rfl, by omega, by omega, fun D' hD' => ?_⟩
    rw [Int.toNat_natCast]
    refine lc_vals (lo := 0) (n := n) (fun j => V.int (F i j)) hD' hn (w2 _) (fun j H4 Kt4 hj s4 k4 => ?_) (fun H4 s4 e4 => ?_)
    · rw [Int.zero_add]
      exact hs i j H4 Kt4 hi hj (fun b o e => s4 b o (s b o e)) k4
    · refine ⟨D', _, rfl, .inl ⟨SqL.of e4, fun r hr => ?_⟩⟩
      exact k _ _ (fun b o e => same_new (Same.refl _) hr b o (s4 b o e)) ⟨r, rfl, (fun z => by rw [z, s4 _ _ e] at hr; cases hr), upd_same⟩
  · refine ⟨D, rows, rfl, .inl ⟨SqL.of e, fun q hq => ?_⟩⟩
    have sq : Same H' (upd H' q (.tup rows)) := same_new (Same.refl _) hq
    refine hd _ q (fun b o e => sq b o (s b o e)) ⟨rows, upd_same, l, fun i hi => ?_⟩
    obtain ⟨v, hv⟩ : ∃ v, rows[i]? = some v := ⟨_, List.getElem?_eq_getElem (by omega)⟩
    obtain ⟨r, rfl, _, h2⟩ := h i v hv
    exact ⟨r, hv, sq _ _ h2⟩
section
variable {X : Cx} {o e : Expr} {es : List Expr} {to : TE} {t : TA} {name : Str} {apos cpos : Pos} {T id : String} {r : V → List V → Hp → VK → Prop}
theorem kpe_bm {K : PySem.W.Frag} (pa : PlainAttrs T) (slot : Slot T name id) (hty : typeOf (.builtin id) = pure (.type "method_descriptor")) (hm : MtR X id r) (ho : PE X o to) (ha : PA X (e :: es) t) (hK : X.K = K := by rfl)
    (hbase : attributeBase o name X.env (eval o X.env) = eval o X.env := by rfl)
    (hfew : ((backTo cpos (starEach (e :: es) X.env)).all (fun x => !x.1) && (backToKw cpos (keywordEach [] X.env)).all (fun x => x.1.isSome)
      && decide ((e :: es).length + ([] : List Keyword).length + (if ([] : List Keyword).isEmpty then 0 else 1) < 30)) = true := by rfl)
    (hline : (apos.endLine == cpos.line) = true := by rfl) (hs : starEach (e :: es) X.env = (false, eval e X.env) :: starEach es X.env := by rfl) (hplain : (backTo cpos (starEach es X.env)).any (·.1) = false := by rfl) :
    PE X (.Call (.Attribute o name apos) (e :: es) [] cpos) (tBM K T r to t) := hK ▸ pe_bm pa slot hty hm ho ha hbase hfew hline hs hplain
theorem kmt_index {K : PySem.W.Frag} (hK : X.K = K := by rfl) : MtR X "list.index" (rIndex K) := hK ▸ mt_index
theorem kcall_tuple_of {K : PySem.W.Frag} (hK : X.K = K := by rfl) : CallR X (.type "tuple") (rTupOf K) := hK ▸ call_tuple_of
end
theorem erase_perm {α : Type} : ∀ (l : List α) (i : Nat) (y : α), l[i]? = some y → (y :: l.eraseIdx i).Perm l
  | [], i, y, e => by simp at e
  | a :: l, 0, y, e => by
    have q : a = y := by simpa using e
    subst q
    exact List.Perm.refl _
  | a :: l, i + 1, y, e => by
    have q := erase_perm l i y (by simpa using e)
    show (y :: a :: l.eraseIdx i).Perm (a :: l)
    exact (List.Perm.swap a y _).trans (q.cons a)
/-- names: a renaming of 0 .. n - 1 that keeps 0, and its inverse -/
theorem ren_of {n : Nat} {ns : List Nat} (p : ns.Perm (List.range n)) (h0 : ns[0]? = some 0) :
    (∀ i, i < n → ns[i]? = some (ns.getD i 0)) ∧ (∀ i, i < n → ns.getD i 0 < n) ∧ (∀ k, k < n → ns.idxOf k < n) ∧ (∀ k, k < n → ns.getD (ns.idxOf k) 0 = k) ∧ (∀ i, i < n → ns.idxOf (ns.getD i 0) = i) ∧ ns.getD 0 0 = 0 := by
  have hl : ns.length = n := by rw [p.length_eq, List.length_range]
  have nd : ns.Nodup := p.nodup_iff.mpr List.nodup_range
  have at_ : ∀ i, i < n → ns[i]? = some (ns.getD i 0) := fun i hi => by
    rw [List.getD_eq_getElem?_getD, List.getElem?_eq_getElem (by omega)]
    rfl
  have mem : ∀ k, k < n → k ∈ ns := fun k hk => p.mem_iff.mpr (List.mem_range.mpr hk)
  have ix : ∀ k, k < n → ns.idxOf k < n := fun k hk => by
    have := List.idxOf_lt_length_iff.mpr (mem k hk)
    omega
  refine ⟨at_, fun i hi => List.mem_range.mp (p.mem_iff.mp (List.mem_of_getElem? (at_ i hi))), ix, fun k hk => ?_, fun i hi => ?_, ?_⟩
  · have h := ix k hk
    rw [← hl] at h
    rw [List.getD_eq_getElem?_getD, List.getElem?_eq_getElem h, List.getElem_idxOf h]
    rfl
  · have h : i < ns.length := by omega
    rw [List.getD_eq_getElem?_getD, List.getElem?_eq_getElem h]
    exact nd.idxOf_getElem i h
  · rw [List.getD_eq_getElem?_getD, h0]
    rfl
theorem idx_first {n : Nat} {ns : List Nat} (p : ns.Perm (List.range n)) {k m z : Nat} (h : m < ns.idxOf k) (e : ns[m]? = some z) : z ≠ k := fun q => by
  have nd : ns.Nodup := p.nodup_iff.mpr List.nodup_range
  obtain ⟨hm, e⟩ := List.getElem?_eq_some_iff.mp e
  have := nd.idxOf_getElem m hm
  rw [e, q] at this
  omega
theorem go_seq {te : TE} {g : TG} {u : TS} {D : Ends} {σ : L2.St} {H : Hp} (h : te σ H fun x H1 => g x σ H1 fun σ' H' => u D σ' H') : tSeq (tAsg te g) u D σ H := h
theorem go_next {f : L2.St → Hp → Prop} {rt : VK} {bk ct : L2.St → Hp → Prop} {σ : L2.St} {H : Hp} (h : f σ H) : tNext ⟨f, rt, bk, ct⟩ σ H := h
theorem go_nx {f : L2.St → Hp → Prop} {rt : VK} {bk ct : L2.St → Hp → Prop} {σ : L2.St} {H : Hp} (h : f σ H) : (Ends.mk f rt bk ct).nx σ H := h
theorem go_ret {te : TE} {D : Ends} {σ : L2.St} {H : Hp} (h : te σ H D.rt) : tRet te D σ H := h
theorem go_tup {t : TA} {σ : L2.St} {H : Hp} {Q : VK} (h : t σ H fun xs H1 => xs.length ≤ sizeLine ∧ ∀ p, H1 p = none → Q (.ref p) (upd H1 p (.tup xs))) : tTup t σ H Q := h
theorem go_lst {t : TA} {σ : L2.St} {H : Hp} {Q : VK} (h : t σ H fun xs H1 => xs.length ≤ sizeLine ∧ ∀ p, H1 p = none → Q (.ref p) (upd H1 p (.lst xs))) : tLst t σ H Q := h
theorem go_cons {t : TE} {u : TA} {σ : L2.St} {H : Hp} {Q : List V → Hp → Prop} (h : t σ H fun x H1 => u σ H1 fun xs H2 => Q (x :: xs) H2) : tCons t u σ H Q := h
theorem go_nil {σ : L2.St} {H : Hp} {Q : List V → Hp → Prop} (h : Q [] H) : tNil σ H Q := h
theorem go_var {i : Nat} {v : V} {σ : L2.St} {H : Hp} {Q : VK} (e : σ[i]? = some (some v)) (h : Q v H) : tVar i σ H Q := ⟨v, e, h⟩
theorem go_name {i : Nat} {v v' : V} {σ : L2.St} {H : Hp} {Q : L2.St → Hp → Prop} (e : v = v') (h : Q (σ.set i (some v')) H) : gName i v σ H Q := e ▸ h
end Tb

set_option Elab.async false
set_option linter.all false
set_option maxRecDepth 100000
set_option maxHeartbeats 4000000
/-! Defs that hold a generator expression; readings of all(..), any(..) where every turn goes on. -/
namespace Tb
open PySem PySem.Spec PyProof.Rows L2 Ew EwG GxR

/-- a def whose code object stands at c -/
structure FunC (K : PySem.W.Frag) (x qual : Str) (st : Stmt) (f : Addr) (fd : FuncData) (c : Addr) : Prop where
  ex : ∃ (oc : Value) (od : Option Addr) (kV doc pm : Value) (an : Option Addr) (ct : Value) (osl : Array (Option Value)),
    fd = PySem.W.fnOf x qual (defArgs st) (defBody st) (defScope st) .none kV doc pm an (.ref c) ct ∧ K.lookup f = some ⟨oc, od, .func fd, osl⟩ ∧ PySem.W.codeIn K (.ref c) qual = true
  kp : PySem.W.keepIn K (.ref f) = true
section
variable {P : Program} {w : World} {K : PySem.W.Frag} {mg : Str → Option Value} {base : Heap}
theorem FunC.okX {x qual : Str} {st : Stmt} {f c : Addr} {fd : FuncData} {N ps : List Str} {k : Nat} {sp : Sp} (F : FunC K x qual st f fd c) (S : FnScope N ps (defScope st)) (len : ∀ vs H Q E, sp vs H Q E → vs.length = ps.length)
    (hbody : ∀ (A : Around) (outer : List Env) (s : Shared) (H : Hp) (vs : List V) (Q : VK) (E : XK), Room k (A.deeper (envOfC qual (defScope st) s.heap.objs.size f (.ref c))) → sp vs H Q E →
      ∃ t, PSs (cxOf (L2.CX P w) P w K mg base N qual (defScope st) f (.ref c) A outer s H E) (defBody st) t ∧ t { nx := fun _ H' => Q .non H', rt := Q } (start N vs) H) : FnOk P w K mg base (L2.CX P w) (k + 1) f fd ps sp := by
  obtain ⟨oc, od, kV, doc, pm, an, ct, osl, rfl, lk, hcd⟩ := F.ex
  exact fn_of lk hcd S len fun A outer s H vs Q E hr hsp => hbody A outer s H vs Q E hr hsp
theorem FunC.fun_ {x qual : Str} {st : Stmt} {f c : Addr} {fd : FuncData} (F : FunC K x qual st f fd c) : Fun K x qual st f fd := by
  obtain ⟨oc, od, kV, doc, pm, an, ct, osl, rfl, lk, hcd⟩ := F.ex
  exact ⟨⟨oc, od, kV, doc, pm, an, .ref c, ct, osl, rfl, lk, hcd⟩, F.kp⟩
theorem func_mk {x qual : Str} {st : Stmt} {f c : Addr} {oc : Value} {od an : Option Addr} {osl : Array (Option Value)} {kV doc pm ct : Value} (l : K.lookup f = some ⟨oc, od, .func (PySem.W.fnOf x qual (defArgs st) (defBody st) (defScope st) .none kV doc pm an (.ref c) ct), osl⟩)
    (cc : PySem.W.codeIn K (.ref c) qual = true) (k : PySem.W.keepIn K (.ref f) = true) : FunC K x qual st f (PySem.W.fnOf x qual (defArgs st) (defBody st) (defScope st) .none kV doc pm an (.ref c) ct) c := ⟨⟨oc, od, kV, doc, pm, an, ct, osl, rfl, l, cc⟩, k⟩
end
def rAnyT (K : PySem.W.Frag) : List V → Hp → VK → Prop := fun vs H Q => ∃ (a : Addr) (ns : List Int), vs = [V.ref a] ∧ SqT K H a (ns.map V.int) ∧ Q (.bl (ns.any fun i => i != 0)) H
theorem cr_anyT {X : Cx} (hc : X.calm = true) : CallR X (.builtin "any") (rAnyT X.K) := by
  intro pins s σ H vs us Q I r h
  obtain ⟨a, ns, rfl, hs, q⟩ := h
  obtain ⟨its, rv, hl, _⟩ := I.tuple hs
  rw [Vals.ref1 r]
  have hlt : a < s.heap.objs.size := hl.lt
  refine call_any_walk ?_
  refine wpAny_pyIter_tuple (show s.heap.IsTuple a its.toArray from hl) ?_
  refine ⟨_, _, _, _, _, _, fun i => (ns.getD i 0) != 0, rfl, Walks.tuple (A := X.A.in1) (I.ok.hd hc) _ a (Nat.ne_of_lt hlt) its.toArray, ⟨⟨_, Heap.get?_push_size _ rfl, rfl, rfl⟩, (show s.heap.IsTuple a its.toArray from hl).push _⟩, fun i v s' Q' E' hv hq => ?_, fun h' tk hk => ?_⟩
  · have hv' : its[i]? = some v := by simpa using hv
    obtain ⟨n, hn⟩ : ∃ n, ns[i]? = some n := by
      have l := rv.length
      rw [List.length_map] at l
      have : i < its.length := by
        rcases Nat.lt_or_ge i its.length with h | h
        · exact h
        · rw [List.getElem?_eq_none h] at hv'; cases hv'
      exact ⟨_, List.getElem?_eq_getElem (by omega)⟩
    obtain ⟨u, e1, e2⟩ := rv.get (x := V.int n) (i := i) (by rw [List.getElem?_map, hn]; rfl)
    rw [hv'] at e1
    cases e1
    obtain ⟨t, rfl⟩ := e2
    have hq' : Q' ((ns.getD i 0) != 0) s' := hq
    rw [List.getD_eq_getElem?_getD, hn] at hq'
    first | exact PySem.truthy_int hq' | exact PySem.P.truthy_int hq' | exact truthy_int hq'
  · refine ⟨.bl _, H, I.kept fun b o eo => hk b o (fun hmem => ?_) (Heap.get?_push_of_some _ eo), ?_, q⟩
    · rcases List.mem_cons.mp hmem with e1 | hmem
      · exact absurd (e1 ▸ Heap.lt_size eo) (Nat.lt_irrefl _)
      · cases hmem
    · show Value.bool _ = Value.bool _
      have l := rv.length
      rw [List.length_map] at l
      rw [List.size_toArray, ← l]
      have key : ∀ ns : List Int, (List.range ns.length).any (fun i => ns.getD i 0 != 0) = ns.any fun i => i != 0 := fun ns => by
        induction ns with
        | nil => rfl
        | cons b bs ih =>
          rw [List.length_cons, List.range_succ_eq_map, List.any_cons, List.any_map, List.any_cons, ← ih]
          rfl
      rw [key]
/-- a statement that is never reached -/
def tNever : TS := fun _ _ _ => False
theorem ps_never {X : Cx} {st : Stmt} : PS X st tNever := ⟨fun _ _ _ _ _ _ h => h.elim⟩

/-- the heap has grown; tables too -/
structure FrT (H H' : Hp) : Prop where
  keep : ∀ b o, H b = some o → (∀ ps, o ≠ .tbl ps) → H' b = some o
  tabs : ∀ P, TabG H P → TabG H' P
theorem FrT.refl (H : Hp) : FrT H H := ⟨fun _ _ h _ => h, fun _ h => h⟩
theorem FrT.trans {H H' H'' : Hp} (x : FrT H H') (y : FrT H' H'') : FrT H H'' := ⟨fun b o h n => y.keep b o (x.keep b o h n) n, fun P h => y.tabs P (x.tabs P h)⟩
theorem FrT.of {H H' : Hp} (s : Same H H') : FrT H H' := ⟨fun b o h _ => s b o h, fun P h => let ⟨ps, e, t⟩ := h; ⟨ps, s _ _ e, t⟩⟩
theorem FrT.tab {P : Addr} {H H' : Hp} (t : TabG H P) (x : Tabbed P H H') : FrT H H' := by
  refine ⟨fun b o h n => ?_, fun P' h => ?_⟩
  · by_cases e : b = P
    · obtain ⟨ps, e2, _⟩ := t
      rw [e, e2] at h
      cases h
      exact absurd rfl (n ps)
    · rw [x.2 b e]; exact h
  · by_cases e : P' = P
    · rw [e]; exact x.1
    · obtain ⟨ps, e2, e3⟩ := h
      exact ⟨ps, by rw [x.2 P' e]; exact e2, e3⟩
theorem FrT.tup {H H' : Hp} (x : FrT H H') {b : Addr} {xs : List V} (h : H b = some (.tup xs)) : H' b = some (.tup xs) := x.keep b _ h fun ps z => by cases z
theorem FrT.lst {H H' : Hp} (x : FrT H H') {b : Addr} {xs : List V} (h : H b = some (.lst xs)) : H' b = some (.lst xs) := x.keep b _ h fun ps z => by cases z
theorem FrT.ins {H H' : Hp} (x : FrT H H') {b C d : Addr} {fs : List (Str × V)} (h : H b = some (.ins C d fs)) : H' b = some (.ins C d fs) := x.keep b _ h fun ps z => by cases z

theorem gw_rng {n k : Nat} {te : TE} {vs : List Nat} {σ : L2.St} {e : Bool} {Q : VK} {H2 : Hp} (hw : ∀ x, wipe ((wipe σ vs).set k (some x)) vs = wipe σ vs)
    (hs : ∀ (i : Nat) (Kt : VK), i < n → Kt (.bl e) H2 → te ((wipe σ vs).set k (some (.int (i : Int)))) H2 Kt) (hd : Q (.bl e) H2) :
    ∃ W : Nat → Nat → Hp → Prop, (∃ m, W 0 m H2) ∧ GW (Itr 0 n) (gName k) te vs σ e Q W := by
  refine ⟨fun i m H => m = n - i ∧ i ≤ n ∧ H = H2, ⟨n, by simp, Nat.zero_le _, rfl⟩, ?_⟩
  rintro i m H ⟨rfl, hi, rfl⟩
  by_cases hlt : i < n
  · refine .inr ⟨hlt, fun x H' y => ?_⟩
    obtain ⟨e1, y⟩ := y
    subst e1 y
    refine ⟨hw _, ?_⟩
    rw [Int.zero_add]
    exact hs i _ hlt ⟨e, rfl, fun _ => ⟨n - (i + 1), by omega, rfl, hlt, rfl⟩, fun z => absurd rfl z⟩
  · have e1 : i = n := by omega
    subst e1
    exact .inl ⟨Nat.le_refl _, hd⟩
theorem gw_lst {K : PySem.W.Frag} {L : Addr} {xs : List V} {k : Nat} {te : TE} {vs : List Nat} {σ : L2.St} {e : Bool} {Q : VK} {H2 : Hp} (hL : SqL K H2 L xs) (hw : ∀ x, wipe ((wipe σ vs).set k (some x)) vs = wipe σ vs)
    (hs : ∀ (i : Nat) (x : V) (Kt : VK), xs[i]? = some x → Kt (.bl e) H2 → te ((wipe σ vs).set k (some x)) H2 Kt) (hd : Q (.bl e) H2) :
    ∃ W : Nat → Nat → Hp → Prop, (∃ m, W 0 m H2) ∧ GW (Itl K L) (gName k) te vs σ e Q W := by
  refine ⟨fun i m H => m = xs.length - i ∧ i ≤ xs.length ∧ H = H2, ⟨xs.length, by simp, Nat.zero_le _, rfl⟩, ?_⟩
  rintro i m H ⟨rfl, hi, rfl⟩
  by_cases hlt : i < xs.length
  · refine .inr ⟨⟨xs, xs[i], hL, by simp [hlt]⟩, fun x H' y => ?_⟩
    obtain ⟨e1, y⟩ := y
    subst e1
    refine ⟨hw _, ?_⟩
    exact hs i x _ (y xs hL) ⟨e, rfl, fun _ => ⟨xs.length - (i + 1), by omega, rfl, hlt, rfl⟩, fun z => absurd rfl z⟩
  · have e1 : i = xs.length := by omega
    subst e1
    exact .inl ⟨⟨xs, hL, Nat.le_refl _⟩, hd⟩
theorem gw_tup {K : PySem.W.Frag} {L : Addr} {xs : List V} {k : Nat} {te : TE} {vs : List Nat} {σ : L2.St} {e : Bool} {Q : VK} {H2 : Hp} (hL : SqT K H2 L xs) (hw : ∀ x, wipe ((wipe σ vs).set k (some x)) vs = wipe σ vs)
    (hs : ∀ (i : Nat) (x : V) (Kt : VK), xs[i]? = some x → Kt (.bl e) H2 → te ((wipe σ vs).set k (some x)) H2 Kt) (hd : Q (.bl e) H2) :
    ∃ W : Nat → Nat → Hp → Prop, (∃ m, W 0 m H2) ∧ GW (Itt K L) (gName k) te vs σ e Q W := by
  refine ⟨fun i m H => m = xs.length - i ∧ i ≤ xs.length ∧ H = H2, ⟨xs.length, by simp, Nat.zero_le _, rfl⟩, ?_⟩
  rintro i m H ⟨rfl, hi, rfl⟩
  by_cases hlt : i < xs.length
  · refine .inr ⟨⟨xs, xs[i], hL, by simp [hlt]⟩, fun x H' y => ?_⟩
    obtain ⟨e1, y⟩ := y
    subst e1
    refine ⟨hw _, ?_⟩
    exact hs i x _ (y xs hL) ⟨e, rfl, fun _ => ⟨xs.length - (i + 1), by omega, rfl, hlt, rfl⟩, fun z => absurd rfl z⟩
  · have e1 : i = xs.length := by omega
    subst e1
    exact .inl ⟨⟨xs, hL, Nat.le_refl _⟩, hd⟩
/-- .. for a in range(n) for b in range(a) -/
theorem gw2_rng {n ka kb : Nat} {te : TE} {vs : List Nat} {σ : L2.St} {e : Bool} {Q : VK} {H2 : Hp} (hn : n ≤ 100000) (h2 : ∀ x, ((wipe σ vs).set ka (some x))[ka]? = some (some x)) (w1 : ∀ x, wipe ((wipe σ vs).set ka (some x)) vs = wipe σ vs)
    (w2 : ∀ y x, wipe ((wipe ((wipe σ vs).set ka (some y)) [kb]).set kb (some x)) [kb] = wipe ((wipe σ vs).set ka (some y)) [kb])
    (hs : ∀ (i j : Nat) (Kt : VK), i < n → j < i → Kt (.bl e) H2 → te ((wipe ((wipe σ vs).set ka (some (.int (i : Int)))) [kb]).set kb (some (.int (j : Int)))) H2 Kt) (hd : Q (.bl e) H2) :
    ∃ W : Nat → Nat → Hp → Prop, (∃ m, W 0 m H2) ∧ GW2 (Itr 0 n) (gName ka) (iRng1 (tCons (tVar ka) tNil)) (gName kb) te vs [kb] σ e Q W := by
  have step : ∀ i, i < n → (n - i) * (n + 1) = (n - (i + 1)) * (n + 1) + n + 1 := fun i hi => by
    have : n - i = (n - (i + 1)) + 1 := by omega
    rw [this, Nat.succ_mul]
    omega
  refine ⟨fun i m H => m = (n - i) * (n + 1) ∧ i ≤ n ∧ H = H2, ⟨_, rfl, Nat.zero_le _, rfl⟩, ?_⟩
  rintro i m H ⟨rfl, hi, rfl⟩
  by_cases hlt : i < n
  · have st := step i hlt
    refine .inr ⟨hlt, fun x HH y => ?_⟩
    obtain ⟨e1, y⟩ := y
    subst e1 y
    refine ⟨w1 _, ?_⟩
    rw [Int.zero_add]
    refine ⟨_, h2 _, _, rfl, by omega, by omega, ?_⟩
    rw [Int.toNat_natCast]
    refine ⟨fun j k H' => k = (n - i) * (n + 1) - 1 - j ∧ j ≤ i ∧ H' = HH, ⟨_, ?_, rfl, Nat.zero_le _, rfl⟩, ?_⟩
    · omega
    rintro j k H' ⟨rfl, hj, rfl⟩
    by_cases hlj : j < i
    · refine .inr ⟨hlj, fun x H4 y => ?_⟩
      obtain ⟨e1, y⟩ := y
      subst e1 y
      refine ⟨w2 _ _, ?_⟩
      rw [Int.zero_add]
      exact hs i j _ hlt hlj ⟨e, rfl, fun _ => ⟨(n - i) * (n + 1) - 1 - (j + 1), by omega, rfl, hlj, rfl⟩, fun z => absurd rfl z⟩
    · have e1 : j = i := by omega
      subst e1
      exact .inl ⟨Nat.le_refl _, (n - (j + 1)) * (n + 1), by omega, by omega, rfl, hlt, rfl⟩
  · have e1 : i = n := by omega
    subst e1
    exact .inl ⟨Nat.le_refl _, hd⟩
/-- [e for x in l], l a list that the turns leave as it is -/
theorem lc_tupR {K : PySem.W.Frag} {L : Addr} {xs : List V} {k : Nat} {te : TE} {vs : List Nat} {σ : L2.St} {H1 : Hp} {D : Addr} {Qd : Hp → Prop} (R : Nat → V → Hp → Prop) (hD : H1 D = none) (hL : SqT K H1 L xs) (hLs : ∀ H, Same H1 H → SqT K H L xs)
    (NR : ∀ i v H H', But D H H' → R i v H → R i v H') (hn : xs.length ≤ 100000) (hw : ∀ x, wipe ((wipe σ vs).set k (some x)) vs = wipe σ vs)
    (hs : ∀ (i : Nat) (x : V) (H : Hp) (acc : List V) (Kt : VK), xs[i]? = some x → Same H1 H → H D = some (.lst acc) → (∀ y H4, Same H H4 → R i y H4 → Kt y H4) → te ((wipe σ vs).set k (some x)) H Kt)
    (hd : ∀ H rows, Same H1 H → H D = some (.lst rows) → rows.length = xs.length → (∀ (i : Nat) v, rows[i]? = some v → R i v H) → Qd H) :
    ∃ W : Nat → Nat → Hp → Prop, (∃ m, W 0 m (upd H1 D (.lst []))) ∧ ∀ i m H, W i m H →
      ((Itt K L).stop i H ∧ Qd H) ∨ ((Itt K L).go i H ∧ ∃ Nx : Hp → Prop, (∀ H', Nx H' → ∃ m', m' < m ∧ W (i + 1) m' H') ∧ ∀ x H', (Itt K L).yld i H x H' → gName k x (wipe σ vs) H' fun σ2 H2 => wipe σ2 vs = wipe σ vs ∧ tYes σ2 H2 fun b H3 =>
        if b = true then te σ2 H3 fun y H4 => ∃ acc, H4 D = some (.lst acc) ∧ acc.length < sizeLine ∧ Nx (upd H4 D (.lst (acc ++ [y]))) else Nx H3) := by
  refine lc_tup (fun i H => Same H1 H ∧ ∃ rows, H D = some (.lst rows) ∧ rows.length = i ∧ ∀ (j : Nat) v, rows[j]? = some v → R j v H) ⟨same_new (Same.refl _) hD, [], upd_same, rfl, fun j v e => by simp at e⟩ (fun i H _ ⟨s1, _⟩ => hLs H s1) (fun i x H hx ⟨s1, rows, e1, e2, e3⟩ => ?_) (fun H ⟨s1, rows, e1, e2, e3⟩ => hd H rows s1 e1 e2 e3)
  refine ⟨hw _, ?_⟩
  refine yes_then ?_
  refine iteT ?_
  have hi : i < xs.length := by
    rcases Nat.lt_or_ge i xs.length with h | h
    · exact h
    · rw [List.getElem?_eq_none h] at hx; cases hx
  refine hs i x H rows _ hx s1 e1 fun y H4 s4 r4 => ⟨rows, s4 _ _ e1, ?_, same_but hD (fun b o e => s4 b o (s1 b o e)) but_app, rows ++ [y], upd_same, by rw [List.length_append, e2]; rfl, fun j v e => ?_⟩
  · rw [e2]
    exact Nat.lt_of_lt_of_le hi (Nat.le_trans hn (by decide))
  · by_cases c : j < rows.length
    · rw [List.getElem?_append_left c] at e
      exact NR _ _ _ _ (But.trans (But.of s4) but_app) (e3 j v e)
    · rw [List.getElem?_append_right (by omega)] at e
      have hj : j = i := by
        have : j - rows.length < [y].length := by
          rcases Nat.lt_or_ge (j - rows.length) [y].length with h | h
          · exact h
          · rw [List.getElem?_eq_none h] at e; cases e
        have h1 : [y].length = 1 := rfl
        omega
      subst hj
      rw [e2, Nat.sub_self] at e
      have : y = v := by simpa using e
      subst this
      exact NR _ _ _ _ but_app r4
end Tb

set_option Elab.async false
set_option linter.all false
set_option maxRecDepth 100000
set_option maxHeartbeats 4000000
/-! An own error class below an own error class over ValueError, whose __init__ says super().__init__(..): its __init__ as a def. -/
namespace ExS
open PySem PySem.Spec PyProof.Rows L2 NdefX

/-- what the written part says of the class at C, the code object at cda and the cell at cc of its __init__ -/
structure SupC (P : Program) (K : PySem.W.Frag) (C cda cc : Addr) (qual : Str) : Prop where
  ox : OexC K C
  sup : PySem.W.ks_superIn K C C "__init__" = some (some (.builtin "ValueError.__init__"))
  vB : PySem.W.subIn K (.ref C) (.type "ValueError") = some true
  own : PySem.W.mroIn K C (.ref C) = some true
  opq : PySem.W.nsIn K cStatics "thirdparty.any" = some none
  cell : ∃ cl cld csl, K.lookup cc = some ⟨cl, cld, .cell (some (.ref C)), csl⟩
  code : ∃ (ccl : Value) (cdd : Option Addr) (vs : Array Value) (ccs : Array (Option Value)) (file : Str) (tf : Tok), K.lookup cda = some ⟨ccl, cdd, .fields vs, ccs⟩ ∧ vs[2]? = some (.str file tf) ∧ ((P.main.file : Str) == file) = true
  cin : PySem.W.codeIn K (.ref cda) qual = true
  top : (P.main.scope.names.lookup ("super" : Str)).isSome = false

section
variable {P : Program} {w : World} {K : PySem.W.Frag} {mg : Str → Option Value} {base : Heap}
/-- super().__init__(..) called: the method-wrapper at u of the exception at a -/
theorem call_sup {X : Cx} {pins : List (Addr × Obj)} {σ : L2.St} {H : Hp} {s : Shared} {a u C : Addr} {us : List Value} {A : Around} {E : Value → Shared → Prop} {Q : Value → Shared → Prop} (T : OexC X.K C) (I : Inv X pins σ H s) (e : H a = some (exo a C none))
    (hu : s.heap.get? u = some (PySem.W.kxs_mw "ValueError.__init__" a)) (hl : us.length ≤ sizeLine) (h : ∀ s', Inv X pins σ H s' → Q .none s') :
    wpAny (model X.prog X.w) A (call (.ref u) us) Q E s := by
  obtain ⟨nm, q, N, bs, bm, sn, sub, ab, col, dd, k0, k1, k2, k3, k5, hC, hbm⟩ := T.cls
  obtain ⟨t1, ho⟩ := exo_at I.hok e
  have hC' := I.kIn _ _ hC
  obtain ⟨hp, g, d, t, os⟩ := s
  refine wpAny_call (codeAny_of_tree ?_)
  show wpAny _ A.in1 (callAny (.ref u) ⟨us, []⟩) _ _ _
  simp only [callAny]
  refine wpAny_bind (wpAny_load hu ?_)
  simp only [PySem.W.kxs_mw, show (Value.type "method-wrapper" == Value.type "method" || Value.type "method-wrapper" == Value.type "builtin_function_or_method" || Value.type "method-wrapper" == Value.type "method-wrapper") = true by decide, if_true]
  refine PySem.W.KFB.if_so (by decide) ?_
  refine wpAny_bind (PySem.W.check_bound_init F.excBase_ValueError.toExcCallFacts hC' ho rfl ?_)
  refine wpAny_bind (wpAny_pure (wpAny_pure ?_))
  refine ⟨plainId_quiet F.excBase_ValueError.init.plain _, codeAny_builtin F.excBase_ValueError.initEntry ?_⟩
  refine PySem.W.exc_init_tree (cls := .ref C) (t0 := t1) (dv := none) (c2 := .none) (c3 := .none) (b4 := .bool false) ho hl fun h' k hx _ => ?_
  have J := I.write (t' := t) (x := a) (e := a) (o := exo a C none) (by rw [e]; exact True.intro) (.inl rfl) k ⟨_, hx⟩ (exo_ok hx)
  have eu : upd H a (exo a C none) = H := by
    funext b
    by_cases hb : b = a
    · rw [hb, upd_same, e]
    · rw [upd_ne hb]
  rw [eu] at J
  exact h _ J
/-- its __init__ as a def: super().__init__(arg); self.f = .. -/
theorem fn_sup {CX : CXT} {k : Nat} {f C cda cc : Addr} {name qual : Str} {params : Arguments} {scope : Scope} {dV kV doc pm ct oc : Value} {an od : Option Addr} {osl : Array (Option Value)} {p0 p1 p2 p3 p4 : Pos} {arg : Expr} {rest : List Stmt} {N : List Str} {sp : Sp} {ar : Arg}
    (S : SupC P K C cda cc qual) (hmg : mg "super" = none)
    (lk : K.lookup f = some ⟨oc, od, .func (PySem.W.fnX name qual params (.Expr (.Call (.Attribute (.Call (.Name "super" p0) [] [] p1) "__init__" p2) [arg] [] p3) p4 :: rest) scope [("__class__", cc)] dV kV doc pm an (.ref cda) ct), osl⟩)
    (NS : NScope N ["self", "code"] ["__class__"] scope) (hsup : scope.names.lookup ("super" : Str) = some .globalImplicit) (hp : (params.posonlyargs ++ params.args).head? = some ar) (har : ar.arg = "self")
    (len : ∀ vs H Q E, sp vs H Q E → vs.length = 2) {pl : Env → Sem Bool} (hev : ∀ env : Env, eval (.Call (.Attribute (.Call (.Name "super" p0) [] [] p1) "__init__" p2) [arg] [] p3) env = (do
      let ov ← attributeBase (.Call (.Name "super" p0) [] [] p1) "__init__" env (eval (.Call (.Name "super" p0) [] [] p1) env)
      standAt p2.atName
      let (f, first) ← holding [ov] (getMethod ov "__init__" (pl env))
      callWith p3 f first (backTo p3 (starEach [arg] env)) [])) (hsw : ∀ env : Env, swapsWith (.Call (.Attribute (.Call (.Name "super" p0) [] [] p1) "__init__" p2) [arg] [] p3) none p4.line env = pure false)
    (hst : ∀ env : Env, starEach [arg] env = (false, eval arg env) :: starEach [] env)
    (hbody : ∀ (A : Around) (outer : List Env) (s : Shared) (H : Hp) (vs : List V) (Q : VK) (E : XK) (X : Cx), X = ncx CX P w K mg base N ⟨name, qual, params, [], scope, [("__class__", cc)], cda⟩ f A outer s H E → Room k X.A → sp vs H Q E →
      ∃ (a : Addr) (c : V) (te : TE) (t2 : TS), vs = [.ref a, c] ∧ H a = some (exo a C none) ∧ PE X arg te ∧ PSs X rest t2 ∧ te (startF N vs [some (.ref C)]) H fun v H1 => [v].length ≤ 1000 ∧ H1 a = some (exo a C none) ∧ t2 { nx := fun _ H' => Q .non H', rt := Q } (startF N vs [some (.ref C)]) H1) :
    FnOk P w K mg base CX (k + 1) f (PySem.W.fnX name qual params (.Expr (.Call (.Attribute (.Call (.Name "super" p0) [] [] p1) "__init__" p2) [arg] [] p3) p4 :: rest) scope [("__class__", cc)] dV kV doc pm an (.ref cda) ct) ["self", "code"] sp := by
  refine ⟨len, fun A outer s H args us vs Q E hr e0 hb r hsp => ?_⟩
  have hl := len _ _ _ _ hsp
  have KX : K.In s.heap := e0.mod.kin.keeps fun b o e => (e0.bs b o e).1
  have lim : s.heap.NoLimit := e0.mod.nolimit.keeps fun b o e => (e0.bs b o e).1
  refine PySem.ks_codeAny_call_defAt hr.depth (KX _ _ lk) rfl lim (PySem.W.codeRec_of KX S.cin) rfl hb NS.nocell (fun ⟨n, _⟩ hy => NS.par n (List.of_mem_zip hy).1) (fun h₁ hns kp => ?_) NS.co NS.gen NS.kind
  obtain ⟨cl, cld, csl, hcell⟩ := S.cell
  have hH : H cc = none := (e0.bs cc _ (e0.mod.kin _ _ hcell)).2
  have C1 : CellsAt [("__class__", cc)] ["__class__"] [some (V.ref C)] s.heap H := by
    refine ⟨rfl, fun y c e => ?_, fun x y c e1 e2 => ?_, fun i y e => ?_⟩
    · have : c = cc := by
        unfold List.lookup at e
        split at e
        · exact (Option.some.inj e).symm
        · cases e
      subst this
      exact ⟨hH, _, _, KX _ _ hcell, rfl⟩
    · have key : ∀ z : Str, List.lookup z [(("__class__" : Str), cc)] = some c → z = ("__class__" : Str) := fun z e => by
        unfold List.lookup at e
        split at e
        · rename_i h
          exact beq_iff_eq.mp h
        · cases e
      rw [key x e1, key y e2]
    · cases i with
      | zero =>
        have : y = ("__class__" : Str) := by simpa using e.symm
        subst this
        refine ⟨cc, by simp [List.lookup], fun v hv => ⟨.ref C, ?_, _, KX _ _ hcell, rfl⟩⟩
        have : v = .ref C := by simpa using hv.symm
        subst this
        rfl
      | succ i => simp at e
  have I := inv_startN (CX := CX) (f := f) (E := E) (F := ⟨name, qual, params, [], scope, [("__class__", cc)], cda⟩) (tk := s.toks + ((["self", "code"] : List Str).zip us).length) NS hr.hd e0 hl r C1 hns kp
  obtain ⟨a, c, te, t2, ev, ha, pe, ps, hq⟩ := hbody A outer s H vs Q E _ rfl (hr.deeper _) hsp
  show PySem.wpAt (model P w) (A.deeper (envF ⟨name, qual, params, [], scope, [("__class__", cc)], cda⟩ f s.heap.objs.size)) (.func _ (envF ⟨name, qual, params, [], scope, [("__class__", cc)], cda⟩ f s.heap.objs.size)) (execs _ (envF ⟨name, qual, params, [], scope, [("__class__", cc)], cda⟩ f s.heap.objs.size)) _ _ _
  have hint : interactive (envF ⟨name, qual, params, [], scope, [("__class__", cc)], cda⟩ f s.heap.objs.size) = false := by
    show (scope.kind == .module && _) = false
    rw [NS.kind]
    rfl
  refine PySem.ks_wpAt_execs_cons (PySem.ks_wpAt_Expr_any (PySem.ks_wpAt_MethodCall ?_ (hev _)) hint (hsw _))
  obtain ⟨ccl, cdd, fvs, ccs, file, tf, hcode, hfv, hfile⟩ := S.code
  have KX1 : K.In h₁ := KX.keeps kp
  obtain ⟨nm, q, Nd, bs, bm, sn, sub, ab, col, dd, k0, k1, k2, k3, k5, hC, hbm⟩ := S.ox.cls
  have hC1 := KX1 _ _ hC
  have hcls : PySem.W.clsIn K C = some { name := nm, bases := bs, mro := .ref C :: bm, ns := Nd, qualname := q, hasDict := true, slotNames := sn, subclasses := sub, abstract := ab, collection := col, hasDel := false } := by unfold PySem.W.clsIn; rw [hC] <;> rfl
  have hkc : scope.names.lookup ("__class__" : Str) = some .free := NS.frk _ (by simp)
  have hka : scope.names.lookup ("self" : Str) = some .local := NS.par _ (by simp)
  refine PySem.ks_wpAt_super_base (env := envF ⟨name, qual, params, [], scope, [("__class__", cc)], cda⟩ f s.heap.objs.size) (ar := ar) (file := file) (tf := tf) hsup hkc (by decide) rfl (KX1 _ _ lk) rfl hp rfl (KX1 _ _ hcode) rfl hfv hfile S.top ?_
  obtain ⟨mb, hb1, hb2⟩ := e0.mod.blt
  have bk1 : ∀ b o, base.get? b = some o → h₁.get? b = some o := fun b o e => kp b o (e0.bs b o e).1
  refine PySem.W.ks_loadName_global NS.kind hsup (Calls.loadGlobal_builtin (e0.mod.glob.keeps bk1) hmg (hb1.keeps bk1) ((hb2 _ (by decide)).trans PyProof.Rows.Boot.«super») ⟨rfl, ?_⟩)
  refine wpAny_loadName_free NS.kind hkc rfl ⟨_, KX1 _ _ hcell, rfl⟩ ?_
  obtain ⟨t1, hoe⟩ := exo_at (P := P) (w := w) (H := H) (h := h₁) I.hok ha
  obtain ⟨m, hnsm, hloc⟩ := I.loc
  have hself : m ("self" : Str) = some (.ref a) := by
    obtain ⟨u, ru, hu⟩ := hloc 0 ("self" : Str) (.ref a) (by
      have z := congrArg (fun l : List Str => l[0]?) NS.pre
      have z2 : N[0]? = some ("self" : Str) := by simpa [List.getElem?_take] using z
      exact z2) (by rw [ev]; rfl) (.inl hka)
    obtain rfl : u = Value.ref a := ru
    rcases hu with ⟨_, z⟩ | ⟨z, _⟩
    · exact z
    · rcases z with z | z
      · exact absurd (show some NameKind.local = some NameKind.cell from hka.symm.trans z) (by decide)
      · exact absurd (show some NameKind.local = some NameKind.free from hka.symm.trans z) (by decide)
  rw [har]
  refine wpAny_loadName_local NS.kind hka hnsm hself ?_
  refine PySem.ks_wpAny_isType_cls hC1 rfl ⟨rfl, ?_⟩
  refine PySem.ks_wpAny_call_super hC1 rfl hoe rfl (fun c e => by cases e) (PySem.W.looks_mroIn KX1 S.own) (fun h₂ e2 k2 => ?_)
  have I2 := I.kept (t' := s.toks + ((["self", "code"] : List Str).zip us).length) k2
  have KX2 : K.In h₂ := KX1.keeps k2
  have hoe2 := k2 _ _ hoe
  have hI2 : PySem.W.Looks (model P w) h₂ (isInstance (.ref a) (.type "ValueError")) true := (show PySem.W.InstAt h₂ a _ C none from ⟨hoe2, rfl, rfl, trivial⟩).type.andThen (PySem.W.looks_subIn KX2 S.vB)
  have hne : a ≠ C := fun z => by
    rw [z, hC1] at hoe
    have z2 := congrArg Obj.data (Option.some.inj hoe)
    cases z2
  have hsupE : PySem.W.alongIn K "__init__" (((Value.ref C :: bm).dropWhile (· != .ref C)).drop 1) = some (some (.builtin "ValueError.__init__")) := by
    have z := S.sup
    unfold PySem.W.ks_superIn at z
    rw [hcls] at z
    exact z
  refine PySem.W.kxs_getMethod PySem.W.kxs_ValueError e2 (PySem.W.looks_opaque KX2 S.opq) (l₀ := .ref C :: bm) (fun A Q E s k q => wpAny_bind ((PySem.W.looks_clsIn KX2 hcls) A _ E s k (wpAny_pure q))) rfl KX2 hsupE hI2 hne (by decide) ?_
  have k3 : ∀ b o, h₂.get? b = some o → (h₂.push (PySem.W.kxs_mw "ValueError.__init__" a)).get? b = some o := fun b o e => Heap.get?_push_of_some _ e
  have I3 := I2.kept (t' := s.toks + ((["self", "code"] : List Str).zip us).length + 1) k3
  have hu : (h₂.push (PySem.W.kxs_mw "ValueError.__init__" a)).get? h₂.objs.size = some (PySem.W.kxs_mw "ValueError.__init__" a) := Heap.get?_push_size _ rfl
  have I4 := I3.pins_of (pins' := [(h₂.objs.size, PySem.W.kxs_mw "ValueError.__init__" a)]) fun p hp => by
    obtain rfl := List.mem_singleton.mp hp
    refine ⟨hu, I2.hok.fresh (Nat.le_refl _), Nat.ne_of_gt I2.lt, fun z => I2.nofs (Nat.le_refl _) z, fun v z => by cases z⟩
  show wpAny _ _ (callWith p3 (.ref h₂.objs.size) [] (backTo p3 (starEach [arg] _)) []) _ _ _
  rw [hst]
  refine PySem.W.kxs_callWith (i := "ValueError.__init__") (x := a) rfl (Calls.evalArgs_plain ?_)
  have hpa := (pa_cons pe pa_nil (hst _)).run p3 _ _ _ _ (fun vs' H1 => vs'.length ≤ 1000 ∧ H1 a = some (exo a C none) ∧ t2 { nx := fun _ H' => Q .non H', rt := Q } (startF N vs [some (.ref C)]) H1) I4 hq
  have est : starEach [arg] (ncx CX P w K mg base N ⟨name, qual, params, [], scope, [("__class__", cc)], cda⟩ f A outer s H E).env = _ := hst _
  rw [est] at hpa
  let env1 := envF ⟨name, qual, params, [], scope, [("__class__", cc)], cda⟩ f s.heap.objs.size
  let E1 := (ncx CX P w K mg base N ⟨name, qual, params, [], scope, [("__class__", cc)], cda⟩ f A outer s H E).xe
  have hpb : wpAny (model P w) (A.deeper env1) (spliced (backTo p3 ((false, eval arg env1) :: starEach [] env1))) (AP (ncx CX P w K mg base N ⟨name, qual, params, [], scope, [("__class__", cc)], cda⟩ f A outer s H E) [(h₂.objs.size, PySem.W.kxs_mw "ValueError.__init__" a)] (startF N vs [some (.ref C)]) (fun vs' H1 => vs'.length ≤ 1000 ∧ H1 a = some (exo a C none) ∧ t2 { nx := fun _ H' => Q .non H', rt := Q } (startF N vs [some (.ref C)]) H1)) E1 ⟨h₂.push (PySem.W.kxs_mw "ValueError.__init__" a), s.gens, s.drawn, s.toks + ((["self", "code"] : List Str).zip us).length + 1, s.os⟩ := hpa
  show wpAny (model P w) (A.deeper env1) (spliced (backTo p3 ((false, eval arg env1) :: starEach [] env1))) _ _ ⟨h₂.push (PySem.W.kxs_mw "ValueError.__init__" a), s.gens, s.drawn, s.toks + ((["self", "code"] : List Str).zip us).length + 1, s.os⟩
  refine wpAny_mono hpb (fun us' s1 h1 => ?_) fun e s' hs => hs
  obtain ⟨vs', H1, I5, r5, hl5, ha5, q5⟩ := h1
  have hu5 := (I5.pin (h₂.objs.size, PySem.W.kxs_mw "ValueError.__init__" a) (List.mem_append_right _ (List.mem_singleton.mpr rfl))).1
  refine ⟨hu5, ?_⟩
  refine call_sup (us := us') S.ox I5 ha5 hu5 (by rw [← r5.length, sizeLine_eq]; omega) fun s2 J => ?_
  refine wpAt_of_wpAny ?_
  refine wpAny_mono (ps.run [] s2 _ H1 _ (J.pins_of fun p hp => nomatch hp) q5) (fun fl s' hs => ?_) fun e s' hs => hs
  have fin : ∀ {σ' : L2.St} {H' : Hp} {v : V} {u : Value}, Inv (ncx CX P w K mg base N ⟨name, qual, params, [], scope, [("__class__", cc)], cda⟩ f A outer s H E) [] σ' H' s' → L2.RelV v u → Q v H' → CE outer P w H s Q u s' :=
    fun {σ' H' v u} J rv q => ⟨v, H', J.os, J.bare, J.base, J.hok, rv, q⟩
  cases fl with
  | ret u =>
    obtain ⟨v, σ', H', J, rv, q⟩ := hs
    exact fin J rv q
  | next =>
    obtain ⟨σ', H', J, q⟩ := hs
    exact fin (v := V.non) (u := Value.none) J rfl q
  | brk =>
    obtain ⟨_, _, _, q⟩ := hs
    exact False.elim q
  | cont =>
    obtain ⟨_, _, _, q⟩ := hs
    exact False.elim q
/-! ### C(text) raised -/
/-- the promise of such an __init__: self.code = code -/
def spXI (C : Addr) : Sp := fun vs H Q _ => ∃ (a : Addr) (c : Str), vs = [.ref a, .str c] ∧ c.length ≤ 1000 ∧ H a = some (exo a C none) ∧ ∀ dx, H dx = none → dx ≠ a → Q .non (upd (upd H dx (exd dx [("code", .str c)])) a (exo a C (some dx)))
structure RaiX (P : Program) (w : World) (K : PySem.W.Frag) (mg : Str → Option Value) (base : Heap) (k : Nat) (x : Str) (C : Addr) : Prop where
  ex : ∃ (f : Addr) (fd : FuncData), OexC K C ∧ PySem.W.findIn K (.ref C) "__init__" = some (some (.ref f)) ∧ PySem.W.typeIn K (.ref f) = some (.type "function") ∧ FnOk P w K mg base (L2.CX P w) k f fd ["self", "code"] (spXI C) ∧ Binds K fd ["self", "code"] [] ∧ mg x = some (.ref C)
def tRai (C : Addr) (t : TA) : L2.St → Hp → XK → Prop := fun σ H Q => t σ H fun vs H1 => ∃ c : Str, vs = [.str c] ∧ c.length ≤ 1000 ∧ ∀ d, H1 d = none → Q (.ref C) (some d) (upd H1 d (.xd [("code", .str c)]))
theorem pmk_rai {X : Cx} {k j : Nat} {x : Str} {C : Addr} {e : Expr} {es : List Expr} {t : TA} {p pos : Pos} (R : RaiX X.prog X.w X.K X.mg X.base k x C) (hr : Room j X.A) (hk : k + 1 ≤ j) (hg : Gl X x) (ha : PA X (e :: es) t)
    (hdb : (x == ("__debug__" : Str)) = false := by decide) (he : starEach (e :: es) X.env = (false, eval e X.env) :: starEach es X.env := by rfl) (hpl : (backTo pos (starEach es X.env)).any (·.1) = false := by rfl) :
    PMk X (.Call (.Name x p) (e :: es) [] pos) (tRai C t) := by
  obtain ⟨f, fd, T, iC, tI, F1, b, hm⟩ := R.ex
  intro pins s σ H Q I h
  have ha' : PA X (e :: es) (fun σ H Q' => ∃ Q, t σ H Q ∧ ∀ vs H1, Q vs H1 → Q' vs H1) :=
    ⟨fun pos pins s σ H Q' I ⟨Q, h, m⟩ => thn (ha.run pos pins s σ H Q I h) fun us s1 ⟨vs, H1, I1, r, q⟩ => ⟨vs, H1, I1, r, m _ _ q⟩⟩
  refine pmk_oex (sp := spXI C) (dvs := []) (CX := L2.CX X.prog X.w) T iC tI F1 (hr.mono hk) b .nil (fun _ _ _ _ _ _ _ c => ?_) hg hm ha' hdb he hpl pins s σ H Q I ⟨_, h, fun vs H1 q => ?_⟩
  · obtain ⟨_, _, _, _, _, _, _, _, _, _, _, _, z⟩ := c
    exact z.elim
  · obtain ⟨c, rfl, hc, q⟩ := q
    refine ⟨by simp, fun a ha0 => ⟨a, c, rfl, hc, upd_same, fun dx hd hda => ⟨rfl, dx, [("code", .str c)], upd_same, ?_, ?_, ?_⟩⟩⟩
    · rw [upd_ne hda, upd_same]
    · rw [upd_ne hda] at hd
      exact hd
    · rw [upd_ne hda] at hd
      have e : upd (del (upd (upd (upd H1 a (exo a C none)) dx (exd dx [("code", .str c)])) a (exo a C (some dx))) a) dx (.xd [("code", .str c)]) = upd H1 dx (.xd [("code", .str c)]) := by
        funext b
        by_cases h1 : b = dx
        · rw [h1, upd_same, upd_same]
        · rw [upd_ne h1, upd_ne h1]
          by_cases h2 : b = a
          · rw [h2, del_same, ha0]
          · rw [del_ne h2, upd_ne h2, upd_ne h1, upd_ne h2]
      rw [e]
      exact q dx hd
end
/-! ### isinstance(e, C) of what a suite holds, with or without a dict -/
def rIsEX (K : PySem.W.Frag) (a : Addr) (cls : Value) (d : Option Addr) : List V → Hp → VK → Prop := fun xs H Q => ∃ D, cls = .ref D ∧ ExcC K D ∧ (d = none ∨ ∃ (dd : Addr) (fs : List (Str × V)), d = some dd ∧ H dd = some (.xd fs)) ∧ rIsE K D a xs H Q
theorem call_isEX {X : Cx} {a : Addr} {oe : Obj} {pn : List (Addr × Obj)} {cls : Value} {d : Option Addr} (hz : Zc cls d oe) (hf : ∃ vs, oe.data = .fields vs) : CallR (X.suite a ((a, oe) :: pn)) (.builtin "isinstance") (rIsEX X.K a cls d) := by
  intro pins s σ H xs us Q I r h
  obtain ⟨D, rfl, C, hd, h⟩ := h
  rcases hd with rfl | ⟨dd, fs, rfl, ea⟩
  · exact call_isE C hz hf pins s σ H xs us Q I r h
  obtain ⟨c, cv, b, rfl, hcv, e, q⟩ := h
  cases r with
  | cons rx rr =>
    cases rr with
    | cons rt rr =>
      cases rr
      cases rx
      have ec := hcv _ rt
      subst ec
      obtain ⟨hget, _⟩ := I.pin (a, oe) (List.mem_append.mpr (.inl List.mem_cons_self))
      obtain ⟨vs, hv⟩ := hf
      have hx : ObjOk X.prog X.w H s.heap dd (.xd fs) := I.hok dd _ ea
      obtain ⟨mA, hns, hr⟩ := hx
      obtain ⟨od, ho, hl⟩ := lookIn_ns hns
      have J : PySem.W.InstAt s.heap a oe D (some od) := by
        obtain ⟨oc, odx, oda, osl⟩ := oe
        obtain ⟨h1, h2⟩ := hz
        dsimp only at h1 h2 hv
        subst h1 h2 hv
        exact ⟨hget, rfl, rfl, ho⟩
      have hcl : (PySem.W.clsIn X.K D).isSome = true := by
        obtain ⟨cd, hc, _⟩ := PySem.W.any_some C.hd
        rw [hc]
        rfl
      exact PySem.W.kia_one (PySem.W.kitx_exc hcl C.hg C.hk C.hs C.ha C.hn C.ht C.hm) I.kIn J e (fun z => nomatch z) fun tk => ⟨.bl b, H, I.kept (t' := tk) fun _ _ z => z, rfl, q⟩
end ExS

set_option Elab.async false
set_option linter.all false
set_option maxRecDepth 100000
set_option maxHeartbeats 4000000
/-! all(..), any(..) whose turns may end it; tables of any form. -/
namespace Tb
open PySem PySem.Spec PyProof.Rows L2 Ew EwG GxR
theorem ne_not {a e : Bool} (h : a ≠ e) : a = !e := by cases a <;> cases e <;> simp_all
theorem gwb_rng {n k : Nat} {te : TE} {vs : List Nat} {σ : L2.St} {e : Bool} {Q : VK} {H2 : Hp} (b : Nat → Bool) (hw : ∀ x, wipe ((wipe σ vs).set k (some x)) vs = wipe σ vs)
    (hs : ∀ (i : Nat) (Kt : VK), i < n → Kt (.bl (b i)) H2 → te ((wipe σ vs).set k (some (.int (i : Int)))) H2 Kt) (hd : (∀ i, i < n → b i = e) → Q (.bl e) H2) (hx : ∀ i, i < n → b i = (!e) → Q (.bl (!e)) H2) :
    ∃ W : Nat → Nat → Hp → Prop, (∃ m, W 0 m H2) ∧ GW (Itr 0 n) (gName k) te vs σ e Q W := by
  refine ⟨fun i m H => m = n - i ∧ i ≤ n ∧ H = H2 ∧ ∀ j, j < i → b j = e, ⟨n, by simp, Nat.zero_le _, rfl, fun j h => absurd h (Nat.not_lt_zero _)⟩, ?_⟩
  rintro i m H ⟨rfl, hi, rfl, ha⟩
  by_cases hlt : i < n
  · refine .inr ⟨hlt, fun x H' y => ?_⟩
    obtain ⟨e1, y⟩ := y
    subst e1 y
    refine ⟨hw _, ?_⟩
    rw [Int.zero_add]
    refine hs i _ hlt ⟨b i, rfl, fun z => ⟨n - (i + 1), by omega, rfl, hlt, rfl, fun j hj => ?_⟩, fun z => ?_⟩
    · by_cases h : j < i
      · exact ha j h
      · rw [show j = i by omega]; exact z
    · have z' := ne_not z
      rw [z']
      exact hx i hlt z'
  · have e1 : i = n := by omega
    subst e1
    exact .inl ⟨Nat.le_refl _, hd ha⟩
theorem gwb_tup {K : PySem.W.Frag} {L : Addr} {xs : List V} {k : Nat} {te : TE} {vs : List Nat} {σ : L2.St} {e : Bool} {Q : VK} {H2 : Hp} (b : Nat → Bool) (hL : SqT K H2 L xs) (hw : ∀ x, wipe ((wipe σ vs).set k (some x)) vs = wipe σ vs)
    (hs : ∀ (i : Nat) (x : V) (Kt : VK), xs[i]? = some x → Kt (.bl (b i)) H2 → te ((wipe σ vs).set k (some x)) H2 Kt) (hd : (∀ i, i < xs.length → b i = e) → Q (.bl e) H2) (hx : ∀ i, i < xs.length → b i = (!e) → Q (.bl (!e)) H2) :
    ∃ W : Nat → Nat → Hp → Prop, (∃ m, W 0 m H2) ∧ GW (Itt K L) (gName k) te vs σ e Q W := by
  refine ⟨fun i m H => m = xs.length - i ∧ i ≤ xs.length ∧ H = H2 ∧ ∀ j, j < i → b j = e, ⟨xs.length, by simp, Nat.zero_le _, rfl, fun j h => absurd h (Nat.not_lt_zero _)⟩, ?_⟩
  rintro i m H ⟨rfl, hi, rfl, ha⟩
  by_cases hlt : i < xs.length
  · refine .inr ⟨⟨xs, xs[i], hL, by simp [hlt]⟩, fun x H' y => ?_⟩
    obtain ⟨e1, y⟩ := y
    subst e1
    refine ⟨hw _, ?_⟩
    refine hs i x _ (y xs hL) ⟨b i, rfl, fun z => ⟨xs.length - (i + 1), by omega, rfl, hlt, rfl, fun j hj => ?_⟩, fun z => ?_⟩
    · by_cases h : j < i
      · exact ha j h
      · rw [show j = i by omega]; exact z
    · have z' := ne_not z
      rw [z']
      exact hx i hlt z'
  · have e1 : i = xs.length := by omega
    subst e1
    exact .inl ⟨⟨xs, hL, Nat.le_refl _⟩, hd ha⟩
theorem gwb_lst {K : PySem.W.Frag} {L : Addr} {xs : List V} {k : Nat} {te : TE} {vs : List Nat} {σ : L2.St} {e : Bool} {Q : VK} {H2 : Hp} (b : Nat → Bool) (hL : SqL K H2 L xs) (hw : ∀ x, wipe ((wipe σ vs).set k (some x)) vs = wipe σ vs)
    (hs : ∀ (i : Nat) (x : V) (Kt : VK), xs[i]? = some x → Kt (.bl (b i)) H2 → te ((wipe σ vs).set k (some x)) H2 Kt) (hd : (∀ i, i < xs.length → b i = e) → Q (.bl e) H2) (hx : ∀ i, i < xs.length → b i = (!e) → Q (.bl (!e)) H2) :
    ∃ W : Nat → Nat → Hp → Prop, (∃ m, W 0 m H2) ∧ GW (Itl K L) (gName k) te vs σ e Q W := by
  refine ⟨fun i m H => m = xs.length - i ∧ i ≤ xs.length ∧ H = H2 ∧ ∀ j, j < i → b j = e, ⟨xs.length, by simp, Nat.zero_le _, rfl, fun j h => absurd h (Nat.not_lt_zero _)⟩, ?_⟩
  rintro i m H ⟨rfl, hi, rfl, ha⟩
  by_cases hlt : i < xs.length
  · refine .inr ⟨⟨xs, xs[i], hL, by simp [hlt]⟩, fun x H' y => ?_⟩
    obtain ⟨e1, y⟩ := y
    subst e1
    refine ⟨hw _, ?_⟩
    refine hs i x _ (y xs hL) ⟨b i, rfl, fun z => ⟨xs.length - (i + 1), by omega, rfl, hlt, rfl, fun j hj => ?_⟩, fun z => ?_⟩
    · by_cases h : j < i
      · exact ha j h
      · rw [show j = i by omega]; exact z
    · have z' := ne_not z
      rw [z']
      exact hx i hlt z'
  · have e1 : i = xs.length := by omega
    subst e1
    exact .inl ⟨⟨xs, hL, Nat.le_refl _⟩, hd ha⟩
/-- .. for a in range(n) for b in range(a) -/
theorem gwb2_rng {n ka kb : Nat} {te : TE} {vs : List Nat} {σ : L2.St} {e : Bool} {Q : VK} {H2 : Hp} (c : Nat → Nat → Bool) (hn : n ≤ 100000) (h2 : ∀ x, ((wipe σ vs).set ka (some x))[ka]? = some (some x)) (w1 : ∀ x, wipe ((wipe σ vs).set ka (some x)) vs = wipe σ vs)
    (w2 : ∀ y x, wipe ((wipe ((wipe σ vs).set ka (some y)) [kb]).set kb (some x)) [kb] = wipe ((wipe σ vs).set ka (some y)) [kb])
    (hs : ∀ (i j : Nat) (Kt : VK), i < n → j < i → Kt (.bl (c i j)) H2 → te ((wipe ((wipe σ vs).set ka (some (.int (i : Int)))) [kb]).set kb (some (.int (j : Int)))) H2 Kt) (hd : (∀ i j, i < n → j < i → c i j = e) → Q (.bl e) H2) (hx : ∀ i j, i < n → j < i → c i j = (!e) → Q (.bl (!e)) H2) :
    ∃ W : Nat → Nat → Hp → Prop, (∃ m, W 0 m H2) ∧ GW2 (Itr 0 n) (gName ka) (iRng1 (tCons (tVar ka) tNil)) (gName kb) te vs [kb] σ e Q W := by
  have step : ∀ i, i < n → (n - i) * (n + 1) = (n - (i + 1)) * (n + 1) + n + 1 := fun i hi => by
    have : n - i = (n - (i + 1)) + 1 := by omega
    rw [this, Nat.succ_mul]
    omega
  refine ⟨fun i m H => m = (n - i) * (n + 1) ∧ i ≤ n ∧ H = H2 ∧ ∀ a b, a < i → b < a → c a b = e, ⟨_, rfl, Nat.zero_le _, rfl, fun a b h => absurd h (Nat.not_lt_zero _)⟩, ?_⟩
  rintro i m H ⟨rfl, hi, rfl, ha⟩
  by_cases hlt : i < n
  · have st := step i hlt
    refine .inr ⟨hlt, fun x HH y => ?_⟩
    obtain ⟨e1, y⟩ := y
    subst e1 y
    refine ⟨w1 _, ?_⟩
    rw [Int.zero_add]
    refine ⟨_, h2 _, _, rfl, by omega, by omega, ?_⟩
    rw [Int.toNat_natCast]
    refine ⟨fun j k H' => k = (n - i) * (n + 1) - 1 - j ∧ j ≤ i ∧ H' = HH ∧ ∀ b, b < j → c i b = e, ⟨_, ?_, rfl, Nat.zero_le _, rfl, fun b h => absurd h (Nat.not_lt_zero _)⟩, ?_⟩
    · omega
    rintro j k H' ⟨rfl, hj, rfl, hb⟩
    by_cases hlj : j < i
    · refine .inr ⟨hlj, fun x H4 y => ?_⟩
      obtain ⟨e1, y⟩ := y
      subst e1 y
      refine ⟨w2 _ _, ?_⟩
      rw [Int.zero_add]
      refine hs i j _ hlt hlj ⟨c i j, rfl, fun z => ⟨(n - i) * (n + 1) - 1 - (j + 1), by omega, rfl, hlj, rfl, fun b hb' => ?_⟩, fun z => ?_⟩
      · by_cases h : b < j
        · exact hb b h
        · rw [show b = j by omega]; exact z
      · have z' := ne_not z
        rw [z']
        exact hx i j hlt hlj z'
    · have e1 : j = i := by omega
      subst e1
      refine .inl ⟨Nat.le_refl _, (n - (j + 1)) * (n + 1), by omega, by omega, rfl, hlt, rfl, fun a b h1 h2 => ?_⟩
      by_cases h : a < j
      · exact ha a b h h2
      · rw [show a = j by omega] at h2 ⊢
        exact hb b h2
  · have e1 : i = n := by omega
    subst e1
    exact .inl ⟨Nat.le_refl _, hd fun a b h1 h2 => ha a b h1 h2⟩
/-- a tuple of tuples of ints -/
def RR (H : Hp) (p : Addr) (P : List (List Int)) : Prop := ∃ rows : List V, H p = some (.tup rows) ∧ rows.length = P.length ∧ ∀ (i : Nat) row, P[i]? = some row → ∃ r, rows[i]? = some (.ref r) ∧ H r = some (.tup (row.map V.int))
theorem RR.same {H H' : Hp} {p : Addr} {P : List (List Int)} (x : RR H p P) (s : ∀ b xs, H b = some (.tup xs) → H' b = some (.tup xs)) : RR H' p P := by
  obtain ⟨rows, e1, e2, e3⟩ := x
  refine ⟨rows, s _ _ e1, e2, fun i row h => ?_⟩
  obtain ⟨r, h1, h2⟩ := e3 i row h
  exact ⟨r, h1, s _ _ h2⟩
theorem RR.len {H : Hp} {p : Addr} {P : List (List Int)} (x : RR H p P) : ∃ rows, H p = some (.tup rows) ∧ rows.length = P.length := by
  obtain ⟨rows, e1, e2, e3⟩ := x
  exact ⟨rows, e1, e2⟩
theorem RR.at {H : Hp} {p : Addr} {P : List (List Int)} {rows : List V} {i : Nat} {v : V} (x : RR H p P) (e : H p = some (.tup rows)) (h : rows[i]? = some v) : ∃ r row, v = .ref r ∧ P[i]? = some row ∧ H r = some (.tup (row.map V.int)) := by
  obtain ⟨rows', e1, e2, e3⟩ := x
  rw [e] at e1
  cases e1
  have hi : i < P.length := by
    rcases Nat.lt_or_ge i rows.length with h' | h'
    · omega
    · rw [List.getElem?_eq_none h'] at h; cases h
  obtain ⟨r, h1, h2⟩ := e3 i P[i] (List.getElem?_eq_getElem hi)
  rw [h] at h1
  cases h1
  exact ⟨r, _, rfl, List.getElem?_eq_getElem hi, h2⟩
/-- both tables' rows, one behind the other -/
theorem RR.app {H : Hp} {p m q : Addr} {P T : List (List Int)} {rp rm : List V} (x : RR H p P) (y : RR H m T) (ep : H p = some (.tup rp)) (em : H m = some (.tup rm)) (eq : H q = some (.tup (rp ++ rm))) : RR H q (P ++ T) := by
  obtain ⟨rp', a1, a2, a3⟩ := x
  obtain ⟨rm', b1, b2, b3⟩ := y
  rw [ep] at a1
  cases a1
  rw [em] at b1
  cases b1
  refine ⟨_, eq, by rw [List.length_append, List.length_append, a2, b2], fun i row h => ?_⟩
  by_cases c : i < P.length
  · rw [List.getElem?_append_left c] at h
    rw [List.getElem?_append_left (by omega)]
    exact a3 i row h
  · rw [List.getElem?_append_right (by omega)] at h
    rw [List.getElem?_append_right (by omega), a2]
    exact b3 _ row h
/-- the entry at a, b -/
def fnI (P : List (List Int)) (a b : Nat) : Int := (P.getD a []).getD b 0
def fnN (P : List (List Int)) (a b : Nat) : Nat := (fnI P a b).toNat
theorem RR.tt {H : Hp} {p : Addr} {P : List (List Int)} (x : RR H p P) (hl : ∀ row ∈ P, row.length = P.length) : TT H p P.length (fnI P) := by
  obtain ⟨rows, e1, e2, e3⟩ := x
  refine ⟨rows, e1, e2, fun i hi => ?_⟩
  obtain ⟨r, h1, h2⟩ := e3 i P[i] (List.getElem?_eq_getElem hi)
  refine ⟨r, h1, ?_⟩
  have hrow := hl P[i] (List.getElem_mem hi)
  have : P[i].map V.int = (List.range P.length).map fun j => V.int (fnI P i j) := by
    refine ext_of (by rw [List.length_map, hrow]) fun j v hv => ?_
    rw [List.getElem?_map] at hv
    cases hj : P[i][j]? with
    | none => rw [hj] at hv; cases hv
    | some z =>
      rw [hj] at hv
      have hv' : V.int z = v := Option.some.inj hv
      rw [← hv']
      unfold fnI
      rw [List.getD_eq_getElem?_getD, List.getD_eq_getElem?_getD, List.getElem?_eq_getElem hi]
      show V.int z = V.int (P[i][j]?.getD 0)
      rw [hj]
      rfl
  rw [this] at h2
  exact h2
theorem TT.congr {H : Hp} {p : Addr} {n : Nat} {F G : Nat → Nat → Int} (x : TT H p n F) (h : ∀ i j, i < n → j < n → F i j = G i j) : TT H p n G := by
  obtain ⟨rows, e1, e2, e3⟩ := x
  refine ⟨rows, e1, e2, fun i hi => ?_⟩
  obtain ⟨r, h1, h2⟩ := e3 i hi
  refine ⟨r, h1, h2.trans (congrArg (fun l => some (HO.tup l)) (List.map_congr_left fun j hj => ?_))⟩
  rw [h i j hi (List.mem_range.mp hj)]
theorem fn_mem {P : List (List Int)} {n i j : Nat} (hP : P.length = n) (hl : ∀ row ∈ P, row.length = n) (hi : i < n) (hj : j < n) : ∃ row, row ∈ P ∧ fnI P i j ∈ row := by
  have h1 : i < P.length := by omega
  have hr := hl P[i] (List.getElem_mem h1)
  refine ⟨P[i], List.getElem_mem h1, ?_⟩
  unfold fnI
  rw [List.getD_eq_getElem?_getD, List.getD_eq_getElem?_getD, List.getElem?_eq_getElem h1]
  show (P[i][j]?).getD 0 ∈ P[i]
  rw [List.getElem?_eq_getElem (by omega)]
  exact List.getElem_mem _
end Tb

set_option Elab.async false
set_option linter.all false
set_option maxRecDepth 100000
set_option maxHeartbeats 4000000
/-! tuple * 1: the tuple itself. -/
namespace Ew
open PySem PySem.Spec PyProof.Rows L2
theorem tuple_mulW1 (l : Addr) (items : Array Value) (n : Nat) (dd : Option Addr) (sl : Array (Option Value)) (u : Tok) :
    Meets (Builtin.«tuple.__mul__» ⟨[.ref l, .int 1 u], []⟩) (fun _ R s => s.heap.get? l = some { cls := .type "tuple", dict := dd, data := .seq items n, slots := sl } ∧ R (.ok (.ret (Value.ref l))) s) :=
  .of_wp fun prog w A R s h => by
    obtain ⟨hp, g, d, tk, os⟩ := s
    obtain ⟨hl, h⟩ := h
    have f1 := AutoSeq1.idx_int
    have c1 : (items.isEmpty || (1 : Int) == 1) = true := by simp
    wp_walk using wpAny_loadPart' hl
    repeat (first
      | (refine wpAny_ite_false (decide_eq_false (by decide)) ?_; wp_walk using wpAny_loadPart' hl)
      | (refine wpAny_ite_true (decide_eq_true (by simp)) ?_; wp_walk using wpAny_loadPart' hl))
    exact ⟨_, rfl, h⟩
def rRepT1 (K : PySem.W.Frag) : R2 := fun x y H Q => ∃ l xs, x = .ref l ∧ y = .int 1 ∧ SqT K H l xs ∧ Q (.ref l) H
theorem op_repT1 {X : Cx} : OpR X (binaryOp .Mult) (rRepT1 X.K) := by
  intro pins s σ H x y v u Q I rx ry h
  obtain ⟨l, xs, rfl, rfl, hT, q⟩ := h
  cases rx
  obtain ⟨t, rfl⟩ := ry
  obtain ⟨its, r, ⟨⟨cls, dd, data, sl⟩, ho, hc, n, hd⟩, hs⟩ := I.tuple hT
  simp only at hc hd
  subst hc hd
  refine wpAny_binaryOp_repeat_ref (T := "tuple") (U := "int") (by decide) ⟨_, ho, rfl⟩ (fun s' => typeIs_int s' 1 t) noFill_tuple_mul F.fills_int_mul F.slot_int_rmul repeat_tuple F.slot_int_index.lookup
    (call_meets F.slot_int_rmul (typeIs_int s 1 t) F.entry_int_rmul (F.args_int_rmul_2 _ _) (int_rmul_tuple 1 t l its.toArray n dd sl)
      ⟨ho, rfl, ⟨_, ho, rfl⟩, call_meets F.slot_tuple_mul ⟨_, ho, rfl⟩ F.entry_tuple_mul (F.args_tuple_mul_2 _ _) (tuple_mulW1 l its.toArray n dd sl t) ⟨ho, ?_⟩⟩)
  exact ⟨.ref l, H, I, rfl, q⟩
end Ew

set_option Elab.async false
set_option linter.all false
set_option maxRecDepth 100000
set_option maxHeartbeats 4000000
/-! sorted(t) of a tuple of ints. -/
namespace STx
open PySem PySem.W L2 PySem.Spec PyProof.Rows
open Sem (wp)
section
variable {prog : Program} {w : World} {A : Around} {E : Value → Shared → Prop} {s : Shared}
/-- what a tuple holds is collected -/
theorem gathered {t : Addr} {us : List Value} {Q : List Value → Shared → Prop} (ht : s.heap.IsTuple t us.toArray) (hz : us.length ≤ sizeLine)
    (q : Q us { s with heap := (s.heap.push (seqObj "list" #[] 0)).update s.heap.objs.size (Obj.mapSeq (· ++ us.toArray)) }) : wpAny (model prog w) A (collect (.ref t)) Q E s := by
  obtain ⟨ob, h1, h2, m, h3⟩ := id ht
  unfold collect
  refine wpAny_bind (wpAny_runValue (codeAny_builtin entry_proto_collect' ?_)); show wpAny _ _ (do again (.builtin "list.__iadd__" ⟨[← newList [], .ref t], []⟩)) _ _ s
  refine wpAny_bind (wpAny_newList (wpAny_pure ⟨Code.quiet_builtin _ (by decide +kernel), codeAny_builtin entry_list_iadd' ?_⟩)); show wpAny _ _ (Builtin.List.listExtendWith (.ref s.heap.objs.size) (.ref t) (.ref s.heap.objs.size)) _ _ { s with heap := s.heap.push (seqObj "list" #[] 0) }
  unfold Builtin.List.listExtendWith
  have h1' : (s.heap.push (seqObj "list" #[] 0)).get? t = some ob := Heap.get?_push_of_some _ h1
  refine wpAny_bind (wpAny_typeOf (T := "tuple") ⟨ob, h1', h2⟩ ?_); have e : (Value.type "tuple" == Value.type "tuple") = true := by rfl
  rw [if_pos (by rw [e]; simp)]; refine wpAny_bind (listItems_at h1' h3 ?_); refine wpAny_bind (listItems_at (xs := #[]) (n := 0) (Heap.get?_push_size _ rfl) rfl ?_); rw [if_neg (by simp)]
  refine wpAny_bind (listUpdate_at (xs := #[]) (n := 0) (Heap.get?_push_size _ rfl) rfl ?_ (Nat.zero_le _) (by show (#[] ++ us.toArray).size ≤ sizeLine + 1; simp only [Array.size_append, List.size_toArray, List.length_nil]; omega)); refine wpAny_pure ?_
  show wpAny (model prog w) A (do let o ← load s.heap.objs.size; match o.data with | .seq xs _ => pure xs.toList | _ => unsupported "internal:collect") Q E { s with heap := (s.heap.push (seqObj "list" #[] 0)).update s.heap.objs.size (Obj.mapSeq (· ++ us.toArray)) }
  refine wpAny_bind (wpAny_load (get?_update_seq (Heap.get?_push_size _ rfl) _) ?_); show wpAny _ _ (pure ((#[] : Array Value) ++ us.toArray).toList) Q E _
  rw [show ((#[] : Array Value) ++ us.toArray).toList = us by simp]; exact wpAny_pure q
theorem sorted_tup {t : Addr} {us : List Value} {lt : Value → Value → Bool} {Q : Value → Shared → Prop} (O : SrtO.Swo lt) (ht : s.heap.IsTuple t us.toArray) (hz : us.length ≤ sizeLine)
    (hS : 2 ≤ us.length → ∀ (g : Heap) (a : Addr), g.get? a = some (seqObj "list" us.toArray 0) → (∀ b o, s.heap.get? b = some o → b ≠ a ∧ g.get? b = some o) → SrtO.SortableO prog w A.in1.in1 { s with heap := g } a us lt)
    (q : ∀ out : List Value, SrtO.Srtd lt out → SrtO.Stb lt out us → Q (.ref (s.heap.objs.size + 1)) { s with heap := sortedAll s.heap us out.toArray }) :
    wpAny (model prog w) A (call (.builtin "sorted") [.ref t]) Q E s := by
  refine Calls.call_function_entry kind_sorted plain_sorted entry_sorted (args_sorted1 _) ?_; unfold Builtin.«sorted»
  refine wpAny_bind (m := checkCount "sorted" 1 1 _) (wpAny_pure ?_); refine wpAny_bind (gathered ht hz ?_); refine wpAny_bind (wpAny_newList ?_ hz)
  have e1 : ((s.heap.push (seqObj "list" #[] 0)).update s.heap.objs.size (Obj.mapSeq (· ++ us.toArray))).objs.size = s.heap.objs.size + 1 := by
    rw [Heap.size_update, size_push']
  have e2 : (((s.heap.push (seqObj "list" #[] 0)).update s.heap.objs.size (Obj.mapSeq (· ++ us.toArray))).push (seqObj "list" us.toArray 0)).get? (s.heap.objs.size + 1) = some (seqObj "list" us.toArray 0) := by
    rw [← e1]; exact Heap.get?_push_size _ rfl
  have e3 : ∀ b o, s.heap.get? b = some o → b ≠ s.heap.objs.size + 1 ∧ (((s.heap.push (seqObj "list" #[] 0)).update s.heap.objs.size (Obj.mapSeq (· ++ us.toArray))).push (seqObj "list" us.toArray 0)).get? b = some o := fun b o g => by
    have hb : b < s.heap.objs.size := Heap.lt_size g
    refine ⟨Nat.ne_of_lt (Nat.lt_succ_of_lt hb), Heap.get?_push_of_some _ ?_⟩
    rw [Heap.get?_update_ne _ _ _ _ (Nat.ne_of_lt hb)]; exact Heap.get?_push_of_some _ g
  show wpAny _ _ _ _ _ { s with heap := ((s.heap.push (seqObj "list" #[] 0)).update s.heap.objs.size (Obj.mapSeq (· ++ us.toArray))).push (seqObj "list" us.toArray 0) }
  rw [e1]; refine wpAny_bind (wpAny_holding (wpAny_call_entry slot_list_sort ⟨_, e2, rfl⟩ entry_list_sort (SrtO.list_sort_ord O e2 hz (fun h2 => hS h2 _ _ e2 e3) fun out hs hb => ⟨_, rfl, ?_⟩) (args_list_sort _)))
  exact wpAny_pure ⟨_, rfl, q out hs hb⟩
end
section
variable {X : Cx}
/-- sorted(xs), xs a list or a tuple of ints -/
def rSortA (K : PySem.W.Frag) : List V → Hp → VK → Prop := fun vs H Q => ∃ (a : Addr) (ns : List Int), vs = [V.ref a] ∧ (SqL K H a (ns.map V.int) ∨ SqT K H a (ns.map V.int)) ∧
  ∀ (ms : List Int) (p : Addr), ms.Perm ns → ms.Pairwise (· ≤ ·) → H p = none → Q (.ref p) (upd H p (.lst (ms.map V.int)))
theorem cr_sortedA : CallR X (.builtin "sorted") (rSortA X.K) := by
  intro pins s σ H vs us Q I r h
  obtain ⟨a, ns, rfl, hs | hs, q⟩ := h
  · exact cr_sortedI pins s σ H _ us Q I r ⟨a, ns, rfl, hs, q⟩
  · obtain ⟨its, rv, ht, hz⟩ := I.tuple hs
    rw [Vals.ref1 r]
    have rin := rv.ints
    refine sorted_tup SrtO.swo_int (show s.heap.IsTuple a its.toArray from ht) (by rw [← rv.length]; exact hz) (fun h2 g a' _ _ => SrtO.ints_sortable rin h2) fun out h1 h2 => ?_
    obtain ⟨k1, k2, k3⟩ := SrtO.ints_out rin h1 h2
    obtain ⟨ep, at_⟩ := PyProof.Rows.sortedAll_at s.heap its out.toArray
    have len : ((out.map SrtO.iv).map V.int).length ≤ sizeLine := by
      rw [List.length_map, k2.length_eq]; rw [List.length_map] at hz; exact hz
    exact ⟨.ref _, upd H (s.heap.objs.size + 1) (.lst ((out.map SrtO.iv).map V.int)), I.laid (t' := s.toks) (fun _ _ => PyProof.Rows.sortedAll_old) (Nat.le_succ _) ⟨len, out, ep, vals_of_ints k1, at_⟩, rfl, q _ _ k2 k3 (I.hok.fresh (Nat.le_succ _))⟩
end
end STx

set_option Elab.async false
set_option linter.all false
set_option maxRecDepth 100000
set_option maxHeartbeats 4000000
/-! Lists of whole numbers: sorted, the least k, the sums. -/
namespace KM
open PySem L2 Ew
abbrev nV (ns : List Nat) : List V := ns.map fun (n : Nat) => V.int (n : Int)
def sortN (ns : List Nat) : List Nat := (PySem.W.sortI (ns.map fun (n : Nat) => (n : Int))).map Int.toNat
theorem sortN_of {ns : List Nat} {ns' : List Int} (hp : ns'.Perm (ns.map fun (n : Nat) => (n : Int))) (hs : ns'.Pairwise (· ≤ ·)) : ns' = (sortN ns).map fun (n : Nat) => (n : Int) := by
  have e := PySem.W.eq_sortI hp hs
  unfold sortN
  rw [← e, List.map_map]
  refine (List.map_id _).symm.trans (List.map_congr_left fun x hx => ?_)
  obtain ⟨n, _, rfl⟩ := List.mem_map.mp (hp.mem_iff.mp hx)
  show (n : Int) = ((n : Int).toNat : Int)
  rw [Int.toNat_natCast]
theorem int_map (ns : List Nat) : (ns.map fun (n : Nat) => (n : Int)).map V.int = nV ns := by
  rw [List.map_map]; rfl
theorem id_nat (ns : List Nat) : (ns.map fun (n : Nat) => (n : Int)).map Int.toNat = ns := by
  rw [List.map_map]
  exact (List.map_congr_left fun n _ => Int.toNat_natCast n).trans (List.map_id _)
theorem sortN_perm (ns : List Nat) : (sortN ns).Perm ns := by
  have h := (PySem.W.sortI_perm (ns.map fun (n : Nat) => (n : Int))).map Int.toNat
  rw [id_nat] at h
  exact h
theorem sortN_rises (ns : List Nat) : (sortN ns).Pairwise (· ≤ ·) :=
  (PySem.W.sortI_rises (ns.map fun (n : Nat) => (n : Int))).map Int.toNat fun a b hab => by omega
/-- what rises and holds the same is the sorted list -/
theorem sortN_eq {ns ms : List Nat} (hp : ms.Perm ns) (hs : ms.Pairwise (· ≤ ·)) : ms = sortN ns := by
  have e := sortN_of (ns := ns) (ns' := ms.map fun (n : Nat) => (n : Int)) (hp.map _) (hs.map (S := fun (a b : Int) => a ≤ b) _ fun a b hab => by omega)
  have e3 := congrArg (List.map Int.toNat) e
  rwa [id_nat, id_nat] at e3
theorem sortN_congr {ns ms : List Nat} (hp : ms.Perm ns) : sortN ms = sortN ns := sortN_eq ((sortN_perm ms).trans hp) (sortN_rises ms)
theorem sortN_self {ns : List Nat} (hs : ns.Pairwise (· ≤ ·)) : sortN ns = ns := (sortN_eq (.refl _) hs).symm
theorem sortN_len (ns : List Nat) : (sortN ns).length = ns.length := (sortN_perm ns).length_eq
def topN (k : Nat) (ns : List Nat) : List Nat := (sortN ns).take k
theorem topN_congr {k : Nat} {ns ms : List Nat} (hp : ms.Perm ns) : topN k ms = topN k ns := by unfold topN; rw [sortN_congr hp]
theorem topN_rises (k : Nat) (ns : List Nat) : (topN k ns).Pairwise (· ≤ ·) := (sortN_rises ns).sublist (List.take_sublist _ _)
theorem topN_len (k : Nat) (ns : List Nat) : (topN k ns).length ≤ k := List.length_take_le _ _
theorem topN_self {k : Nat} {ns : List Nat} (hs : ns.Pairwise (· ≤ ·)) (hl : ns.length ≤ k) : topN k ns = ns := by
  unfold topN; rw [sortN_self hs, List.take_of_length_le hl]
/-- what many lesser ones stand ahead of does not matter -/
theorem topN_drop {k : Nat} {Y Z : List Nat} (h : ∀ z ∈ Z, k ≤ Y.countP fun y => decide (y ≤ z)) : topN k (Y ++ Z) = topN k Y := by
  rcases Nat.lt_or_ge Y.length k with hk | hk
  · have hz : Z = [] := by
      rcases Z with _ | ⟨z, Z⟩
      · rfl
      · have h1 := h z (List.mem_cons_self ..)
        have h2 := List.countP_le_length (p := fun y => decide (y ≤ z)) (l := Y)
        omega
    rw [hz, List.append_nil]
  · have hS := sortN_rises Y
    have hP := sortN_perm Y
    have hl : (sortN Y).length = Y.length := hP.length_eq
    have split_ : (sortN Y).take k ++ (sortN Y).drop k = sortN Y := List.take_append_drop k _
    have low : ∀ z ∈ Z, ∀ p ∈ (sortN Y).take k, p ≤ z := fun z hz p hp => by
      refine Nat.not_lt.mp fun hlt => ?_
      have hc := h z hz
      rw [← hP.countP_eq, ← split_, List.countP_append] at hc
      obtain ⟨i, hi⟩ := List.mem_iff_getElem?.mp hp
      have hik : i < ((sortN Y).take k).length := (List.getElem?_eq_some_iff.mp hi).1
      have hi' : (sortN Y)[i]? = some p := by
        rw [List.getElem?_take] at hi
        split at hi
        · exact hi
        · cases hi
      have hin : i < (sortN Y).length := (List.getElem?_eq_some_iff.mp hi').1
      have hk2 : i < k := by
        have := List.length_take_le k (sortN Y)
        omega
      have c1 : (sortN Y).countP (fun y => decide (y ≤ z)) ≤ i := by
        rw [← List.take_append_drop i (sortN Y), List.countP_append]
        have a1 := List.countP_le_length (p := fun y => decide (y ≤ z)) (l := (sortN Y).take i)
        have a2 : ((sortN Y).drop i).countP (fun y => decide (y ≤ z)) = 0 := by
          refine List.countP_eq_zero.mpr fun y hy => ?_
          have hd : (sortN Y).drop i = p :: (sortN Y).drop (i + 1) := by
            rw [List.drop_eq_getElem_cons hin]
            congr 1
            rw [List.getElem?_eq_getElem hin] at hi'
            exact Option.some.inj hi'
          have hpw := hS.sublist (List.drop_sublist i (sortN Y))
          rw [hd] at hy hpw
          rcases List.mem_cons.mp hy with rfl | hy
          · simp; omega
          · have := (List.pairwise_cons.mp hpw).1 y hy
            simp; omega
        have a3 := List.length_take_le i (sortN Y)
        omega
      have c2 := hP.countP_eq (p := fun y => decide (y ≤ z))
      rw [← List.countP_append, split_] at hc
      omega
    have e : sortN (Y ++ Z) = (sortN Y).take k ++ sortN ((sortN Y).drop k ++ Z) := by
      refine (sortN_eq ?_ ?_).symm
      · have p1 := (sortN_perm ((sortN Y).drop k ++ Z)).append_left ((sortN Y).take k)
        rw [← List.append_assoc, split_] at p1
        exact p1.trans (hP.append_right Z)
      · refine List.pairwise_append.mpr ⟨hS.sublist (List.take_sublist _ _), sortN_rises _, fun a ha b hb => ?_⟩
        rcases List.mem_append.mp ((sortN_perm _).mem_iff.mp hb) with h1 | h1
        · rw [← split_] at hS
          exact (List.pairwise_append.mp hS).2.2 a ha b h1
        · exact low b h1 a ha
    unfold topN
    rw [e, List.take_append_of_le_length (by rw [List.length_take, hl]; omega), List.take_take, Nat.min_self]
/-- the least k and the rest -/
theorem topN_split (k : Nat) (ns : List Nat) : ∃ R, ns.Perm (topN k ns ++ R) ∧ ∀ r ∈ R, (topN k ns).length = k ∧ ∀ p ∈ topN k ns, p ≤ r := by
  refine ⟨(sortN ns).drop k, ?_, fun r hr => ⟨?_, fun p hp => ?_⟩⟩
  · unfold topN
    rw [List.take_append_drop]
    exact (sortN_perm ns).symm
  · have := List.length_pos_of_mem hr
    rw [List.length_drop] at this
    unfold topN
    rw [List.length_take]
    omega
  · have h := sortN_rises ns
    rw [← List.take_append_drop k (sortN ns)] at h
    exact (List.pairwise_append.mp h).2.2 p hp r hr
theorem topN_app (k : Nat) (a b : List Nat) : topN k (topN k a ++ b) = topN k (a ++ b) := by
  obtain ⟨R, hp, hr⟩ := topN_split k a
  have p2 : (a ++ b).Perm ((topN k a ++ b) ++ R) := by
    refine (hp.append_right b).trans ?_
    rw [List.append_assoc, List.append_assoc]
    exact List.Perm.append_left _ List.perm_append_comm
  rw [topN_congr p2]
  refine (topN_drop fun z hz => ?_).symm
  obtain ⟨h1, h2⟩ := hr z hz
  rw [List.countP_append, List.countP_eq_length.mpr (fun p hp => by simpa using h2 p hp), h1]
  omega
theorem topN_app_r (k : Nat) (a b : List Nat) : topN k (a ++ topN k b) = topN k (a ++ b) := by
  rw [topN_congr (List.perm_append_comm (l₁ := a)), topN_app, topN_congr List.perm_append_comm]
def sumsN (a b : List Nat) : List Nat := a.flatMap fun x => b.map fun y => x + y
theorem sums_nil (b : List Nat) : sumsN [] b = [] := rfl
theorem sums_cons (x : Nat) (a b : List Nat) : sumsN (x :: a) b = (b.map fun y => x + y) ++ sumsN a b := rfl
theorem sums_app (a a' b : List Nat) : sumsN (a ++ a') b = sumsN a b ++ sumsN a' b := List.flatMap_append
theorem sums_perm {a a' : List Nat} (b : List Nat) (h : a.Perm a') : (sumsN a b).Perm (sumsN a' b) := h.flatMap_right _
theorem sums_nil_r : ∀ a : List Nat, sumsN a [] = []
  | [] => rfl
  | x :: a => by rw [sums_cons, sums_nil_r a]; rfl
theorem sums_cons_r (y : Nat) (b : List Nat) : ∀ a : List Nat, (sumsN a (y :: b)).Perm ((a.map fun x => x + y) ++ sumsN a b)
  | [] => .refl _
  | x :: a => by
    rw [sums_cons, sums_cons, List.map_cons, List.map_cons, List.cons_append, List.cons_append]
    refine List.Perm.cons _ ((List.Perm.append_left _ (sums_cons_r y b a)).trans ?_)
    rw [← List.append_assoc, ← List.append_assoc]
    exact List.Perm.append_right _ List.perm_append_comm
theorem sums_comm : ∀ a b : List Nat, (sumsN a b).Perm (sumsN b a)
  | [], b => by rw [sums_nil_r]; exact .refl _
  | x :: a, b => by
    have h := sums_cons_r x a b
    rw [show (b.map fun y => y + x) = b.map fun y => x + y from List.map_congr_left fun y _ => Nat.add_comm y x] at h
    exact (List.Perm.append_left _ (sums_comm a b)).trans h.symm
theorem sums_app_r (a b c : List Nat) : (sumsN a (b ++ c)).Perm (sumsN a b ++ sumsN a c) :=
  (sums_comm _ _).trans ((by rw [sums_app]; exact (sums_comm b a).append (sums_comm c a) : (sumsN (b ++ c) a).Perm _))
theorem sums_map (x : Nat) (c : List Nat) : ∀ b : List Nat, sumsN (b.map fun y => x + y) c = (sumsN b c).map fun z => x + z
  | [] => rfl
  | y :: b => by
    rw [List.map_cons, sums_cons, sums_cons, List.map_append, sums_map x c b, List.map_map]
    congr 1
    exact List.map_congr_left fun z _ => Nat.add_assoc x y z
theorem sums_assoc (b c : List Nat) : ∀ a : List Nat, sumsN (sumsN a b) c = sumsN a (sumsN b c)
  | [] => rfl
  | x :: a => by rw [sums_cons, sums_app, sums_map, sums_cons, sums_assoc b c a]
theorem sums_count {q : Nat → Bool} {y : Nat} {b : List Nat} (hy : y ∈ b) : ∀ {P : List Nat}, (∀ p ∈ P, q (p + y) = true) → P.length ≤ (sumsN P b).countP q
  | [], _ => Nat.zero_le _
  | p :: P, h => by
    have ih := sums_count hy (P := P) fun p' hp' => h p' (List.mem_cons_of_mem _ hp')
    rw [sums_cons, List.countP_append, List.length_cons]
    have : 0 < (b.map fun y => p + y).countP q := List.countP_pos_iff.mpr ⟨p + y, List.mem_map.mpr ⟨y, hy, rfl⟩, h p (List.mem_cons_self ..)⟩
    omega
theorem topN_sums (k : Nat) (a b : List Nat) : topN k (sumsN (topN k a) b) = topN k (sumsN a b) := by
  obtain ⟨R, hp, hr⟩ := topN_split k a
  have p2 : (sumsN a b).Perm (sumsN (topN k a) b ++ sumsN R b) := by
    rw [← sums_app]
    exact sums_perm b hp
  rw [topN_congr p2]
  refine (topN_drop fun z hz => ?_).symm
  obtain ⟨r, hrR, hz2⟩ := List.mem_flatMap.mp hz
  obtain ⟨y, hy, rfl⟩ := List.mem_map.mp hz2
  obtain ⟨h1, h2⟩ := hr r hrR
  have := sums_count (q := fun s => decide (s ≤ r + y)) hy (P := topN k a) fun p hp => by
    have := h2 p hp
    simp
    omega
  omega
theorem topN_sums_r (k : Nat) (a b : List Nat) : topN k (sumsN a (topN k b)) = topN k (sumsN a b) := by
  rw [topN_congr (sums_comm a _), topN_sums, topN_congr (sums_comm b a)]
/-! ### the semiring -/
def plN (k : Nat) (a b : List Nat) : List Nat := topN k (a ++ b)
def tmN (k : Nat) (a b : List Nat) : List Nat := topN k (sumsN a b)
theorem tm_pl (k : Nat) (a b c : List Nat) : tmN k a (plN k b c) = plN k (tmN k a b) (tmN k a c) := by
  unfold tmN plN
  rw [topN_sums_r, topN_app, topN_app_r]
  exact topN_congr (sums_app_r a b c)
theorem tm_tm (k : Nat) (a b c : List Nat) : tmN k a (tmN k b c) = tmN k (tmN k a b) c := by
  unfold tmN
  rw [topN_sums_r, topN_sums, sums_assoc]
theorem pl_pl (k : Nat) (a b c : List Nat) : plN k a (plN k b c) = plN k (plN k a b) c := by
  unfold plN
  rw [topN_app_r, topN_app, List.append_assoc]
structure ElN (k : Nat) (a : List Nat) : Prop where
  up : a.Pairwise (· ≤ ·)
  len : a.length ≤ k
theorem el_top (k : Nat) (ns : List Nat) : ElN k (topN k ns) := ⟨topN_rises _ _, topN_len _ _⟩
theorem tm_one {k : Nat} {a : List Nat} (h : ElN k a) : tmN k a [0] = a := by
  unfold tmN
  have e : sumsN [0] a = a := by
    rw [sums_cons, sums_nil, List.append_nil]
    exact (List.map_congr_left fun y _ => Nat.zero_add y).trans (List.map_id _)
  have p := sums_comm a [0]
  rw [e] at p
  rw [topN_congr p]
  exact topN_self h.up h.len
theorem tm_zero (k : Nat) (a : List Nat) : tmN k a [] = [] := by
  unfold tmN
  rw [sums_nil_r]
  exact topN_self .nil (Nat.zero_le _)
theorem pl_zero {k : Nat} {a : List Nat} (h : ElN k a) : plN k a [] = a := by
  unfold plN
  rw [List.append_nil]
  exact topN_self h.up h.len
/-! ### the star -/
def stepN (k : Nat) (a t : List Nat) : List Nat := plN k [0] (tmN k a t)
def iterN (k : Nat) (a : List Nat) : Nat → List Nat
  | 0 => [0]
  | i + 1 => stepN k a (iterN k a i)
def starN (k : Nat) (a : List Nat) : List Nat := if 0 ∈ a then List.replicate k 0 else iterN k a k
theorem step_eq (k : Nat) (a t : List Nat) : stepN k a t = topN k (0 :: sumsN a t) := topN_app_r k [0] _
theorem sort_zero (ns : List Nat) : sortN (0 :: ns) = 0 :: sortN ns :=
  (sortN_eq (List.Perm.cons 0 (sortN_perm ns)) (List.pairwise_cons.mpr ⟨fun _ _ => Nat.zero_le _, sortN_rises ns⟩)).symm
theorem step_take {k m : Nat} {a u v : List Nat} (hu : u.Pairwise (· ≤ ·)) (hv : v.Pairwise (· ≤ ·)) (h : u.take m = v.take m) : (stepN k a u).take (m + 1) = (stepN k a v).take (m + 1) := by
  have key : ∀ w : List Nat, w.Pairwise (· ≤ ·) → (stepN k a w).take (m + 1) = (0 :: topN m (sumsN a (w.take m))).take k := fun w hw => by
    rw [step_eq]
    show ((sortN (0 :: sumsN a w)).take k).take (m + 1) = _
    rw [sort_zero, List.take_take, Nat.min_comm, ← List.take_take, List.take_succ_cons]
    have : (sortN (sumsN a w)).take m = topN m (sumsN a (w.take m)) := by
      show topN m (sumsN a w) = _
      rw [← topN_sums_r m a w, show topN m w = w.take m by unfold topN; rw [sortN_self hw]]
    rw [this]
  rw [key u hu, key v hv, h]
theorem iter_el {k : Nat} (hk : 1 ≤ k) (a : List Nat) : ∀ i, ElN k (iterN k a i)
  | 0 => ⟨List.pairwise_singleton _ _, hk⟩
  | _ + 1 => el_top _ _
theorem iter_take {k : Nat} (hk : 1 ≤ k) (a : List Nat) : ∀ i, (iterN k a i).take (i + 1) = (iterN k a (i + 1)).take (i + 1)
  | 0 => by
    show _ = (stepN k a [0]).take 1
    rw [step_eq]
    show _ = ((sortN (0 :: sumsN a [0])).take k).take 1
    rw [sort_zero, List.take_take, show min 1 k = 1 by omega]
    rfl
  | i + 1 => step_take (iter_el hk a i).up (iter_el hk a (i + 1)).up (iter_take hk a i)
theorem iter_fix {k : Nat} (hk : 1 ≤ k) (a : List Nat) : stepN k a (iterN k a k) = iterN k a k := by
  have h := iter_take hk a k
  rw [List.take_of_length_le (by have := (iter_el hk a k).len; omega), List.take_of_length_le (by have := (iter_el hk a (k + 1)).len; omega)] at h
  exact h.symm
theorem zeros_fix {k : Nat} {a : List Nat} (h0 : 0 ∈ a) : stepN k a (List.replicate k 0) = List.replicate k 0 := by
  rw [step_eq]
  obtain ⟨s, t, rfl⟩ := List.append_of_mem h0
  have p : (0 :: sumsN (s ++ 0 :: t) (List.replicate k 0)).Perm (List.replicate k 0 ++ (0 :: sumsN (s ++ t) (List.replicate k 0))) := by
    have p1 : (s ++ 0 :: t).Perm (0 :: (s ++ t)) := List.perm_middle
    have p2 := sums_perm (List.replicate k 0) p1
    rw [sums_cons, show ((List.replicate k 0).map fun y => 0 + y) = List.replicate k 0 by rw [List.map_replicate]] at p2
    exact (List.Perm.cons 0 p2).trans List.perm_middle.symm
  rw [topN_congr p, topN_drop fun z _ => by rw [List.countP_eq_length.mpr fun y hy => by rw [List.eq_of_mem_replicate hy]; simp]; rw [List.length_replicate]; exact Nat.le_refl _]
  exact topN_self (List.pairwise_replicate.mpr (.inr (Nat.le_refl _))) (by rw [List.length_replicate]; exact Nat.le_refl _)
theorem star_fix {k : Nat} (hk : 1 ≤ k) (a : List Nat) : plN k [0] (tmN k a (starN k a)) = starN k a := by
  unfold starN
  split
  · rename_i h; exact zeros_fix h
  · exact iter_fix hk a
theorem star_el {k : Nat} (hk : 1 ≤ k) (a : List Nat) : ElN k (starN k a) := by
  unfold starN
  split
  · exact ⟨List.pairwise_replicate.mpr (.inr (Nat.le_refl _)), by rw [List.length_replicate]; exact Nat.le_refl _⟩
  · exact iter_el hk a k
end KM

set_option Elab.async false
set_option linter.all false
set_option maxRecDepth 100000
set_option maxHeartbeats 4000000
/-! tuple * n from 1 on; == and != of lists, tuples of whole numbers; walks that do anything. -/
namespace KM
open PySem PySem.W L2 Ew
section
variable {X : Cx}
def rRepA (K : PySem.W.Frag) : R2 := fun x y H Q => ∃ l k xs, x = .ref l ∧ y = .int k ∧ SqT K H l xs ∧ xs ≠ [] ∧ 1 ≤ k ∧ k ≤ 1000 ∧ xs.length ≤ 1000 ∧ (k = 1 → Q (.ref l) H) ∧ (2 ≤ k → ∀ p, H p = none → Q (.ref p) (upd H p (.tup (List.replicate k.toNat xs).flatten)))
theorem op_repA : OpR X (binaryOp .Mult) (rRepA X.K) := by
  intro pins s σ H x y v u Q I rx ry h
  obtain ⟨l, k, xs, rfl, rfl, hT, hne, h1, h2, hz, q1, q2⟩ := h
  by_cases c : k = 1
  · subst c
    exact op_repT1 pins s σ H _ _ v u Q I rx ry ⟨l, xs, rfl, rfl, hT, q1 rfl⟩
  · exact op_repT pins s σ H _ _ v u Q I rx ry ⟨l, k, xs, rfl, rfl, hT, hne, by omega, h2, hz, q2 (by omega)⟩
abbrev dN (ns : List Nat) : List PyData := ns.map fun (n : Nat) => .int (n : Int)
theorem dp_nums {K : PySem.W.Frag} {H : Hp} : ∀ ns : List Nat, DpAll K H (nV ns) (dN ns)
  | [] => .nil
  | n :: ns => .cons (.int _) (dp_nums ns)
theorem eqv_nums : ∀ ns ms : List Nat, PyData.eqvAll (dN ns) (dN ms) = decide (ns = ms)
  | [], [] => rfl
  | [], _ :: _ => rfl
  | _ :: _, [] => rfl
  | n :: ns, m :: ms => by
    show (((n : Int) == (m : Int)) && PyData.eqvAll (dN ns) (dN ms)) = _
    rw [eqv_nums ns ms]
    by_cases a : n = m
    · subst a
      by_cases b : ns = ms
      · subst b; simp
      · simp [b]
    · have : ((n : Int) == (m : Int)) = false := beq_eq_false_iff_ne.mpr (by omega)
      rw [this]
      simp [a]
theorem lay_nums : ∀ ns : List Nat, PyData.canLayAll0 (dN ns) = true
  | [] => rfl
  | n :: ns => by
    show (true && PyData.canLayAll0 (dN ns)) = true
    rw [lay_nums ns]; rfl
theorem dep_nums : ∀ ns : List Nat, PyData.depthAll (dN ns) = 0
  | [] => rfl
  | n :: ns => by
    show max 0 (PyData.depthAll (dN ns)) = 0
    rw [dep_nums ns]; rfl
theorem shT (ns : List Nat) : SeqAt.shaped (.tuple (dN ns)) = true := by
  unfold SeqAt.shaped
  rw [show PyData.canLay0 (.tuple (dN ns)) = PyData.canLayAll0 (dN ns) from rfl, lay_nums, show PyData.depth (.tuple (dN ns)) = PyData.depthAll (dN ns) + 1 from rfl, dep_nums]
  rfl
theorem shL (ns : List Nat) : SeqAt.shaped (.list (dN ns)) = true := by
  unfold SeqAt.shaped
  rw [show PyData.canLay0 (.list (dN ns)) = PyData.canLayAll0 (dN ns) from rfl, lay_nums, show PyData.depth (.list (dN ns)) = PyData.depthAll (dN ns) + 1 from rfl, dep_nums]
  rfl
/-- two tuples, or two lists, of whole numbers -/
def rNums (K : PySem.W.Frag) (neg : Bool) : R2 := fun x y H Q => ∃ a b ns ms, x = .ref a ∧ y = .ref b ∧ ((SqT K H a (nV ns) ∧ SqT K H b (nV ms)) ∨ (SqL K H a (nV ns) ∧ SqL K H b (nV ms))) ∧ Q (.bl (if neg then !decide (ns = ms) else decide (ns = ms))) H
theorem op_eqNums (hu : X.A.units + 64 < cLine) : OpR X (compareOp .Eq) (rNums X.K false) := by
  intro pins s σ H x y v u Q I rx ry h
  obtain ⟨a, b, ns, ms, rfl, rfl, ⟨h1, h2⟩ | ⟨h1, h2⟩, q⟩ := h
  · refine op_eqD hu pins s σ H _ _ v u Q I rx ry ⟨.tuple (dN ns), .tuple (dN ms), .tup h1 (dp_nums _), .tup h2 (dp_nums _), shT _, shT _, ?_⟩
    rw [show PyData.eqv (.tuple (dN ns)) (.tuple (dN ms)) = PyData.eqvAll (dN ns) (dN ms) from rfl, eqv_nums]
    exact q
  · refine op_eqD hu pins s σ H _ _ v u Q I rx ry ⟨.list (dN ns), .list (dN ms), .lst h1 (dp_nums _), .lst h2 (dp_nums _), shL _, shL _, ?_⟩
    rw [show PyData.eqv (.list (dN ns)) (.list (dN ms)) = PyData.eqvAll (dN ns) (dN ms) from rfl, eqv_nums]
    exact q
theorem op_neNums (hu : X.A.units + 64 < cLine) : OpR X (compareOp .NotEq) (rNums X.K true) := by
  intro pins s σ H x y v u Q I rx ry h
  obtain ⟨a, b, ns, ms, rfl, rfl, ⟨h1, h2⟩ | ⟨h1, h2⟩, q⟩ := h
  · refine op_neD hu pins s σ H _ _ v u Q I rx ry ⟨.tuple (dN ns), .tuple (dN ms), .tup h1 (dp_nums _), .tup h2 (dp_nums _), shT _, shT _, ?_⟩
    rw [show PyData.eqv (.tuple (dN ns)) (.tuple (dN ms)) = PyData.eqvAll (dN ns) (dN ms) from rfl, eqv_nums]
    exact q
  · refine op_neD hu pins s σ H _ _ v u Q I rx ry ⟨.list (dN ns), .list (dN ms), .lst h1 (dp_nums _), .lst h2 (dp_nums _), shL _, shL _, ?_⟩
    rw [show PyData.eqv (.list (dN ns)) (.list (dN ms)) = PyData.eqvAll (dN ns) (dN ms) from rfl, eqv_nums]
    exact q
end
/-- a walk through a tuple, whatever a turn does -/
theorem wk_tup {K : PySem.W.Frag} {a : Addr} {xs : List V} {Qd : Hp → Prop} {H0 : Hp} {B : V → Hp → (Hp → Prop) → Prop} (Pv : Nat → Hp → Prop) (h0 : Pv 0 H0) (hl : ∀ i H, i ≤ xs.length → Pv i H → SqT K H a xs) (hs : ∀ i x H, xs[i]? = some x → Pv i H → B x H (Pv (i + 1))) (hd : ∀ H, Pv xs.length H → Qd H) :
    ∃ W : Nat → Nat → Hp → Prop, (∃ m, W 0 m H0) ∧ ∀ i m H, W i m H → ((Itt K a).stop i H ∧ Qd H) ∨ ((Itt K a).go i H ∧ ∃ Nx : Hp → Prop, (∀ H', Nx H' → ∃ m', m' < m ∧ W (i + 1) m' H') ∧ ∀ x H', (Itt K a).yld i H x H' → B x H' Nx) := by
  refine ⟨fun i m H => m = xs.length - i ∧ i ≤ xs.length ∧ Pv i H, ⟨xs.length, by simp, Nat.zero_le _, h0⟩, ?_⟩
  rintro i m H ⟨rfl, hi, p⟩
  have q := hl i H hi p
  by_cases c : i < xs.length
  · refine .inr ⟨⟨xs, xs[i], q, by simp [c]⟩, Pv (i + 1), fun H' p' => ⟨xs.length - (i + 1), by omega, rfl, c, p'⟩, fun x H' y => ?_⟩
    obtain ⟨rfl, y⟩ := y
    exact hs i x _ (y xs q) p
  · obtain rfl : i = xs.length := by omega
    exact .inl ⟨⟨xs, q, Nat.le_refl _⟩, hd H p⟩
theorem nV_flat : ∀ ps : List Nat, (nV ps).all flatV = true
  | [] => rfl
  | p :: ps => nV_flat ps
theorem inV_nV (m : Nat) : ∀ ps : List Nat, inV (.int (m : Int)) (nV ps) = decide (m ∈ ps)
  | [] => rfl
  | p :: ps => by
    have ih := inV_nV m ps
    have e : inV (.int (m : Int)) (nV (p :: ps)) = (eqV (.int (p : Int)) (.int (m : Int)) || inV (.int (m : Int)) (nV ps)) := rfl
    rw [e, ih]
    by_cases c : p = m
    · subst c; simp [eqV]
    · have c' : ¬ m = p := fun z => c z.symm
      have e2 : eqV (.int (p : Int)) (.int (m : Int)) = false := by simp [eqV]; omega
      rw [e2]
      simp [c']
theorem nV_app (a b : List Nat) : nV a ++ nV b = nV (a ++ b) := List.map_append.symm
theorem nV_len (a : List Nat) : (nV a).length = a.length := List.length_map _
theorem nV_at {a : List Nat} {i : Nat} {x : V} (h : (nV a)[i]? = some x) : ∃ n : Nat, a[i]? = some n ∧ x = .int (n : Int) := by
  rw [List.getElem?_map] at h
  obtain ⟨n, h1, h2⟩ := Option.map_eq_some_iff.mp h
  exact ⟨n, h1, h2.symm⟩
theorem cut_to (ns : List Nat) (k : Nat) : cutV (nV ns) none (some (k : Int)) = nV (ns.take k) := by
  unfold cutV
  rw [HT.sIx_none, HT.sIx_nat, List.drop_zero, Nat.sub_zero, nV_len, ← List.map_take]
  rcases Nat.le_total k ns.length with h | h
  · rw [Nat.min_eq_left h]
  · rw [Nat.min_eq_right h, List.take_length, List.take_of_length_le h]
end KM

set_option Elab.async false
set_option linter.all false
set_option maxRecDepth 100000
set_option maxHeartbeats 4000000
namespace K33
open PySem L2 Ew Tb KM STx
def topS (i : Nat) : Stmt := PySem.Challenge.pw_everyworth_k33_least_costs.main.body.getD i (.Pass ⟨0, 0, 0, 0⟩)
abbrev s_is_integer : Stmt := (topS 4)
theorem sc_is_integer : FnScope ["thing"] ["thing"] (defScope s_is_integer) := ⟨rfl, rfl, rfl, by decide +kernel, rfl, by decide +kernel, by decide +kernel⟩
abbrev s_is_natural : Stmt := (topS 5)
theorem sc_is_natural : FnScope ["thing"] ["thing"] (defScope s_is_natural) := ⟨rfl, rfl, rfl, by decide +kernel, rfl, by decide +kernel, by decide +kernel⟩
abbrev s_Tops_init : Stmt := (inClass (topS 8) 0)
theorem sc_Tops_init : FnScope ["self", "k"] ["self", "k"] (defScope s_Tops_init) := ⟨rfl, rfl, rfl, by decide +kernel, rfl, by decide +kernel, by decide +kernel⟩
abbrev s_Tops_zero : Stmt := (inClass (topS 8) 1)
theorem sc_Tops_zero : FnScope ["self"] ["self"] (defScope s_Tops_zero) := ⟨rfl, rfl, rfl, by decide +kernel, rfl, by decide +kernel, by decide +kernel⟩
abbrev s_Tops_one : Stmt := (inClass (topS 8) 2)
theorem sc_Tops_one : FnScope ["self"] ["self"] (defScope s_Tops_one) := ⟨rfl, rfl, rfl, by decide +kernel, rfl, by decide +kernel, by decide +kernel⟩
abbrev s_Tops_plus : Stmt := (inClass (topS 8) 3)
theorem sc_Tops_plus : FnScope ["self", "a", "b"] ["self", "a", "b"] (defScope s_Tops_plus) := ⟨rfl, rfl, rfl, by decide +kernel, rfl, by decide +kernel, by decide +kernel⟩
abbrev s_Tops_times : Stmt := (inClass (topS 8) 4)
theorem sc_Tops_times : FnScope ["self", "a", "b", "first", "second"] ["self", "a", "b"] (defScope s_Tops_times) := ⟨rfl, rfl, rfl, by decide +kernel, rfl, by decide +kernel, by decide +kernel⟩
abbrev s_Tops_star : Stmt := (inClass (topS 8) 5)
theorem sc_Tops_star : FnScope ["self", "a", "total", "_"] ["self", "a"] (defScope s_Tops_star) := ⟨rfl, rfl, rfl, by decide +kernel, rfl, by decide +kernel, by decide +kernel⟩
abbrev s_Tops_is_element : Stmt := (inClass (topS 8) 6)
theorem sc_Tops_is_element : FnScope ["self", "a", "cost"] ["self", "a"] (defScope s_Tops_is_element) := ⟨rfl, rfl, rfl, by decide +kernel, rfl, by decide +kernel, by decide +kernel⟩
abbrev s_Tops_least : Stmt := (inClass (topS 8) 7)
theorem sc_Tops_least : FnScope ["self", "costs"] ["self", "costs"] (defScope s_Tops_least) := ⟨rfl, rfl, rfl, by decide +kernel, rfl, by decide +kernel, by decide +kernel⟩
abbrev s_law_pot : Stmt := (topS 10)
theorem sc_law_pot : FnScope ["script", "seed", "cell"] ["script"] (defScope s_law_pot) := ⟨rfl, rfl, rfl, by decide +kernel, rfl, by decide +kernel, by decide +kernel⟩
abbrev s_law_next : Stmt := (topS 11)
theorem sc_law_next : FnScope ["pot", "limit", "cell", "found", "mixed"] ["pot", "limit"] (defScope s_law_next) := ⟨rfl, rfl, rfl, by decide +kernel, rfl, by decide +kernel, by decide +kernel⟩
abbrev s_law_is_int : Stmt := (topS 12)
theorem sc_law_is_int : FnScope ["value"] ["value"] (defScope s_law_is_int) := ⟨rfl, rfl, rfl, by decide +kernel, rfl, by decide +kernel, by decide +kernel⟩
abbrev s_law_same : Stmt := (topS 13)
theorem sc_law_same : FnScope ["found", "value", "k"] ["found", "value"] (defScope s_law_same) := ⟨rfl, rfl, rfl, by decide +kernel, rfl, by decide +kernel, by decide +kernel⟩
abbrev s_law_refused : Stmt := (topS 14)
theorem sc_law_refused : FnScope ["k", "e"] ["k"] (defScope s_law_refused) := ⟨rfl, rfl, rfl, by decide +kernel, rfl, by decide +kernel, by decide +kernel⟩
abbrev s_law_element : Stmt := (topS 15)
theorem sc_law_element : FnScope ["pot", "many", "most", "k"] ["pot", "many"] (defScope s_law_element) := ⟨rfl, rfl, rfl, by decide +kernel, rfl, by decide +kernel, by decide +kernel⟩
abbrev s_law_sums : Stmt := (topS 16)
theorem sc_law_sums : FnScope ["a", "b", "many", "found", "one", "other"] ["a", "b", "many"] (defScope s_law_sums) := ⟨rfl, rfl, rfl, by decide +kernel, rfl, by decide +kernel, by decide +kernel⟩
abbrev s_law : Stmt := (topS 17)
theorem sc_law : FnScope ["script", "pot", "many", "ring", "told", "a", "b", "c", "star", "due", "k", "bad", "x"] ["script"] (defScope s_law) := ⟨rfl, rfl, rfl, by decide +kernel, rfl, by decide +kernel, by decide +kernel⟩
local macro_rules | `(tactic| walk_at "len") => `(tactic| first | (intro h; obtain ⟨_, e, _⟩ := h; rw [e]; rfl) | (intro h; obtain ⟨_, _, e, _⟩ := h; rw [e]; rfl) | (intro h; obtain ⟨_, _, _, e, _⟩ := h; rw [e]; rfl) | (intro h; obtain ⟨_, _, _, _, e, _⟩ := h; rw [e]; rfl) | (intro h; obtain ⟨_, _, _, _, _, e, _⟩ := h; rw [e]; rfl) | (intro h; obtain ⟨_, _, _, _, _, _, e, _⟩ := h; rw [e]; rfl) | (intro h; obtain ⟨_, _, _, _, _, _, _, e, _⟩ := h; rw [e]; rfl) | (intro h; exact h.elim))
structure Ad where
  WorthError : Addr
  InvalidArgument : Addr
  Tops : Addr
structure Txt (K : PySem.W.Frag) (mg : Str → Option Value) (ad : Ad) : Prop where
  z_isinstance : mg "isinstance" = none
  z_int : mg "int" = none
  z_bool : mg "bool" = none
  z_str : mg "str" = none
  z_list : mg "list" = none
  z_tuple : mg "tuple" = none
  z_abs : mg "abs" = none
  z_len : mg "len" = none
  z_range : mg "range" = none
  z_all : mg "all" = none
  z_any : mg "any" = none
  z_sorted : mg "sorted" = none
  g_MOST_KEPT : ∃ t, mg "MOST_KEPT" = some (.int 20 t)
  g_WorthError : mg "WorthError" = some (.ref ad.WorthError)
  g_InvalidArgument : mg "InvalidArgument" = some (.ref ad.InvalidArgument)
  x_InvalidArgument : PySem.W.excIn K ad.InvalidArgument [.type "ValueError", .type "Exception", .type "BaseException", .type "object"] "ValueError.__new__" = true
  k_InvalidArgument : PySem.W.keepIn K (.ref ad.InvalidArgument) = true
  b_InvalidArgument : PySem.W.subIn K (.ref ad.InvalidArgument) (.type "BaseException") = some true
  t_InvalidArgument : PySem.W.typeIn K (.ref ad.InvalidArgument) = some (.type "type")
  ec_InvalidArgument : ExcC K ad.InvalidArgument
  em_InvalidArgument : PySem.W.exmOne K (.ref ad.InvalidArgument) (.ref ad.WorthError) = some true
  ki_InvalidArgument : PySem.W.kitOne K (.ref ad.InvalidArgument) (.ref ad.InvalidArgument) = some true
  c_Tops : Cls K ad.Tops
  n_k : NoAttr K ad.Tops "_k"
def isI : V → Bool
  | .int _ => true
  | _ => false
/-- a thing whose type isinstance tells -/
inductive Thg (H : Hp) : V → Prop where
  | non : Thg H .non
  | bl (b : Bool) : Thg H (.bl b)
  | int (i : Int) : Thg H (.int i)
  | str (x : Str) : Thg H (.str x)
  | lst {a : Addr} {xs : List V} (e : H a = some (.lst xs)) : Thg H (.ref a)
  | tup {a : Addr} {xs : List V} (e : H a = some (.tup xs)) : Thg H (.ref a)
/-- (isinstance(x, int), isinstance(x, bool)) -/
theorem thg_ty {K : PySem.W.Frag} {H : Hp} {x : V} (h : Thg H x) : ∃ t, TyX K H x t ∧ (∃ b1 b2, PySem.W.kitOne K t (.type "int") = some b1 ∧ PySem.W.kitOne K t (.type "bool") = some b2 ∧ (b1 && !b2) = isI x ∧ (b1 = false → isI x = false)) := by
  cases h with
  | non => exact ⟨_, .base .non, false, false, kit_ty (by decide +kernel), kit_ty (by decide +kernel), rfl, fun _ => rfl⟩
  | bl b => exact ⟨_, .base (.bl b), true, true, kit_ty (by decide +kernel), kit_ty (by decide +kernel), rfl, fun _ => rfl⟩
  | int i => exact ⟨_, .base (.int i), true, false, kit_ty (by decide +kernel), kit_ty (by decide +kernel), rfl, fun z => by cases z⟩
  | str b => exact ⟨_, .base (.str b), false, false, kit_ty (by decide +kernel), kit_ty (by decide +kernel), rfl, fun _ => rfl⟩
  | lst e => exact ⟨_, .base (.lst e), false, false, kit_ty (by decide +kernel), kit_ty (by decide +kernel), rfl, fun _ => rfl⟩
  | tup e => exact ⟨_, .base (.tup e), false, false, kit_ty (by decide +kernel), kit_ty (by decide +kernel), rfl, fun _ => rfl⟩
def spIsInt : Sp := fun vs H Q _ => ∃ x, vs = [x] ∧ Thg H x ∧ Q (.bl (isI x)) H
def natV : V → Bool
  | .int i => decide (0 ≤ i)
  | _ => false
def spIsNat : Sp := fun vs H Q _ => ∃ x, vs = [x] ∧ Thg H x ∧ Q (.bl (natV x)) H
section
variable {P : Program} {w : World} {K : PySem.W.Frag} {mg : Str → Option Value} {base : Heap} {ad : Ad}
theorem ok_is_integer  {f : Addr} {fd : FuncData} (F : Fun K "is_integer" "is_integer" s_is_integer f fd) (T : Txt K mg ad) : FnOk P w K mg base (L2.CX P w) 1 f fd ["thing"] (spIsInt) := by
  refine F.okX sc_is_integer (fun vs H Q E => ?_) (fun cdv A outer s H vs Q E hr h => ?_)
  · walk_at "len"
  ·
    obtain ⟨x, rfl, hx, k⟩ := h
    refine ⟨_, (pss_one (ps_ret (pe_and (pe_callB call_isi (by rfl) T.z_isinstance (by decide +kernel) (pa_cons (pv 0) (pa_cons (pe_bltn (v := .ty "int") (by rfl) T.z_int (by decide +kernel) rfl) pa_nil))) (pe_one (pe_not (pe_callB call_isi (by rfl) T.z_isinstance (by decide +kernel) (pa_cons (pv 0) (pa_cons (pe_bltn (v := .ty "bool") (by rfl) T.z_bool (by decide +kernel) rfl) pa_nil)))))))), ?_⟩
    obtain ⟨t, ty, b1, b2, e1, e2, e3, e4⟩ := thg_ty (K := K) hx
    refine ⟨_, rfl, _, _, _, _, b1, rfl, .ty _, ty, e1, b1, rfl, ?_⟩
    refine ite2 (fun c => ?_) (fun c => ?_)
    · refine ⟨_, rfl, _, _, _, _, b2, rfl, .ty _, ty, e2, b2, rfl, ?_⟩
      subst c
      rw [Bool.true_and] at e3
      rw [e3]
      exact k
    · have c' : b1 = false := by simpa using c
      have := e4 c'
      rw [this] at k
      exact k
theorem ok_is_natural (c_is_integer : CalX P w K mg base 1 "is_integer" spIsInt) {f : Addr} {fd : FuncData} (F : Fun K "is_natural" "is_natural" s_is_natural f fd) (T : Txt K mg ad) : FnOk P w K mg base (L2.CX P w) 2 f fd ["thing"] (spIsNat) := by
  refine F.okX sc_is_natural (fun vs H Q E => ?_) (fun cdv A outer s H vs Q E hr h => ?_)
  · walk_at "len"
  ·
    obtain ⟨x, rfl, hx, k⟩ := h
    refine ⟨_, (pss_one (ps_ret (pe_and (pc_call c_is_integer hr (by first | decide | omega) (takes_of rfl rfl rfl rfl) (by rfl) (pa_cons (pv 0) pa_nil)) (pe_one (pe_cmpR op_ge (pv 0) pe_int (nomark _)))))), ?_⟩
    refine ⟨_, rfl, _, rfl, hx, _, rfl, ?_⟩
    refine ite2 (fun c => ?_) (fun c => ?_)
    · cases x <;> first | exact absurd c Bool.false_ne_true | skip
      exact ⟨_, rfl, _, _, rfl, rfl, k⟩
    · cases x <;> first | exact k | exact absurd rfl c
/-! ### the class -/
theorem two_new {p : Addr} {H H1 : Hp} {o : HO} (x : Same H H1) (h : H1 p = none) : Same H (L2.upd H1 p o) := fun b u e => by
  rw [upd_ne (ne_of_none (x b u e) h)]
  exact x b u e
abbrev fK (k : Nat) : List (Str × V) := putF "_k" (.int (k : Int)) []
theorem fK_k (k : Nat) : (fK k).lookup ("_k" : Str) = some (.int (k : Int)) := by rw [lookup_putF, if_pos rfl]
theorem fK_no (k : Nat) {m : Str} (h : ¬ m = "_k") : (fK k).lookup m = none := by rw [lookup_putF, if_neg h]; rfl
def spInit (C ia : Addr) : Sp := fun vs H Q E => ∃ y dy, ∃ k : Nat, vs = [.ref y, .int (k : Int)] ∧ H y = some (.ins C dy []) ∧ ((1 ≤ k ∧ k ≤ 20) → Q .non (upd H y (.ins C dy (fK k)))) ∧ (¬ (1 ≤ k ∧ k ≤ 20) → E (.ref ia) none H)
theorem ok_Tops_init  {f : Addr} {fd : FuncData} (F : Fun K "__init__" "Tops.__init__" s_Tops_init f fd) (T : Txt K mg ad) : FnOk P w K mg base (L2.CX P w) 1 f fd ["self", "k"] (spInit ad.Tops ad.InvalidArgument) := by
  refine F.okX sc_Tops_init (fun vs H Q E => ?_) (fun cdv A outer s H vs Q E hr h => ?_)
  · walk_at "len"
  ·
    obtain ⟨y, dy, k, rfl, hy, k1, k2⟩ := h
    refine ⟨_, (pss_cons (ps_if (pt_not (pt_chain op_le op_le pe_int (pv 1) (pe_gint (by rfl) T.g_MOST_KEPT))) (pss_one (ps_raise rfl (takes_of rfl rfl rfl rfl) (pmk_own PySem.F.excBase_ValueError T.x_InvalidArgument T.g_InvalidArgument T.k_InvalidArgument (raises_own T.b_InvalidArgument T.t_InvalidArgument) (by rfl)))) pss_nil)
      (pss_one (ps_fld (pv 0) (pv 1) rfl))), ?_⟩
    refine ⟨_, rfl, _, _, rfl, rfl, _, rfl, ?_⟩
    by_cases c1 : 1 ≤ k
    · rw [decide_eq_true (show (1 : Int) ≤ (k : Int) by omega)]
      refine iteT ⟨_, _, rfl, rfl, _, rfl, ?_⟩
      by_cases c2 : k ≤ 20
      · rw [decide_eq_true (show (k : Int) ≤ 20 by omega)]
        exact iteF (go_next ⟨_, rfl, _, rfl, y, _, dy, _, rfl, hy, T.c_Tops, T.n_k, (by show 0 < 1000; decide), k1 ⟨c1, c2⟩⟩)
      · rw [decide_eq_false (show ¬ (k : Int) ≤ 20 by omega)]
        exact iteT (k2 fun z => c2 z.2)
    · rw [decide_eq_false (show ¬ (1 : Int) ≤ (k : Int) by omega)]
      exact iteF ⟨_, rfl, iteT (k2 fun z => c1 z.1)⟩
def spNul (C : Addr) (ts : List Nat) : Sp := fun vs H Q _ => ∃ y dy, ∃ k : Nat, vs = [.ref y] ∧ H y = some (.ins C dy (fK k)) ∧ ∀ p, H p = none → Q (.ref p) (upd H p (.tup (nV ts)))
theorem ok_Tops_zero  {f : Addr} {fd : FuncData} (F : Fun K "zero" "Tops.zero" s_Tops_zero f fd) (T : Txt K mg ad) : FnOk P w K mg base (L2.CX P w) 1 f fd ["self"] (spNul ad.Tops []) := by
  refine F.okX sc_Tops_zero (fun vs H Q E => ?_) (fun cdv A outer s H vs Q E hr h => ?_)
  · walk_at "len"
  ·
    obtain ⟨y, dy, k, rfl, hy, q⟩ := h
    refine ⟨_, (pss_one (ps_ret (pe_tup pa_nil))), ?_⟩
    exact ⟨(show 0 ≤ sizeLine by decide), fun p hp => q p hp⟩
theorem ok_Tops_one  {f : Addr} {fd : FuncData} (F : Fun K "one" "Tops.one" s_Tops_one f fd) (T : Txt K mg ad) : FnOk P w K mg base (L2.CX P w) 1 f fd ["self"] (spNul ad.Tops [0]) := by
  refine F.okX sc_Tops_one (fun vs H Q E => ?_) (fun cdv A outer s H vs Q E hr h => ?_)
  · walk_at "len"
  ·
    obtain ⟨y, dy, k, rfl, hy, q⟩ := h
    refine ⟨_, (pss_one (ps_ret (pe_tup (pa_cons pe_int pa_nil)))), ?_⟩
    exact ⟨(show 1 ≤ sizeLine by decide), fun p hp => q p hp⟩
def spLeast (C : Addr) : Sp := fun vs H Q _ => ∃ y dy L, ∃ (k : Nat) (ns : List Nat), vs = [.ref y, .ref L] ∧ H y = some (.ins C dy (fK k)) ∧ (H L = some (.lst (nV ns)) ∨ H L = some (.tup (nV ns))) ∧ ∀ H' p, Same H H' → H' p = some (.tup (nV (topN k ns))) → Q (.ref p) H'
theorem ok_Tops_least  {f : Addr} {fd : FuncData} (F : Fun K "_least" "Tops._least" s_Tops_least f fd) (T : Txt K mg ad) : FnOk P w K mg base (L2.CX P w) 1 f fd ["self", "costs"] (spLeast ad.Tops) := by
  refine F.okX sc_Tops_least (fun vs H Q E => ?_) (fun cdv A outer s H vs Q E hr h => ?_)
  · walk_at "len"
  ·
    obtain ⟨y, dy, L, k, ns, rfl, hy, hL, q⟩ := h
    refine ⟨_, (pss_one (ps_ret (pe_callTy call_tuple_of (by rfl) T.z_tuple (by decide +kernel) (pa_cons (pe_slice sl_list (pe_callB cr_sortedA (by rfl) T.z_sorted (by decide +kernel) (pa_cons (pv 1) pa_nil)) po_none (po_some (pe_fld (pv 0) rfl))) pa_nil)))), ?_⟩
    have hA : SqL K H L ((ns.map fun (n : Nat) => (n : Int)).map V.int) ∨ SqT K H L ((ns.map fun (n : Nat) => (n : Int)).map V.int) := by
      rw [int_map]
      exact hL.elim (fun e => .inl (SqL.of e)) (fun e => .inr (SqT.of e))
    refine ⟨_, rfl, L, _, rfl, hA, fun ms p hp hs hpn => ?_⟩
    rw [sortN_of hp hs, int_map]
    have s1 : Same H (upd H p (.lst (nV (sortN ns)))) := same_new (Same.refl _) hpn
    refine ⟨_, rfl, y, _, dy, _, _, rfl, s1 _ _ hy, T.c_Tops, T.n_k, fK_k k, ?_⟩
    refine ⟨_, rfl, p, _, rfl, SqL.of upd_same, fun l hl => ?_⟩
    rw [cut_to]
    have s2 := two_new (o := .lst (nV ((sortN ns).take k))) s1 hl
    refine ⟨l, _, rfl, .inl ⟨SqL.of upd_same, fun tt ht => ?_⟩⟩
    exact q _ tt (two_new s2 ht) upd_same
def spBin (C : Addr) (f : Nat → List Nat → List Nat → List Nat) : Sp := fun vs H Q _ => ∃ y dy a b, ∃ (k : Nat) (us ws : List Nat), vs = [.ref y, .ref a, .ref b] ∧ H y = some (.ins C dy (fK k)) ∧ H a = some (.tup (nV us)) ∧ H b = some (.tup (nV ws)) ∧ us.length ≤ 1000 ∧ ws.length ≤ 1000 ∧ ∀ H' p, Same H H' → H' p = some (.tup (nV (f k us ws))) → Q (.ref p) H'
theorem ok_Tops_plus (m_least : MetX P w K mg base 1 ad.Tops "_least" (spLeast ad.Tops)) {f : Addr} {fd : FuncData} (F : Fun K "plus" "Tops.plus" s_Tops_plus f fd) (T : Txt K mg ad) : FnOk P w K mg base (L2.CX P w) 2 f fd ["self", "a", "b"] (spBin ad.Tops plN) := by
  refine F.okX sc_Tops_plus (fun vs H Q E => ?_) (fun cdv A outer s H vs Q E hr h => ?_)
  · walk_at "len"
  ·
    obtain ⟨y, dy, a, b, k, us, ws, rfl, hy, ha, hb, lu, lw, q⟩ := h
    refine ⟨_, (pss_one (ps_ret (pd_meth hr (takes_of rfl rfl rfl rfl) (pv 0) (pa_cons (pe_op op_catA (pv 1) (pv 2)) pa_nil)))), ?_⟩
    refine ⟨_, rfl, y, _, dy, _, 1, _, rfl, hy, fK_no _ (by decide), by decide, m_least, _, rfl, _, rfl, a, b, _, _, rfl, rfl, SqT.of ha, SqT.of hb, ?_, fun e => ?_, fun e1 e2 => ?_, fun e1 e2 c hc => ?_⟩
    · rw [nV_len, nV_len]; exact Nat.le_trans (by omega : _ ≤ 2000) (by decide)
    · have : us = [] := List.map_eq_nil_iff.mp e
      subst this
      exact ⟨y, dy, b, k, ws, rfl, hy, .inr hb, q⟩
    · have : ws = [] := List.map_eq_nil_iff.mp e2
      subst this
      refine ⟨y, dy, a, k, us, rfl, hy, .inr ha, fun H' p s e => q H' p s ?_⟩
      unfold plN
      rw [List.append_nil]
      exact e
    · have s1 : Same H (upd H c (.tup (nV us ++ nV ws))) := same_new (Same.refl _) hc
      refine ⟨y, dy, c, k, us ++ ws, rfl, s1 _ _ hy, .inr (by rw [upd_same, nV_app]), fun H' p s e => q H' p (fun _ _ z => s _ _ (s1 _ _ z)) e⟩
theorem sums_take {xs : List Nat} {i x : Nat} (ys : List Nat) (h : xs[i]? = some x) : sumsN (xs.take (i + 1)) ys = sumsN (xs.take i) ys ++ ys.map fun y => x + y := by
  rw [List.take_add_one, h, sums_app]
  show _ ++ (sumsN [x] ys) = _
  rw [sums_cons, sums_nil, List.append_nil]
theorem sums_len : ∀ xs ys : List Nat, (sumsN xs ys).length = xs.length * ys.length
  | [], _ => (Nat.zero_mul _).symm
  | x :: xs, ys => by rw [sums_cons, List.length_append, List.length_map, sums_len xs ys, List.length_cons, Nat.succ_mul, Nat.add_comm]
theorem ok_Tops_times (m_least : MetX P w K mg base 1 ad.Tops "_least" (spLeast ad.Tops)) {f : Addr} {fd : FuncData} (F : Fun K "times" "Tops.times" s_Tops_times f fd) (T : Txt K mg ad) : FnOk P w K mg base (L2.CX P w) 2 f fd ["self", "a", "b"] (spBin ad.Tops tmN) := by
  refine F.okX sc_Tops_times (fun vs H Q E => ?_) (fun cdv A outer s H vs Q E hr h => ?_)
  · walk_at "len"
  ·
    obtain ⟨y, dy, a, b, k, us, ws, rfl, hy, ha, hb, lu, lw, q⟩ := h
    refine ⟨_, (pss_one (ps_ret (pd_meth hr (takes_of rfl rfl rfl rfl) (pv 0) (pa_cons (pe_lc2 (own := [("first", 3), ("second", 4)]) (vs1 := [4]) (tt := tYes) (tt1 := tYes) rfl sc_Tops_times.nd (pi_tup (pv 1)) (blkOk_by (by kernel_rfl)) (by decide) (fun _ _ _ _ _ => (pg_name (i := 3) sc_Tops_times.nd rfl (by first | exact Or.inl rfl | exact Or.inr rfl))) (fun _ _ _ _ _ => pts_nil) (fun _ _ _ _ _ => (kpi_tup (K := K) (pv 2))) (fun _ _ _ _ _ => (pg_name (i := 4) sc_Tops_times.nd rfl (by first | exact Or.inl rfl | exact Or.inr rfl))) (fun _ _ _ _ _ => pts_nil) (fun _ _ _ _ _ => (pe_op op_add (pv 3) (pv 4)))) pa_nil)))), ?_⟩
    refine ⟨_, rfl, y, _, dy, _, 1, _, rfl, hy, fK_no _ (by decide), by decide, m_least, _, rfl, a, rfl, ⟨_, SqT.of ha⟩, fun D hD => ?_⟩
    refine wk_tup (xs := nV us) (fun i H1 => Same H H1 ∧ H1 D = some (.lst (nV (sumsN (us.take i) ws)))) ⟨same_new (Same.refl _) hD, upd_same⟩ (fun i H1 _ ⟨s1, _⟩ => SqT.of (s1 _ _ ha)) (fun i x H1 hx ⟨s1, e1⟩ => ?_) (fun H1 ⟨s1, e1⟩ => ?_)
    · obtain ⟨n, hn, rfl⟩ := nV_at hx
      have hi : i < us.length := (List.getElem?_eq_some_iff.mp hn).1
      refine go_name rfl ⟨rfl, yes_then (iteT ⟨_, rfl, b, rfl, ⟨_, SqT.of (s1 _ _ hb)⟩, ?_⟩)⟩
      refine wk_tup (xs := nV ws) (fun j H2 => Same H H2 ∧ H2 D = some (.lst (nV (sumsN (us.take i) ws ++ (ws.take j).map fun z => n + z)))) ⟨s1, by rw [e1]; simp⟩ (fun j H2 _ ⟨s2, _⟩ => SqT.of (s2 _ _ hb)) (fun j x H2 hx2 ⟨s2, e2⟩ => ?_) (fun H2 ⟨s2, e2⟩ => ⟨s2, ?_⟩)
      · obtain ⟨m, hm, rfl⟩ := nV_at hx2
        have hj : j < ws.length := (List.getElem?_eq_some_iff.mp hm).1
        refine go_name rfl ⟨rfl, yes_then (iteT ⟨_, rfl, _, rfl, _, _, rfl, rfl, _, e2, ?_, ?_, ?_⟩)⟩
        · rw [nV_len, List.length_append, sums_len, List.length_map]
          have h1 := List.length_take_le i us
          have h2 := List.length_take_le j ws
          have h3 : (us.take i).length * ws.length ≤ 1000 * 1000 := Nat.mul_le_mul (by have := List.length_take_le' i us; omega) lw
          exact Nat.lt_of_le_of_lt (by omega : _ ≤ 1001000) (by decide)
        · exact same_but hD s2 but_app
        · rw [upd_same, List.take_add_one, hm, List.map_append, ← List.append_assoc, ← nV_app, ← nV_app, ← nV_app]
          rfl
      · rw [e2, nV_len, List.take_length, sums_take ws hn]
    · rw [nV_len, List.take_length] at e1
      exact ⟨y, dy, D, k, sumsN us ws, rfl, s1 _ _ hy, .inl e1, fun H' p s e => q H' p (fun _ _ z => s _ _ (s1 _ _ z)) e⟩
end
end K33

set_option Elab.async false
set_option linter.all false
set_option maxRecDepth 100000
set_option maxHeartbeats 4000000
namespace K33
open PySem L2 Ew Tb KM STx EwG GxR
local macro_rules | `(tactic| walk_at "len") => `(tactic| first | (intro h; obtain ⟨_, e, _⟩ := h; rw [e]; rfl) | (intro h; obtain ⟨_, _, e, _⟩ := h; rw [e]; rfl) | (intro h; obtain ⟨_, _, _, e, _⟩ := h; rw [e]; rfl) | (intro h; obtain ⟨_, _, _, _, e, _⟩ := h; rw [e]; rfl) | (intro h; obtain ⟨_, _, _, _, _, e, _⟩ := h; rw [e]; rfl) | (intro h; obtain ⟨_, _, _, _, _, _, e, _⟩ := h; rw [e]; rfl) | (intro h; obtain ⟨_, _, _, _, _, _, _, e, _⟩ := h; rw [e]; rfl) | (intro h; exact h.elim))
section
variable {P : Program} {w : World} {K : PySem.W.Frag} {mg : Str → Option Value} {base : Heap} {ad : Ad}
theorem go_sq {a u : TS} {D : Ends} {σ : L2.St} {H : Hp} (h : a { D with nx := fun σ' H' => u D σ' H' } σ H) : tSeq a u D σ H := h
def spStar (C : Addr) : Sp := fun vs H Q _ => ∃ y dy a, ∃ (k : Nat) (us : List Nat), vs = [.ref y, .ref a] ∧ H y = some (.ins C dy (fK k)) ∧ H a = some (.tup (nV us)) ∧ us.length ≤ 1000 ∧ 1 ≤ k ∧ k ≤ 20 ∧ ∀ H' p, Same H H' → H' p = some (.tup (nV (starN k us))) → Q (.ref p) H'
theorem rep_nV (k : Nat) : (List.replicate ((k : Int).toNat) ([.int 0] : List V)).flatten = nV (List.replicate k 0) := by
  rw [Int.toNat_natCast]
  induction k with
  | zero => rfl
  | succ n ih => rw [List.replicate_succ, List.flatten_cons, ih]; rfl
theorem ok_Tops_star (m_one : MetX P w K mg base 2 ad.Tops "one" (spNul ad.Tops [0])) (m_plus : MetX P w K mg base 2 ad.Tops "plus" (spBin ad.Tops plN)) (m_times : MetX P w K mg base 2 ad.Tops "times" (spBin ad.Tops tmN)) {f : Addr} {fd : FuncData} (F : Fun K "star" "Tops.star" s_Tops_star f fd) (T : Txt K mg ad) : FnOk P w K mg base (L2.CX P w) 3 f fd ["self", "a"] (spStar ad.Tops) := by
  refine F.okX sc_Tops_star (fun vs H Q E => ?_) (fun cdv A outer s H vs Q E hr h => ?_)
  · walk_at "len"
  ·
    obtain ⟨y, dy, a, k, us, rfl, hy, ha, lu, k1, k20, q⟩ := h
    refine ⟨_, (pss_cons (ps_if (pt_cmpR op_in_seq pe_int (pv 1) (by rfl)) (pss_one (ps_ret (pe_op op_repA (pe_tup (pa_cons pe_int pa_nil)) (pe_fld (pv 0) rfl)))) pss_nil)
      (pss_cons (ps_set (i := 2) sc_Tops_star.nd rfl (by first | exact Or.inl rfl | exact Or.inr rfl) (pd_meth0 hr (takes_of rfl rfl rfl rfl) (pv 0)))
      (pss_cons (ps_for (passes_of rfl) rfl (pi_range1 (by rfl) T.z_range (pa_cons (pe_fld (pv 0) rfl) pa_nil)) (pg_name (i := 3) sc_Tops_star.nd rfl (by first | exact Or.inl rfl | exact Or.inr rfl)) (pss_one (ps_set (i := 2) sc_Tops_star.nd rfl (by first | exact Or.inl rfl | exact Or.inr rfl) (pd_meth hr (takes_of rfl rfl rfl rfl) (pv 0) (pa_cons (pd_meth0 hr (takes_of rfl rfl rfl rfl) (pv 0)) (pa_cons (pd_meth hr (takes_of rfl rfl rfl rfl) (pv 0) (pa_cons (pv 1) (pa_cons (pv 2) pa_nil))) pa_nil))))))
      (pss_one (ps_ret (pv 2)))))), ?_⟩
    refine ⟨.ref a, rfl, a, nV us, rfl, .inr (SqT.of ha), rfl, nV_flat us, _, rfl, ?_⟩
    rw [show (if false = true then !inV (.int 0) (nV us) else inV (.int 0) (nV us)) = decide (0 ∈ us) from inV_nV 0 us]
    by_cases z : 0 ∈ us
    · rw [decide_eq_true z]
      have es : starN k us = List.replicate k 0 := if_pos z
      rw [es] at q
      refine iteT ⟨(show 1 ≤ sizeLine by decide), fun p hp => ?_⟩
      have s1 : Same H (upd H p (.tup [.int 0])) := same_new (Same.refl _) hp
      refine ⟨_, rfl, y, _, dy, _, _, rfl, s1 _ _ hy, T.c_Tops, T.n_k, fK_k k, p, _, _, rfl, rfl, SqT.of upd_same, by simp, by omega, by omega, by simp, fun e => ?_, fun e p2 hp2 => ?_⟩
      · have : k = 1 := by omega
        subst this
        exact q _ p s1 upd_same
      · exact q _ p2 (two_new s1 hp2) (by rw [upd_same, rep_nV])
    · rw [decide_eq_false z]
      have es : starN k us = iterN k us k := if_neg z
      rw [es] at q
      refine iteF (go_next ?_)
      refine go_seq ⟨_, rfl, y, _, dy, _, 2, _, rfl, hy, fK_no _ (by decide), by decide, m_one, y, dy, k, rfl, hy, fun p hp => go_name rfl ?_⟩
      have s1 : Same H (upd H p (.tup (nV [0]))) := same_new (Same.refl _) hp
      refine go_sq ⟨_, rfl, y, _, dy, _, _, rfl, s1 _ _ hy, T.c_Tops, T.n_k, fK_k k, _, rfl, by omega, by omega, ?_⟩
      rw [Int.toNat_natCast]
      refine for_range (lo := 0) (n := k) (fun i σ H' => ∃ (t : Addr) (v : Option V), σ = [some (.ref y), some (.ref a), some (.ref t), v] ∧ Same H H' ∧ H' t = some (.tup (nV (iterN k us i)))) ⟨p, _, rfl, s1, upd_same⟩ ?_ ?_
      · rintro i σ H1 hi ⟨t, v, rfl, s2, e2⟩
        refine go_name rfl ?_
        have hy2 := s2 _ _ hy
        have li := (iter_el k1 us i).len
        refine ⟨_, rfl, y, _, dy, _, 2, _, rfl, hy2, fK_no _ (by decide), by decide, m_plus, _, rfl, y, _, dy, _, 2, _, rfl, hy2, fK_no _ (by decide), by decide, m_one, y, dy, k, rfl, hy2, fun p1 hp1 => ?_⟩
        have s3 : Same H1 (upd H1 p1 (.tup (nV [0]))) := same_new (Same.refl _) hp1
        refine ⟨_, rfl, y, _, dy, _, 2, _, rfl, s3 _ _ hy2, fK_no _ (by decide), by decide, m_times, _, rfl, _, rfl, y, dy, a, t, k, us, _, rfl, s3 _ _ hy2, s3 _ _ (s2 _ _ ha), s3 _ _ e2, lu, by omega, fun H2 p2 s4 e4 => ?_⟩
        refine ⟨y, dy, p1, p2, k, [0], _, rfl, s4 _ _ (s3 _ _ hy2), s4 _ _ upd_same, e4, by simp, by have := (el_top k (sumsN us (iterN k us i))).len; (show (topN k _).length ≤ 1000); omega, fun H3 p3 s5 e5 => go_name rfl ?_⟩
        exact ⟨p3, _, rfl, fun _ _ z => s5 _ _ (s4 _ _ (s3 _ _ (s2 _ _ z))), e5⟩
      · rintro σ H1 ⟨t, v, rfl, s2, e2⟩
        exact ⟨_, rfl, q _ t s2 e2⟩
/-! ### is_element -/
inductive Elc (k : Nat) (H : Hp) : V → Bool → Prop
  | non : Elc k H .non false
  | int (i : Int) : Elc k H (.int i) false
  | lst {a : Addr} {xs : List V} : H a = some (.lst xs) → Elc k H (.ref a) false
  | long {a : Addr} {xs : List V} : H a = some (.tup xs) → k < xs.length → Elc k H (.ref a) false
  | bad {a : Addr} {x : V} : H a = some (.tup [x]) → 1 ≤ k → Thg H x → natV x = false → Elc k H (.ref a) false
  | num {a : Addr} {us : List Nat} : H a = some (.tup (nV us)) → us.length ≤ k → Elc k H (.ref a) (decide (us = sortN us))
def spEl (PP C : Addr) : Sp := fun vs H Q _ => ∃ y dy x r, ∃ k : Nat, vs = [.ref y, x] ∧ H y = some (.ins C dy (fK k)) ∧ Elc k H x r ∧ TabG H PP ∧ k ≤ 20 ∧ ∀ H', FrT H H' → Q (.bl r) H'
theorem ok_Tops_is_element (c_is_natural : CalX P w K mg base 2 "is_natural" spIsNat) {f cc PP : Addr} {fd : FuncData} (F : FunC K "is_element" "Tops.is_element" s_Tops_is_element f fd cc) (TB : GxR.TabB base mg cc PP) (T : Txt K mg ad) : FnOk P w K mg base (L2.CX P w) 4 f fd ["self", "a"] (spEl PP ad.Tops) := by
  refine F.okX sc_Tops_is_element (fun vs H Q E => ?_) (fun A outer s H vs Q E hr h => ?_)
  · walk_at "len"
  ·
    obtain ⟨y, dy, x, r, k, rfl, hy, hx, hT, k20, q⟩ := h
    refine ⟨_, (pss_cons (ps_if (PW.pt (pw_or (pt_not (pt_val (pe_callB call_isi (by rfl) T.z_isinstance (by decide +kernel) (pa_cons (pv 1) (pa_cons (pe_bltn (v := .ty "tuple") (by rfl) T.z_tuple (by decide +kernel) rfl) pa_nil))))) (pw_or1 (pt_cmpR op_gt (pe_callB call_len (by rfl) T.z_len (by decide +kernel) (pa_cons (pv 1) pa_nil)) (pe_fld (pv 0) rfl) (nomark _))))) (pss_one (ps_ret pe_bl)) pss_nil)
      (pss_one (ps_ret (pe_and (EwG.pe_all (own := [("cost", 2)]) hr (by rfl) T.z_all TB rfl sc_Tops_is_element.nd (blkOk_by (by kernel_rfl)) (by decide +kernel) rfl rfl (pi_tup (pv 1)) (fun _ _ _ _ _ _ _ => (pg_name (i := 2) sc_Tops_is_element.nd rfl (by first | exact Or.inl rfl | exact Or.inr rfl))) (fun _ _ _ _ _ _ _ hr => (pc_call c_is_natural hr (by first | decide | omega) takes0 (by rfl) (pa_cons (pv 2) pa_nil)))) (pe_one (pe_cmpR (op_eqNums hr.units) (pe_callTy call_list_of (by rfl) T.z_list (by decide +kernel) (pa_cons (pv 1) pa_nil)) (pe_callB cr_sortedA (by rfl) T.z_sorted (by decide +kernel) (pa_cons (pv 1) pa_nil)) (nomark _))))))), ?_⟩
    cases hx with
    | non => exact ⟨_, rfl, _, _, _, _, false, rfl, .ty _, .base .non, kit_ty (by decide +kernel), false, rfl, iteT (q _ (FrT.refl _))⟩
    | int i => exact ⟨_, rfl, _, _, _, _, false, rfl, .ty _, .base (.int i), kit_ty (by decide +kernel), false, rfl, iteT (q _ (FrT.refl _))⟩
    | lst e => exact ⟨_, rfl, _, _, _, _, false, rfl, .ty _, .base (.lst e), kit_ty (by decide +kernel), false, rfl, iteT (q _ (FrT.refl _))⟩
    | long e hl =>
      rename_i a xs
      refine ⟨_, rfl, _, _, _, _, true, rfl, .ty _, .base (.tup e), kit_ty (by decide +kernel), true, rfl, iteF ?_⟩
      refine ⟨_, rfl, .ref a, _, rfl, .inr ⟨_, SqT.of e, rfl⟩, _, rfl, y, _, dy, _, _, rfl, hy, T.c_Tops, T.n_k, fK_k k, _, _, rfl, rfl, _, rfl, ?_⟩
      rw [decide_eq_true (show (k : Int) < (xs.length : Int) by omega)]
      exact iteT (q _ (FrT.refl _))
    | bad e k1 hx hn =>
      rename_i a x
      refine ⟨_, rfl, _, _, _, _, true, rfl, .ty _, .base (.tup e), kit_ty (by decide +kernel), true, rfl, iteF ?_⟩
      refine ⟨_, rfl, .ref a, _, rfl, .inr ⟨_, SqT.of e, rfl⟩, _, rfl, y, _, dy, _, _, rfl, hy, T.c_Tops, T.n_k, fK_k k, _, _, rfl, rfl, _, rfl, ?_⟩
      rw [decide_eq_false (show ¬ (k : Int) < (([x].length : Nat) : Int) by rw [List.length_singleton]; omega)]
      refine iteF (go_next ?_)
      refine ⟨_, rfl, a, rfl, ⟨_, SqT.of e⟩, hT, fun H2 hTb => ?_⟩
      have fr := FrT.tab hT hTb
      have hx2 : Thg H2 x := by
        cases hx with
        | non => exact .non
        | bl b => exact .bl b
        | int i => exact .int i
        | str z => exact .str z
        | lst e' => exact .lst (fr.lst e')
        | tup e' => exact .tup (fr.tup e')
      refine gwb_tup (K := K) (xs := [x]) (fun _ => false) (SqT.of (fr.tup e)) (fun _ => rfl) (fun i v Kt hv kt => ?_) (fun hb => absurd (hb 0 (by simp)) Bool.false_ne_true) (fun i hi _ => ⟨_, rfl, iteF (q _ fr)⟩)
      obtain rfl : x = v := by
        rcases i with _ | i
        · exact Option.some.inj hv
        · simp at hv
      refine ⟨_, rfl, _, rfl, hx2, ?_⟩
      rw [hn]
      exact kt
    | num e hl =>
      rename_i a us
      refine ⟨_, rfl, _, _, _, _, true, rfl, .ty _, .base (.tup e), kit_ty (by decide +kernel), true, rfl, iteF ?_⟩
      refine ⟨_, rfl, .ref a, _, rfl, .inr ⟨_, SqT.of e, rfl⟩, _, rfl, y, _, dy, _, _, rfl, hy, T.c_Tops, T.n_k, fK_k k, _, _, rfl, rfl, _, rfl, ?_⟩
      rw [decide_eq_false (show ¬ (k : Int) < (((nV us).length : Nat) : Int) by rw [nV_len]; omega)]
      refine iteF (go_next ?_)
      refine ⟨_, rfl, a, rfl, ⟨_, SqT.of e⟩, hT, fun H2 hTb => ?_⟩
      have fr := FrT.tab hT hTb
      have e2 := fr.tup e
      refine gwb_tup (K := K) (xs := nV us) (fun _ => true) (SqT.of e2) (fun _ => rfl) (fun i v Kt hv kt => ?_) (fun _ => ⟨_, rfl, iteT ?_⟩) (fun i _ hb => absurd hb.symm Bool.false_ne_true)
      · obtain ⟨n, _, rfl⟩ := nV_at hv
        refine ⟨_, rfl, _, rfl, .int _, ?_⟩
        rw [show natV (.int (n : Int)) = true from (decide_eq_true (by omega) : decide ((0 : Int) ≤ (n : Int)) = true)]
        exact kt
      · refine ⟨_, rfl, a, _, rfl, .inr (SqT.of e2), fun l hl2 => ?_⟩
        have s3 : Same H2 (upd H2 l (.lst (nV us))) := same_new (Same.refl _) hl2
        refine ⟨_, rfl, a, us.map (fun (n : Nat) => (n : Int)), rfl, .inr (by rw [int_map]; exact SqT.of (s3 _ _ e2)), fun ms p hp hs hpn => ?_⟩
        rw [sortN_of hp hs, int_map]
        have s4 := same_new (o := .lst (nV (sortN us))) (Same.refl _) hpn
        refine ⟨l, p, us, sortN us, rfl, rfl, .inr ⟨SqL.of (s4 _ _ upd_same), SqL.of upd_same⟩, ?_⟩
        exact q _ ((fr.trans (FrT.of s3)).trans (FrT.of s4))
end
end K33

set_option Elab.async false
set_option linter.all false
set_option maxRecDepth 100000
set_option maxHeartbeats 4000000
namespace K33
open PySem L2 Ew Tb KM STx EwG GxR
local macro_rules | `(tactic| walk_at "len") => `(tactic| first | (intro h; obtain ⟨_, e, _⟩ := h; rw [e]; rfl) | (intro h; obtain ⟨_, _, e, _⟩ := h; rw [e]; rfl) | (intro h; obtain ⟨_, _, _, e, _⟩ := h; rw [e]; rfl) | (intro h; obtain ⟨_, _, _, _, e, _⟩ := h; rw [e]; rfl) | (intro h; obtain ⟨_, _, _, _, _, e, _⟩ := h; rw [e]; rfl) | (intro h; obtain ⟨_, _, _, _, _, _, e, _⟩ := h; rw [e]; rfl) | (intro h; obtain ⟨_, _, _, _, _, _, _, e, _⟩ := h; rw [e]; rfl) | (intro h; exact h.elim))
/-! ### the law's own draws -/
/-- all but what stands at a is as it was -/
def Fr1 (a : Addr) (H H' : Hp) : Prop := ∀ b o, b ≠ a → H b = some o → H' b = some o
theorem Fr1.refl (a : Addr) (H : Hp) : Fr1 a H H := fun _ _ _ h => h
theorem Fr1.trans {a : Addr} {H H1 H2 : Hp} (x : Fr1 a H H1) (y : Fr1 a H1 H2) : Fr1 a H H2 := fun b o n h => y b o n (x b o n h)
theorem Fr1.upd {a : Addr} {H H1 : Hp} {o : HO} (x : Fr1 a H H1) : Fr1 a H (upd H1 a o) := fun b u n h => by rw [upd_ne n]; exact x b u n h
theorem Fr1.of {a : Addr} {H H1 : Hp} (x : Same H H1) : Fr1 a H H1 := fun b o _ h => x b o h
theorem Fr1.new {a p : Addr} {H H1 : Hp} {o : HO} (x : Fr1 a H H1) (h : H p = none) : Fr1 a H (L2.upd H1 p o) := fun b u n e => by rw [upd_ne (ne_of_none e h)]; exact x b u n e
theorem same_new {p : Addr} {H H1 : Hp} {o : HO} (x : Same H H1) (h : H p = none) : Same H (L2.upd H1 p o) := fun b u e => by rw [upd_ne (ne_of_none e h)]; exact x b u e
/-- the pot: what is drawn from -/
def PotAt (H : Hp) (a : Addr) : Prop := ∃ (b : Addr) (ns : List Int) (i c sd : Int), H a = some (.lst [.ref b, .int i, .int c, .int sd]) ∧ H b = some (.lst (ns.map V.int)) ∧ b ≠ a ∧ 0 ≤ i ∧ 0 ≤ c ∧ 0 ≤ sd
theorem PotAt.same {H H' : Hp} {a : Addr} (p : PotAt H a) (s : Same H H') : PotAt H' a := by
  obtain ⟨b, ns, i, c, sd, h1, h2, h3, h4⟩ := p
  exact ⟨b, ns, i, c, sd, s _ _ h1, s _ _ h2, h3, h4⟩
/-- the same, its list at b -/
def PotB (H : Hp) (a b : Addr) : Prop := ∃ (ns : List Int) (i c sd : Int), H a = some (.lst [.ref b, .int i, .int c, .int sd]) ∧ H b = some (.lst (ns.map V.int)) ∧ b ≠ a ∧ 0 ≤ i ∧ 0 ≤ c ∧ 0 ≤ sd
theorem PotB.at_ {H : Hp} {a b : Addr} (p : PotB H a b) : PotAt H a := let ⟨ns, i, c, sd, h⟩ := p; ⟨b, ns, i, c, sd, h⟩
theorem PotAt.b_ {H : Hp} {a : Addr} (p : PotAt H a) : ∃ b, PotB H a b := let ⟨b, ns, i, c, sd, h⟩ := p; ⟨b, ns, i, c, sd, h⟩
theorem PotB.same {H H' : Hp} {a b : Addr} (p : PotB H a b) (s : Same H H') : PotB H' a b := by
  obtain ⟨ns, i, c, sd, h1, h2, h3⟩ := p
  exact ⟨ns, i, c, sd, s _ _ h1, s _ _ h2, h3⟩
theorem PotB.but {H H' : Hp} {a b : Addr} (p : PotB H a b) (h1 : H' a = H a) (h2 : H' b = H b) : PotB H' a b := by
  obtain ⟨ns, i, c, sd, e1, e2, h3⟩ := p
  exact ⟨ns, i, c, sd, h1.trans e1, h2.trans e2, h3⟩
theorem PotAt.some {H : Hp} {a : Addr} (p : PotAt H a) : ∃ o, H a = some o := by
  obtain ⟨b, ns, i, c, sd, h1, _⟩ := p
  exact ⟨_, h1⟩
def spPot (K : PySem.W.Frag) : Sp := fun vs H Q _ => ∃ (a : Addr) (ns : List Int), vs = [.ref a] ∧ SqL K H a (ns.map V.int) ∧ ns.length ≤ 63 ∧ ∀ H' p, Same H H' → H p = none → PotAt H' p → Q (.ref p) H'
def spNext : Sp := fun vs H Q _ => ∃ a lim, vs = [.ref a, .int lim] ∧ PotAt H a ∧ 0 < lim ∧ lim.natAbs < 2 ^ 250 ∧ ∀ H' r, Fr1 a H H' → PotAt H' a → 0 ≤ r → r < lim → (∀ b, PotB H a b → PotB H' a b) → Q (.int r) H'
section
variable {P : Program} {w : World} {K : PySem.W.Frag} {mg : Str → Option Value} {base : Heap} {ad : Ad}
theorem ok_law_pot  {f : Addr} {fd : FuncData} (F : Fun K "_law_pot" "_law_pot" s_law_pot f fd) (T : Txt K mg ad) : FnOk P w K mg base (L2.CX P w) 1 f fd ["script"] (spPot K) := by
  refine F.okX sc_law_pot (fun vs H Q E => ?_) (fun cdv A outer s H vs Q E hr h => ?_)
  · walk_at "len"
  ·
    obtain ⟨a, ns, rfl, hS, hl, k⟩ := h
    refine ⟨_, (pss_cons (ps_set (i := 1) sc_law_pot.nd rfl (by first | exact Or.inl rfl | exact Or.inr rfl) pe_int)
      (pss_cons (ps_for (passes_of rfl) rfl (pi_list (pv 0)) (pg_name (i := 2) sc_law_pot.nd rfl (by first | exact Or.inl rfl | exact Or.inr rfl)) (pss_one (ps_set (i := 1) sc_law_pot.nd rfl (by first | exact Or.inl rfl | exact Or.inr rfl) (pe_op op_mod (pe_callTy call_int1 (by rfl) T.z_int (by decide +kernel) (pa_cons (pe_op op_add (pe_op op_mul (pv 1) pe_int) (pv 2)) pa_nil)) pe_int))))
      (pss_one (ps_ret (pe_lst (pa_cons (pe_callTy call_list_of (by rfl) T.z_list (by decide +kernel) (pa_cons (pv 0) pa_nil)) (pa_cons pe_int (pa_cons pe_int (pa_cons (pv 1) pa_nil))))))))), ?_⟩
    refine ⟨_, rfl, a, rfl, ⟨_, hS⟩, for_list (K := K) (a := a) (xs := ns.map V.int) (fun i σ H2 => ∃ (sd : Int) (v : Option V), σ = [some (.ref a), some (.int sd), v] ∧ 0 ≤ sd ∧ H2 = H)
      ⟨1, none, rfl, by decide, rfl⟩ (fun i σ H2 _ ⟨_, _, _, _, e⟩ => by rw [e]; exact hS) ?_ ?_⟩
    · rintro i y σ H2 hi ⟨sd, v, rfl, hsd, rfl⟩
      obtain ⟨z, rfl⟩ : ∃ z, y = V.int z := by
        rw [List.getElem?_map] at hi
        cases e : ns[i]? with
        | none =>
          rw [e] at hi
          cases hi
        | some z =>
          rw [e] at hi
          exact ⟨z, (Option.some.inj hi).symm⟩
      refine ⟨_, rfl, _, _, rfl, rfl, .inr ⟨by decide, by decide⟩, _, rfl, _, _, rfl, rfl, .inl ⟨_, rfl, _, _, rfl, rfl, (by show (0 : Int) < 2147483647; decide), ?_⟩⟩
      exact ⟨_, _, rfl, Int.emod_nonneg _ (by decide), rfl⟩
    · rintro σ H2 ⟨sd, v, rfl, hsd, rfl⟩
      refine ⟨_, rfl, a, _, rfl, .inl hS, fun l hl1 => ⟨_, rfl, (by show 4 ≤ sizeLine; decide), fun p hp => ?_⟩⟩
      have npl : p ≠ l := by
        intro z
        subst z
        rw [upd_same] at hp
        cases hp
      have hp0 : H2 p = none := by rw [upd_ne npl] at hp; exact hp
      exact k _ p (same_new (same_new (Same.refl _) hl1) hp0) hp0 ⟨l, ns, 0, 0, sd, upd_same, by rw [upd_ne (Ne.symm npl), upd_same], Ne.symm npl, by decide, by decide, hsd⟩
theorem ok_law_next  {f : Addr} {fd : FuncData} (F : Fun K "_law_next" "_law_next" s_law_next f fd) (T : Txt K mg ad) : FnOk P w K mg base (L2.CX P w) 1 f fd ["pot", "limit"] (spNext) := by
  refine F.okX sc_law_next (fun vs H Q E => ?_) (fun cdv A outer s H vs Q E hr h => ?_)
  · walk_at "len"
  ·
    obtain ⟨a, lim, rfl, ⟨b, ns, i, c, sd, h1, h2, h3, h4, h5, h6⟩, hl0, hl1, k⟩ := h
    have k2 : ∀ H' r, Fr1 a H H' → PotB H' a b → 0 ≤ r → r < lim → Q (.int r) H' := fun H' r fr hpb r0 r1 => k H' r fr hpb.at_ r0 r1 fun b' hb' => by
      obtain ⟨ns', i', c', sd', e1, _⟩ := hb'
      rw [h1] at e1
      injection e1 with e1
      injection e1 with e1
      injection e1 with e1 _
      injection e1 with e1
      subst e1
      exact hpb
    have hr1 : ∀ x : Int, 0 ≤ x % lim ∧ x % lim < lim := fun x => ⟨Int.emod_nonneg _ (by omega), Int.emod_lt_of_pos _ hl0⟩
    refine ⟨_, (C8.pss_cut (ps_if (PW.pt (pw_and (pt_cmpR op_eq (pe_ix ix_list (pv 0) pe_int (fun _ _ => rfl)) pe_int (nomark _)) (pw_and1 (pt_cmpR op_lt (pe_ix ix_list (pv 0) pe_int (fun _ _ => rfl)) (pe_callB call_len (by rfl) T.z_len (by decide +kernel) (pa_cons (pe_ix ix_list (pv 0) pe_int (fun _ _ => rfl)) pa_nil)) (nomark _))))) (pss_cons (ps_set (i := 2) sc_law_next.nd rfl (by first | exact Or.inl rfl | exact Or.inr rfl) (pe_callB call_abs (by rfl) T.z_abs (by decide +kernel) (pa_cons (pe_callTy call_int1 (by rfl) T.z_int (by decide +kernel) (pa_cons (pe_ix ix_list (pe_ix ix_list (pv 0) pe_int (fun _ _ => rfl)) (pe_ix ix_list (pv 0) pe_int (fun _ _ => rfl)) (fun _ _ => rfl)) pa_nil)) pa_nil)))
      (pss_cons (ps_asg (pe_op op_add (pe_ix ix_list (pv 0) pe_int (fun _ _ => rfl)) pe_int) (pg_sub (pv 0) pe_int set_list))
      (pss_cons (ps_if (pt_cmpR op_lt (pv 2) (pe_op op_pow pe_int pe_int) (nomark _)) (pss_one (ps_ret (pe_op op_mod (pe_callTy call_int1 (by rfl) T.z_int (by decide +kernel) (pa_cons (pv 2) pa_nil)) (pv 1)))) pss_nil)
      (pss_one (ps_asg (pv 2) (pg_sub (pv 0) pe_int set_list)))))) pss_nil)
      (C8.pss_cut (ps_if (pt_cmpR op_gt (pe_ix ix_list (pv 0) pe_int (fun _ _ => rfl)) pe_int (nomark _)) (pss_cons (ps_set (i := 3) sc_law_next.nd rfl (by first | exact Or.inl rfl | exact Or.inr rfl) (pe_op op_mod (pe_callTy call_int1 (by rfl) T.z_int (by decide +kernel) (pa_cons (pe_ix ix_list (pv 0) pe_int (fun _ _ => rfl)) pa_nil)) (pv 1)))
      (pss_cons (ps_asg (pe_op op_fdivW (pe_ix ix_list (pv 0) pe_int (fun _ _ => rfl)) (pv 1)) (pg_sub (pv 0) pe_int set_list))
      (pss_one (ps_ret (pv 3))))) pss_nil)
      (pss_cons (ps_asg (pe_op op_mod (pe_callTy call_int1 (by rfl) T.z_int (by decide +kernel) (pa_cons (pe_op op_add (pe_op op_mul (pe_ix ix_list (pv 0) pe_int (fun _ _ => rfl)) pe_int) pe_int) pa_nil)) pe_int) (pg_sub (pv 0) pe_int set_list))
      (pss_cons (ps_set (i := 4) sc_law_next.nd rfl (by first | exact Or.inl rfl | exact Or.inr rfl) (pe_op op_mod (pe_callTy call_int1 (by rfl) T.z_int (by decide +kernel) (pa_cons (pe_op op_add (pe_op op_mul (pe_ix ix_list (pv 0) pe_int (fun _ _ => rfl)) pe_int) (pe_op op_fdiv (pe_ix ix_list (pv 0) pe_int (fun _ _ => rfl)) pe_int)) pa_nil)) pe_int))
      (pss_one (ps_ret (pe_op op_mod (pe_callTy call_int1 (by rfl) T.z_int (by decide +kernel) (pa_cons (pv 4) pa_nil)) (pv 1)))))))), ?_⟩
    refine ⟨fun σ H' => ∃ (i' c' : Int) (v : Option V), σ = [some (.ref a), some (.int lim), v, none, none] ∧ H' a = some (.lst [.ref b, .int i', .int c', .int sd]) ∧ Fr1 a H H' ∧ 0 ≤ i' ∧ 0 ≤ c', ?_, ?_⟩
    · -- if pot[2] == 0 and pot[1] < len(pot[0])
      refine ⟨_, rfl, a, _, _, _, rfl, rfl, SqL.of h1, (by rfl), rfl, _, rfl, ?_⟩
      by_cases c0 : ¬ c = 0
      · have e : decide (V.int c = V.int 0) = false := by simp [c0]
        rw [e]
        refine iteF (iteF ?_)
        exact ⟨i, c, none, rfl, h1, Fr1.refl _ _, h4, h5⟩
      · have c0' : c = 0 := by omega
        subst c0'
        refine iteT ?_
        refine ⟨_, rfl, a, _, _, _, rfl, rfl, SqL.of h1, (by rfl), _, rfl, a, _, _, _, rfl, rfl, SqL.of h1, (by rfl), .ref b, ns.length, rfl, Or.inl ⟨_, SqL.of h2, by rw [List.length_map]⟩, _, _, rfl, rfl, _, rfl, ?_⟩
        by_cases c1 : ¬ i < (ns.length : Int)
        · rw [decide_eq_false c1]
          exact iteF ⟨i, 0, none, rfl, h1, Fr1.refl _ _, h4, h5⟩
        · have c1 : i < (ns.length : Int) := by omega
          rw [decide_eq_true c1]
          refine iteT ?_
          -- cell
          obtain ⟨z, hz⟩ : ∃ z, ns[i.toNat]? = some z := ⟨ns[i.toNat]'(by omega), List.getElem?_eq_getElem _⟩
          have hz' : (ns.map V.int)[i.toNat]? = some (.int z) := by rw [List.getElem?_map, hz]; rfl
          refine ⟨_, rfl, a, _, _, _, rfl, rfl, SqL.of h1, (by rfl), _, rfl, a, _, _, _, rfl, rfl, SqL.of h1, (by rfl), b, _, _, _, rfl, rfl, SqL.of h2, at_of (by omega) hz', .inl ⟨_, rfl, _, rfl, ?_⟩⟩
          have hcell : 0 ≤ (if z < 0 then -z else z) := by split <;> omega
          generalize (if z < 0 then -z else z) = cell at hcell ⊢
          -- pot[1] = pot[1] + 1
          refine ⟨_, rfl, a, _, _, _, rfl, rfl, SqL.of h1, (by rfl), _, _, rfl, rfl, _, rfl, a, _, _, 1, rfl, rfl, h1, (by rfl), ?_⟩
          -- if cell < 10 ** 18
          refine ⟨_, rfl, _, _, rfl, rfl, ⟨by decide, by decide, by decide⟩, _, _, rfl, rfl, _, rfl, ?_⟩
          refine ite2 (fun _ => ?_) (fun _ => ?_)
          · refine ⟨_, rfl, .inl ⟨_, rfl, _, rfl, _, _, rfl, rfl, hl0, ?_⟩⟩
            exact k2 _ _ (Fr1.refl _ _).upd ⟨ns, i + 1, 0, sd, upd_same, by rw [upd_ne h3]; exact h2, h3, by omega, by decide, h6⟩ (hr1 _).1 (hr1 _).2
          · refine ⟨_, rfl, _, rfl, a, _, _, 2, rfl, rfl, upd_same, (by rfl), ?_⟩
            exact ⟨i + 1, cell, _, rfl, upd_same, (Fr1.refl _ _).upd.upd, by omega, hcell⟩
    · rintro σ H1 ⟨i', c', v, rfl, g1, fr, hi', hc'⟩
      have g2 : H1 b = some (.lst (ns.map V.int)) := fr b _ h3 h2
      refine ⟨fun σ H' => ∃ (v v' : Option V), σ = [some (.ref a), some (.int lim), v, v', none] ∧ H' = H1, ?_, ?_⟩
      · -- if pot[2] > 0
        refine ⟨_, rfl, a, _, _, _, rfl, rfl, SqL.of g1, (by rfl), _, _, rfl, rfl, _, rfl, ?_⟩
        refine ite2 (fun _ => ?_) (fun _ => ?_)
        · refine ⟨_, rfl, a, _, _, _, rfl, rfl, SqL.of g1, (by rfl), .inl ⟨_, rfl, _, rfl, _, _, rfl, rfl, hl0, ?_⟩⟩
          refine ⟨_, rfl, a, _, _, _, rfl, rfl, SqL.of g1, (by rfl), _, rfl, _, _, rfl, rfl, wide_div hl0 hl1 (by decide) (by decide), _, rfl, a, _, _, 2, rfl, rfl, g1, (by rfl), _, rfl, ?_⟩
          exact k2 _ _ fr.upd ⟨ns, i', c' / lim, sd, upd_same, by rw [upd_ne h3]; exact g2, h3, hi', Int.ediv_nonneg hc' (by omega), h6⟩ (hr1 _).1 (hr1 _).2
        · exact ⟨v, none, rfl, rfl⟩
      · rintro σ H2 ⟨v, v', rfl, rfl⟩
        refine ⟨_, rfl, a, _, _, _, rfl, rfl, SqL.of g1, (by rfl), _, _, rfl, rfl, .inr ⟨by decide, by decide⟩, _, _, rfl, rfl, .inl ⟨_, rfl, _, _, rfl, rfl, (by show (0 : Int) < 2147483647; decide), _, rfl, a, _, _, 3, rfl, rfl, g1, (by rfl), ?_⟩⟩
        refine ⟨_, rfl, a, _, _, _, rfl, rfl, SqL.of upd_same, (by rfl), _, _, rfl, rfl, .inr ⟨by decide, by decide⟩, _, rfl, a, _, _, _, rfl, rfl, SqL.of upd_same, (by rfl), _, _, rfl, rfl, ⟨by decide, by decide⟩, _, _, rfl, rfl, .inl ⟨_, rfl, _, _, rfl, rfl, (by show (0 : Int) < 2147483629; decide), ?_⟩⟩
        refine ⟨_, rfl, .inl ⟨_, rfl, _, rfl, _, _, rfl, rfl, hl0, ?_⟩⟩
        exact k2 _ _ fr.upd ⟨ns, i', c', _, upd_same, by rw [upd_ne h3]; exact g2, h3, hi', hc', Int.emod_nonneg _ (by decide)⟩ (hr1 _).1 (hr1 _).2
end
/-- two values are the same thing, n levels deep at most -/
inductive Dd (H : Hp) : Nat → V → V → Prop
  | non {n : Nat} : Dd H (n + 1) .non .non
  | bl {n : Nat} (b : Bool) : Dd H (n + 1) (.bl b) (.bl b)
  | int {n : Nat} (i : Int) : Dd H (n + 1) (.int i) (.int i)
  | str {n : Nat} (x : Str) : Dd H (n + 1) (.str x) (.str x)
  | lst {n : Nat} {a b : Addr} {xs ys : List V} : H a = some (.lst xs) → H b = some (.lst ys) → xs.length = ys.length → ys.length ≤ 100000 → (∀ (i : Nat) x y, xs[i]? = some x → ys[i]? = some y → Dd H n x y) → Dd H (n + 1) (.ref a) (.ref b)
  | tup {n : Nat} {a b : Addr} {xs ys : List V} : H a = some (.tup xs) → H b = some (.tup ys) → xs.length = ys.length → ys.length ≤ 100000 → (∀ (i : Nat) x y, xs[i]? = some x → ys[i]? = some y → Dd H n x y) → Dd H (n + 1) (.ref a) (.ref b)
theorem Dd.same {H H' : Hp} (s : Same H H') : ∀ {n : Nat} {x y : V}, Dd H n x y → Dd H' n x y := by
  intro n x y h
  induction h with
  | non => exact .non
  | bl b => exact .bl b
  | int i => exact .int i
  | str z => exact .str z
  | lst e1 e2 l l2 _ ih => exact .lst (s _ _ e1) (s _ _ e2) l l2 ih
  | tup e1 e2 l l2 _ ih => exact .tup (s _ _ e1) (s _ _ e2) l l2 ih
def spSame (n : Nat) : Sp := fun vs H Q _ => ∃ x y, vs = [x, y] ∧ Dd H n x y ∧ ∀ H', Same H H' → Q (.bl true) H'
section
variable {P : Program} {w : World} {K : PySem.W.Frag} {mg : Str → Option Value} {base : Heap} {ad : Ad}
theorem ok_law_is_int  {f : Addr} {fd : FuncData} (F : Fun K "_law_is_int" "_law_is_int" s_law_is_int f fd) (T : Txt K mg ad) : FnOk P w K mg base (L2.CX P w) 1 f fd ["value"] (spIsInt) := by
  refine F.okX sc_law_is_int (fun vs H Q E => ?_) (fun cdv A outer s H vs Q E hr h => ?_)
  · walk_at "len"
  ·
    obtain ⟨x, rfl, hx, k⟩ := h
    refine ⟨_, (pss_one (ps_ret (pe_and (pe_callB call_isi (by rfl) T.z_isinstance (by decide +kernel) (pa_cons (pv 0) (pa_cons (pe_bltn (v := .ty "int") (by rfl) T.z_int (by decide +kernel) rfl) pa_nil))) (pe_one (pe_not (pe_callB call_isi (by rfl) T.z_isinstance (by decide +kernel) (pa_cons (pv 0) (pa_cons (pe_bltn (v := .ty "bool") (by rfl) T.z_bool (by decide +kernel) rfl) pa_nil)))))))), ?_⟩
    obtain ⟨t, ty, b1, b2, e1, e2, e3, e4⟩ := thg_ty (K := K) hx
    refine ⟨_, rfl, _, _, _, _, b1, rfl, .ty _, ty, e1, b1, rfl, ?_⟩
    refine ite2 (fun c => ?_) (fun c => ?_)
    · refine ⟨_, rfl, _, _, _, _, b2, rfl, .ty _, ty, e2, b2, rfl, ?_⟩
      subst c
      rw [Bool.true_and] at e3
      rw [e3]
      exact k
    · have c' : b1 = false := by simpa using c
      have := e4 c'
      rw [this] at k
      exact k
section
variable {n lv : Nat}
theorem ok_law_same (c_law_is_int : CalX P w K mg base 1 "_law_is_int" spIsInt) (c_law_same : CalX P w K mg base lv "_law_same" (spSame n)) (h1 : 1 ≤ lv) {f : Addr} {fd : FuncData} (F : Fun K "_law_same" "_law_same" s_law_same f fd) (T : Txt K mg ad) : FnOk P w K mg base (L2.CX P w) (lv + 1) f fd ["found", "value"] (spSame (n + 1)) := by
  refine F.okX sc_law_same (fun vs H Q E => ?_) (fun cdv A outer s H vs Q E hr h => ?_)
  · walk_at "len"
  ·
    obtain ⟨x, y, rfl, hd, k⟩ := h
    refine ⟨_, (pss_cons (ps_if (pt_cmpR op_isN (pv 1) pe_non (nomark _)) (pss_one (ps_ret (pe_cmpR op_isN (pv 0) pe_non (nomark _)))) pss_nil)
      (pss_cons (ps_if (pt_val (pe_callB call_isi (by rfl) T.z_isinstance (by decide +kernel) (pa_cons (pv 1) (pa_cons (pe_bltn (v := .ty "bool") (by rfl) T.z_bool (by decide +kernel) rfl) pa_nil)))) (pss_one (ps_ret (pe_and (pe_callB call_isi (by rfl) T.z_isinstance (by decide +kernel) (pa_cons (pv 0) (pa_cons (pe_bltn (v := .ty "bool") (by rfl) T.z_bool (by decide +kernel) rfl) pa_nil))) (pe_one (pe_cmpR op_eq (pv 0) (pv 1) (nomark _)))))) pss_nil)
      (pss_cons (ps_if (pt_val (pe_callB call_isi (by rfl) T.z_isinstance (by decide +kernel) (pa_cons (pv 1) (pa_cons (pe_bltn (v := .ty "int") (by rfl) T.z_int (by decide +kernel) rfl) pa_nil)))) (pss_one (ps_ret (pe_and (pc_call c_law_is_int hr (by first | decide | omega) (takes_of rfl rfl rfl rfl) (by rfl) (pa_cons (pv 0) pa_nil)) (pe_one (pe_cmpR op_eq (pv 0) (pv 1) (nomark _)))))) pss_nil)
      (pss_cons (ps_if (pt_val (pe_callB call_isi (by rfl) T.z_isinstance (by decide +kernel) (pa_cons (pv 1) (pa_cons (pe_bltn (v := .ty "str") (by rfl) T.z_str (by decide +kernel) rfl) pa_nil)))) (pss_one (ps_ret (pe_and (pe_callB call_isi (by rfl) T.z_isinstance (by decide +kernel) (pa_cons (pv 0) (pa_cons (pe_bltn (v := .ty "str") (by rfl) T.z_str (by decide +kernel) rfl) pa_nil))) (pe_one (pe_cmpR op_eq (pv 0) (pv 1) (nomark _)))))) pss_nil)
      (pss_cons (ps_if (PW.pt (pw_or (pt_cmpR op_ne (pe_callB call_isi (by rfl) T.z_isinstance (by decide +kernel) (pa_cons (pv 1) (pa_cons (pe_bltn (v := .ty "list") (by rfl) T.z_list (by decide +kernel) rfl) pa_nil))) (pe_callB call_isi (by rfl) T.z_isinstance (by decide +kernel) (pa_cons (pv 0) (pa_cons (pe_bltn (v := .ty "list") (by rfl) T.z_list (by decide +kernel) rfl) pa_nil))) (nomark _)) (pw_or1 (pt_cmpR op_ne (pe_callB call_isi (by rfl) T.z_isinstance (by decide +kernel) (pa_cons (pv 1) (pa_cons (pe_bltn (v := .ty "tuple") (by rfl) T.z_tuple (by decide +kernel) rfl) pa_nil))) (pe_callB call_isi (by rfl) T.z_isinstance (by decide +kernel) (pa_cons (pv 0) (pa_cons (pe_bltn (v := .ty "tuple") (by rfl) T.z_tuple (by decide +kernel) rfl) pa_nil))) (nomark _))))) (pss_one (ps_ret pe_bl)) pss_nil)
      (pss_one (ps_ret (pe_and (pe_cmpR op_eq (pe_callB call_len (by rfl) T.z_len (by decide +kernel) (pa_cons (pv 0) pa_nil)) (pe_callB call_len (by rfl) T.z_len (by decide +kernel) (pa_cons (pv 1) pa_nil)) (nomark _)) (pe_one (pe_callB (cr_all rfl) (by rfl) T.z_all (by decide +kernel) (pa_cons (pe_lc (own := [("k", 2)]) (tt := tYes) rfl sc_law_same.nd (pi_range1 (by rfl) T.z_range (pa_cons (pe_callB call_len (by rfl) T.z_len (by decide +kernel) (pa_cons (pv 1) pa_nil)) pa_nil)) (blkOk_by (by kernel_rfl)) (fun _ _ _ _ _ => (pg_name (i := 2) sc_law_same.nd rfl (by first | exact Or.inl rfl | exact Or.inr rfl))) (fun _ _ _ _ _ => pts_nil) (fun _ _ _ _ _ => (pc_call c_law_same hr (by first | decide | omega) takes0 (by rfl) (pa_cons (pe_ix (kix_seq (K := K)) (pv 0) (pv 2) (fun _ _ => rfl)) (pa_cons (pe_ix (kix_seq (K := K)) (pv 1) (pv 2) (fun _ _ => rfl)) pa_nil))))) pa_nil))))))))))), ?_⟩
    cases hd with
    | non =>
      refine ⟨_, rfl, rfl, _, rfl, iteT ?_⟩
      exact ⟨_, rfl, rfl, k H (Same.refl _)⟩
    | bl b =>
      refine ⟨_, rfl, rfl, _, rfl, iteF (go_next ?_)⟩
      refine ⟨_, rfl, _, _, _, _, true, rfl, .ty _, .base (.bl b), kit_ty (by decide +kernel), true, rfl, iteT ?_⟩
      refine ⟨_, rfl, _, _, _, _, true, rfl, .ty _, .base (.bl b), kit_ty (by decide +kernel), true, rfl, iteT ?_⟩
      refine ⟨_, rfl, _, rfl, rfl, ?_⟩
      rw [decide_eq_true rfl]
      exact k H (Same.refl _)
    | int i =>
      refine ⟨_, rfl, rfl, _, rfl, iteF (go_next ?_)⟩
      refine ⟨_, rfl, _, _, _, _, false, rfl, .ty _, .base (.int i), kit_ty (by decide +kernel), false, rfl, iteF (go_next ?_)⟩
      refine ⟨_, rfl, _, _, _, _, true, rfl, .ty _, .base (.int i), kit_ty (by decide +kernel), true, rfl, iteT ?_⟩
      refine ⟨_, rfl, .int i, rfl, .int i, ?_⟩
      refine ⟨_, rfl, iteT ?_⟩
      refine ⟨_, rfl, _, rfl, rfl, ?_⟩
      rw [decide_eq_true rfl]
      exact k H (Same.refl _)
    | str z =>
      refine ⟨_, rfl, rfl, _, rfl, iteF (go_next ?_)⟩
      refine ⟨_, rfl, _, _, _, _, false, rfl, .ty _, .base (.str z), kit_ty (by decide +kernel), false, rfl, iteF (go_next ?_)⟩
      refine ⟨_, rfl, _, _, _, _, false, rfl, .ty _, .base (.str z), kit_ty (by decide +kernel), false, rfl, iteF (go_next ?_)⟩
      refine ⟨_, rfl, _, _, _, _, true, rfl, .ty _, .base (.str z), kit_ty (by decide +kernel), true, rfl, iteT ?_⟩
      refine ⟨_, rfl, _, _, _, _, true, rfl, .ty _, .base (.str z), kit_ty (by decide +kernel), true, rfl, iteT ?_⟩
      refine ⟨_, rfl, _, rfl, rfl, ?_⟩
      rw [decide_eq_true rfl]
      exact k H (Same.refl _)
    | lst e1 e2 l l2 r =>
      refine ⟨_, rfl, rfl, _, rfl, iteF (go_next ?_)⟩
      refine ⟨_, rfl, _, _, _, _, false, rfl, .ty _, .base (.lst e2), kit_ty (by decide +kernel), false, rfl, iteF (go_next ?_)⟩
      refine ⟨_, rfl, _, _, _, _, false, rfl, .ty _, .base (.lst e2), kit_ty (by decide +kernel), false, rfl, iteF (go_next ?_)⟩
      refine ⟨_, rfl, _, _, _, _, false, rfl, .ty _, .base (.lst e2), kit_ty (by decide +kernel), false, rfl, iteF (go_next ?_)⟩
      refine ⟨_, rfl, _, _, _, _, true, rfl, .ty _, .base (.lst e2), kit_ty (by decide +kernel), _, rfl, _, _, _, _, true, rfl, .ty _, .base (.lst e1), kit_ty (by decide +kernel), rfl, ?_⟩
      refine ⟨_, rfl, iteF ?_⟩
      refine ⟨_, rfl, _, _, _, _, false, rfl, .ty _, .base (.lst e2), kit_ty (by decide +kernel), _, rfl, _, _, _, _, false, rfl, .ty _, .base (.lst e1), kit_ty (by decide +kernel), rfl, ?_⟩
      refine ⟨_, rfl, iteF (go_next ?_)⟩
      rename_i a b xs ys
      refine ⟨_, rfl, .ref a, _, rfl, .inl ⟨_, SqL.of e1, rfl⟩, _, rfl, .ref b, _, rfl, .inl ⟨_, SqL.of e2, rfl⟩, rfl, ?_⟩
      rw [l, decide_eq_true rfl]
      refine ⟨_, rfl, iteT ?_⟩
      refine ⟨_, rfl, .ref b, _, rfl, .inl ⟨_, SqL.of e2, rfl⟩, _, rfl, by omega, by omega, fun D hD => ?_⟩
      rw [Int.toNat_natCast]
      refine lc_vals (lo := 0) (fun _ => .bl true) hD l2 (fun _ => rfl) (fun i H2 Kt hi s2 h => ?_) (fun H2 s2 eD => ?_)
      · rw [Int.zero_add]
        have hx : xs[i]? = some xs[i] := List.getElem?_eq_getElem (by omega)
        have hy : ys[i]? = some ys[i] := List.getElem?_eq_getElem hi
        refine ⟨_, rfl, _, rfl, .inl ⟨a, xs, _, xs[i], rfl, rfl, SqL.of (s2 _ _ e1), at_of (j := i) rfl hx, _, rfl, _, rfl, .inl ⟨b, ys, _, ys[i], rfl, rfl, SqL.of (s2 _ _ e2), at_of (j := i) rfl hy, ?_⟩⟩⟩
        exact ⟨_, _, rfl, (r i _ _ hx hy).same s2, fun H4 s4 => h H4 s4⟩
      · refine ⟨D, (List.range ys.length).map fun _ => true, rfl, SqL.of (by rw [eD, List.map_map]; rfl), ?_⟩
        rw [List.all_map, show (List.range ys.length).all (id ∘ fun (_ : Nat) => true) = true from List.all_eq_true.mpr fun _ _ => rfl]
        exact k H2 s2
    | tup e1 e2 l l2 r =>
      refine ⟨_, rfl, rfl, _, rfl, iteF (go_next ?_)⟩
      refine ⟨_, rfl, _, _, _, _, false, rfl, .ty _, .base (.tup e2), kit_ty (by decide +kernel), false, rfl, iteF (go_next ?_)⟩
      refine ⟨_, rfl, _, _, _, _, false, rfl, .ty _, .base (.tup e2), kit_ty (by decide +kernel), false, rfl, iteF (go_next ?_)⟩
      refine ⟨_, rfl, _, _, _, _, false, rfl, .ty _, .base (.tup e2), kit_ty (by decide +kernel), false, rfl, iteF (go_next ?_)⟩
      refine ⟨_, rfl, _, _, _, _, false, rfl, .ty _, .base (.tup e2), kit_ty (by decide +kernel), _, rfl, _, _, _, _, false, rfl, .ty _, .base (.tup e1), kit_ty (by decide +kernel), rfl, ?_⟩
      refine ⟨_, rfl, iteF ?_⟩
      refine ⟨_, rfl, _, _, _, _, true, rfl, .ty _, .base (.tup e2), kit_ty (by decide +kernel), _, rfl, _, _, _, _, true, rfl, .ty _, .base (.tup e1), kit_ty (by decide +kernel), rfl, ?_⟩
      refine ⟨_, rfl, iteF (go_next ?_)⟩
      rename_i a b xs ys
      refine ⟨_, rfl, .ref a, _, rfl, .inr ⟨_, SqT.of e1, rfl⟩, _, rfl, .ref b, _, rfl, .inr ⟨_, SqT.of e2, rfl⟩, rfl, ?_⟩
      rw [l, decide_eq_true rfl]
      refine ⟨_, rfl, iteT ?_⟩
      refine ⟨_, rfl, .ref b, _, rfl, .inr ⟨_, SqT.of e2, rfl⟩, _, rfl, by omega, by omega, fun D hD => ?_⟩
      rw [Int.toNat_natCast]
      refine lc_vals (lo := 0) (fun _ => .bl true) hD l2 (fun _ => rfl) (fun i H2 Kt hi s2 h => ?_) (fun H2 s2 eD => ?_)
      · rw [Int.zero_add]
        have hx : xs[i]? = some xs[i] := List.getElem?_eq_getElem (by omega)
        have hy : ys[i]? = some ys[i] := List.getElem?_eq_getElem hi
        refine ⟨_, rfl, _, rfl, .inr (.inl ⟨a, xs, _, xs[i], rfl, rfl, SqT.of (s2 _ _ e1), at_of (j := i) rfl hx, _, rfl, _, rfl, .inr (.inl ⟨b, ys, _, ys[i], rfl, rfl, SqT.of (s2 _ _ e2), at_of (j := i) rfl hy, ?_⟩)⟩)⟩
        exact ⟨_, _, rfl, (r i _ _ hx hy).same s2, fun H4 s4 => h H4 s4⟩
      · refine ⟨D, (List.range ys.length).map fun _ => true, rfl, SqL.of (by rw [eD, List.map_map]; rfl), ?_⟩
        rw [List.all_map, show (List.range ys.length).all (id ∘ fun (_ : Nat) => true) = true from List.all_eq_true.mpr fun _ _ => rfl]
        exact k H2 s2
end
end
section
variable {P : Program} {w : World} {K : PySem.W.Frag} {mg : Str → Option Value} {base : Heap} {ad : Ad}
theorem same_cal {f : Addr} {fd : FuncData} (F : Fun K "_law_same" "_law_same" s_law_same f fd) (T : Txt K mg ad) (hm : mg "_law_same" = some (.ref f)) (b : Binds K fd ["found", "value"] []) (ci : CalX P w K mg base 1 "_law_is_int" spIsInt) : ∀ n : Nat, CalX P w K mg base (n + 5) "_law_same" (spSame n)
  | 0 => cal_mk (k := 5) ⟨fun _ _ _ _ ⟨_, _, _, h, _⟩ => (nomatch h), fun _ _ _ _ _ _ _ _ _ _ _ _ _ ⟨_, _, _, h, _⟩ => (nomatch h)⟩ hm F.kp b
  | n + 1 => cal_mk (ok_law_same (n := n) (lv := n + 5) ci (same_cal F T hm b ci n) (by omega) F T) hm F.kp b
def spRef : Sp := fun vs H Q _ => ∃ k : Nat, vs = [.int (k : Int)] ∧ ¬ (1 ≤ k ∧ k ≤ 20) ∧ ∀ H', Same H H' → Q (.bl true) H'
theorem ok_law_refused (mTops : MakX P w K mg base 1 "Tops" ad.Tops (spInit ad.Tops ad.InvalidArgument)) {f : Addr} {fd : FuncData} (F : Fun K "_law_refused" "_law_refused" s_law_refused f fd) (T : Txt K mg ad) : FnOk P w K mg base (L2.CX P w) 7 f fd ["k"] (spRef) := by
  refine F.okX sc_law_refused (fun vs H Q E => ?_) (fun cdv A outer s H vs Q E hr h => ?_)
  · walk_at "len"
  ·
    obtain ⟨k, rfl, hc, q⟩ := h
    refine ⟨_, (pss_cons (ps_tryD (i := 1) rfl rfl sc_law_refused.nd rfl rfl ⟨rfl, by decide, .inl T.g_WorthError⟩ (takes_of rfl rfl rfl rfl))
      (pss_one (ps_ret pe_bl))), ?_⟩
    intro pn1 xe1 tk1 po1
    refine ⟨_, (pss_one (ps_expr (pd_make hr tk1 (by rfl) (pa_cons (pv 0) pa_nil)))), ?_⟩
    have em : ∀ y dy C, H y = none → H dy = none → Same H (upd (upd H dy (.own y)) y (.ins C dy [])) := fun y dy C h1 h2 => same_new (same_new (Same.refl _) h2) h1
    refine ⟨1, ad.Tops, _, by decide, mTops, _, rfl, fun y dy h1 h2 h3 => ?_⟩
    refine ⟨y, dy, k, rfl, upd_same, fun z => absurd z hc, fun _ => ?_⟩
    refine ⟨true, T.em_InvalidArgument, fun _ a ha => ?_, fun q => Bool.noConfusion q⟩
    intro oe pn hz hf
    refine ⟨_, (pss_one (ps_ret (pe_callB (call_isED hz hf) (by rfl) T.z_isinstance (by decide +kernel) (pa_cons (pv 1) (pa_cons (pe_gcls (by rfl) T.g_InvalidArgument) pa_nil))))), ?_⟩
    exact ⟨_, rfl, _, rfl, rfl, T.ec_InvalidArgument, _, _, true, rfl, fun u hu => hu, T.ki_InvalidArgument, q _ (em y dy _ h1 h2)⟩
theorem toN {i : Int} (h : 0 ≤ i) : ∃ n : Nat, i = (n : Int) := ⟨i.toNat, by omega⟩
theorem PotB.ls {p b : Addr} {H : Hp} (x : PotB H p b) : ∃ xs, H p = some (.lst xs) := let ⟨_, _, _, _, e, _⟩ := x; ⟨_, e⟩
def spElem : Sp := fun vs H Q _ => ∃ (p b : Addr) (k : Nat), vs = [.ref p, .int (k : Int)] ∧ PotB H p b ∧ k ≤ 20 ∧ ∀ H' a us, Fr1 p H H' → PotB H' p b → H' a = some (.tup (nV us)) → ElN k us → Q (.ref a) H'
theorem ok_law_element (c_law_next : CalX P w K mg base 1 "_law_next" spNext) {f : Addr} {fd : FuncData} (F : Fun K "_law_element" "_law_element" s_law_element f fd) (T : Txt K mg ad) : FnOk P w K mg base (L2.CX P w) 2 f fd ["pot", "many"] (spElem) := by
  refine F.okX sc_law_element (fun vs H Q E => ?_) (fun cdv A outer s H vs Q E hr h => ?_)
  · walk_at "len"
  ·
    obtain ⟨p, b, k, rfl, hp, k20, q⟩ := h
    have two : 2 ≤ sizeLine := by decide
    refine ⟨_, (pss_cons (ps_set (i := 2) sc_law_element.nd rfl (by first | exact Or.inl rfl | exact Or.inr rfl) (pe_ix ix_list (pe_lst (pa_cons pe_int (pa_cons pe_int pa_nil))) (pc_call c_law_next hr (by first | decide | omega) (takes_of rfl rfl rfl rfl) (by rfl) (pa_cons (pv 0) (pa_cons pe_int pa_nil))) (fun _ _ => rfl)))
      (pss_one (ps_ret (pe_callTy call_tuple_of (by rfl) T.z_tuple (by decide +kernel) (pa_cons (pe_callB cr_sortedA (by rfl) T.z_sorted (by decide +kernel) (pa_cons (pe_lc (own := [("k", 3)]) (tt := tYes) rfl sc_law_element.nd (pi_range1 (by rfl) T.z_range (pa_cons (pc_call c_law_next hr (by first | decide | omega) (takes_of rfl rfl rfl rfl) (by rfl) (pa_cons (pv 0) (pa_cons (pe_op op_add (pv 1) pe_int) pa_nil))) pa_nil)) (blkOk_by (by kernel_rfl)) (fun _ _ _ _ _ => (pg_name (i := 3) sc_law_element.nd rfl (by first | exact Or.inl rfl | exact Or.inr rfl))) (fun _ _ _ _ _ => pts_nil) (fun _ _ _ _ _ => (pc_call c_law_next hr (by first | decide | omega) takes0 (by rfl) (pa_cons (pv 0) (pa_cons (pv 2) pa_nil))))) pa_nil)) pa_nil))))), ?_⟩
    obtain ⟨xs, hps⟩ := hp.ls
    refine go_seq ⟨two, fun q2 hq2 => ⟨_, rfl, p, 2, rfl, (hp.same (same_new (Same.refl _) hq2)).at_, by decide, by decide, fun H2 r fr _ r0 r1 hb => ?_⟩⟩
    obtain ⟨j, rfl⟩ := toN r0
    obtain ⟨lm, hlm, hl2, hl50⟩ : ∃ lm : Nat, ([.int 3, .int 50] : List V)[j]? = some (.int (lm : Int)) ∧ 0 < lm ∧ lm ≤ 50 := by
      rcases j with _ | _ | j
      · exact ⟨3, rfl, by decide, by decide⟩
      · exact ⟨50, rfl, by decide, by decide⟩
      · omega
    have npq : q2 ≠ p := (ne_of_none hps hq2).symm
    have hp2 := hb b (hp.same (same_new (Same.refl _) hq2))
    have f2 : Fr1 p H H2 := (Fr1.of (same_new (Same.refl _) hq2)).trans fr
    refine ⟨q2, _, _, _, rfl, rfl, SqL.of (fr _ _ npq upd_same), at_of rfl hlm, go_name rfl ?_⟩
    refine ⟨_, rfl, _, rfl, _, _, rfl, rfl, p, _, rfl, hp2.at_, by omega, by omega, fun H3 r3 f3 _ r30 r31 hb3 => ?_⟩
    obtain ⟨n, rfl⟩ := toN r30
    refine ⟨_, rfl, by omega, by omega, fun D hD => ?_⟩
    rw [Int.toNat_natCast]
    have hp3 := hb3 b hp2
    obtain ⟨xs3, hps3⟩ := hp3.ls
    have nDp : D ≠ p := (ne_of_none hps3 hD).symm
    refine lc_range (lo := 0) (n := n) (fun i H' => Fr1 p H3 H' ∧ PotB H' p b ∧ ∃ qs : List Nat, H' D = some (.lst (nV qs)) ∧ qs.length = i) ⟨(Fr1.refl _ _).new hD, hp3.same (same_new (Same.refl _) hD), [], upd_same, rfl⟩ (fun i H4 hi ⟨f4, p4, qs, e4, l4⟩ => ?_) (fun H4 ⟨f4, p4, qs, e4, l4⟩ => ?_)
    · refine ⟨rfl, yes_then (iteT ⟨_, rfl, _, rfl, p, _, rfl, p4.at_, by omega, by omega, fun H5 r5 f5 _ r50 r51 hb5 => ⟨_, f5 _ _ nDp e4, ?_, ?_⟩⟩)⟩
      · rw [nV_len, l4]; exact Nat.lt_of_le_of_lt (by omega : i ≤ 100) (by decide)
      · obtain ⟨m, rfl⟩ := toN r50
        have p5 := hb5 b p4
        refine ⟨fun c o nc e => ?_, p5.but (by rw [upd_ne (Ne.symm nDp)]) ?_, qs ++ [m], by rw [upd_same, ← nV_app]; rfl, by rw [List.length_append, l4]; rfl⟩
        · rw [upd_ne (ne_of_none e hD)]
          exact f5 _ _ nc (f4 _ _ nc e)
        · obtain ⟨_, _, _, _, _, eb, _⟩ := hp3
          rw [upd_ne (ne_of_none eb hD)]
    · refine ⟨D, qs.map (fun (n : Nat) => (n : Int)), rfl, .inl (by rw [int_map]; exact SqL.of e4), fun ms pp hpm hs hpn => ?_⟩
      rw [sortN_of hpm hs, int_map]
      have s5 : Same H4 (upd H4 pp (.lst (nV (sortN qs)))) := same_new (Same.refl _) hpn
      refine ⟨pp, _, rfl, .inl ⟨SqL.of upd_same, fun t ht => ?_⟩⟩
      have s6 := two_new (o := .tup (nV (sortN qs))) s5 ht
      exact q _ t (sortN qs) ((f2.trans (f3.trans f4)).trans (Fr1.of s6)) (p4.same s6) upd_same ⟨sortN_rises _, by rw [sortN_len]; omega⟩
def spSums : Sp := fun vs H Q _ => ∃ (a b : Addr) (k : Nat) (us ws : List Nat), vs = [.ref a, .ref b, .int (k : Int)] ∧ H a = some (.tup (nV us)) ∧ H b = some (.tup (nV ws)) ∧ us.length ≤ 100 ∧ ws.length ≤ 100 ∧ ∀ H' p, Same H H' → H' p = some (.tup (nV (tmN k us ws))) → Q (.ref p) H'
theorem ok_law_sums  {f : Addr} {fd : FuncData} (F : Fun K "_law_sums" "_law_sums" s_law_sums f fd) (T : Txt K mg ad) : FnOk P w K mg base (L2.CX P w) 1 f fd ["a", "b", "many"] (spSums) := by
  refine F.okX sc_law_sums (fun vs H Q E => ?_) (fun cdv A outer s H vs Q E hr h => ?_)
  · walk_at "len"
  ·
    obtain ⟨a, b, k, us, ws, rfl, ha, hb, lu, lw, q⟩ := h
    refine ⟨_, (pss_cons (ps_set (i := 3) sc_law_sums.nd rfl (by first | exact Or.inl rfl | exact Or.inr rfl) (pe_lst pa_nil))
      (pss_cons (ps_for (passes_of rfl) rfl (pi_tup (pv 0)) (pg_name (i := 4) sc_law_sums.nd rfl (by first | exact Or.inl rfl | exact Or.inr rfl)) (pss_one (ps_set (i := 3) sc_law_sums.nd rfl (by first | exact Or.inl rfl | exact Or.inr rfl) (pe_op op_cat (pv 3) (pe_lc (own := [("other", 5)]) (tt := tYes) rfl sc_law_sums.nd (pi_tup (pv 1)) (blkOk_by (by kernel_rfl)) (fun _ _ _ _ _ => (pg_name (i := 5) sc_law_sums.nd rfl (by first | exact Or.inl rfl | exact Or.inr rfl))) (fun _ _ _ _ _ => pts_nil) (fun _ _ _ _ _ => (pe_op op_add (pv 4) (pv 5))))))))
      (pss_one (ps_ret (pe_callTy call_tuple_of (by rfl) T.z_tuple (by decide +kernel) (pa_cons (pe_slice sl_list (pe_callB cr_sortedA (by rfl) T.z_sorted (by decide +kernel) (pa_cons (pv 3) pa_nil)) po_none (po_some (pv 2))) pa_nil)))))), ?_⟩
    refine go_seq ⟨(show 0 ≤ sizeLine by decide), fun F hF => go_name rfl ?_⟩
    have s1 : Same H (upd H F (.lst [])) := same_new (Same.refl _) hF
    refine go_sq ⟨_, rfl, a, rfl, ⟨_, SqT.of (s1 _ _ ha)⟩, ?_⟩
    refine for_tup (xs := nV us) (fun i σ H' => ∃ (F' : Addr) (v vo : Option V), σ = [some (.ref a), some (.ref b), some (.int (k : Int)), some (.ref F'), v, vo] ∧ Same H H' ∧ H' F' = some (.lst (nV (sumsN (us.take i) ws)))) ⟨F, none, none, rfl, s1, upd_same⟩ (fun i σ H' _ ⟨_, _, _, _, s', _⟩ => SqT.of (s' _ _ ha)) ?_ ?_
    · rintro i x σ H2 hx ⟨F', v, vo, rfl, s2, e2⟩
      obtain ⟨n, hn, rfl⟩ := nV_at hx
      have hi : i < us.length := (List.getElem?_eq_some_iff.mp hn).1
      refine go_name rfl ?_
      refine ⟨_, rfl, _, rfl, b, rfl, ⟨_, SqT.of (s2 _ _ hb)⟩, fun D hD => ?_⟩
      refine lc_tup (xs := nV ws) (fun j H3 => Same H2 H3 ∧ H3 D = some (.lst (nV ((ws.take j).map fun z => n + z)))) ⟨same_new (Same.refl _) hD, upd_same⟩ (fun j H3 _ ⟨s3, _⟩ => SqT.of (s3 _ _ (s2 _ _ hb))) (fun j x H3 hx2 ⟨s3, e3⟩ => ?_) (fun H3 ⟨s3, e3⟩ => ?_)
      · obtain ⟨m, hm, rfl⟩ := nV_at hx2
        have hj : j < ws.length := (List.getElem?_eq_some_iff.mp hm).1
        refine ⟨rfl, yes_then (iteT ⟨_, rfl, _, rfl, _, _, rfl, rfl, _, e3, ?_, ?_, ?_⟩)⟩
        · have h2 := List.length_take_le j ws
          rw [nV_len, List.length_map]
          exact Nat.lt_of_le_of_lt (by omega : _ ≤ 100) (by decide)
        · exact same_but hD s3 but_app
        · rw [upd_same, List.take_add_one, hm, List.map_append, ← nV_app]
          rfl
      · rw [nV_len, List.take_length] at e3
        have h1 := List.length_take_le i us
        have h3 : (us.take i).length * ws.length ≤ 100 * 100 := Nat.mul_le_mul (by omega) lw
        refine ⟨F', D, _, _, rfl, rfl, s3 _ _ e2, e3, ?_, fun p hp => go_name rfl ?_⟩
        · rw [nV_len, nV_len, sums_len, List.length_map]
          exact Nat.le_trans (by omega : _ ≤ 10100) (by decide)
        · exact ⟨p, _, _, rfl, fun c o e => two_new s3 hp _ _ (s2 _ _ e), by rw [upd_same, nV_app, sums_take ws hn]⟩
    · rintro σ H2 ⟨F', v, vo, rfl, s2, e2⟩
      rw [nV_len, List.take_length] at e2
      refine ⟨_, rfl, F', (sumsN us ws).map (fun (n : Nat) => (n : Int)), rfl, .inl (by rw [int_map]; exact SqL.of e2), fun ms pp hpm hs hpn => ?_⟩
      rw [sortN_of hpm hs, int_map]
      have s5 := two_new (o := .lst (nV (sortN (sumsN us ws)))) s2 hpn
      refine ⟨_, rfl, _, rfl, pp, _, rfl, SqL.of upd_same, fun l hl => ?_⟩
      rw [cut_to]
      have s6 := two_new (o := .lst (nV ((sortN (sumsN us ws)).take k))) s5 hl
      refine ⟨l, _, rfl, .inl ⟨SqL.of upd_same, fun tt ht => ?_⟩⟩
      exact q _ tt (two_new s6 ht) upd_same
end
end K33

set_option Elab.async false
set_option linter.all false
set_option maxRecDepth 100000
set_option maxHeartbeats 4000000
namespace K33
open PySem L2 Ew Tb KM STx EwG GxR
local macro_rules | `(tactic| walk_at "len") => `(tactic| first | (intro h; obtain ⟨_, e, _⟩ := h; rw [e]; rfl) | (intro h; obtain ⟨_, _, e, _⟩ := h; rw [e]; rfl) | (intro h; obtain ⟨_, _, _, e, _⟩ := h; rw [e]; rfl) | (intro h; obtain ⟨_, _, _, _, e, _⟩ := h; rw [e]; rfl) | (intro h; obtain ⟨_, _, _, _, _, e, _⟩ := h; rw [e]; rfl) | (intro h; obtain ⟨_, _, _, _, _, _, e, _⟩ := h; rw [e]; rfl) | (intro h; obtain ⟨_, _, _, _, _, _, _, e, _⟩ := h; rw [e]; rfl) | (intro h; exact h.elim))
section
variable {P : Program} {w : World} {K : PySem.W.Frag} {mg : Str → Option Value} {base : Heap} {ad : Ad}
/-- t is, from any later heap, a tuple of the numbers us -/
def Tm (t : TE) (σ : L2.St) (H : Hp) (us : List Nat) : Prop := ∀ (H1 : Hp) (Q : VK), Same H H1 → (∀ H' p, Same H1 H' → H' p = some (.tup (nV us)) → Q (.ref p) H') → t σ H1 Q
def Ts (t : TT) (σ : L2.St) (H : Hp) (b : Bool) : Prop := ∀ (H1 : Hp) (Kt : Bool → Hp → Prop), Same H H1 → (∀ H', Same H1 H' → Kt b H') → t σ H1 Kt
theorem same_tr {H H1 H2 : Hp} (x : Same H H1) (y : Same H1 H2) : Same H H2 := fun b o e => y _ _ (x _ _ e)
section
variable {σ : L2.St} {H : Hp} {us ws : List Nat} {ta tb : TE} {W : WX} {C y dy a : Addr} {k k' i j : Nat} {m : Str}
theorem tm_var (h : σ[i]? = some (some (.ref a))) (e : H a = some (.tup (nV us))) : Tm (tVar i) σ H us := fun H1 Q s q => ⟨_, h, q H1 a (Same.refl _) (s _ _ e)⟩
theorem tm_nil : Tm (tTup tNil) σ H [] := fun H1 Q s q => ⟨(show 0 ≤ sizeLine by decide), fun p hp => q _ p (same_new (Same.refl _) hp) upd_same⟩
theorem tm_one : Tm (tTup (tCons (tC (.int 0)) tNil)) σ H [0] := fun H1 Q s q => ⟨(show 1 ≤ sizeLine by decide), fun p hp => q _ p (same_new (Same.refl _) hp) upd_same⟩
theorem tm_rep (h : σ[i]? = some (some (.int (k : Int)))) (k1 : 1 ≤ k) (k20 : k ≤ 20) : Tm (tOp (rRepA K) (tTup (tCons (tC (.int 0)) tNil)) (tVar i)) σ H (List.replicate k 0) := fun H1 Q s q => by
  refine ⟨(show 1 ≤ sizeLine by decide), fun p hp => ⟨_, h, p, _, _, rfl, rfl, SqT.of upd_same, by simp, by omega, by omega, by simp, fun e => ?_, fun e p2 hp2 => ?_⟩⟩
  · have : k = 1 := by omega
    subst this
    exact q _ p (same_new (Same.refl _) hp) upd_same
  · exact q _ p2 (two_new (same_new (Same.refl _) hp) hp2) (by rw [upd_same, rep_nV])
theorem tm_bin {f : Nat → List Nat → List Nat → List Nat} (M : MetX P w K mg base k' C m (spBin C f)) (hk : k' ≤ j) (hm : ¬ m = "_k") (hy : H y = some (.ins C dy (fK k))) (hσ : σ[i]? = some (some (.ref y))) (ha : Tm ta σ H us) (hb : Tm tb σ H ws) (lu : us.length ≤ 1000) (lw : ws.length ≤ 1000) :
    Tm (tMethD P w K mg base j m W (tVar i) (tCons ta (tCons tb tNil))) σ H (f k us ws) := fun H1 Q s q => by
  refine ⟨_, hσ, y, _, dy, _, k', _, rfl, s _ _ hy, fK_no _ hm, hk, M, ?_⟩
  refine ha H1 _ s fun H2 p1 s2 e2 => ?_
  refine hb H2 _ (same_tr s s2) fun H3 p2 s3 e3 => ?_
  exact ⟨y, dy, p1, p2, k, us, ws, rfl, s3 _ _ (s2 _ _ (s _ _ hy)), s3 _ _ e2, e3, lu, lw, fun H4 p s4 e4 => q H4 p (same_tr s2 (same_tr s3 s4)) e4⟩
theorem tm_nul (M : MetX P w K mg base k' C m (spNul C us)) (hk : k' ≤ j) (hm : ¬ m = "_k") (hy : H y = some (.ins C dy (fK k))) (hσ : σ[i]? = some (some (.ref y))) :
    Tm (tMethD P w K mg base j m W (tVar i) tNil) σ H us := fun H1 Q s q =>
  ⟨_, hσ, y, _, dy, _, k', _, rfl, s _ _ hy, fK_no _ hm, hk, M, y, dy, k, rfl, s _ _ hy, fun p hp => q _ p (same_new (Same.refl _) hp) upd_same⟩
theorem tm_star (M : MetX P w K mg base k' C "star" (spStar C)) (hk : k' ≤ j) (hy : H y = some (.ins C dy (fK k))) (hσ : σ[i]? = some (some (.ref y))) (ha : Tm ta σ H us) (lu : us.length ≤ 1000) (k1 : 1 ≤ k) (k20 : k ≤ 20) :
    Tm (tMethD P w K mg base j "star" W (tVar i) (tCons ta tNil)) σ H (starN k us) := fun H1 Q s q => by
  refine ⟨_, hσ, y, _, dy, _, k', _, rfl, s _ _ hy, fK_no _ (by decide), hk, M, ?_⟩
  refine ha H1 _ s fun H2 p1 s2 e2 => ?_
  exact ⟨y, dy, p1, k, us, rfl, s2 _ _ (s _ _ hy), e2, lu, k1, k20, fun H4 p s4 e4 => q H4 p (same_tr s2 s4) e4⟩
theorem ts_ne (ha : Tm ta σ H us) (hb : Tm tb σ H ws) (e : us = ws) : Ts (tTest (tOp (rNums K true) ta tb)) σ H false := fun H1 Kt s q => by
  refine ha H1 _ s fun H2 p1 s2 e2 => ?_
  refine hb H2 _ (same_tr s s2) fun H3 p2 s3 e3 => ?_
  refine ⟨p1, p2, us, ws, rfl, rfl, .inl ⟨SqT.of (s3 _ _ e2), SqT.of e3⟩, ?_⟩
  rw [decide_eq_true e]
  exact ⟨_, rfl, q H3 (same_tr s2 s3)⟩
theorem ts_or {t u : TT} {b : Bool} (ht : Ts t σ H false) (hu : Ts u σ H b) : Ts (tOr t u) σ H b := fun H1 Kt s q => ht H1 _ s fun H2 s2 => iteF (hu H2 _ (same_tr s s2) fun H3 s3 => q H3 (same_tr s2 s3))
theorem ts_and {t u : TT} {b : Bool} (ht : Ts t σ H b) (hu : b = true → Ts u σ H false) : Ts (tAnd t u) σ H false := fun H1 Kt s q => ht H1 _ s fun H2 s2 => by
  cases b with
  | true => exact iteT (hu rfl H2 _ (same_tr s s2) fun H3 s3 => q H3 (same_tr s2 s3))
  | false => exact iteF (q H2 s2)
theorem ts_in (neg : Bool) (h : σ[i]? = some (some (.ref a))) (e : H a = some (.tup (nV us))) : Ts (tTest (tOp (rIn K neg) (tC (.int 0)) (tVar i))) σ H (if neg then !decide (0 ∈ us) else decide (0 ∈ us)) := fun H1 Kt s q => by
  refine ⟨_, h, a, nV us, rfl, .inr (SqT.of (s _ _ e)), rfl, nV_flat us, _, rfl, ?_⟩
  rw [show inV (.int 0) (nV us) = decide (0 ∈ us) from inV_nV 0 us]
  exact q H1 (Same.refl _)
theorem cat_nV {b : Addr} {Q : VK} (ha : H a = some (.tup (nV us))) (hb : H b = some (.tup (nV ws))) (lu : us.length ≤ 1000) (lw : ws.length ≤ 1000) (q : ∀ H' p, Same H H' → H' p = some (.tup (nV (us ++ ws))) → Q (.ref p) H') : rCatA K (.ref a) (.ref b) H Q := by
  refine ⟨a, b, _, _, rfl, rfl, SqT.of ha, SqT.of hb, ?_, fun e => ?_, fun e1 e2 => ?_, fun e1 e2 c hc => ?_⟩
  · rw [nV_len, nV_len]; exact Nat.le_trans (by omega : _ ≤ 2000) (by decide)
  · have : us = [] := List.map_eq_nil_iff.mp e
    subst this
    exact q _ b (Same.refl _) hb
  · have : ws = [] := List.map_eq_nil_iff.mp e2
    subst this
    refine q _ a (Same.refl _) ?_
    rw [List.append_nil]
    exact ha
  · exact q _ c (same_new (Same.refl _) hc) (by rw [upd_same, nV_app])
theorem dd_nV {a b : Addr} {n : Nat} (ha : H a = some (.tup (nV us))) (hb : H b = some (.tup (nV us))) (lu : us.length ≤ 1000) : Dd H (n + 2) (.ref a) (.ref b) := by
  refine .tup ha hb rfl (by rw [nV_len]; omega) fun i x y hx hy => ?_
  rw [hx] at hy
  cases hy
  obtain ⟨n, _, rfl⟩ := nV_at hx
  exact .int _
end
theorem Elc.fr {k : Nat} {H H' : Hp} {x : V} {r : Bool} (h : Elc k H x r) (f : FrT H H') : Elc k H' x r := by
  cases h with
  | non => exact .non
  | int i => exact .int i
  | lst e => exact .lst (f.lst e)
  | long e h => exact .long (f.tup e) h
  | bad e k1 hx hn =>
    refine .bad (f.tup e) k1 ?_ hn
    cases hx with
    | non => exact .non
    | bl b => exact .bl b
    | int i => exact .int i
    | str z => exact .str z
    | lst e' => exact .lst (f.lst e')
    | tup e' => exact .tup (f.tup e')
  | num e h => exact .num (f.tup e) h
theorem frt_put {H H' : Hp} {D : Addr} {o : HO} (f : FrT H H') (hD : H D = none) : FrT H (upd H' D o) :=
  ⟨fun b u e n => by rw [upd_ne (ne_of_none e hD)]; exact f.keep b u e n, fun P' h => by
    obtain ⟨ps, e, ok⟩ := h
    obtain ⟨ps', e', ok'⟩ := f.tabs P' ⟨ps, e, ok⟩
    exact ⟨ps', by rw [upd_ne (ne_of_none e hD)]; exact e', ok'⟩⟩
theorem rep_snoc (n : Nat) (b : Bool) : (List.replicate n b).map V.bl ++ [V.bl b] = (List.replicate (n + 1) b).map V.bl := by
  rw [List.replicate_succ', List.map_append]; rfl
def spLaw (K : PySem.W.Frag) (PP : Addr) : Sp := fun vs H Q _ => ∃ (a : Addr) (ns : List Int), vs = [.ref a] ∧ SqL K H a (ns.map V.int) ∧ ns.length ≤ 63 ∧ TabG H PP ∧ ∀ H', Q (.bl true) H'
theorem ok_law {PP : Addr} (mTops : MakX P w K mg base 1 "Tops" ad.Tops (spInit ad.Tops ad.InvalidArgument)) (m_zero : MetX P w K mg base 4 ad.Tops "zero" (spNul ad.Tops [])) (m_one : MetX P w K mg base 4 ad.Tops "one" (spNul ad.Tops [0])) (m_plus : MetX P w K mg base 4 ad.Tops "plus" (spBin ad.Tops plN)) (m_times : MetX P w K mg base 4 ad.Tops "times" (spBin ad.Tops tmN)) (m_star : MetX P w K mg base 4 ad.Tops "star" (spStar ad.Tops)) (m_elem : MetX P w K mg base 4 ad.Tops "is_element" (spEl PP ad.Tops)) (c_law_pot : CalX P w K mg base 1 "_law_pot" (spPot K)) (c_law_next : CalX P w K mg base 1 "_law_next" spNext) (c_law_same : CalX P w K mg base 8 "_law_same" (spSame 3)) (c_law_refused : CalX P w K mg base 7 "_law_refused" spRef) (c_law_element : CalX P w K mg base 2 "_law_element" spElem) (c_law_sums : CalX P w K mg base 1 "_law_sums" spSums) {f : Addr} {fd : FuncData} (F : Fun K "law" "law" s_law f fd) (T : Txt K mg ad) : FnOk P w K mg base (L2.CX P w) 21 f fd ["script"] (spLaw K PP) := by
  refine F.okX sc_law (fun vs H Q E => ?_) (fun cdv A outer s H vs Q E hr h => ?_)
  · walk_at "len"
  ·
    obtain ⟨sa, ns, rfl, hS, hlen, hT, k⟩ := h
    have two : 2 ≤ sizeLine := by decide
    refine ⟨_, (pss_cons (ps_set (i := 1) sc_law.nd rfl (by first | exact Or.inl rfl | exact Or.inr rfl) (pc_call c_law_pot hr (by first | decide | omega) (takes_of rfl rfl rfl rfl) (by rfl) (pa_cons (pv 0) pa_nil)))
      (pss_cons (ps_set (i := 2) sc_law.nd rfl (by first | exact Or.inl rfl | exact Or.inr rfl) (pe_op op_add pe_int (pc_call c_law_next hr (by first | decide | omega) (takes_of rfl rfl rfl rfl) (by rfl) (pa_cons (pv 1) (pa_cons (pe_ix ix_list (pe_lst (pa_cons pe_int (pa_cons pe_int pa_nil))) (pc_call c_law_next hr (by first | decide | omega) (takes_of rfl rfl rfl rfl) (by rfl) (pa_cons (pv 1) (pa_cons pe_int pa_nil))) (fun _ _ => rfl)) pa_nil)))))
      (pss_cons (ps_set (i := 3) sc_law.nd rfl (by first | exact Or.inl rfl | exact Or.inr rfl) (pd_make hr (takes_of rfl rfl rfl rfl) (by rfl) (pa_cons (pv 2) pa_nil)))
      (pss_cons (ps_setLc (i := 4) (own := [("k", 10)]) (tt := tYes) rfl sc_law.nd rfl rfl (sw_true rfl rfl rfl (by decide +kernel)) (pi_range1 (by rfl) T.z_range (pa_cons pe_int pa_nil)) (blkOk_by (by kernel_rfl)) (fun _ _ _ _ _ => (pg_name (i := 10) sc_law.nd rfl (by first | exact Or.inl rfl | exact Or.inr rfl))) (fun _ _ _ _ _ => pts_nil) (fun _ _ _ _ _ => (pc_call c_law_element hr (by first | decide | omega) takes0 (by rfl) (pa_cons (pv 1) (pa_cons (pv 2) pa_nil)))))
      (pss_cons (ps_asg (pv 4) (pg_lst rfl (pgs_cons (pg_name (i := 5) sc_law.nd rfl (by first | exact Or.inl rfl | exact Or.inr rfl)) (pgs_cons (pg_name (i := 6) sc_law.nd rfl (by first | exact Or.inl rfl | exact Or.inr rfl)) (pgs_cons (pg_name (i := 7) sc_law.nd rfl (by first | exact Or.inl rfl | exact Or.inr rfl)) pgs_nil)))))
      (C8.pss_cut (ps_if (PW.pt (pw_or (pt_not (pt_val (pc_call c_law_same hr (by first | decide | omega) (takes_of rfl rfl rfl rfl) (by rfl) (pa_cons (pd_meth hr (takes_of rfl rfl rfl rfl) (pv 3) (pa_cons (pv 5) (pa_cons (pv 6) pa_nil))) (pa_cons (pe_callTy call_tuple_of (by rfl) T.z_tuple (by decide +kernel) (pa_cons (pe_slice sl_list (pe_callB cr_sortedA (by rfl) T.z_sorted (by decide +kernel) (pa_cons (pe_op op_catA (pv 5) (pv 6)) pa_nil)) po_none (po_some (pv 2))) pa_nil)) pa_nil))))) (pw_or1 (pt_not (pt_val (pc_call c_law_same hr (by first | decide | omega) (takes_of rfl rfl rfl rfl) (by rfl) (pa_cons (pd_meth hr (takes_of rfl rfl rfl rfl) (pv 3) (pa_cons (pv 5) (pa_cons (pv 6) pa_nil))) (pa_cons (pc_call c_law_sums hr (by first | decide | omega) (takes_of rfl rfl rfl rfl) (by rfl) (pa_cons (pv 5) (pa_cons (pv 6) (pa_cons (pv 2) pa_nil)))) pa_nil)))))))) (pss_one (ps_ret pe_bl)) pss_nil)
      (C8.pss_cut (ps_if (pt_cmpR (op_neNums hr.units) (pd_meth hr (takes_of rfl rfl rfl rfl) (pv 3) (pa_cons (pv 5) (pa_cons (pd_meth hr (takes_of rfl rfl rfl rfl) (pv 3) (pa_cons (pv 6) (pa_cons (pv 7) pa_nil))) pa_nil))) (pd_meth hr (takes_of rfl rfl rfl rfl) (pv 3) (pa_cons (pd_meth hr (takes_of rfl rfl rfl rfl) (pv 3) (pa_cons (pv 5) (pa_cons (pv 6) pa_nil))) (pa_cons (pd_meth hr (takes_of rfl rfl rfl rfl) (pv 3) (pa_cons (pv 5) (pa_cons (pv 7) pa_nil))) pa_nil))) (nomark _)) (pss_one (ps_ret pe_bl)) pss_nil)
      (C8.pss_cut (ps_if (PW.pt (pw_or (pt_cmpR (op_neNums hr.units) (pd_meth hr (takes_of rfl rfl rfl rfl) (pv 3) (pa_cons (pv 5) (pa_cons (pd_meth hr (takes_of rfl rfl rfl rfl) (pv 3) (pa_cons (pv 6) (pa_cons (pv 7) pa_nil))) pa_nil))) (pd_meth hr (takes_of rfl rfl rfl rfl) (pv 3) (pa_cons (pd_meth hr (takes_of rfl rfl rfl rfl) (pv 3) (pa_cons (pv 5) (pa_cons (pv 6) pa_nil))) (pa_cons (pv 7) pa_nil))) (nomark _)) (pw_or1 (pt_cmpR (op_neNums hr.units) (pd_meth hr (takes_of rfl rfl rfl rfl) (pv 3) (pa_cons (pv 5) (pa_cons (pd_meth hr (takes_of rfl rfl rfl rfl) (pv 3) (pa_cons (pv 6) (pa_cons (pv 7) pa_nil))) pa_nil))) (pd_meth hr (takes_of rfl rfl rfl rfl) (pv 3) (pa_cons (pd_meth hr (takes_of rfl rfl rfl rfl) (pv 3) (pa_cons (pv 5) (pa_cons (pv 6) pa_nil))) (pa_cons (pv 7) pa_nil))) (nomark _))))) (pss_one (ps_ret pe_bl)) pss_nil)
      (C8.pss_cut (ps_if (PW.pt (pw_or (pt_cmpR (op_neNums hr.units) (pd_meth0 hr (takes_of rfl rfl rfl rfl) (pv 3)) (pe_tup pa_nil) (nomark _)) (pw_or (pt_cmpR (op_neNums hr.units) (pd_meth0 hr (takes_of rfl rfl rfl rfl) (pv 3)) (pe_tup (pa_cons pe_int pa_nil)) (nomark _)) (pw_or (pt_cmpR (op_neNums hr.units) (pd_meth hr (takes_of rfl rfl rfl rfl) (pv 3) (pa_cons (pv 5) (pa_cons (pe_tup (pa_cons pe_int pa_nil)) pa_nil))) (pv 5) (nomark _)) (pw_or (pt_cmpR (op_neNums hr.units) (pd_meth hr (takes_of rfl rfl rfl rfl) (pv 3) (pa_cons (pv 5) (pa_cons (pe_tup pa_nil) pa_nil))) (pe_tup pa_nil) (nomark _)) (pw_or1 (pt_cmpR (op_neNums hr.units) (pd_meth hr (takes_of rfl rfl rfl rfl) (pv 3) (pa_cons (pv 5) (pa_cons (pe_tup pa_nil) pa_nil))) (pv 5) (nomark _)))))))) (pss_one (ps_ret pe_bl)) pss_nil)
      (C8.pss_cut (ps_set (i := 8) sc_law.nd rfl (by first | exact Or.inl rfl | exact Or.inr rfl) (pd_meth hr (takes_of rfl rfl rfl rfl) (pv 3) (pa_cons (pv 5) pa_nil)))
      (C8.pss_cut (ps_if (PW.pt (pw_or (pt_cmpR (op_neNums hr.units) (pv 8) (pd_meth hr (takes_of rfl rfl rfl rfl) (pv 3) (pa_cons (pd_meth0 hr (takes_of rfl rfl rfl rfl) (pv 3)) (pa_cons (pd_meth hr (takes_of rfl rfl rfl rfl) (pv 3) (pa_cons (pv 5) (pa_cons (pv 8) pa_nil))) pa_nil))) (nomark _)) (pw_or1 (PW.pt (pw_and (pt_cmpR op_in_seq pe_int (pv 5) (by rfl)) (pw_and1 (pt_cmpR (op_neNums hr.units) (pv 8) (pe_op op_repA (pe_tup (pa_cons pe_int pa_nil)) (pv 2)) (nomark _)))))))) (pss_one (ps_ret pe_bl)) pss_nil)
      (pss_cons (ps_set (i := 9) sc_law.nd rfl (by first | exact Or.inl rfl | exact Or.inr rfl) (pe_tup (pa_cons pe_int pa_nil)))
      (C8.pss_cut (ps_for (passes_of rfl) rfl (pi_range1 (by rfl) T.z_range (pa_cons (pv 2) pa_nil)) (pg_name (i := 10) sc_law.nd rfl (by first | exact Or.inl rfl | exact Or.inr rfl)) (pss_one (ps_set (i := 9) sc_law.nd rfl (by first | exact Or.inl rfl | exact Or.inr rfl) (pd_meth hr (takes_of rfl rfl rfl rfl) (pv 3) (pa_cons (pe_tup (pa_cons pe_int pa_nil)) (pa_cons (pd_meth hr (takes_of rfl rfl rfl rfl) (pv 3) (pa_cons (pv 5) (pa_cons (pv 9) pa_nil))) pa_nil))))))
      (C8.pss_cut (ps_if (PW.pt (pw_and (pt_cmpR op_notIn_seq pe_int (pv 5) (by rfl)) (pw_and1 (pt_cmpR (op_neNums hr.units) (pv 8) (pv 9) (nomark _))))) (pss_one (ps_ret pe_bl)) pss_nil)
      (pss_cons (ps_set (i := 11) sc_law.nd rfl (by first | exact Or.inl rfl | exact Or.inr rfl) (pe_lst (pa_cons (pe_tup (pa_cons pe_int (pa_cons pe_int pa_nil))) (pa_cons (pe_tup (pa_cons (pe_un un_neg pe_int) pa_nil)) (pa_cons (pe_lst (pa_cons pe_int pa_nil)) (pa_cons (pe_tup (pa_cons pe_bl pa_nil)) (pa_cons (pe_tup (pa_cons pe_str pa_nil)) (pa_cons (pe_op op_repA (pe_tup (pa_cons pe_int pa_nil)) (pe_op op_add (pv 2) pe_int)) (pa_cons pe_non (pa_cons pe_int pa_nil))))))))))
      (C8.pss_cut (ps_if (PW.pt (pw_or (pt_not (pt_val (pe_callB (cr_all rfl) (by rfl) T.z_all (by decide +kernel) (pa_cons (pe_lc (own := [("x", 12)]) (tt := tYes) rfl sc_law.nd (pi_list (pv 4)) (blkOk_by (by kernel_rfl)) (fun _ _ _ _ _ => (pg_name (i := 12) sc_law.nd rfl (by first | exact Or.inl rfl | exact Or.inr rfl))) (fun _ _ _ _ _ => pts_nil) (fun _ _ _ _ _ => (pe_cmpR op_isBl (kpd_meth (P := P) (w := w) (K := K) (mg := mg) (base := base) hr takes0 (pv 3) (pa_cons (pv 12) pa_nil)) pe_bl (nomark _)))) pa_nil)))) (pw_or1 (pt_val (pe_callB (cr_any rfl) (by rfl) T.z_any (by decide +kernel) (pa_cons (pe_lc (own := [("x", 12)]) (tt := tYes) rfl sc_law.nd (pi_list (pv 11)) (blkOk_by (by kernel_rfl)) (fun _ _ _ _ _ => (pg_name (i := 12) sc_law.nd rfl (by first | exact Or.inl rfl | exact Or.inr rfl))) (fun _ _ _ _ _ => pts_nil) (fun _ _ _ _ _ => (kpd_meth (P := P) (w := w) (K := K) (mg := mg) (base := base) hr takes0 (pv 3) (pa_cons (pv 12) pa_nil)))) pa_nil)))))) (pss_one (ps_ret pe_bl)) pss_nil)
      (pss_one (ps_ret (pe_and (pc_call c_law_refused hr (by first | decide | omega) (takes_of rfl rfl rfl rfl) (by rfl) (pa_cons pe_int pa_nil)) (pe_one (pc_call c_law_refused hr (by first | decide | omega) (takes_of rfl rfl rfl rfl) (by rfl) (pa_cons pe_int pa_nil)))))))))))))))))))))), ?_⟩
    refine go_seq ⟨_, rfl, sa, ns, rfl, hS, hlen, fun H1 p s1 np P1 => go_name rfl ?_⟩
    -- many
    refine go_seq ⟨_, rfl, two, fun q hq => ⟨_, rfl, p, 2, rfl, P1.same (same_new (Same.refl _) hq), by decide, by decide, fun H2 r f2 P2 r0 r1 _ => ?_⟩⟩
    obtain ⟨j, rfl⟩ := toN r0
    obtain ⟨lm, hlm, hl2, hl50⟩ : ∃ lm : Nat, ([.int 4, .int 20] : List V)[j]? = some (.int (lm : Int)) ∧ 0 < lm ∧ lm ≤ 20 := by
      rcases j with _ | _ | j
      · exact ⟨4, rfl, by decide, by decide⟩
      · exact ⟨20, rfl, by decide, by decide⟩
      · omega
    have npq : q ≠ p := by
      obtain ⟨o, ho⟩ := P1.some
      exact (ne_of_none ho hq).symm
    refine ⟨q, _, _, _, rfl, rfl, SqL.of (f2 _ _ npq upd_same), at_of rfl hlm, p, _, rfl, P2, by omega, by omega, fun H3 r2 f3 P3 r20 r21 _ => ?_⟩
    obtain ⟨k0, rfl⟩ := toN r20
    refine ⟨_, _, rfl, rfl, go_name rfl ?_⟩
    obtain ⟨kk, hkk, k1, k20⟩ : ∃ kk : Nat, (1 : Int) + (k0 : Int) = (kk : Int) ∧ 1 ≤ kk ∧ kk ≤ 20 := ⟨1 + k0, by omega, by omega, by omega⟩
    rw [show (fun i j : Int => V.int (i + j)) 1 (k0 : Int) = V.int (kk : Int) from congrArg V.int hkk]
    -- ring
    refine go_seq ⟨1, ad.Tops, _, by decide, mTops, _, rfl, fun y dy hy hdy nyd => ⟨y, dy, kk, rfl, upd_same, fun _ => ⟨rfl, go_name rfl ?_⟩, fun z => absurd ⟨k1, k20⟩ z⟩⟩
    have s4 : Same H3 (upd (upd (upd H3 dy (.own y)) y (.ins ad.Tops dy [])) y (.ins ad.Tops dy (fK kk))) := fun c o e => by
      rw [upd_ne (ne_of_none e hy), upd_ne (ne_of_none e hy), upd_ne (ne_of_none e hdy)]
      exact e
    have P4 := P3.same s4
    have hyr : (upd (upd (upd H3 dy (.own y)) y (.ins ad.Tops dy [])) y (.ins ad.Tops dy (fK kk))) y = some (.ins ad.Tops dy (fK kk)) := upd_same
    have hT4 : TabG (upd (upd (upd H3 dy (.own y)) y (.ins ad.Tops dy [])) y (.ins ad.Tops dy (fK kk))) PP := by
      obtain ⟨ps, e, ok⟩ := hT
      have npP : PP ≠ p := ne_of_none e np
      exact ⟨ps, s4 _ _ (f3 _ _ npP (f2 _ _ npP ((same_new (Same.refl _) hq) _ _ (s1 _ _ e)))), ok⟩
    have nyp : y ≠ p := by
      obtain ⟨o, ho⟩ := P3.some
      exact (ne_of_none ho hy).symm
    generalize (upd (upd (upd H3 dy (.own y)) y (.ins ad.Tops dy [])) y (.ins ad.Tops dy (fK kk))) = H4 at s4 P4 hyr hT4
    -- told
    refine go_sq ⟨_, rfl, by omega, by omega, fun D hD => ?_⟩
    obtain ⟨pb, P4⟩ := P4.b_
    obtain ⟨xp, hxp⟩ := P4.ls
    have nDp : D ≠ p := (ne_of_none hxp hD).symm
    refine lc_range (lo := 0) (n := 3) (fun i H' => Fr1 p H4 H' ∧ PotB H' p pb ∧ ∃ L : List Addr, H' D = some (.lst (L.map V.ref)) ∧ L.length = i ∧ ∀ q ∈ L, ∃ us, H' q = some (.tup (nV us)) ∧ ElN kk us) ⟨(Fr1.refl _ _).new hD, P4.same (same_new (Same.refl _) hD), [], upd_same, rfl, fun q hq => nomatch hq⟩ (fun i H5 hi ⟨f5, p5, L, e5, l5, m5⟩ => ?_) (fun H5 ⟨f5, p5, L, e5, l5, m5⟩ => ?_)
    · refine ⟨rfl, yes_then (iteT ⟨_, rfl, _, rfl, p, pb, kk, rfl, p5, k20, fun H6 a us f6 p6 e6 el => ⟨_, f6 _ _ nDp e5, ?_, ?_⟩⟩)⟩
      · rw [List.length_map, l5]; exact Nat.lt_of_le_of_lt (by omega : i ≤ 100) (by decide)
      · have e6D := f6 _ _ nDp e5
        have tk : ∀ {q : Addr} {zs : List V}, H6 q = some (.tup zs) → upd H6 D (.lst (L.map V.ref ++ [.ref a])) q = some (.tup zs) := fun e => by
          rw [upd_ne (ne_of e e6D (fun z => nomatch z))]
          exact e
        refine ⟨fun c o nc e => ?_, p6.but (by rw [upd_ne (Ne.symm nDp)]) ?_, L ++ [a], by rw [upd_same, List.map_append]; rfl, by rw [List.length_append, l5]; rfl, fun q hq => ?_⟩
        · rw [upd_ne (ne_of_none e hD)]
          exact f6 _ _ nc (f5 _ _ nc e)
        · obtain ⟨_, _, _, _, _, eb, _⟩ := P4
          rw [upd_ne (ne_of_none eb hD)]
        · rcases List.mem_append.mp hq with h | h
          · obtain ⟨us', h1, h2⟩ := m5 q h
            exact ⟨us', tk (f6 _ _ (ne_of h1 (p5.ls.choose_spec) (fun z => nomatch z)) h1), h2⟩
          · rw [List.mem_singleton.mp h]
            exact ⟨us, tk e6, el⟩
    refine go_name rfl (go_nx ?_)
    have hy5 := f5 _ _ nyp hyr
    have hT5 : TabG H5 PP := by
      obtain ⟨ps, e, ok⟩ := hT4
      exact ⟨ps, f5 _ _ (ne_of e hxp (fun z => nomatch z)) e, ok⟩
    obtain ⟨a, b, c, rfl⟩ : ∃ a b c, L = [a, b, c] := by
      rcases L with _ | ⟨a, _ | ⟨b, _ | ⟨c, _ | ⟨d, L⟩⟩⟩⟩
      · cases l5
      · cases l5
      · cases l5
      · exact ⟨a, b, c, rfl⟩
      · simp at l5
    obtain ⟨ua, ha, ela⟩ := m5 a (by simp)
    obtain ⟨ub, hb, elb⟩ := m5 b (by simp)
    obtain ⟨uc, hc, elc⟩ := m5 c (by simp)
    -- a, b, c = told
    refine go_seq ⟨_, rfl, D, _, rfl, SqL.of e5, rfl, ?_⟩
    refine ⟨_, _, rfl, go_name rfl ⟨_, _, rfl, go_name rfl ⟨_, _, rfl, go_name rfl ⟨rfl, ?_⟩⟩⟩⟩
    have la : ua.length ≤ 1000 := by have := ela.len; omega
    have lb : ub.length ≤ 1000 := by have := elb.len; omega
    have lc : uc.length ≤ 1000 := by have := elc.len; omega
    have lt : ∀ ns, (topN kk ns).length ≤ 1000 := fun ns => by have := topN_len kk ns; omega
    -- plus and times are the documented ones
    have hyH := hy5
    refine ⟨fun σ H' => σ = [some (.ref sa), some (.ref p), some (.int (kk : Int)), some (.ref y), some (.ref D), some (.ref a), some (.ref b), some (.ref c), none, none, none, none, none] ∧ Same H5 H', ?_, ?_⟩
    · refine (tm_bin (σ := [some (.ref sa), some (.ref p), some (.int (kk : Int)), some (.ref y), some (.ref D), some (.ref a), some (.ref b), some (.ref c), none, none, none, none, none]) (i := 3) m_plus (by decide) (by decide) hyH rfl (tm_var (i := 5) rfl ha) (tm_var (i := 6) rfl hb) la lb) H5 _ (Same.refl _) fun H6 p1 s6 e6 => ?_
      refine ⟨_, rfl, _, rfl, ?_⟩
      refine cat_nV (s6 _ _ ha) (s6 _ _ hb) la lb fun H7 p2 s7 e7 => ?_
      refine ⟨p2, (ua ++ ub).map (fun (n : Nat) => (n : Int)), rfl, .inr (by rw [int_map]; exact SqT.of e7), fun ms pp hpm hs hpn => ?_⟩
      rw [sortN_of hpm hs, int_map]
      have s8 := two_new (o := .lst (nV (sortN (ua ++ ub)))) s7 hpn
      refine ⟨_, rfl, _, rfl, pp, _, rfl, SqL.of upd_same, fun l hl => ?_⟩
      rw [cut_to]
      have s9 := two_new (o := .lst (nV ((sortN (ua ++ ub)).take kk))) s8 hl
      refine ⟨l, _, rfl, .inl ⟨SqL.of upd_same, fun tt ht => ?_⟩⟩
      have s10 := two_new (o := .tup (nV ((sortN (ua ++ ub)).take kk))) s9 ht
      refine ⟨_, _, rfl, dd_nV (n := 1) (us := plN kk ua ub) (s10 _ _ e6) upd_same (lt _), fun H11 s11 => ⟨true, rfl, iteF ?_⟩⟩
      have sA := same_tr s6 (same_tr s10 s11)
      refine (tm_bin (σ := [some (.ref sa), some (.ref p), some (.int (kk : Int)), some (.ref y), some (.ref D), some (.ref a), some (.ref b), some (.ref c), none, none, none, none, none]) (i := 3) m_times (by decide) (by decide) hy5 rfl (tm_var (i := 5) rfl ha) (tm_var (i := 6) rfl hb) la lb) H11 _ sA fun H12 p3 s12 e12 => ?_
      have sB := same_tr sA s12
      refine ⟨_, rfl, _, rfl, _, rfl, a, b, kk, ua, ub, rfl, sB _ _ ha, sB _ _ hb, by have := ela.len; omega, by have := elb.len; omega, fun H13 p4 s13 e13 => ?_⟩
      refine ⟨_, _, rfl, dd_nV (n := 1) (us := tmN kk ua ub) (s13 _ _ e12) e13 (lt _), fun H14 s14 => ⟨true, rfl, iteF ⟨rfl, same_tr sB (same_tr s13 s14)⟩⟩⟩
    rintro σ H6 ⟨rfl, s6⟩
    refine ⟨fun σ H' => σ = [some (.ref sa), some (.ref p), some (.int (kk : Int)), some (.ref y), some (.ref D), some (.ref a), some (.ref b), some (.ref c), none, none, none, none, none] ∧ Same H5 H', ?_, ?_⟩
    · exact (ts_ne (K := K) (tm_bin (σ := [some (.ref sa), some (.ref p), some (.int (kk : Int)), some (.ref y), some (.ref D), some (.ref a), some (.ref b), some (.ref c), none, none, none, none, none]) (i := 3) m_times (by decide) (by decide) hyH rfl (tm_var (i := 5) rfl ha) (tm_bin (σ := [some (.ref sa), some (.ref p), some (.int (kk : Int)), some (.ref y), some (.ref D), some (.ref a), some (.ref b), some (.ref c), none, none, none, none, none]) (i := 3) m_plus (by decide) (by decide) hyH rfl (tm_var (i := 6) rfl hb) (tm_var (i := 7) rfl hc) lb lc) la (lt _)) (tm_bin (σ := [some (.ref sa), some (.ref p), some (.int (kk : Int)), some (.ref y), some (.ref D), some (.ref a), some (.ref b), some (.ref c), none, none, none, none, none]) (i := 3) m_plus (by decide) (by decide) hyH rfl (tm_bin (σ := [some (.ref sa), some (.ref p), some (.int (kk : Int)), some (.ref y), some (.ref D), some (.ref a), some (.ref b), some (.ref c), none, none, none, none, none]) (i := 3) m_times (by decide) (by decide) hyH rfl (tm_var (i := 5) rfl ha) (tm_var (i := 6) rfl hb) la lb) (tm_bin (σ := [some (.ref sa), some (.ref p), some (.int (kk : Int)), some (.ref y), some (.ref D), some (.ref a), some (.ref b), some (.ref c), none, none, none, none, none]) (i := 3) m_times (by decide) (by decide) hyH rfl (tm_var (i := 5) rfl ha) (tm_var (i := 7) rfl hc) la lc) (lt _) (lt _)) (tm_pl kk ua ub uc)) H6 _ s6 fun H' s' => iteF ⟨rfl, same_tr s6 s'⟩
    rintro σ H7 ⟨rfl, s7⟩
    refine ⟨fun σ H' => σ = [some (.ref sa), some (.ref p), some (.int (kk : Int)), some (.ref y), some (.ref D), some (.ref a), some (.ref b), some (.ref c), none, none, none, none, none] ∧ Same H5 H', ?_, ?_⟩
    · exact (ts_or (ts_ne (K := K) (tm_bin (σ := [some (.ref sa), some (.ref p), some (.int (kk : Int)), some (.ref y), some (.ref D), some (.ref a), some (.ref b), some (.ref c), none, none, none, none, none]) (i := 3) m_times (by decide) (by decide) hyH rfl (tm_var (i := 5) rfl ha) (tm_bin (σ := [some (.ref sa), some (.ref p), some (.int (kk : Int)), some (.ref y), some (.ref D), some (.ref a), some (.ref b), some (.ref c), none, none, none, none, none]) (i := 3) m_times (by decide) (by decide) hyH rfl (tm_var (i := 6) rfl hb) (tm_var (i := 7) rfl hc) lb lc) la (lt _)) (tm_bin (σ := [some (.ref sa), some (.ref p), some (.int (kk : Int)), some (.ref y), some (.ref D), some (.ref a), some (.ref b), some (.ref c), none, none, none, none, none]) (i := 3) m_times (by decide) (by decide) hyH rfl (tm_bin (σ := [some (.ref sa), some (.ref p), some (.int (kk : Int)), some (.ref y), some (.ref D), some (.ref a), some (.ref b), some (.ref c), none, none, none, none, none]) (i := 3) m_times (by decide) (by decide) hyH rfl (tm_var (i := 5) rfl ha) (tm_var (i := 6) rfl hb) la lb) (tm_var (i := 7) rfl hc) (lt _) lc) (tm_tm kk ua ub uc)) (ts_ne (K := K) (tm_bin (σ := [some (.ref sa), some (.ref p), some (.int (kk : Int)), some (.ref y), some (.ref D), some (.ref a), some (.ref b), some (.ref c), none, none, none, none, none]) (i := 3) m_plus (by decide) (by decide) hyH rfl (tm_var (i := 5) rfl ha) (tm_bin (σ := [some (.ref sa), some (.ref p), some (.int (kk : Int)), some (.ref y), some (.ref D), some (.ref a), some (.ref b), some (.ref c), none, none, none, none, none]) (i := 3) m_plus (by decide) (by decide) hyH rfl (tm_var (i := 6) rfl hb) (tm_var (i := 7) rfl hc) lb lc) la (lt _)) (tm_bin (σ := [some (.ref sa), some (.ref p), some (.int (kk : Int)), some (.ref y), some (.ref D), some (.ref a), some (.ref b), some (.ref c), none, none, none, none, none]) (i := 3) m_plus (by decide) (by decide) hyH rfl (tm_bin (σ := [some (.ref sa), some (.ref p), some (.int (kk : Int)), some (.ref y), some (.ref D), some (.ref a), some (.ref b), some (.ref c), none, none, none, none, none]) (i := 3) m_plus (by decide) (by decide) hyH rfl (tm_var (i := 5) rfl ha) (tm_var (i := 6) rfl hb) la lb) (tm_var (i := 7) rfl hc) (lt _) lc) (pl_pl kk ua ub uc))) H7 _ s7 fun H' s' => iteF ⟨rfl, same_tr s7 s'⟩
    rintro σ H8 ⟨rfl, s8⟩
    refine ⟨fun σ H' => σ = [some (.ref sa), some (.ref p), some (.int (kk : Int)), some (.ref y), some (.ref D), some (.ref a), some (.ref b), some (.ref c), none, none, none, none, none] ∧ Same H5 H', ?_, ?_⟩
    · exact (ts_or (ts_ne (K := K) (tm_nul (σ := [some (.ref sa), some (.ref p), some (.int (kk : Int)), some (.ref y), some (.ref D), some (.ref a), some (.ref b), some (.ref c), none, none, none, none, none]) (i := 3) m_zero (by decide) (by decide) hyH rfl) tm_nil rfl) (ts_or (ts_ne (K := K) (tm_nul (σ := [some (.ref sa), some (.ref p), some (.int (kk : Int)), some (.ref y), some (.ref D), some (.ref a), some (.ref b), some (.ref c), none, none, none, none, none]) (i := 3) m_one (by decide) (by decide) hyH rfl) tm_one rfl) (ts_or (ts_ne (K := K) (tm_bin (σ := [some (.ref sa), some (.ref p), some (.int (kk : Int)), some (.ref y), some (.ref D), some (.ref a), some (.ref b), some (.ref c), none, none, none, none, none]) (i := 3) m_times (by decide) (by decide) hyH rfl (tm_var (i := 5) rfl ha) tm_one la (by decide)) (tm_var (i := 5) rfl ha) (KM.tm_one ela)) (ts_or (ts_ne (K := K) (tm_bin (σ := [some (.ref sa), some (.ref p), some (.int (kk : Int)), some (.ref y), some (.ref D), some (.ref a), some (.ref b), some (.ref c), none, none, none, none, none]) (i := 3) m_times (by decide) (by decide) hyH rfl (tm_var (i := 5) rfl ha) tm_nil la (by decide)) tm_nil (KM.tm_zero kk ua)) (ts_ne (K := K) (tm_bin (σ := [some (.ref sa), some (.ref p), some (.int (kk : Int)), some (.ref y), some (.ref D), some (.ref a), some (.ref b), some (.ref c), none, none, none, none, none]) (i := 3) m_plus (by decide) (by decide) hyH rfl (tm_var (i := 5) rfl ha) tm_nil la (by decide)) (tm_var (i := 5) rfl ha) (KM.pl_zero ela)))))) H8 _ s8 fun H' s' => iteF ⟨rfl, same_tr s8 s'⟩
    rintro σ H9 ⟨rfl, s9⟩
    refine ⟨fun σ H' => ∃ st : Addr, σ = [some (.ref sa), some (.ref p), some (.int (kk : Int)), some (.ref y), some (.ref D), some (.ref a), some (.ref b), some (.ref c), some (.ref st), none, none, none, none] ∧ Same H5 H' ∧ H' st = some (.tup (nV (starN kk ua))), ?_, ?_⟩
    · exact tm_star (σ := [some (.ref sa), some (.ref p), some (.int (kk : Int)), some (.ref y), some (.ref D), some (.ref a), some (.ref b), some (.ref c), none, none, none, none, none]) (i := 3) m_star (by decide) hyH rfl (tm_var (i := 5) rfl ha) la k1 k20 H9 _ s9 fun H10 st s10 e10 => go_name rfl ⟨st, rfl, same_tr s9 s10, e10⟩
    rintro σ H10 ⟨st, rfl, s10, hst⟩
    have hyH := s10 _ _ hy5
    have ha := s10 _ _ ha
    have hT10 : TabG H10 PP := let ⟨ps, e, ok⟩ := hT5; ⟨ps, s10 _ _ e, ok⟩
    have hb := s10 _ _ hb
    have hc := s10 _ _ hc
    have e10 := s10 _ _ e5
    have ls : (starN kk ua).length ≤ 1000 := by have := (star_el k1 ua).len; omega
    have s10 := Same.refl H10
    have ha0 := ha
    refine ⟨fun σ H' => σ = [some (.ref sa), some (.ref p), some (.int (kk : Int)), some (.ref y), some (.ref D), some (.ref a), some (.ref b), some (.ref c), some (.ref st), none, none, none, none] ∧ Same H10 H', ?_, ?_⟩
    · exact (ts_or (ts_ne (K := K) (σ := [some (.ref sa), some (.ref p), some (.int (kk : Int)), some (.ref y), some (.ref D), some (.ref a), some (.ref b), some (.ref c), some (.ref st), none, none, none, none]) (tm_var (i := 8) rfl hst) (tm_bin (σ := [some (.ref sa), some (.ref p), some (.int (kk : Int)), some (.ref y), some (.ref D), some (.ref a), some (.ref b), some (.ref c), some (.ref st), none, none, none, none]) (i := 3) m_plus (by decide) (by decide) hyH rfl (tm_nul (σ := [some (.ref sa), some (.ref p), some (.int (kk : Int)), some (.ref y), some (.ref D), some (.ref a), some (.ref b), some (.ref c), some (.ref st), none, none, none, none]) (i := 3) m_one (by decide) (by decide) hyH rfl) (tm_bin (σ := [some (.ref sa), some (.ref p), some (.int (kk : Int)), some (.ref y), some (.ref D), some (.ref a), some (.ref b), some (.ref c), some (.ref st), none, none, none, none]) (i := 3) m_times (by decide) (by decide) hyH rfl (tm_var (i := 5) rfl ha) (tm_var (i := 8) rfl hst) la ls) (by decide) (lt _)) (star_fix k1 ua).symm) (ts_and (ts_in (K := K) false (i := 5) rfl ha) fun h => (ts_ne (K := K) (σ := [some (.ref sa), some (.ref p), some (.int (kk : Int)), some (.ref y), some (.ref D), some (.ref a), some (.ref b), some (.ref c), some (.ref st), none, none, none, none]) (tm_var (i := 8) rfl hst) (tm_rep (K := K) (i := 2) rfl k1 k20) (if_pos (of_decide_eq_true h))))) H10 _ s10 fun H' s' => iteF ⟨rfl, s'⟩
    rintro σ H11 ⟨rfl, s11⟩
    refine go_seq ⟨(show 1 ≤ sizeLine by decide), fun d hd => go_name rfl ?_⟩
    have s12 := two_new (o := .tup [.int 0]) s11 hd
    refine ⟨fun σ H' => ∃ (d9 : Addr) (v : Option V), σ = [some (.ref sa), some (.ref p), some (.int (kk : Int)), some (.ref y), some (.ref D), some (.ref a), some (.ref b), some (.ref c), some (.ref st), some (.ref d9), v, none, none] ∧ Same H10 H' ∧ H' d9 = some (.tup (nV (iterN kk ua kk))), ?_, ?_⟩
    · refine ⟨_, rfl, _, rfl, by omega, by omega, ?_⟩
      rw [Int.toNat_natCast]
      refine for_range (lo := 0) (n := kk) (fun i σ H' => ∃ (d9 : Addr) (v : Option V), σ = [some (.ref sa), some (.ref p), some (.int (kk : Int)), some (.ref y), some (.ref D), some (.ref a), some (.ref b), some (.ref c), some (.ref st), some (.ref d9), v, none, none] ∧ Same H10 H' ∧ H' d9 = some (.tup (nV (iterN kk ua i)))) ⟨d, none, rfl, s12, upd_same⟩ ?_ ?_
      · rintro i σ H' hi ⟨d9, v, rfl, s', e'⟩
        refine go_name rfl ?_
        have hy' := s' _ _ hyH
        have li : (iterN kk ua i).length ≤ 1000 := by have := (iter_el k1 ua i).len; omega
        exact (tm_bin (σ := [some (.ref sa), some (.ref p), some (.int (kk : Int)), some (.ref y), some (.ref D), some (.ref a), some (.ref b), some (.ref c), some (.ref st), some (.ref d9), some (.int (0 + (i : Int))), none, none]) (i := 3) m_plus (by decide) (by decide) hy' rfl tm_one (tm_bin (σ := [some (.ref sa), some (.ref p), some (.int (kk : Int)), some (.ref y), some (.ref D), some (.ref a), some (.ref b), some (.ref c), some (.ref st), some (.ref d9), some (.int (0 + (i : Int))), none, none]) (i := 3) m_times (by decide) (by decide) hy' rfl (tm_var (i := 5) rfl (s' _ _ ha)) (tm_var (i := 9) rfl e') la li) (by decide) (lt _)) H' _ (Same.refl _) fun H'' p s e => go_name rfl ⟨p, _, rfl, same_tr s' s, e⟩
      · rintro σ H' ⟨d9, v, rfl, s', e'⟩
        exact ⟨d9, v, rfl, s', e'⟩
    rintro σ H12 ⟨d9, v, rfl, s12, hd9⟩
    have hst := s12 _ _ hst
    have ha := s12 _ _ ha
    refine ⟨fun σ H' => σ = [some (.ref sa), some (.ref p), some (.int (kk : Int)), some (.ref y), some (.ref D), some (.ref a), some (.ref b), some (.ref c), some (.ref st), some (.ref d9), v, none, none] ∧ Same H12 H', ?_, ?_⟩
    · exact (ts_and (ts_in (K := K) (σ := [some (.ref sa), some (.ref p), some (.int (kk : Int)), some (.ref y), some (.ref D), some (.ref a), some (.ref b), some (.ref c), some (.ref st), some (.ref d9), v, none, none]) true (i := 5) rfl ha) fun h => (ts_ne (K := K) (σ := [some (.ref sa), some (.ref p), some (.int (kk : Int)), some (.ref y), some (.ref D), some (.ref a), some (.ref b), some (.ref c), some (.ref st), some (.ref d9), v, none, none]) (tm_var (i := 8) rfl hst) (tm_var (i := 9) rfl hd9) (if_neg (by simpa using h)))) H12 _ (Same.refl _) fun H' s' => iteF ⟨rfl, s'⟩
    rintro σ H13 ⟨rfl, s13⟩
    have s13 := same_tr s12 s13
    -- things that are none
    have one_ : 1 ≤ sizeLine := by decide
    refine go_seq ⟨two, fun b1 h1 => ⟨_, rfl, one_, fun b2 h2 => ⟨one_, fun b3 h3 => ⟨one_, fun b4 h4 => ⟨one_, fun b5 h5 => ⟨one_, fun b6 h6 => ⟨_, rfl, _, _, rfl, rfl, b6, _, _, rfl, rfl, SqT.of upd_same, by simp, by omega, by omega, by simp, fun e => absurd e (by omega), fun _ b7 h7 => ⟨(show 8 ≤ sizeLine by decide), fun bd hbd => go_name rfl ?_⟩⟩⟩⟩⟩⟩⟩⟩
    have u1 := same_new (o := .tup [.int 1, .int 0]) (Same.refl _) h1
    have u2 := same_new (o := .tup [.int (-1)]) (Same.refl _) h2
    have u3 := same_new (o := .lst [.int 0]) (Same.refl _) h3
    have u4 := same_new (o := .tup [.bl true]) (Same.refl _) h4
    have u5 := same_new (o := .tup [.str "0"]) (Same.refl _) h5
    have u6 := same_new (o := .tup [.int 0]) (Same.refl _) h6
    have u7 := same_new (o := .tup (List.replicate ((kk : Int) + 1).toNat [V.int 0]).flatten) (Same.refl _) h7
    have u8 := same_new (o := .lst [.ref b1, .ref b2, .ref b3, .ref b4, .ref b5, .ref b7, .non, .int 0]) (Same.refl _) hbd
    have v6 := same_tr u7 u8
    have v5 := same_tr u6 v6
    have v4 := same_tr u5 v5
    have v3 := same_tr u4 v4
    have v2 := same_tr u3 v3
    have v1 := same_tr u2 v2
    have v0 := same_tr s13 (same_tr u1 v1)
    have q1 := v1 _ _ upd_same
    have q2 := v2 _ _ upd_same
    have q3 := v3 _ _ upd_same
    have q4 := v4 _ _ upd_same
    have q5 := v5 _ _ upd_same
    have q7 := u8 _ _ upd_same
    have q8 := upd_same (a := bd) (o := HO.lst [.ref b1, .ref b2, .ref b3, .ref b4, .ref b5, .ref b7, .non, .int 0]) (H := upd (upd (upd (upd (upd (upd (upd H13 b1 (.tup [.int 1, .int 0])) b2 (.tup [.int (-1)])) b3 (.lst [.int 0])) b4 (.tup [.bl true])) b5 (.tup [.str "0"])) b6 (.tup [.int 0])) b7 (.tup (List.replicate ((kk : Int) + 1).toNat [V.int 0]).flatten))
    have badx : ∀ (i : Nat) x, ([.ref b1, .ref b2, .ref b3, .ref b4, .ref b5, .ref b7, .non, .int 0] : List V)[i]? = some x → Elc kk _ x false := fun i x hx => by
      rcases i with _ | _ | _ | _ | _ | _ | _ | _ | i
      · cases hx
        by_cases c : kk = 1
        · exact .long q1 (by rw [c]; exact Nat.lt_succ_self 1)
        · have : decide (([1, 0] : List Nat) = sortN [1, 0]) = false := decide_eq_false fun z => by
            have h := sortN_rises [1, 0]
            rw [← z] at h
            exact absurd h (by decide)
          rw [← this]
          exact .num (us := [1, 0]) q1 (by show 2 ≤ kk; omega)
      · cases hx; exact .bad q2 k1 (.int _) rfl
      · cases hx; exact .lst q3
      · cases hx; exact .bad q4 k1 (.bl _) rfl
      · cases hx; exact .bad q5 k1 (.str _) rfl
      · cases hx
        refine .long q7 ?_
        rw [show (List.replicate ((kk : Int) + 1).toNat ([.int 0] : List V)).flatten = nV (List.replicate (kk + 1) 0) from rep_nV (kk + 1), nV_len, List.length_replicate]
        exact Nat.lt_succ_self kk
      · cases hx; exact .non
      · cases hx; exact .int 0
      · simp at hx
    have hy14 := v0 _ _ hyH
    have e14 := v0 _ _ e10
    have hT14 : TabG _ PP := let ⟨ps, e, ok⟩ := hT10; ⟨ps, v0 _ _ e, ok⟩
    have told14 : ∀ (i : Nat) x, ([.ref a, .ref b, .ref c] : List V)[i]? = some x → Elc kk _ x true := fun i x hx => by
      have one' : ∀ {us : List Nat} {q : Addr}, ElN kk us → _ → Elc kk _ (.ref q) true := fun {us q} el (e : H10 q = some (.tup (nV us))) => by
        have h := Elc.num (k := kk) (v0 _ _ e) el.len
        rwa [sortN_self el.up, decide_eq_true rfl] at h
      rcases i with _ | _ | _ | i
      · cases hx; exact one' ela ha0
      · cases hx; exact one' elb hb
      · cases hx; exact one' elc hc
      · simp at hx
    rw [show (fun i : Int => V.int (-i)) 1 = V.int (-1) from rfl]
    generalize upd (upd (upd (upd (upd (upd (upd (upd H13 b1 (.tup [.int 1, .int 0])) b2 (.tup [.int (-1)])) b3 (.lst [.int 0])) b4 (.tup [.bl true])) b5 (.tup [.str "0"])) b6 (.tup [.int 0])) b7 (.tup (List.replicate ((kk : Int) + 1).toNat [V.int 0]).flatten)) bd (.lst [.ref b1, .ref b2, .ref b3, .ref b4, .ref b5, .ref b7, .non, .int 0]) = H14 at q8 badx hy14 e14 hT14 told14 ⊢
    refine ⟨fun σ H' => True, ?_, fun σ H' _ => ?_⟩
    · -- the told ones
      refine ⟨_, rfl, D, rfl, ⟨_, SqL.of e14⟩, fun D1 hD1 => ?_⟩
      refine lc_list (xs := [.ref a, .ref b, .ref c]) (fun i H' => FrT H14 H' ∧ H' D1 = some (.lst ((List.replicate i true).map V.bl))) ⟨frt_put (FrT.refl _) hD1, upd_same⟩ (fun i H' _ ⟨f', _⟩ => SqL.of (f'.lst e14)) (fun i x H' hx ⟨f', e'⟩ => ?_) (fun H' ⟨f', e'⟩ => ?_)
      · have hi : i < 3 := (List.getElem?_eq_some_iff.mp hx).1
        refine ⟨rfl, yes_then (iteT ⟨_, rfl, y, _, dy, _, 4, _, rfl, f'.ins hy14, fK_no _ (by decide), by decide, m_elem, _, rfl, y, dy, x, true, kk, rfl, f'.ins hy14, (told14 i x hx).fr f', f'.tabs _ hT14, k20, fun H2 f2 => ⟨true, true, rfl, rfl, ?_⟩⟩)⟩
        rw [decide_eq_true rfl]
        have e2 := f2.lst e'
        refine ⟨_, e2, ?_, frt_put (f'.trans f2) hD1, by rw [upd_same, rep_snoc]⟩
        rw [List.length_map, List.length_replicate]
        exact Nat.lt_of_lt_of_le hi (by decide)
      · refine ⟨D1, List.replicate 3 true, rfl, SqL.of e', true, rfl, iteF ?_⟩
        have q8' := f'.lst q8
        refine ⟨_, rfl, bd, rfl, ⟨_, SqL.of q8'⟩, fun D2 hD2 => ?_⟩
        refine lc_list (xs := [.ref b1, .ref b2, .ref b3, .ref b4, .ref b5, .ref b7, .non, .int 0]) (fun i H2 => FrT H' H2 ∧ H2 D2 = some (.lst ((List.replicate i false).map V.bl))) ⟨frt_put (FrT.refl _) hD2, upd_same⟩ (fun i H2 _ ⟨f2, _⟩ => SqL.of (f2.lst q8')) (fun i x H2 hx ⟨f2, e2⟩ => ?_) (fun H2 ⟨f2, e2⟩ => ?_)
        · have hi : i < 8 := (List.getElem?_eq_some_iff.mp hx).1
          have f02 := f'.trans f2
          refine ⟨rfl, yes_then (iteT ⟨_, rfl, y, _, dy, _, 4, _, rfl, f02.ins hy14, fK_no _ (by decide), by decide, m_elem, _, rfl, y, dy, x, false, kk, rfl, f02.ins hy14, (badx i x hx).fr f02, f02.tabs _ hT14, k20, fun H3 f3 => ?_⟩)⟩
          refine ⟨_, f3.lst e2, ?_, frt_put (f2.trans f3) hD2, by rw [upd_same, rep_snoc]⟩
          rw [List.length_map, List.length_replicate]
          exact Nat.lt_of_lt_of_le hi (by decide)
        · exact ⟨D2, List.replicate 8 false, rfl, SqL.of e2, false, rfl, iteF trivial⟩
    · exact ⟨0, rfl, by omega, fun H2 _ => ⟨true, rfl, iteT ⟨21, rfl, by omega, fun H3 _ => k _⟩⟩⟩
end
end K33

set_option Elab.async false
set_option linter.all false
set_option maxRecDepth 100000
set_option maxHeartbeats 8000000
namespace K33
open PySem PySem.Spec PyProof.Rows L2 Ew Tb GxR

theorem all_mk {l : PySem.W.OpenLaw} {w : World} {K : PySem.W.Frag} {h : Heap} {mg : Str → Option Value} {fa : Addr} (PP_Tops_is_element : Addr) (X : K.In h) (G : h.Ns mainGlobals mg) (hfa : mg "law" = some (.ref fa)) (TA_Tops_is_element : h.get? PP_Tops_is_element = some { cls := .none, data := .fields #[] })
    {C_Tops : Addr}
    {C_InvalidArgument : Addr}
    {C_WorthError : Addr}
    {f_is_integer : Addr} {od_is_integer an_is_integer : Option Addr} {sl_is_integer : Array (Option Value)} {oc_is_integer kV_is_integer dc_is_integer pm_is_integer cd_is_integer ct_is_integer : Value}
    {f_is_natural : Addr} {od_is_natural an_is_natural : Option Addr} {sl_is_natural : Array (Option Value)} {oc_is_natural kV_is_natural dc_is_natural pm_is_natural cd_is_natural ct_is_natural : Value}
    {f_Tops_init : Addr} {od_Tops_init an_Tops_init : Option Addr} {sl_Tops_init : Array (Option Value)} {oc_Tops_init kV_Tops_init dc_Tops_init pm_Tops_init cd_Tops_init ct_Tops_init : Value}
    {f_Tops_zero : Addr} {od_Tops_zero an_Tops_zero : Option Addr} {sl_Tops_zero : Array (Option Value)} {oc_Tops_zero kV_Tops_zero dc_Tops_zero pm_Tops_zero cd_Tops_zero ct_Tops_zero : Value}
    {f_Tops_one : Addr} {od_Tops_one an_Tops_one : Option Addr} {sl_Tops_one : Array (Option Value)} {oc_Tops_one kV_Tops_one dc_Tops_one pm_Tops_one cd_Tops_one ct_Tops_one : Value}
    {f_Tops_plus : Addr} {od_Tops_plus an_Tops_plus : Option Addr} {sl_Tops_plus : Array (Option Value)} {oc_Tops_plus kV_Tops_plus dc_Tops_plus pm_Tops_plus cd_Tops_plus ct_Tops_plus : Value}
    {f_Tops_times : Addr} {od_Tops_times an_Tops_times : Option Addr} {sl_Tops_times : Array (Option Value)} {oc_Tops_times kV_Tops_times dc_Tops_times pm_Tops_times cd_Tops_times ct_Tops_times : Value}
    {f_Tops_star : Addr} {od_Tops_star an_Tops_star : Option Addr} {sl_Tops_star : Array (Option Value)} {oc_Tops_star kV_Tops_star dc_Tops_star pm_Tops_star cd_Tops_star ct_Tops_star : Value}
    {f_Tops_is_element cc_Tops_is_element : Addr} {od_Tops_is_element an_Tops_is_element : Option Addr} {sl_Tops_is_element : Array (Option Value)} {oc_Tops_is_element kV_Tops_is_element dc_Tops_is_element pm_Tops_is_element ct_Tops_is_element : Value}
    {f_Tops_least : Addr} {od_Tops_least an_Tops_least : Option Addr} {sl_Tops_least : Array (Option Value)} {oc_Tops_least kV_Tops_least dc_Tops_least pm_Tops_least cd_Tops_least ct_Tops_least : Value}
    {f_law_pot : Addr} {od_law_pot an_law_pot : Option Addr} {sl_law_pot : Array (Option Value)} {oc_law_pot kV_law_pot dc_law_pot pm_law_pot cd_law_pot ct_law_pot : Value}
    {f_law_next : Addr} {od_law_next an_law_next : Option Addr} {sl_law_next : Array (Option Value)} {oc_law_next kV_law_next dc_law_next pm_law_next cd_law_next ct_law_next : Value}
    {f_law_is_int : Addr} {od_law_is_int an_law_is_int : Option Addr} {sl_law_is_int : Array (Option Value)} {oc_law_is_int kV_law_is_int dc_law_is_int pm_law_is_int cd_law_is_int ct_law_is_int : Value}
    {f_law_same : Addr} {od_law_same an_law_same : Option Addr} {sl_law_same : Array (Option Value)} {oc_law_same kV_law_same dc_law_same pm_law_same cd_law_same ct_law_same : Value}
    {f_law_refused : Addr} {od_law_refused an_law_refused : Option Addr} {sl_law_refused : Array (Option Value)} {oc_law_refused kV_law_refused dc_law_refused pm_law_refused cd_law_refused ct_law_refused : Value}
    {f_law_element : Addr} {od_law_element an_law_element : Option Addr} {sl_law_element : Array (Option Value)} {oc_law_element kV_law_element dc_law_element pm_law_element cd_law_element ct_law_element : Value}
    {f_law_sums : Addr} {od_law_sums an_law_sums : Option Addr} {sl_law_sums : Array (Option Value)} {oc_law_sums kV_law_sums dc_law_sums pm_law_sums cd_law_sums ct_law_sums : Value}
    {f_law : Addr} {od_law an_law : Option Addr} {sl_law : Array (Option Value)} {oc_law kV_law dc_law pm_law cd_law ct_law : Value}
    {tk_MOST_KEPT : Tok}
    (aC_WorthError : PySem.W.nsIn K mainGlobals "WorthError" = some (some (.ref C_WorthError)))
    (aC_InvalidArgument : PySem.W.nsIn K mainGlobals "InvalidArgument" = some (some (.ref C_InvalidArgument)))
    (aC_Tops : PySem.W.nsIn K mainGlobals "Tops" = some (some (.ref C_Tops)))
    (a_is_integer : PySem.W.nsIn K mainGlobals "is_integer" = some (some (.ref f_is_integer)))
    (l_is_integer : K.lookup f_is_integer = some ⟨oc_is_integer, od_is_integer, .func (PySem.W.fnOf "is_integer" "is_integer" (defArgs s_is_integer) (defBody s_is_integer) (defScope s_is_integer) .none kV_is_integer dc_is_integer pm_is_integer an_is_integer cd_is_integer ct_is_integer), sl_is_integer⟩)
    (c_is_integer : PySem.W.codeIn K cd_is_integer "is_integer" = true)
    (k_is_integer : PySem.W.keepIn K (.ref f_is_integer) = true)
    (a_is_natural : PySem.W.nsIn K mainGlobals "is_natural" = some (some (.ref f_is_natural)))
    (l_is_natural : K.lookup f_is_natural = some ⟨oc_is_natural, od_is_natural, .func (PySem.W.fnOf "is_natural" "is_natural" (defArgs s_is_natural) (defBody s_is_natural) (defScope s_is_natural) .none kV_is_natural dc_is_natural pm_is_natural an_is_natural cd_is_natural ct_is_natural), sl_is_natural⟩)
    (c_is_natural : PySem.W.codeIn K cd_is_natural "is_natural" = true)
    (k_is_natural : PySem.W.keepIn K (.ref f_is_natural) = true)
    (a_Tops_init : PySem.W.findIn K (.ref C_Tops) "__init__" = some (some (.ref f_Tops_init)))
    (i_Tops_init : PySem.W.isFn K (.ref f_Tops_init) = true)
    (l_Tops_init : K.lookup f_Tops_init = some ⟨oc_Tops_init, od_Tops_init, .func (PySem.W.fnOf "__init__" "Tops.__init__" (defArgs s_Tops_init) (defBody s_Tops_init) (defScope s_Tops_init) .none kV_Tops_init dc_Tops_init pm_Tops_init an_Tops_init cd_Tops_init ct_Tops_init), sl_Tops_init⟩)
    (c_Tops_init : PySem.W.codeIn K cd_Tops_init "Tops.__init__" = true)
    (k_Tops_init : PySem.W.keepIn K (.ref f_Tops_init) = true)
    (a_Tops_zero : PySem.W.findIn K (.ref C_Tops) "zero" = some (some (.ref f_Tops_zero)))
    (i_Tops_zero : PySem.W.isFn K (.ref f_Tops_zero) = true)
    (l_Tops_zero : K.lookup f_Tops_zero = some ⟨oc_Tops_zero, od_Tops_zero, .func (PySem.W.fnOf "zero" "Tops.zero" (defArgs s_Tops_zero) (defBody s_Tops_zero) (defScope s_Tops_zero) .none kV_Tops_zero dc_Tops_zero pm_Tops_zero an_Tops_zero cd_Tops_zero ct_Tops_zero), sl_Tops_zero⟩)
    (c_Tops_zero : PySem.W.codeIn K cd_Tops_zero "Tops.zero" = true)
    (k_Tops_zero : PySem.W.keepIn K (.ref f_Tops_zero) = true)
    (a_Tops_one : PySem.W.findIn K (.ref C_Tops) "one" = some (some (.ref f_Tops_one)))
    (i_Tops_one : PySem.W.isFn K (.ref f_Tops_one) = true)
    (l_Tops_one : K.lookup f_Tops_one = some ⟨oc_Tops_one, od_Tops_one, .func (PySem.W.fnOf "one" "Tops.one" (defArgs s_Tops_one) (defBody s_Tops_one) (defScope s_Tops_one) .none kV_Tops_one dc_Tops_one pm_Tops_one an_Tops_one cd_Tops_one ct_Tops_one), sl_Tops_one⟩)
    (c_Tops_one : PySem.W.codeIn K cd_Tops_one "Tops.one" = true)
    (k_Tops_one : PySem.W.keepIn K (.ref f_Tops_one) = true)
    (a_Tops_plus : PySem.W.findIn K (.ref C_Tops) "plus" = some (some (.ref f_Tops_plus)))
    (i_Tops_plus : PySem.W.isFn K (.ref f_Tops_plus) = true)
    (l_Tops_plus : K.lookup f_Tops_plus = some ⟨oc_Tops_plus, od_Tops_plus, .func (PySem.W.fnOf "plus" "Tops.plus" (defArgs s_Tops_plus) (defBody s_Tops_plus) (defScope s_Tops_plus) .none kV_Tops_plus dc_Tops_plus pm_Tops_plus an_Tops_plus cd_Tops_plus ct_Tops_plus), sl_Tops_plus⟩)
    (c_Tops_plus : PySem.W.codeIn K cd_Tops_plus "Tops.plus" = true)
    (k_Tops_plus : PySem.W.keepIn K (.ref f_Tops_plus) = true)
    (a_Tops_times : PySem.W.findIn K (.ref C_Tops) "times" = some (some (.ref f_Tops_times)))
    (i_Tops_times : PySem.W.isFn K (.ref f_Tops_times) = true)
    (l_Tops_times : K.lookup f_Tops_times = some ⟨oc_Tops_times, od_Tops_times, .func (PySem.W.fnOf "times" "Tops.times" (defArgs s_Tops_times) (defBody s_Tops_times) (defScope s_Tops_times) .none kV_Tops_times dc_Tops_times pm_Tops_times an_Tops_times cd_Tops_times ct_Tops_times), sl_Tops_times⟩)
    (c_Tops_times : PySem.W.codeIn K cd_Tops_times "Tops.times" = true)
    (k_Tops_times : PySem.W.keepIn K (.ref f_Tops_times) = true)
    (a_Tops_star : PySem.W.findIn K (.ref C_Tops) "star" = some (some (.ref f_Tops_star)))
    (i_Tops_star : PySem.W.isFn K (.ref f_Tops_star) = true)
    (l_Tops_star : K.lookup f_Tops_star = some ⟨oc_Tops_star, od_Tops_star, .func (PySem.W.fnOf "star" "Tops.star" (defArgs s_Tops_star) (defBody s_Tops_star) (defScope s_Tops_star) .none kV_Tops_star dc_Tops_star pm_Tops_star an_Tops_star cd_Tops_star ct_Tops_star), sl_Tops_star⟩)
    (c_Tops_star : PySem.W.codeIn K cd_Tops_star "Tops.star" = true)
    (k_Tops_star : PySem.W.keepIn K (.ref f_Tops_star) = true)
    (a_Tops_is_element : PySem.W.findIn K (.ref C_Tops) "is_element" = some (some (.ref f_Tops_is_element)))
    (i_Tops_is_element : PySem.W.isFn K (.ref f_Tops_is_element) = true)
    (l_Tops_is_element : K.lookup f_Tops_is_element = some ⟨oc_Tops_is_element, od_Tops_is_element, .func (PySem.W.fnOf "is_element" "Tops.is_element" (defArgs s_Tops_is_element) (defBody s_Tops_is_element) (defScope s_Tops_is_element) .none kV_Tops_is_element dc_Tops_is_element pm_Tops_is_element an_Tops_is_element (.ref cc_Tops_is_element) ct_Tops_is_element), sl_Tops_is_element⟩)
    (c_Tops_is_element : PySem.W.codeIn K (.ref cc_Tops_is_element) "Tops.is_element" = true)
    (k_Tops_is_element : PySem.W.keepIn K (.ref f_Tops_is_element) = true)
    (a_Tops_least : PySem.W.findIn K (.ref C_Tops) "_least" = some (some (.ref f_Tops_least)))
    (i_Tops_least : PySem.W.isFn K (.ref f_Tops_least) = true)
    (l_Tops_least : K.lookup f_Tops_least = some ⟨oc_Tops_least, od_Tops_least, .func (PySem.W.fnOf "_least" "Tops._least" (defArgs s_Tops_least) (defBody s_Tops_least) (defScope s_Tops_least) .none kV_Tops_least dc_Tops_least pm_Tops_least an_Tops_least cd_Tops_least ct_Tops_least), sl_Tops_least⟩)
    (c_Tops_least : PySem.W.codeIn K cd_Tops_least "Tops._least" = true)
    (k_Tops_least : PySem.W.keepIn K (.ref f_Tops_least) = true)
    (a_law_pot : PySem.W.nsIn K mainGlobals "_law_pot" = some (some (.ref f_law_pot)))
    (l_law_pot : K.lookup f_law_pot = some ⟨oc_law_pot, od_law_pot, .func (PySem.W.fnOf "_law_pot" "_law_pot" (defArgs s_law_pot) (defBody s_law_pot) (defScope s_law_pot) .none kV_law_pot dc_law_pot pm_law_pot an_law_pot cd_law_pot ct_law_pot), sl_law_pot⟩)
    (c_law_pot : PySem.W.codeIn K cd_law_pot "_law_pot" = true)
    (k_law_pot : PySem.W.keepIn K (.ref f_law_pot) = true)
    (a_law_next : PySem.W.nsIn K mainGlobals "_law_next" = some (some (.ref f_law_next)))
    (l_law_next : K.lookup f_law_next = some ⟨oc_law_next, od_law_next, .func (PySem.W.fnOf "_law_next" "_law_next" (defArgs s_law_next) (defBody s_law_next) (defScope s_law_next) .none kV_law_next dc_law_next pm_law_next an_law_next cd_law_next ct_law_next), sl_law_next⟩)
    (c_law_next : PySem.W.codeIn K cd_law_next "_law_next" = true)
    (k_law_next : PySem.W.keepIn K (.ref f_law_next) = true)
    (a_law_is_int : PySem.W.nsIn K mainGlobals "_law_is_int" = some (some (.ref f_law_is_int)))
    (l_law_is_int : K.lookup f_law_is_int = some ⟨oc_law_is_int, od_law_is_int, .func (PySem.W.fnOf "_law_is_int" "_law_is_int" (defArgs s_law_is_int) (defBody s_law_is_int) (defScope s_law_is_int) .none kV_law_is_int dc_law_is_int pm_law_is_int an_law_is_int cd_law_is_int ct_law_is_int), sl_law_is_int⟩)
    (c_law_is_int : PySem.W.codeIn K cd_law_is_int "_law_is_int" = true)
    (k_law_is_int : PySem.W.keepIn K (.ref f_law_is_int) = true)
    (a_law_same : PySem.W.nsIn K mainGlobals "_law_same" = some (some (.ref f_law_same)))
    (l_law_same : K.lookup f_law_same = some ⟨oc_law_same, od_law_same, .func (PySem.W.fnOf "_law_same" "_law_same" (defArgs s_law_same) (defBody s_law_same) (defScope s_law_same) .none kV_law_same dc_law_same pm_law_same an_law_same cd_law_same ct_law_same), sl_law_same⟩)
    (c_law_same : PySem.W.codeIn K cd_law_same "_law_same" = true)
    (k_law_same : PySem.W.keepIn K (.ref f_law_same) = true)
    (a_law_refused : PySem.W.nsIn K mainGlobals "_law_refused" = some (some (.ref f_law_refused)))
    (l_law_refused : K.lookup f_law_refused = some ⟨oc_law_refused, od_law_refused, .func (PySem.W.fnOf "_law_refused" "_law_refused" (defArgs s_law_refused) (defBody s_law_refused) (defScope s_law_refused) .none kV_law_refused dc_law_refused pm_law_refused an_law_refused cd_law_refused ct_law_refused), sl_law_refused⟩)
    (c_law_refused : PySem.W.codeIn K cd_law_refused "_law_refused" = true)
    (k_law_refused : PySem.W.keepIn K (.ref f_law_refused) = true)
    (a_law_element : PySem.W.nsIn K mainGlobals "_law_element" = some (some (.ref f_law_element)))
    (l_law_element : K.lookup f_law_element = some ⟨oc_law_element, od_law_element, .func (PySem.W.fnOf "_law_element" "_law_element" (defArgs s_law_element) (defBody s_law_element) (defScope s_law_element) .none kV_law_element dc_law_element pm_law_element an_law_element cd_law_element ct_law_element), sl_law_element⟩)
    (c_law_element : PySem.W.codeIn K cd_law_element "_law_element" = true)
    (k_law_element : PySem.W.keepIn K (.ref f_law_element) = true)
    (a_law_sums : PySem.W.nsIn K mainGlobals "_law_sums" = some (some (.ref f_law_sums)))
    (l_law_sums : K.lookup f_law_sums = some ⟨oc_law_sums, od_law_sums, .func (PySem.W.fnOf "_law_sums" "_law_sums" (defArgs s_law_sums) (defBody s_law_sums) (defScope s_law_sums) .none kV_law_sums dc_law_sums pm_law_sums an_law_sums cd_law_sums ct_law_sums), sl_law_sums⟩)
    (c_law_sums : PySem.W.codeIn K cd_law_sums "_law_sums" = true)
    (k_law_sums : PySem.W.keepIn K (.ref f_law_sums) = true)
    (a_law : PySem.W.nsIn K mainGlobals "law" = some (some (.ref f_law)))
    (l_law : K.lookup f_law = some ⟨oc_law, od_law, .func (PySem.W.fnOf "law" "law" (defArgs s_law) (defBody s_law) (defScope s_law) .none kV_law dc_law pm_law an_law cd_law ct_law), sl_law⟩)
    (c_law : PySem.W.codeIn K cd_law "law" = true)
    (k_law : PySem.W.keepIn K (.ref f_law) = true)
    (x_WorthError : PySem.W.excIn K C_WorthError [.type "ValueError", .type "Exception", .type "BaseException", .type "object"] "ValueError.__new__" = true)
    (kp_WorthError : PySem.W.keepIn K (.ref C_WorthError) = true)
    (b_WorthError : PySem.W.subIn K (.ref C_WorthError) (.type "BaseException") = some true)
    (t_WorthError : PySem.W.typeIn K (.ref C_WorthError) = some (.type "type"))
    (hd_WorthError : PySem.W.hasDictIn K C_WorthError = true)
    (ga_WorthError : PySem.W.findIn K (.ref C_WorthError) "__getattribute__" = some (some (.builtin "BaseException.__getattribute__")))
    (gg_WorthError : PySem.W.findIn K (.ref C_WorthError) "__getattr__" = some none)
    (cc_WorthError : PySem.W.findIn K (.ref C_WorthError) "__class__" = some (some (.builtin "object.__class__")))
    (mo_WorthError : PySem.W.mroIn K C_WorthError (.type "object") = some true)
    (x_InvalidArgument : PySem.W.excIn K C_InvalidArgument [.type "ValueError", .type "Exception", .type "BaseException", .type "object"] "ValueError.__new__" = true)
    (kp_InvalidArgument : PySem.W.keepIn K (.ref C_InvalidArgument) = true)
    (b_InvalidArgument : PySem.W.subIn K (.ref C_InvalidArgument) (.type "BaseException") = some true)
    (t_InvalidArgument : PySem.W.typeIn K (.ref C_InvalidArgument) = some (.type "type"))
    (hd_InvalidArgument : PySem.W.hasDictIn K C_InvalidArgument = true)
    (ga_InvalidArgument : PySem.W.findIn K (.ref C_InvalidArgument) "__getattribute__" = some (some (.builtin "BaseException.__getattribute__")))
    (gg_InvalidArgument : PySem.W.findIn K (.ref C_InvalidArgument) "__getattr__" = some none)
    (cc_InvalidArgument : PySem.W.findIn K (.ref C_InvalidArgument) "__class__" = some (some (.builtin "object.__class__")))
    (mo_InvalidArgument : PySem.W.mroIn K C_InvalidArgument (.type "object") = some true)
    (s_InvalidArgument_WorthError : PySem.W.subIn K (.ref C_InvalidArgument) (.ref C_WorthError) = some true)
    (pg_Tops : PySem.W.plainGet K C_Tops Str.empty = true)
    (hd_Tops : PySem.W.hasDictIn K C_Tops = true)
    (po_Tops : PySem.W.plainOver K C_Tops = true)
    (sa_Tops : PySem.W.findIn K (.ref C_Tops) "__setattr__" = some (some (.builtin "object.__setattr__")))
    (mk_Tops : PySem.W.makesIn K C_Tops = true)
    (kc_Tops : PySem.W.keepIn K (.ref C_Tops) = true)
    (spc : PySem.W.specialIn K (.builtin "object.__class__") "__get__" = some (some (.builtin "getset_descriptor.__get__")))
    (tki : PySem.W.takesIn K (.builtin "object.__class__") = some true)
    (n_Tops__k : PySem.W.findIn K (.ref C_Tops) "_k" = some none)
    (g_MOST_KEPT : PySem.W.nsIn K mainGlobals "MOST_KEPT" = some (some (.int 20 tk_MOST_KEPT)))
    (z_isinstance : PySem.W.nsIn K mainGlobals "isinstance" = some none)
    (z_int : PySem.W.nsIn K mainGlobals "int" = some none)
    (z_bool : PySem.W.nsIn K mainGlobals "bool" = some none)
    (z_str : PySem.W.nsIn K mainGlobals "str" = some none)
    (z_list : PySem.W.nsIn K mainGlobals "list" = some none)
    (z_tuple : PySem.W.nsIn K mainGlobals "tuple" = some none)
    (z_abs : PySem.W.nsIn K mainGlobals "abs" = some none)
    (z_len : PySem.W.nsIn K mainGlobals "len" = some none)
    (z_range : PySem.W.nsIn K mainGlobals "range" = some none)
    (z_all : PySem.W.nsIn K mainGlobals "all" = some none)
    (z_any : PySem.W.nsIn K mainGlobals "any" = some none)
    (z_sorted : PySem.W.nsIn K mainGlobals "sorted" = some none)
    (nt_Tops_is_element : K.lookup PP_Tops_is_element = none)
    (ch_Tops_is_element : PySem.W.codeHdIn K cc_Tops_is_element PP_Tops_is_element = true)
    : LamX.LawAtS l w K (L2.CX l.prog w) 21 63 "script" mg fa h := by
  have e := hfa.symm.trans (PySem.W.mg_of X G a_law)
  cases e
  have F_is_integer := fun_mk (st := s_is_integer) l_is_integer c_is_integer k_is_integer
  have b_is_integer := F_is_integer.binds (ps := ["thing"]) fun _ _ _ _ _ _ us hl => match us, hl with | [_], _ => rfl
  have F_is_natural := fun_mk (st := s_is_natural) l_is_natural c_is_natural k_is_natural
  have b_is_natural := F_is_natural.binds (ps := ["thing"]) fun _ _ _ _ _ _ us hl => match us, hl with | [_], _ => rfl
  have F_Tops_init := fun_mk (st := s_Tops_init) l_Tops_init c_Tops_init k_Tops_init
  have b_Tops_init := F_Tops_init.binds (ps := ["self", "k"]) fun _ _ _ _ _ _ us hl => match us, hl with | [_, _], _ => rfl
  have F_Tops_zero := fun_mk (st := s_Tops_zero) l_Tops_zero c_Tops_zero k_Tops_zero
  have b_Tops_zero := F_Tops_zero.binds (ps := ["self"]) fun _ _ _ _ _ _ us hl => match us, hl with | [_], _ => rfl
  have F_Tops_one := fun_mk (st := s_Tops_one) l_Tops_one c_Tops_one k_Tops_one
  have b_Tops_one := F_Tops_one.binds (ps := ["self"]) fun _ _ _ _ _ _ us hl => match us, hl with | [_], _ => rfl
  have F_Tops_plus := fun_mk (st := s_Tops_plus) l_Tops_plus c_Tops_plus k_Tops_plus
  have b_Tops_plus := F_Tops_plus.binds (ps := ["self", "a", "b"]) fun _ _ _ _ _ _ us hl => match us, hl with | [_, _, _], _ => rfl
  have F_Tops_times := fun_mk (st := s_Tops_times) l_Tops_times c_Tops_times k_Tops_times
  have b_Tops_times := F_Tops_times.binds (ps := ["self", "a", "b"]) fun _ _ _ _ _ _ us hl => match us, hl with | [_, _, _], _ => rfl
  have F_Tops_star := fun_mk (st := s_Tops_star) l_Tops_star c_Tops_star k_Tops_star
  have b_Tops_star := F_Tops_star.binds (ps := ["self", "a"]) fun _ _ _ _ _ _ us hl => match us, hl with | [_, _], _ => rfl
  have FC_Tops_is_element := Tb.func_mk (st := s_Tops_is_element) l_Tops_is_element c_Tops_is_element k_Tops_is_element
  have F_Tops_is_element := FC_Tops_is_element.fun_
  have b_Tops_is_element := F_Tops_is_element.binds (ps := ["self", "a"]) fun _ _ _ _ _ _ us hl => match us, hl with | [_, _], _ => rfl
  have F_Tops_least := fun_mk (st := s_Tops_least) l_Tops_least c_Tops_least k_Tops_least
  have b_Tops_least := F_Tops_least.binds (ps := ["self", "costs"]) fun _ _ _ _ _ _ us hl => match us, hl with | [_, _], _ => rfl
  have F_law_pot := fun_mk (st := s_law_pot) l_law_pot c_law_pot k_law_pot
  have b_law_pot := F_law_pot.binds (ps := ["script"]) fun _ _ _ _ _ _ us hl => match us, hl with | [_], _ => rfl
  have F_law_next := fun_mk (st := s_law_next) l_law_next c_law_next k_law_next
  have b_law_next := F_law_next.binds (ps := ["pot", "limit"]) fun _ _ _ _ _ _ us hl => match us, hl with | [_, _], _ => rfl
  have F_law_is_int := fun_mk (st := s_law_is_int) l_law_is_int c_law_is_int k_law_is_int
  have b_law_is_int := F_law_is_int.binds (ps := ["value"]) fun _ _ _ _ _ _ us hl => match us, hl with | [_], _ => rfl
  have F_law_same := fun_mk (st := s_law_same) l_law_same c_law_same k_law_same
  have b_law_same := F_law_same.binds (ps := ["found", "value"]) fun _ _ _ _ _ _ us hl => match us, hl with | [_, _], _ => rfl
  have F_law_refused := fun_mk (st := s_law_refused) l_law_refused c_law_refused k_law_refused
  have b_law_refused := F_law_refused.binds (ps := ["k"]) fun _ _ _ _ _ _ us hl => match us, hl with | [_], _ => rfl
  have F_law_element := fun_mk (st := s_law_element) l_law_element c_law_element k_law_element
  have b_law_element := F_law_element.binds (ps := ["pot", "many"]) fun _ _ _ _ _ _ us hl => match us, hl with | [_, _], _ => rfl
  have F_law_sums := fun_mk (st := s_law_sums) l_law_sums c_law_sums k_law_sums
  have b_law_sums := F_law_sums.binds (ps := ["a", "b", "many"]) fun _ _ _ _ _ _ us hl => match us, hl with | [_, _, _], _ => rfl
  have F_law := fun_mk (st := s_law) l_law c_law k_law
  have b_law := F_law.binds (ps := ["script"]) fun _ _ _ _ _ _ us hl => match us, hl with | [_], _ => rfl
  have cl_Tops : Cls K C_Tops := ⟨pg_Tops, hd_Tops, po_Tops, sa_Tops⟩
  let ad : Ad := ⟨C_WorthError, C_InvalidArgument, C_Tops⟩
  have kself : ∀ C : Addr, PySem.W.kitOne K (.ref C) (.ref C) = some true := fun C => by
    show (if (Value.ref C == Value.ref C) = true then some true else _) = some true
    rw [if_pos (by simp)]
  have T : Txt K mg ad :=
    { z_isinstance := PySem.W.mg_none_of X G z_isinstance, z_int := PySem.W.mg_none_of X G z_int, z_bool := PySem.W.mg_none_of X G z_bool, z_str := PySem.W.mg_none_of X G z_str, z_list := PySem.W.mg_none_of X G z_list, z_tuple := PySem.W.mg_none_of X G z_tuple,
      z_abs := PySem.W.mg_none_of X G z_abs, z_len := PySem.W.mg_none_of X G z_len, z_range := PySem.W.mg_none_of X G z_range, z_all := PySem.W.mg_none_of X G z_all, z_any := PySem.W.mg_none_of X G z_any, z_sorted := PySem.W.mg_none_of X G z_sorted,
      g_MOST_KEPT := ⟨_, PySem.W.mg_of X G g_MOST_KEPT⟩, g_WorthError := PySem.W.mg_of X G aC_WorthError, g_InvalidArgument := PySem.W.mg_of X G aC_InvalidArgument,
      x_InvalidArgument := x_InvalidArgument, k_InvalidArgument := kp_InvalidArgument, b_InvalidArgument := b_InvalidArgument, t_InvalidArgument := t_InvalidArgument,
      ec_InvalidArgument := ⟨ga_InvalidArgument, gg_InvalidArgument, b_InvalidArgument, hd_InvalidArgument, cc_InvalidArgument, spc, tki, mo_InvalidArgument⟩,
      em_InvalidArgument := PySem.W.exm_ref b_WorthError hd_WorthError t_WorthError s_InvalidArgument_WorthError, ki_InvalidArgument := kself _, c_Tops := cl_Tops, n_k := n_Tops__k }
  refine ⟨PySem.W.fnOf "law" "law" (defArgs s_law) (defBody s_law) (defScope s_law) .none kV_law dc_law pm_law an_law cd_law ct_law, [(cc_Tops_is_element, PP_Tops_is_element)], spLaw K PP_Tops_is_element, (List.forall_mem_cons.mpr ⟨TA_Tops_is_element, (fun _ z => nomatch z)⟩), (List.forall_mem_cons.mpr ⟨nt_Tops_is_element, (fun _ z => nomatch z)⟩), (List.forall_mem_cons.mpr ⟨PySem.W.codeHd_of_K X ch_Tops_is_element, (fun _ z => nomatch z)⟩), fun s v => .of_eq rfl, ?_, fun base _ _ TBa => ?_⟩
  · intro H a ns hl _ hT hS
    have tg : ∀ P, H P = some (.tbl #[]) → TabG H P := fun P e => ⟨#[], e, by first | trivial | decide | exact TriplesOk_nil | simp [TriplesOk]⟩
    exact ⟨a, ns, rfl, hS, hl, tg _ (hT (cc_Tops_is_element, PP_Tops_is_element) (by simp)), fun _ => rfl⟩
  have TB_Tops_is_element : GxR.TabB base mg cc_Tops_is_element PP_Tops_is_element := by
    have z := TBa (cc_Tops_is_element, PP_Tops_is_element) (by simp)
    exact ⟨z.code, z.bm, z.gP⟩
  have c_is_integer := cal_mk (x := "is_integer") (ok_is_integer (P := l.prog) (w := w) (K := K) (mg := mg) (base := base) (ad := ad) F_is_integer T) (PySem.W.mg_of X G a_is_integer) k_is_integer b_is_integer
  have c_is_natural := cal_mk (x := "is_natural") (ok_is_natural (P := l.prog) (w := w) (K := K) (mg := mg) (base := base) (ad := ad) c_is_integer F_is_natural T) (PySem.W.mg_of X G a_is_natural) k_is_natural b_is_natural
  have c_law_pot := cal_mk (x := "_law_pot") (ok_law_pot (P := l.prog) (w := w) (K := K) (mg := mg) (base := base) (ad := ad) F_law_pot T) (PySem.W.mg_of X G a_law_pot) k_law_pot b_law_pot
  have c_law_next := cal_mk (x := "_law_next") (ok_law_next (P := l.prog) (w := w) (K := K) (mg := mg) (base := base) (ad := ad) F_law_next T) (PySem.W.mg_of X G a_law_next) k_law_next b_law_next
  have c_law_is_int := cal_mk (x := "_law_is_int") (ok_law_is_int (P := l.prog) (w := w) (K := K) (mg := mg) (base := base) (ad := ad) F_law_is_int T) (PySem.W.mg_of X G a_law_is_int) k_law_is_int b_law_is_int
  have c_law_element := cal_mk (x := "_law_element") (ok_law_element (P := l.prog) (w := w) (K := K) (mg := mg) (base := base) (ad := ad) c_law_next F_law_element T) (PySem.W.mg_of X G a_law_element) k_law_element b_law_element
  have c_law_sums := cal_mk (x := "_law_sums") (ok_law_sums (P := l.prog) (w := w) (K := K) (mg := mg) (base := base) (ad := ad) F_law_sums T) (PySem.W.mg_of X G a_law_sums) k_law_sums b_law_sums
  have mTops : MakX l.prog w K mg base 1 "Tops" C_Tops (spInit C_Tops C_InvalidArgument) := (mak_mk ⟨mk_Tops, a_Tops_init, i_Tops_init, kc_Tops⟩ (PySem.W.mg_of X G aC_Tops) (ok_Tops_init (P := l.prog) (w := w) (K := K) (mg := mg) (base := base) (ad := ad) F_Tops_init T) b_Tops_init)
  have m_least : MetX l.prog w K mg base 1 C_Tops "_least" (spLeast C_Tops) := (met_mk cl_Tops ⟨a_Tops_least, i_Tops_least, k_Tops_least⟩ ((ok_Tops_least (P := l.prog) (w := w) (K := K) (mg := mg) (base := base) (ad := ad) F_Tops_least T).mono (by decide)) b_Tops_least)
  have m_zero : MetX l.prog w K mg base 4 C_Tops "zero" (spNul C_Tops []) := (met_mk cl_Tops ⟨a_Tops_zero, i_Tops_zero, k_Tops_zero⟩ ((ok_Tops_zero (P := l.prog) (w := w) (K := K) (mg := mg) (base := base) (ad := ad) F_Tops_zero T).mono (by decide)) b_Tops_zero)
  have m_one : MetX l.prog w K mg base 4 C_Tops "one" (spNul C_Tops [0]) := (met_mk cl_Tops ⟨a_Tops_one, i_Tops_one, k_Tops_one⟩ ((ok_Tops_one (P := l.prog) (w := w) (K := K) (mg := mg) (base := base) (ad := ad) F_Tops_one T).mono (by decide)) b_Tops_one)
  have m_one2 : MetX l.prog w K mg base 2 C_Tops "one" (spNul C_Tops [0]) := (met_mk cl_Tops ⟨a_Tops_one, i_Tops_one, k_Tops_one⟩ ((ok_Tops_one (P := l.prog) (w := w) (K := K) (mg := mg) (base := base) (ad := ad) F_Tops_one T).mono (by decide)) b_Tops_one)
  have m_plus : MetX l.prog w K mg base 4 C_Tops "plus" (spBin C_Tops KM.plN) := (met_mk cl_Tops ⟨a_Tops_plus, i_Tops_plus, k_Tops_plus⟩ ((ok_Tops_plus (P := l.prog) (w := w) (K := K) (mg := mg) (base := base) (ad := ad) m_least F_Tops_plus T).mono (by decide)) b_Tops_plus)
  have m_plus2 : MetX l.prog w K mg base 2 C_Tops "plus" (spBin C_Tops KM.plN) := (met_mk cl_Tops ⟨a_Tops_plus, i_Tops_plus, k_Tops_plus⟩ ((ok_Tops_plus (P := l.prog) (w := w) (K := K) (mg := mg) (base := base) (ad := ad) m_least F_Tops_plus T).mono (by decide)) b_Tops_plus)
  have m_times : MetX l.prog w K mg base 4 C_Tops "times" (spBin C_Tops KM.tmN) := (met_mk cl_Tops ⟨a_Tops_times, i_Tops_times, k_Tops_times⟩ ((ok_Tops_times (P := l.prog) (w := w) (K := K) (mg := mg) (base := base) (ad := ad) m_least F_Tops_times T).mono (by decide)) b_Tops_times)
  have m_times2 : MetX l.prog w K mg base 2 C_Tops "times" (spBin C_Tops KM.tmN) := (met_mk cl_Tops ⟨a_Tops_times, i_Tops_times, k_Tops_times⟩ ((ok_Tops_times (P := l.prog) (w := w) (K := K) (mg := mg) (base := base) (ad := ad) m_least F_Tops_times T).mono (by decide)) b_Tops_times)
  have m_star : MetX l.prog w K mg base 4 C_Tops "star" (spStar C_Tops) := (met_mk cl_Tops ⟨a_Tops_star, i_Tops_star, k_Tops_star⟩ ((ok_Tops_star (P := l.prog) (w := w) (K := K) (mg := mg) (base := base) (ad := ad) m_one2 m_plus2 m_times2 F_Tops_star T).mono (by decide)) b_Tops_star)
  have m_elem : MetX l.prog w K mg base 4 C_Tops "is_element" (spEl PP_Tops_is_element C_Tops) := (met_mk cl_Tops ⟨a_Tops_is_element, i_Tops_is_element, k_Tops_is_element⟩ ((ok_Tops_is_element (P := l.prog) (w := w) (K := K) (mg := mg) (base := base) (ad := ad) c_is_natural FC_Tops_is_element TB_Tops_is_element T).mono (by decide)) b_Tops_is_element)
  have c_law_refused := cal_mk (x := "_law_refused") (ok_law_refused (P := l.prog) (w := w) (K := K) (mg := mg) (base := base) (ad := ad) mTops F_law_refused T) (PySem.W.mg_of X G a_law_refused) k_law_refused b_law_refused
  have c_law_same := same_cal (P := l.prog) (w := w) (base := base) (ad := ad) F_law_same T (PySem.W.mg_of X G a_law_same) b_law_same c_law_is_int 3
  exact ok_law (P := l.prog) (w := w) (base := base) (ad := ad) mTops m_zero m_one m_plus m_times m_star m_elem c_law_pot c_law_next c_law_same c_law_refused c_law_element c_law_sums F_law T
theorem walk {l : PySem.W.OpenLaw} {q : Program} {loose : List Str} {XP : (Str → Option Value) → Heap → Prop} {YP : World → Heap → Prop} {d : DefRec} {K : Params → PySem.W.Frag} (hn : l.most = some 63) (hdf : d.params.defaults = [])
    (hY : ∀ (w : World) (h : Heap), YP w h → (K w.params).In h)
    (F : ∀ (w : World) (mg : Str → Option Value) (fa : Addr) (h : Heap), YP w h → (K w.params).In h → h.Ns mainGlobals mg → mg d.name = some (.ref fa) → LamX.LawAtS l w (K w.params) (L2.CX l.prog w) 21 63 "script" mg fa h) :
    PySem.W.WalkO q loose XP YP l.row.toRowW d [] (fun f vs => PySem.call f vs) :=
  LamX.walk_ofTs (n := 63) (k := 21) (x := "script") (CX := fun w => L2.CX l.prog w) hn (by decide) hdf ⟨rfl, by decide, by decide⟩ hY F fun _ _ _ _ _ h => by
    obtain ⟨_, _, _, _, _, _, _, _, _, _, _, _, z⟩ := h
    exact z
end K33
open PySem PySem.W PyProof.Rows
local macro_rules | `(tactic| o_head ($f:ident $a $b $c)) => `(tactic| o_head (PySem.W.kmHook $a $b $c [102]))
set_option maxRecDepth 100000 in
set_option maxHeartbeats 0 in
theorem PySem.Challenge.cw_everyworth_k33_least_costs_holds : PySem.Challenge.rw_everyworth_k33_least_costs.Holds := by
  w_on; o_law; k_head; (case hw => w_witness2)
  k_fill
  refine K33.walk (l := PySem.Challenge.rw_everyworth_k33_least_costs) rfl rfl (fun w h Y => PySem.W.km_in_of Y) ?F
  case F =>
    intro w mg fa h Y KX G hmg
    refine' K33.all_mk 102 KX G hmg (PySem.W.km_tabs_of Y _ (by simp)) ?aC_WorthError ?aC_InvalidArgument ?aC_Tops ?a_is_integer ?l_is_integer ?c_is_integer ?k_is_integer ?a_is_natural ?l_is_natural ?c_is_natural ?k_is_natural ?a_Tops_init ?i_Tops_init ?l_Tops_init ?c_Tops_init ?k_Tops_init ?a_Tops_zero ?i_Tops_zero ?l_Tops_zero ?c_Tops_zero ?k_Tops_zero ?a_Tops_one ?i_Tops_one ?l_Tops_one ?c_Tops_one ?k_Tops_one ?a_Tops_plus ?i_Tops_plus ?l_Tops_plus ?c_Tops_plus ?k_Tops_plus ?a_Tops_times ?i_Tops_times ?l_Tops_times ?c_Tops_times ?k_Tops_times ?a_Tops_star ?i_Tops_star ?l_Tops_star ?c_Tops_star ?k_Tops_star ?a_Tops_is_element ?i_Tops_is_element ?l_Tops_is_element ?c_Tops_is_element ?k_Tops_is_element ?a_Tops_least ?i_Tops_least ?l_Tops_least ?c_Tops_least ?k_Tops_least ?a_law_pot ?l_law_pot ?c_law_pot ?k_law_pot ?a_law_next ?l_law_next ?c_law_next ?k_law_next ?a_law_is_int ?l_law_is_int ?c_law_is_int ?k_law_is_int ?a_law_same ?l_law_same ?c_law_same ?k_law_same ?a_law_refused ?l_law_refused ?c_law_refused ?k_law_refused ?a_law_element ?l_law_element ?c_law_element ?k_law_element ?a_law_sums ?l_law_sums ?c_law_sums ?k_law_sums ?a_law ?l_law ?c_law ?k_law ?x_WorthError ?kp_WorthError ?b_WorthError ?t_WorthError ?hd_WorthError ?ga_WorthError ?gg_WorthError ?cc_WorthError ?mo_WorthError ?x_InvalidArgument ?kp_InvalidArgument ?b_InvalidArgument ?t_InvalidArgument ?hd_InvalidArgument ?ga_InvalidArgument ?gg_InvalidArgument ?cc_InvalidArgument ?mo_InvalidArgument ?s_InvalidArgument_WorthError ?pg_Tops ?hd_Tops ?po_Tops ?sa_Tops ?mk_Tops ?kc_Tops ?spc ?tki ?n_Tops__k ?g_MOST_KEPT ?z_isinstance ?z_int ?z_bool ?z_str ?z_list ?z_tuple ?z_abs ?z_len ?z_range ?z_all ?z_any ?z_sorted ?nt_Tops_is_element ?ch_Tops_is_element
    (case aC_WorthError => k_is)
    (case aC_InvalidArgument => k_is)
    (case aC_Tops => k_is)
    (case a_is_integer => k_is)
    (case l_is_integer => k_is)
    (case c_is_integer => k_is)
    (case k_is_integer => k_is)
    (case a_is_natural => k_is)
    (case l_is_natural => k_is)
    (case c_is_natural => k_is)
    (case k_is_natural => k_is)
    (case a_Tops_init => k_is)
    (case i_Tops_init => k_is)
    (case l_Tops_init => k_is)
    (case c_Tops_init => k_is)
    (case k_Tops_init => k_is)
    (case a_Tops_zero => k_is)
    (case i_Tops_zero => k_is)
    (case l_Tops_zero => k_is)
    (case c_Tops_zero => k_is)
    (case k_Tops_zero => k_is)
    (case a_Tops_one => k_is)
    (case i_Tops_one => k_is)
    (case l_Tops_one => k_is)
    (case c_Tops_one => k_is)
    (case k_Tops_one => k_is)
    (case a_Tops_plus => k_is)
    (case i_Tops_plus => k_is)
    (case l_Tops_plus => k_is)
    (case c_Tops_plus => k_is)
    (case k_Tops_plus => k_is)
    (case a_Tops_times => k_is)
    (case i_Tops_times => k_is)
    (case l_Tops_times => k_is)
    (case c_Tops_times => k_is)
    (case k_Tops_times => k_is)
    (case a_Tops_star => k_is)
    (case i_Tops_star => k_is)
    (case l_Tops_star => k_is)
    (case c_Tops_star => k_is)
    (case k_Tops_star => k_is)
    (case a_Tops_is_element => k_is)
    (case i_Tops_is_element => k_is)
    (case l_Tops_is_element => k_is)
    (case c_Tops_is_element => k_is)
    (case k_Tops_is_element => k_is)
    (case a_Tops_least => k_is)
    (case i_Tops_least => k_is)
    (case l_Tops_least => k_is)
    (case c_Tops_least => k_is)
    (case k_Tops_least => k_is)
    (case a_law_pot => k_is)
    (case l_law_pot => k_is)
    (case c_law_pot => k_is)
    (case k_law_pot => k_is)
    (case a_law_next => k_is)
    (case l_law_next => k_is)
    (case c_law_next => k_is)
    (case k_law_next => k_is)
    (case a_law_is_int => k_is)
    (case l_law_is_int => k_is)
    (case c_law_is_int => k_is)
    (case k_law_is_int => k_is)
    (case a_law_same => k_is)
    (case l_law_same => k_is)
    (case c_law_same => k_is)
    (case k_law_same => k_is)
    (case a_law_refused => k_is)
    (case l_law_refused => k_is)
    (case c_law_refused => k_is)
    (case k_law_refused => k_is)
    (case a_law_element => k_is)
    (case l_law_element => k_is)
    (case c_law_element => k_is)
    (case k_law_element => k_is)
    (case a_law_sums => k_is)
    (case l_law_sums => k_is)
    (case c_law_sums => k_is)
    (case k_law_sums => k_is)
    (case a_law => k_is)
    (case l_law => k_is)
    (case c_law => k_is)
    (case k_law => k_is)
    (case x_WorthError => k_exc)
    (case kp_WorthError => k_is)
    (case b_WorthError => k_is)
    (case t_WorthError => k_is)
    (case hd_WorthError => k_is)
    (case ga_WorthError => k_is)
    (case gg_WorthError => k_is)
    (case cc_WorthError => k_is)
    (case mo_WorthError => k_is)
    (case x_InvalidArgument => k_exc)
    (case kp_InvalidArgument => k_is)
    (case b_InvalidArgument => k_is)
    (case t_InvalidArgument => k_is)
    (case hd_InvalidArgument => k_is)
    (case ga_InvalidArgument => k_is)
    (case gg_InvalidArgument => k_is)
    (case cc_InvalidArgument => k_is)
    (case mo_InvalidArgument => k_is)
    (case s_InvalidArgument_WorthError => k_is)
    (case pg_Tops => k_is)
    (case hd_Tops => k_is)
    (case po_Tops => k_is)
    (case sa_Tops => k_is)
    (case mk_Tops => k_is)
    (case kc_Tops => k_is)
    (case spc => k_is)
    (case tki => k_is)
    (case n_Tops__k => k_is)
    (case g_MOST_KEPT => k_is)
    (case z_isinstance => k_is)
    (case z_int => k_is)
    (case z_bool => k_is)
    (case z_str => k_is)
    (case z_list => k_is)
    (case z_tuple => k_is)
    (case z_abs => k_is)
    (case z_len => k_is)
    (case z_range => k_is)
    (case z_all => k_is)
    (case z_any => k_is)
    (case z_sorted => k_is)
    (case nt_Tops_is_element => first | k_is | kernel_rfl)
    (case ch_Tops_is_element => first | k_is | kernel_rfl)
