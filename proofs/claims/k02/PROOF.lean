import PyProof.Rows.All
import Wide.All
import OpenK.AllK
import Wide.FinOn
import HandS.ForMost
import HandS.ForExc
import HandS.IsInst
import HandS.ExcIs
import HandS.CallSlots
import HandS.Wide
import HandS.EndBits
import HandS.Flow
import HandS.AnyAll
import HandS.SortKw
import PySem.Challenge.RW_everyworth_k02_built_semirings
import HandS.Steps
import HandS.Style
import HandS.Codes
set_option Elab.async false
set_option linter.all false
set_option maxRecDepth 100000
set_option maxHeartbeats 4000000
/-! Rules whose callee is told by the reading: calls of defs, methods, classes by what stands in the heap. -/
namespace Ew
open PySem PySem.Spec PyProof.Rows L2

/-- a def under its name keeps sp at level k -/
structure CalX (P : Program) (w : World) (K : PySem.W.Frag) (mg : Str → Option Value) (base : Heap) (k : Nat) (x : Str) (sp : Sp) : Prop where
  ex : ∃ (f : Addr) (fd : FuncData) (ps : List Str) (ds : List Value) (dvs : List V) (sp0 : Sp), FnOk P w K mg base (L2.CX P w) k f fd ps sp0 ∧ mg x = some (.ref f) ∧ PySem.W.keepIn K (.ref f) = true ∧ Binds K fd ps ds ∧ Vals dvs ds ∧
    ∀ vs H Q E, sp vs H Q E → sp0 (vs ++ dvs) H Q E
/-- a method m of the class at C keeps sp at level k -/
structure MetX (P : Program) (w : World) (K : PySem.W.Frag) (mg : Str → Option Value) (base : Heap) (k : Nat) (C : Addr) (m : Str) (sp : Sp) : Prop where
  ex : ∃ (f : Addr) (fd : FuncData) (ps : List Str) (ds : List Value) (dvs : List V) (sp0 : Sp), Cls K C ∧ Meth K C m f ∧ FnOk P w K mg base (L2.CX P w) k f fd ps sp0 ∧ Binds K fd ps ds ∧ Vals dvs ds ∧
    ∀ vs H Q E, sp vs H Q E → sp0 (vs ++ dvs) H Q E
/-- a class under its name, its __init__ keeps sp at level k -/
structure MakX (P : Program) (w : World) (K : PySem.W.Frag) (mg : Str → Option Value) (base : Heap) (k : Nat) (x : Str) (C : Addr) (sp : Sp) : Prop where
  ex : ∃ (f : Addr) (fd : FuncData) (ps : List Str) (ds : List Value) (dvs : List V) (sp0 : Sp), Mk K C f ∧ mg x = some (.ref C) ∧ FnOk P w K mg base (L2.CX P w) k f fd ps sp0 ∧ Binds K fd ps ds ∧ Vals dvs ds ∧
    ∀ vs H Q E, sp vs H Q E → sp0 (vs ++ dvs) H Q E

def tCallD (P : Program) (w : World) (K : PySem.W.Frag) (mg : Str → Option Value) (base : Heap) (j : Nat) (x : Str) (W : WX) (t : TA) : TE := fun σ H Q =>
  ∃ (k : Nat) (sp : Sp), k ≤ j ∧ CalX P w K mg base k x sp ∧ t σ H fun vs H1 => sp vs H1 Q (WE W σ)
def tMethD (P : Program) (w : World) (K : PySem.W.Frag) (mg : Str → Option Value) (base : Heap) (j : Nat) (m : Str) (W : WX) (ta : TE) (t : TA) : TE := fun σ H Q => ta σ H fun x H1 =>
  ∃ (a C dx : Addr) (fs : List (Str × V)) (k : Nat) (sp : Sp), x = .ref a ∧ H1 a = some (.ins C dx fs) ∧ fs.lookup m = none ∧ k ≤ j ∧ MetX P w K mg base k C m sp ∧ t σ H1 fun vs H2 => sp (x :: vs) H2 Q (WE W σ)
def tMakeD (P : Program) (w : World) (K : PySem.W.Frag) (mg : Str → Option Value) (base : Heap) (j : Nat) (x : Str) (W : WX) (t : TA) : TE := fun σ H Q =>
  ∃ (k : Nat) (C : Addr) (sp : Sp), k + 1 ≤ j ∧ MakX P w K mg base k x C sp ∧ t σ H fun vs H1 => ∀ y dy, H1 y = none → H1 dy = none → dy ≠ y →
    sp (.ref y :: vs) (upd (upd H1 dy (.own y)) y (.ins C dy [])) (fun v H2 => v = .non ∧ Q (.ref y) H2) (WE W σ)

section
variable {X : Cx} {j : Nat} {x m : Str} {p pos apos : Pos} {e o : Expr} {es : List Expr} {ta : TE} {t : TA} {W : WX}

theorem pd_call (hr : Room j X.A) (tk : Takes X W) (hg : Gl X x) (ha : PA X (e :: es) t)
    (hdb : (x == ("__debug__" : Str)) = false := by decide) (he : starEach (e :: es) X.env = (false, eval e X.env) :: starEach es X.env := by rfl) (hpl : (backTo pos (starEach es X.env)).any (·.1) = false := by rfl) :
    PE X (.Call (.Name x p) (e :: es) [] pos) (tCallD X.prog X.w X.K X.mg X.base j x W t) := by
  refine ⟨fun pins s σ H Q I h => ?_⟩
  obtain ⟨k, sp, hk, c, h⟩ := h
  obtain ⟨f, fd, ps, ds, dvs, sp0, F, hm, kp, b, d, imp⟩ := c.ex
  refine wpAny_Call_Name_kw (ld_glob I hg hm ?_ hdb)
  refine PySem.W.callWith_K (h₀ := X.base) I.ok.mod.kin kp (thn (ha.run pos pins s σ H _ I h) fun us s1 ⟨vs, H1, I1, r, q⟩ => ⟨I1.kIn, ?_⟩) he hpl
  exact run_fnSD (E := WE W) F (hr.mono hk) b d (passAt tk σ) I1 r (imp _ _ _ _ q)
theorem pd_call0 (hr : Room j X.A) (tk : Takes X W) (hg : Gl X x) (hdb : (x == ("__debug__" : Str)) = false := by decide) :
    PE X (.Call (.Name x p) [] [] pos) (tCallD X.prog X.w X.K X.mg X.base j x W tNil) := by
  refine ⟨fun pins s σ H Q I h => ?_⟩
  obtain ⟨k, sp, hk, c, h⟩ := h
  obtain ⟨f, fd, ps, ds, dvs, sp0, F, hm, kp, b, d, imp⟩ := c.ex
  refine wpAny_Call_Name_kw (ld_glob I hg hm ?_ hdb)
  exact PySem.W.callWith_K0 I.kIn kp (run_fnSD (us := []) (E := WE W) F (hr.mono hk) b d (passAt tk σ) I .nil (imp _ _ _ _ h))

theorem pd_meth {pl : Sem Bool} (hr : Room j X.A) (tk : Takes X W) (he : PE X o ta) (ha : PA X (e :: es) t)
    (hst : starEach (e :: es) X.env = (false, eval e X.env) :: starEach es X.env := by rfl) (hpl : (backTo pos (starEach es X.env)).any (·.1) = false := by rfl)
    (ht : eval (.Call (.Attribute o m apos) (e :: es) [] pos) X.env = (do
      let ov ← eval o X.env
      standAt apos.atName
      let (f, first) ← holding [ov] (getMethod ov m pl)
      callWith pos f first (backTo pos (starEach (e :: es) X.env)) (backToKw pos (keywordEach [] X.env))) := by rfl) :
    PE X (.Call (.Attribute o m apos) (e :: es) [] pos) (tMethD X.prog X.w X.K X.mg X.base j m W ta t) := by
  refine ⟨fun pins s σ H Q I h => ?_⟩
  refine PySem.W.methodCall_KW (pl := pl) (thn (he.run pins s σ H _ I h) fun u s1 hh => ?_) ht
  obtain ⟨x, H1, I1, rx, a, C, dx, fs, k, sp, ex, ea, l, hk, c, q⟩ := hh
  obtain ⟨f, fd, ps, ds, dvs, sp0, hc, hm, F, b, d, imp⟩ := c.ex
  subst ex
  obtain rfl : u = Value.ref a := rx
  refine getmeth_ok I1 ea hc hm l ?_
  refine PySem.W.callWith_K (first := [.ref a]) (h₀ := X.base) I.ok.mod.kin hm.kp (thn (ha.run pos pins s1 σ H1 _ I1 q) fun us s2 ⟨vs, H2, I2, r, q2⟩ => ⟨I2.kIn, ?_⟩) hst hpl
  exact run_fnSD (us := .ref a :: us) (vs := .ref a :: vs) (E := WE W) F (hr.mono hk) b d (passAt tk σ) I2 (.cons rfl r) (imp _ _ _ _ q2)
theorem pd_meth0 {pl : Sem Bool} (hr : Room j X.A) (tk : Takes X W) (he : PE X o ta)
    (ht : eval (.Call (.Attribute o m apos) [] [] pos) X.env = (do
      let ov ← eval o X.env
      standAt apos.atName
      let (f, first) ← holding [ov] (getMethod ov m pl)
      callWith pos f first (backTo pos (starEach [] X.env)) (backToKw pos (keywordEach [] X.env))) := by rfl) :
    PE X (.Call (.Attribute o m apos) [] [] pos) (tMethD X.prog X.w X.K X.mg X.base j m W ta tNil) := by
  refine ⟨fun pins s σ H Q I h => ?_⟩
  refine PySem.W.methodCall_KW (pl := pl) (thn (he.run pins s σ H _ I h) fun u s1 hh => ?_) ht
  obtain ⟨x, H1, I1, rx, a, C, dx, fs, k, sp, ex, ea, l, hk, c, q⟩ := hh
  obtain ⟨f, fd, ps, ds, dvs, sp0, hc, hm, F, b, d, imp⟩ := c.ex
  subst ex
  obtain rfl : u = Value.ref a := rx
  refine getmeth_ok I1 ea hc hm l ?_
  exact PySem.W.callWith_K0 (first := [.ref a]) I1.kIn hm.kp (run_fnSD (us := [.ref a]) (vs := [.ref a]) (E := WE W) F (hr.mono hk) b d (passAt tk σ) I1 (.cons rfl .nil) (imp _ _ _ _ q))

theorem run_makeD {pins : List (Addr × Obj)} {σ : L2.St} {H : Hp} {s : Shared} {Q : VK} {us : List Value} {vs : List V} {k : Nat} {C f : Addr} {fd : FuncData} {ps : List Str} {ds : List Value} {dvs : List V} {sp : Sp} {E : L2.St → XK}
    (M : Mk X.K C f) (F : FnOk X.prog X.w X.K X.mg X.base (L2.CX X.prog X.w) k f fd ps sp) (hr : Room (k + 1) X.A) (hb : Binds X.K fd ps ds) (hd : Vals dvs ds)
    (hx : PassesAt (L2.CX X.prog X.w) X σ (E σ)) (I : Inv X pins σ H s) (r : Vals vs us)
    (h : ∀ x dx, H x = none → H dx = none → dx ≠ x → sp (.ref x :: (vs ++ dvs)) (upd (upd H dx (.own x)) x (.ins C dx [])) (fun v H2 => v = .non ∧ Q (.ref x) H2) (E σ)) :
    wpAny (model X.prog X.w) X.A (call (.ref C) us) (EP X pins σ Q) X.xe s := by
  have hq := h (s.heap.objs.size + 1) s.heap.objs.size (I.hok.fresh (Nat.le_succ _)) (I.hok.fresh (Nat.le_refl _)) (Nat.ne_of_lt (Nat.lt_succ_self _))
  have I2 := Inv.made (C := C) I
  have r2 : Vals (V.ref (s.heap.objs.size + 1) :: (vs ++ dvs)) (Value.ref (s.heap.objs.size + 1) :: (us ++ ds)) := .cons rfl (r.append hd)
  have hl : (Value.ref (s.heap.objs.size + 1) :: us ++ ds).length = ps.length := by
    have e := r2.length
    rw [F.len _ _ _ _ hq] at e
    exact e.symm
  refine wpAny_call (make_map (f := f) I.kIn M.makes M.init (beq_iff_eq.mp M.fn) (codeAny_mono (F.run _ X.stack _ _ ⟨Value.ref (s.heap.objs.size + 1) :: us, []⟩ (Value.ref (s.heap.objs.size + 1) :: (us ++ ds)) _ _ (E σ) (hr.make C us [])
    (I2.env0.make C us []) (hb _ (Value.ref (s.heap.objs.size + 1) :: us) I2.kIn hl) r2 hq) fun r s' hq' => ?_))
  cases r with
  | error e => exact hx pins _ _ e s' I2 hq'
  | ok fl =>
    cases fl with
    | ret u =>
      obtain ⟨v, H', I3, rv, ev, q3⟩ := I2.after hq'
      subst ev
      exact ⟨rv, ⟨V.ref (s.heap.objs.size + 1), H', I3, rfl, q3⟩⟩
    | next => exact False.elim hq'
    | brk => exact False.elim hq'
    | cont => exact False.elim hq'
theorem pd_make (hr : Room j X.A) (tk : Takes X W) (hg : Gl X x) (ha : PA X (e :: es) t)
    (hdb : (x == ("__debug__" : Str)) = false := by decide) (he : starEach (e :: es) X.env = (false, eval e X.env) :: starEach es X.env := by rfl) (hpl : (backTo pos (starEach es X.env)).any (·.1) = false := by rfl) :
    PE X (.Call (.Name x p) (e :: es) [] pos) (tMakeD X.prog X.w X.K X.mg X.base j x W t) := by
  refine ⟨fun pins s σ H Q I h => ?_⟩
  obtain ⟨k, C, sp, hk, c, h⟩ := h
  obtain ⟨f, fd, ps, ds, dvs, sp0, M, hm, F, b, d, imp⟩ := c.ex
  refine wpAny_Call_Name_kw (ld_glob I hg hm ?_ hdb)
  refine PySem.W.callWith_K (h₀ := X.base) I.ok.mod.kin M.kp (thn (ha.run pos pins s σ H _ I h) fun us s1 ⟨vs, H1, I1, r, q⟩ => ⟨I1.kIn, ?_⟩) he hpl
  exact run_makeD (E := WE W) M F (hr.mono hk) b d (passAt tk σ) I1 r fun y dy h1 h2 h3 => imp _ _ _ _ (q y dy h1 h2 h3)
theorem pd_make0 (hr : Room j X.A) (tk : Takes X W) (hg : Gl X x)
    (hdb : (x == ("__debug__" : Str)) = false := by decide) :
    PE X (.Call (.Name x p) [] [] pos) (tMakeD X.prog X.w X.K X.mg X.base j x W tNil) := by
  refine ⟨fun pins s σ H Q I h => ?_⟩
  obtain ⟨k, C, sp, hk, c, h⟩ := h
  obtain ⟨f, fd, ps, ds, dvs, sp0, M, hm, F, b, d, imp⟩ := c.ex
  refine wpAny_Call_Name_kw (ld_glob I hg hm ?_ hdb)
  exact PySem.W.callWith_K0 I.kIn M.kp (run_makeD (us := []) (E := WE W) M F (hr.mono hk) b d (passAt tk σ) I .nil fun y dy h1 h2 h3 => imp _ _ _ _ (h y dy h1 h2 h3))

/-- a class that has no __init__ of its own -/
structure Mk0 (K : PySem.W.Frag) (mg : Str → Option Value) (x : Str) (C : Addr) : Prop where
  mgC : mg x = some (.ref C)
  makes : PySem.W.makesIn K C = true
  init : PySem.W.findIn K (.ref C) "__init__" = some (some (.builtin "object.__init__"))
  kp : PySem.W.keepIn K (.ref C) = true
def tNew0D (K : PySem.W.Frag) (mg : Str → Option Value) (x : Str) : TE := fun _ H Q =>
  ∃ C, Mk0 K mg x C ∧ ∀ y dy, H y = none → H dy = none → dy ≠ y → Q (.ref y) (upd (upd H dy (.own y)) y (.ins C dy []))
theorem pd_new0 (hg : Gl X x) (hdb : (x == ("__debug__" : Str)) = false := by decide) : PE X (.Call (.Name x p) [] [] pos) (tNew0D X.K X.mg x) := by
  refine ⟨fun pins s σ H Q I h => ?_⟩
  obtain ⟨C, M, h⟩ := h
  refine wpAny_Call_Name_kw (ld_glob I hg M.mgC ?_ hdb)
  have hq := h (s.heap.objs.size + 1) s.heap.objs.size (I.hok.fresh (Nat.le_succ _)) (I.hok.fresh (Nat.le_refl _)) (Nat.ne_of_lt (Nat.lt_succ_self _))
  have I2 := Inv.made (C := C) I
  refine PySem.W.callWith_K0 I.kIn M.kp ?_
  show wpAny (model X.prog X.w) X.A (call (.ref C) []) _ _ _
  have I0 := I
  obtain ⟨hh, g, d, tk, os⟩ := s
  have Y := PySem.W.makes_of (M := model X.prog X.w) I0.kIn M.makes
  refine wpAny_call (PySem.W.make_core Y (PySem.W.looks_findIn I0.kIn M.init) (fun self => PySem.W.Looks.of_pure (PySem.W.oi_bind self)) (.inr ⟨rfl, rfl⟩) ?_)
  have hx : ((hh.push PySem.W.emptyDict).push (PySem.W.instObj C hh.objs.size)).get? (hh.objs.size + 1) = some (PySem.W.instObj C hh.objs.size) := by heap_get
  have t1 : PySem.W.Looks (model X.prog X.w) ((hh.push PySem.W.emptyDict).push (PySem.W.instObj C hh.objs.size)) (typeOf (.ref (hh.objs.size + 1))) (.ref C) := (PySem.W.Looks.ld hx).andThen .now
  have t2 : PySem.W.Looks (model X.prog X.w) ((hh.push PySem.W.emptyDict).push (PySem.W.instObj C hh.objs.size)) (isInstance (.ref (hh.objs.size + 1)) (.type "object")) true := t1.andThen (Y.top.keeps fun b o e => Heap.get?_push_of_some _ (Heap.get?_push_of_some _ e))
  refine codeAny_call_builtin PySem.W.oi_plain PySem.W.entry_oi (@PySem.W.check_slot (model X.prog X.w) _ _ _ "object.__init__" "object" "__init__" (.ref (hh.objs.size + 1)) [] [] _ PySem.W.oi_kind PySem.W.oi_split t2 (PySem.W.oi_args (.ref (hh.objs.size + 1))) ?_)
  rw [PySem.W.oi_run]
  exact wpAny_pure (And.intro rfl ⟨V.ref (hh.objs.size + 1), _, I2, rfl, hq⟩)

/-- f(e, ..) by a known promise -/
def tCallF (sp : Sp) (W : WX) (t : TA) : TE := fun σ H Q => t σ H fun vs H1 => sp vs H1 Q (WE W σ)
theorem pc_call {k : Nat} {sp : Sp} (c : CalX X.prog X.w X.K X.mg X.base k x sp) (hr : Room j X.A) (hk : k ≤ j) (tk : Takes X W) (hg : Gl X x) (ha : PA X (e :: es) t)
    (hdb : (x == ("__debug__" : Str)) = false := by decide) (he : starEach (e :: es) X.env = (false, eval e X.env) :: starEach es X.env := by rfl) (hpl : (backTo pos (starEach es X.env)).any (·.1) = false := by rfl) :
    PE X (.Call (.Name x p) (e :: es) [] pos) (tCallF sp W t) :=
  ⟨fun pins s σ H Q I h => (pd_call (p := p) (pos := pos) hr tk hg ha hdb he hpl).run pins s σ H Q I ⟨k, sp, hk, c, h⟩⟩
theorem pc_call0 {k : Nat} {sp : Sp} (c : CalX X.prog X.w X.K X.mg X.base k x sp) (hr : Room j X.A) (hk : k ≤ j) (tk : Takes X W) (hg : Gl X x) (hdb : (x == ("__debug__" : Str)) = false := by decide) :
    PE X (.Call (.Name x p) [] [] pos) (tCallF sp W tNil) :=
  ⟨fun pins s σ H Q I h => (pd_call0 (p := p) (pos := pos) hr tk hg hdb).run pins s σ H Q I ⟨k, sp, hk, c, h⟩⟩
theorem pe_gint {n : Int} (hg : Gl X x) (h : ∃ t, X.mg x = some (.int n t)) (hdb : (x == ("__debug__" : Str)) = false := by decide) : PE X (.Name x pos) (tC (.int n)) := by
  obtain ⟨t, h⟩ := h
  exact pe_glob hg h ⟨t, rfl⟩ hdb
theorem pe_gcls {C : Addr} (hg : Gl X x) (h : X.mg x = some (.ref C)) (hdb : (x == ("__debug__" : Str)) = false := by decide) : PE X (.Name x pos) (tC (.ref C)) := pe_glob hg h rfl hdb

/-! ### the same rules, the written part named K (within a comprehension's block the reading must not speak of the block) -/
section
variable {K : PySem.W.Frag}
theorem kix_list (hK : X.K = K := by rfl) : IxR X (rIxL K) := hK ▸ ix_list
theorem kix_tup (hK : X.K = K := by rfl) : IxR X (rIxT K) := hK ▸ ix_tup
theorem kix_seq (hK : X.K = K := by rfl) : IxR X (rIx K) := hK ▸ ix_seq
theorem kcall_len (hK : X.K = K := by rfl) : CallR X (.builtin "len") (fun xs H Q => ∃ x n, xs = [x] ∧ LenV K x H n ∧ Q (.int n) H) := hK ▸ call_len
theorem kcall_isi (hK : X.K = K := by rfl) : CallR X (.builtin "isinstance") (rIsi K) := hK ▸ call_isi
theorem kin_seq (hK : X.K = K := by rfl) : OpR X (compareOp .In) (rIn K false) := hK ▸ op_in_seq
theorem knotIn_seq (hK : X.K = K := by rfl) : OpR X (compareOp .NotIn) (rIn K true) := hK ▸ op_notIn_seq
theorem kpe_fld {f : Str} (he : PE X e ta) (hb : attributeBase e f X.env (eval e X.env) = eval e X.env) (hK : X.K = K := by rfl) : PE X (.Attribute e f pos) (tFld K ta f) := hK ▸ pe_fld he hb
theorem kpi_list {tg l : Expr} {tl : TE} (hl : PE X l tl) (hK : X.K = K := by rfl) : PI X tg l (iList K tl) := hK ▸ pi_list hl
theorem kpi_tup {tg l : Expr} {tl : TE} (hl : PE X l tl) (hK : X.K = K := by rfl) : PI X tg l (iTup K tl) := hK ▸ pi_tup hl
end
theorem kpd_meth {P : Program} {w : World} {K : PySem.W.Frag} {mg : Str → Option Value} {base : Heap} {pl : Sem Bool} (hr : Room j X.A) (tk : Takes X W) (he : PE X o ta) (ha : PA X (e :: es) t)
    (hP : X.prog = P := by rfl) (hw : X.w = w := by rfl) (hK : X.K = K := by rfl) (hm : X.mg = mg := by rfl) (hB : X.base = base := by rfl)
    (hst : starEach (e :: es) X.env = (false, eval e X.env) :: starEach es X.env := by rfl) (hpl : (backTo pos (starEach es X.env)).any (·.1) = false := by rfl)
    (ht : eval (.Call (.Attribute o m apos) (e :: es) [] pos) X.env = (do
      let ov ← eval o X.env
      standAt apos.atName
      let (f, first) ← holding [ov] (getMethod ov m pl)
      callWith pos f first (backTo pos (starEach (e :: es) X.env)) (backToKw pos (keywordEach [] X.env))) := by rfl) :
    PE X (.Call (.Attribute o m apos) (e :: es) [] pos) (tMethD P w K mg base j m W ta t) := by
  subst hP hw hK hm hB
  exact pd_meth (pl := pl) hr tk he ha hst hpl ht
theorem kpd_meth0 {P : Program} {w : World} {K : PySem.W.Frag} {mg : Str → Option Value} {base : Heap} {pl : Sem Bool} (hr : Room j X.A) (tk : Takes X W) (he : PE X o ta)
    (hP : X.prog = P := by rfl) (hw : X.w = w := by rfl) (hK : X.K = K := by rfl) (hm : X.mg = mg := by rfl) (hB : X.base = base := by rfl)
    (ht : eval (.Call (.Attribute o m apos) [] [] pos) X.env = (do
      let ov ← eval o X.env
      standAt apos.atName
      let (f, first) ← holding [ov] (getMethod ov m pl)
      callWith pos f first (backTo pos (starEach [] X.env)) (backToKw pos (keywordEach [] X.env))) := by rfl) :
    PE X (.Call (.Attribute o m apos) [] [] pos) (tMethD P w K mg base j m W ta tNil) := by
  subst hP hw hK hm hB
  exact pd_meth0 (pl := pl) hr tk he ht

/-! ### both ways of a two-place rule -/
def rOr (r r' : R2) : R2 := fun x y H Q => r x y H Q ∨ r' x y H Q
theorem op_or2 {f : Value → Value → Sem Value} {r r' : R2} (h : OpR X f r) (h' : OpR X f r') : OpR X f (rOr r r') := OpR.or h h'
theorem call_or2 {f : Value} {r r' : List V → Hp → VK → Prop} (h : CallR X f r) (h' : CallR X f r') : CallR X f (fun xs H Q => r xs H Q ∨ r' xs H Q) := by
  intro pins s σ H xs us Q I v q
  rcases q with q | q
  · exact h pins s σ H xs us Q I v q
  · exact h' pins s σ H xs us Q I v q
/-- isinstance(e, c) of what a suite holds, its class told by the reading -/
def rIsED (K : PySem.W.Frag) (a : Addr) (cls : Value) (d : Option Addr) : List V → Hp → VK → Prop := fun xs H Q => ∃ D, cls = .ref D ∧ d = none ∧ ExcC K D ∧ rIsE K D a xs H Q
theorem call_isED {a : Addr} {oe : Obj} {pn : List (Addr × Obj)} {cls : Value} {d : Option Addr} (hz : Zc cls d oe) (hf : ∃ vs, oe.data = .fields vs) : CallR (X.suite a ((a, oe) :: pn)) (.builtin "isinstance") (rIsED X.K a cls d) := by
  intro pins s σ H xs us Q I r h
  obtain ⟨D, rfl, rfl, C, q⟩ := h
  exact call_isE C hz hf pins s σ H xs us Q I r q
/-- text * 0 or 1 -/
def rMulS : R2 := fun x y H Q => ∃ (a : Str) (b : Bool), x = .str a ∧ y = .int (if b then 1 else 0) ∧ Q (.str (if b then a else Str.empty)) H
theorem op_mulS : OpR X (binaryOp .Mult) rMulS := by
  intro pins s σ H x y v u Q I rx ry h
  obtain ⟨a, b, rfl, rfl, q⟩ := h
  obtain ⟨t, rfl⟩ := rx
  obtain ⟨t', rfl⟩ := ry
  cases b with
  | true =>
    refine SB.mul ⟨by decide, fun _ z => absurd z (by simp), fun _ z => absurd z (by simp)⟩ fun t' k => ?_
    refine ⟨.str a, H, I.tok _, ⟨t', ?_⟩, q⟩
    unfold Txt.mul
    rfl
  | false =>
    refine SB.mul ⟨by decide, fun z => absurd (show (0:Int) < 1 by decide) z, fun z => absurd (show (0:Int) < 1 by decide) z⟩ fun t' k => ?_
    refine ⟨.str Str.empty, H, I.tok _, ⟨t', ?_⟩, q⟩
    unfold Txt.mul
    rfl
end
/-! ### try: the body's and the suite's terms are given where the reading stands -/
section
variable {X : Cx} {x n : Str} {c : Value} {i : Nat} {body suite : List Stmt} {b0 : Stmt} {np pos pos' : Pos} {Wout : WX}
def tsD (X : Cx) (b0 : Stmt) (suite : List Stmt) (a : Addr) (cls : Value) (d : Option Addr) : TS := fun D σ H =>
  ∀ (oe : Obj) (pn : List (Addr × Obj)), Zc cls d oe → (∃ vs, oe.data = .fields vs) → ∃ t, PSs (X.suite a ((a, oe) :: pn)) (b0 :: suite) t ∧ t D σ H
def tbD (X : Cx) (body : List Stmt) (W : WX) : TS := fun D σ H =>
  ∀ (pn : List (Addr × Obj)) (xe : Value → Shared → Prop), Takes (X.tr pn xe) W → PassesOwn (model X.prog X.w) X.A X.env xe → ∃ t, PSs (X.tr pn xe) body t ∧ t D σ H
theorem ps_tryD (hs : X.stack = X.env :: X.outer) (hf : X.env.frame = some X.env.locals) (hN : X.N.Nodup) (hi : X.N[i]? = some n) (hln : X.env.kindOf n = some .local) (hc : Names X x c) (tk : Takes X Wout) :
    PS X (.Try body [.ExceptHandler (some (.Name x np)) (some n) (b0 :: suite) pos'] [] [] pos) (fun D σ H => tbD X body (wAs X.K c i (tsD X b0 suite) Wout D) D σ H) :=
  ps_try_as (tb := tbD X body) (ts := tsD X b0 suite) hs hf hN hi hln hc tk
    (fun _ pn xe tk1 po => ⟨fun pins s σ H D I h => let ⟨_, p, q⟩ := h pn xe tk1 po; p.run pins s σ H D I q⟩)
    (fun a oe cls d pn hz hv => ⟨fun pins s σ H D I h => let ⟨_, p, q⟩ := h oe pn hz hv; p.run pins s σ H D I q⟩)
end
/-! ### from a def's own promise -/
section
variable {P : Program} {w : World} {K : PySem.W.Frag} {mg : Str → Option Value} {base : Heap} {k : Nat} {f C : Addr} {fd : FuncData} {ps : List Str} {sp : Sp} {x m : Str}
theorem cal_mk (G : FnOk P w K mg base (L2.CX P w) k f fd ps sp) (hm : mg x = some (.ref f)) (kp : PySem.W.keepIn K (.ref f) = true) (b : Binds K fd ps []) : CalX P w K mg base k x sp :=
  ⟨f, fd, ps, [], [], sp, G, hm, kp, b, .nil, fun _ _ _ _ h => by rw [List.append_nil]; exact h⟩
theorem met_mk (c : Cls K C) (me : Meth K C m f) (G : FnOk P w K mg base (L2.CX P w) k f fd ps sp) (b : Binds K fd ps []) : MetX P w K mg base k C m sp :=
  ⟨f, fd, ps, [], [], sp, c, me, G, b, .nil, fun _ _ _ _ h => by rw [List.append_nil]; exact h⟩
theorem mak_mk (M : Mk K C f) (hm : mg x = some (.ref C)) (G : FnOk P w K mg base (L2.CX P w) k f fd ps sp) (b : Binds K fd ps []) : MakX P w K mg base k x C sp :=
  ⟨f, fd, ps, [], [], sp, M, hm, G, b, .nil, fun _ _ _ _ h => by rw [List.append_nil]; exact h⟩
theorem cal_false (hm : mg x = some (.ref f)) (kp : PySem.W.keepIn K (.ref f) = true) (b : Binds K fd ps []) : CalX P w K mg base 0 x (fun _ _ _ _ => False) :=
  cal_mk ⟨fun _ _ _ _ h => h.elim, fun _ _ _ _ _ _ _ _ _ _ _ _ _ h => h.elim⟩ hm kp b
theorem CalX.imp {sp' : Sp} (c : CalX P w K mg base k x sp) (h : ∀ vs H Q E, sp' vs H Q E → sp vs H Q E) : CalX P w K mg base k x sp' := by
  obtain ⟨f, fd, ps, ds, dvs, sp0, F, hm, kp, b, d, imp⟩ := c.ex
  exact ⟨f, fd, ps, ds, dvs, sp0, F, hm, kp, b, d, fun vs H Q E q => imp vs H Q E (h vs H Q E q)⟩
theorem MetX.imp {sp' : Sp} (c : MetX P w K mg base k C m sp) (h : ∀ vs H Q E, sp' vs H Q E → sp vs H Q E) : MetX P w K mg base k C m sp' := by
  obtain ⟨f, fd, ps, ds, dvs, sp0, F, hm, kp, b, d, imp⟩ := c.ex
  exact ⟨f, fd, ps, ds, dvs, sp0, F, hm, kp, b, d, fun vs H Q E q => imp vs H Q E (h vs H Q E q)⟩
/-- two promises of one def at once -/
theorem FnOk.or {sp' : Sp} (F : FnOk P w K mg base (L2.CX P w) k f fd ps sp) (G : FnOk P w K mg base (L2.CX P w) k f fd ps sp') : FnOk P w K mg base (L2.CX P w) k f fd ps (fun vs H Q E => sp vs H Q E ∨ sp' vs H Q E) :=
  ⟨fun vs H Q E h => h.elim (F.len vs H Q E) (G.len vs H Q E), fun A outer s H args us vs Q E hr he hb hv hs => hs.elim (F.run A outer s H args us vs Q E hr he hb hv) (G.run A outer s H args us vs Q E hr he hb hv)⟩
end
end Ew

set_option Elab.async false
set_option linter.all false
set_option maxRecDepth 100000
set_option maxHeartbeats 4000000
namespace K02
open PySem L2 Ew
def topS (i : Nat) : Stmt := PySem.Challenge.pw_everyworth_k02_built_semirings.main.body.getD i (.Pass ⟨0, 0, 0, 0⟩)
abbrev s_is_integer : Stmt := (topS 5)
theorem sc_is_integer : FnScope ["thing"] ["thing"] (defScope s_is_integer) := ⟨rfl, rfl, rfl, by decide +kernel, rfl, by decide +kernel, by decide +kernel⟩
abbrev s_is_natural : Stmt := (topS 6)
theorem sc_is_natural : FnScope ["thing"] ["thing"] (defScope s_is_natural) := ⟨rfl, rfl, rfl, by decide +kernel, rfl, by decide +kernel, by decide +kernel⟩
abbrev s_is_between : Stmt := (topS 7)
theorem sc_is_between : FnScope ["thing", "low", "high"] ["thing", "low", "high"] (defScope s_is_between) := ⟨rfl, rfl, rfl, by decide +kernel, rfl, by decide +kernel, by decide +kernel⟩
abbrev s_Numbers_zero : Stmt := (inClass (topS 10) 0)
theorem sc_Numbers_zero : FnScope ["self"] ["self"] (defScope s_Numbers_zero) := ⟨rfl, rfl, rfl, by decide +kernel, rfl, by decide +kernel, by decide +kernel⟩
abbrev s_Numbers_one : Stmt := (inClass (topS 10) 1)
theorem sc_Numbers_one : FnScope ["self"] ["self"] (defScope s_Numbers_one) := ⟨rfl, rfl, rfl, by decide +kernel, rfl, by decide +kernel, by decide +kernel⟩
abbrev s_Numbers_plus : Stmt := (inClass (topS 10) 2)
theorem sc_Numbers_plus : FnScope ["self", "a", "b"] ["self", "a", "b"] (defScope s_Numbers_plus) := ⟨rfl, rfl, rfl, by decide +kernel, rfl, by decide +kernel, by decide +kernel⟩
abbrev s_Numbers_times : Stmt := (inClass (topS 10) 3)
theorem sc_Numbers_times : FnScope ["self", "a", "b"] ["self", "a", "b"] (defScope s_Numbers_times) := ⟨rfl, rfl, rfl, by decide +kernel, rfl, by decide +kernel, by decide +kernel⟩
abbrev s_Numbers_star : Stmt := (inClass (topS 10) 4)
theorem sc_Numbers_star : FnScope ["self", "a"] ["self", "a"] (defScope s_Numbers_star) := ⟨rfl, rfl, rfl, by decide +kernel, rfl, by decide +kernel, by decide +kernel⟩
abbrev s_Numbers_is_element : Stmt := (inClass (topS 10) 5)
theorem sc_Numbers_is_element : FnScope ["self", "a"] ["self", "a"] (defScope s_Numbers_is_element) := ⟨rfl, rfl, rfl, by decide +kernel, rfl, by decide +kernel, by decide +kernel⟩
abbrev s_Costs_zero : Stmt := (inClass (topS 11) 0)
theorem sc_Costs_zero : FnScope ["self"] ["self"] (defScope s_Costs_zero) := ⟨rfl, rfl, rfl, by decide +kernel, rfl, by decide +kernel, by decide +kernel⟩
abbrev s_Costs_one : Stmt := (inClass (topS 11) 1)
theorem sc_Costs_one : FnScope ["self"] ["self"] (defScope s_Costs_one) := ⟨rfl, rfl, rfl, by decide +kernel, rfl, by decide +kernel, by decide +kernel⟩
abbrev s_Costs_plus : Stmt := (inClass (topS 11) 2)
theorem sc_Costs_plus : FnScope ["self", "a", "b"] ["self", "a", "b"] (defScope s_Costs_plus) := ⟨rfl, rfl, rfl, by decide +kernel, rfl, by decide +kernel, by decide +kernel⟩
abbrev s_Costs_times : Stmt := (inClass (topS 11) 3)
theorem sc_Costs_times : FnScope ["self", "a", "b"] ["self", "a", "b"] (defScope s_Costs_times) := ⟨rfl, rfl, rfl, by decide +kernel, rfl, by decide +kernel, by decide +kernel⟩
abbrev s_Costs_star : Stmt := (inClass (topS 11) 4)
theorem sc_Costs_star : FnScope ["self", "a"] ["self", "a"] (defScope s_Costs_star) := ⟨rfl, rfl, rfl, by decide +kernel, rfl, by decide +kernel, by decide +kernel⟩
abbrev s_Costs_is_element : Stmt := (inClass (topS 11) 5)
theorem sc_Costs_is_element : FnScope ["self", "a"] ["self", "a"] (defScope s_Costs_is_element) := ⟨rfl, rfl, rfl, by decide +kernel, rfl, by decide +kernel, by decide +kernel⟩
abbrev s_Levels_init : Stmt := (inClass (topS 12) 0)
theorem sc_Levels_init : FnScope ["self", "top"] ["self", "top"] (defScope s_Levels_init) := ⟨rfl, rfl, rfl, by decide +kernel, rfl, by decide +kernel, by decide +kernel⟩
abbrev s_Levels_zero : Stmt := (inClass (topS 12) 1)
theorem sc_Levels_zero : FnScope ["self"] ["self"] (defScope s_Levels_zero) := ⟨rfl, rfl, rfl, by decide +kernel, rfl, by decide +kernel, by decide +kernel⟩
abbrev s_Levels_one : Stmt := (inClass (topS 12) 2)
theorem sc_Levels_one : FnScope ["self"] ["self"] (defScope s_Levels_one) := ⟨rfl, rfl, rfl, by decide +kernel, rfl, by decide +kernel, by decide +kernel⟩
abbrev s_Levels_plus : Stmt := (inClass (topS 12) 3)
theorem sc_Levels_plus : FnScope ["self", "a", "b"] ["self", "a", "b"] (defScope s_Levels_plus) := ⟨rfl, rfl, rfl, by decide +kernel, rfl, by decide +kernel, by decide +kernel⟩
abbrev s_Levels_times : Stmt := (inClass (topS 12) 4)
theorem sc_Levels_times : FnScope ["self", "a", "b"] ["self", "a", "b"] (defScope s_Levels_times) := ⟨rfl, rfl, rfl, by decide +kernel, rfl, by decide +kernel, by decide +kernel⟩
abbrev s_Levels_star : Stmt := (inClass (topS 12) 5)
theorem sc_Levels_star : FnScope ["self", "a"] ["self", "a"] (defScope s_Levels_star) := ⟨rfl, rfl, rfl, by decide +kernel, rfl, by decide +kernel, by decide +kernel⟩
abbrev s_Levels_is_element : Stmt := (inClass (topS 12) 6)
theorem sc_Levels_is_element : FnScope ["self", "a"] ["self", "a"] (defScope s_Levels_is_element) := ⟨rfl, rfl, rfl, by decide +kernel, rfl, by decide +kernel, by decide +kernel⟩
abbrev s_Events_init : Stmt := (inClass (topS 13) 0)
theorem sc_Events_init : FnScope ["self", "count"] ["self", "count"] (defScope s_Events_init) := ⟨rfl, rfl, rfl, by decide +kernel, rfl, by decide +kernel, by decide +kernel⟩
abbrev s_Events_zero : Stmt := (inClass (topS 13) 1)
theorem sc_Events_zero : FnScope ["self"] ["self"] (defScope s_Events_zero) := ⟨rfl, rfl, rfl, by decide +kernel, rfl, by decide +kernel, by decide +kernel⟩
abbrev s_Events_one : Stmt := (inClass (topS 13) 2)
theorem sc_Events_one : FnScope ["self"] ["self"] (defScope s_Events_one) := ⟨rfl, rfl, rfl, by decide +kernel, rfl, by decide +kernel, by decide +kernel⟩
abbrev s_Events_plus : Stmt := (inClass (topS 13) 3)
theorem sc_Events_plus : FnScope ["self", "a", "b"] ["self", "a", "b"] (defScope s_Events_plus) := ⟨rfl, rfl, rfl, by decide +kernel, rfl, by decide +kernel, by decide +kernel⟩
abbrev s_Events_times : Stmt := (inClass (topS 13) 4)
theorem sc_Events_times : FnScope ["self", "a", "b"] ["self", "a", "b"] (defScope s_Events_times) := ⟨rfl, rfl, rfl, by decide +kernel, rfl, by decide +kernel, by decide +kernel⟩
abbrev s_Events_star : Stmt := (inClass (topS 13) 5)
theorem sc_Events_star : FnScope ["self", "a"] ["self", "a"] (defScope s_Events_star) := ⟨rfl, rfl, rfl, by decide +kernel, rfl, by decide +kernel, by decide +kernel⟩
abbrev s_Events_is_element : Stmt := (inClass (topS 13) 6)
theorem sc_Events_is_element : FnScope ["self", "a"] ["self", "a"] (defScope s_Events_is_element) := ⟨rfl, rfl, rfl, by decide +kernel, rfl, by decide +kernel, by decide +kernel⟩
abbrev s_law_pot : Stmt := (topS 15)
theorem sc_law_pot : FnScope ["script", "seed", "cell"] ["script"] (defScope s_law_pot) := ⟨rfl, rfl, rfl, by decide +kernel, rfl, by decide +kernel, by decide +kernel⟩
abbrev s_law_next : Stmt := (topS 16)
theorem sc_law_next : FnScope ["pot", "limit", "cell", "found", "mixed"] ["pot", "limit"] (defScope s_law_next) := ⟨rfl, rfl, rfl, by decide +kernel, rfl, by decide +kernel, by decide +kernel⟩
abbrev s_law_is_int : Stmt := (topS 17)
theorem sc_law_is_int : FnScope ["value"] ["value"] (defScope s_law_is_int) := ⟨rfl, rfl, rfl, by decide +kernel, rfl, by decide +kernel, by decide +kernel⟩
abbrev s_law_same : Stmt := (topS 18)
theorem sc_law_same : FnScope ["found", "value", "k"] ["found", "value"] (defScope s_law_same) := ⟨rfl, rfl, rfl, by decide +kernel, rfl, by decide +kernel, by decide +kernel⟩
abbrev s_law_star : Stmt := (topS 19)
theorem sc_law_star : FnScope ["ring", "a", "e"] ["ring", "a"] (defScope s_law_star) := ⟨rfl, rfl, rfl, by decide +kernel, rfl, by decide +kernel, by decide +kernel⟩
abbrev s_law_refused : Stmt := (topS 20)
theorem sc_law_refused : FnScope ["kind", "size", "e"] ["kind", "size"] (defScope s_law_refused) := ⟨rfl, rfl, rfl, by decide +kernel, rfl, by decide +kernel, by decide +kernel⟩
abbrev s_law_axioms : Stmt := (topS 21)
theorem sc_law_axioms : FnScope ["ring", "a", "b", "c", "star"] ["ring", "a", "b", "c"] (defScope s_law_axioms) := ⟨rfl, rfl, rfl, by decide +kernel, rfl, by decide +kernel, by decide +kernel⟩
abbrev s_law_due : Stmt := (topS 22)
theorem sc_law_due : FnScope ["kind", "size", "a", "b"] ["kind", "size", "a", "b"] (defScope s_law_due) := ⟨rfl, rfl, rfl, by decide +kernel, rfl, by decide +kernel, by decide +kernel⟩
abbrev s_law_element : Stmt := (topS 23)
theorem sc_law_element : FnScope ["pot", "kind", "size"] ["pot", "kind", "size"] (defScope s_law_element) := ⟨rfl, rfl, rfl, by decide +kernel, rfl, by decide +kernel, by decide +kernel⟩
abbrev s_law : Stmt := (topS 24)
theorem sc_law : FnScope ["script", "pot", "kind", "size", "bits", "ring", "a", "b", "c", "bad", "thing", "x"] ["script"] (defScope s_law) := ⟨rfl, rfl, rfl, by decide +kernel, rfl, by decide +kernel, by decide +kernel⟩
local macro_rules | `(tactic| walk_at "len") => `(tactic| first | (intro h; obtain ⟨_, e, _⟩ := h; rw [e]; rfl) | (intro h; obtain ⟨_, _, e, _⟩ := h; rw [e]; rfl) | (intro h; obtain ⟨_, _, _, e, _⟩ := h; rw [e]; rfl) | (intro h; obtain ⟨_, _, _, _, e, _⟩ := h; rw [e]; rfl) | (intro h; obtain ⟨_, _, _, _, _, e, _⟩ := h; rw [e]; rfl) | (intro h; obtain ⟨_, _, _, _, _, _, e, _⟩ := h; rw [e]; rfl) | (intro h; obtain ⟨_, _, _, _, _, _, _, e, _⟩ := h; rw [e]; rfl) | (intro h; exact h.elim))
local macro_rules | `(tactic| walk_at "es") => `(tactic| repeat (first | (refine ⟨_, rfl, ?_⟩) | (refine ⟨_, _, rfl, rfl, ?_⟩)))
/-- the classes' places -/
structure Ad where
  WorthError : Addr
  InvalidArgument : Addr
  NoStar : Addr
  Numbers : Addr
  Costs : Addr
  Levels : Addr
  Events : Addr
structure ExX (K : PySem.W.Frag) (mg : Str → Option Value) (n : Str) (C : Addr) : Prop where
  g : mg n = some (.ref C)
  x : PySem.W.excIn K C [.type "ValueError", .type "Exception", .type "BaseException", .type "object"] "ValueError.__new__" = true
  k : PySem.W.keepIn K (.ref C) = true
  b : PySem.W.subIn K (.ref C) (.type "BaseException") = some true
  t : PySem.W.typeIn K (.ref C) = some (.type "type")
  c : ExcC K C
structure Txt (K : PySem.W.Frag) (mg : Str → Option Value) (ad : Ad) : Prop where
  z_isinstance : mg "isinstance" = none
  z_int : mg "int" = none
  z_bool : mg "bool" = none
  z_str : mg "str" = none
  z_list : mg "list" = none
  z_tuple : mg "tuple" = none
  z_min : mg "min" = none
  z_max : mg "max" = none
  z_abs : mg "abs" = none
  z_len : mg "len" = none
  z_range : mg "range" = none
  z_all : mg "all" = none
  g_MOST_EVENTS : ∃ t, mg "MOST_EVENTS" = some (.int 200 t)
  g_WorthError : mg "WorthError" = some (.ref ad.WorthError)
  g_InvalidArgument : mg "InvalidArgument" = some (.ref ad.InvalidArgument)
  g_NoStar : mg "NoStar" = some (.ref ad.NoStar)
  x_InvalidArgument : PySem.W.excIn K ad.InvalidArgument [.type "ValueError", .type "Exception", .type "BaseException", .type "object"] "ValueError.__new__" = true
  x_NoStar : PySem.W.excIn K ad.NoStar [.type "ValueError", .type "Exception", .type "BaseException", .type "object"] "ValueError.__new__" = true
  k_InvalidArgument : PySem.W.keepIn K (.ref ad.InvalidArgument) = true
  k_NoStar : PySem.W.keepIn K (.ref ad.NoStar) = true
  b_InvalidArgument : PySem.W.subIn K (.ref ad.InvalidArgument) (.type "BaseException") = some true
  b_NoStar : PySem.W.subIn K (.ref ad.NoStar) (.type "BaseException") = some true
  t_InvalidArgument : PySem.W.typeIn K (.ref ad.InvalidArgument) = some (.type "type")
  t_NoStar : PySem.W.typeIn K (.ref ad.NoStar) = some (.type "type")
  ec_InvalidArgument : ExcC K ad.InvalidArgument
  ec_NoStar : ExcC K ad.NoStar
  em_InvalidArgument : PySem.W.exmOne K (.ref ad.InvalidArgument) (.ref ad.WorthError) = some true
  em_NoStar : PySem.W.exmOne K (.ref ad.NoStar) (.ref ad.WorthError) = some true
  ki_InvalidArgument : PySem.W.kitOne K (.ref ad.InvalidArgument) (.ref ad.InvalidArgument) = some true
  ki_NoStar : PySem.W.kitOne K (.ref ad.NoStar) (.ref ad.NoStar) = some true
  c_Levels : Cls K ad.Levels
  c_Events : Cls K ad.Events
  nT_Levels : NoAttr K ad.Levels "_top"
  nA_Events : NoAttr K ad.Events "_all_bits"

/-! ### things and numbers -/
def isI : V → Bool
  | .int _ => true
  | _ => false
/-- a thing whose type isinstance tells -/
inductive Thg (H : Hp) : V → Prop where
  | non : Thg H .non
  | bl (b : Bool) : Thg H (.bl b)
  | int (i : Int) : Thg H (.int i)
  | str (x : Str) : Thg H (.str x)
  | lst {a : Addr} {xs : List V} (e : H a = some (.lst xs)) : Thg H (.ref a)
  | tup {a : Addr} {xs : List V} (e : H a = some (.tup xs)) : Thg H (.ref a)
/-- (isinstance(x, int), isinstance(x, bool)) -/
theorem thg_ty {K : PySem.W.Frag} {H : Hp} {x : V} (h : Thg H x) : ∃ t, TyX K H x t ∧ (∃ b1 b2, PySem.W.kitOne K t (.type "int") = some b1 ∧ PySem.W.kitOne K t (.type "bool") = some b2 ∧ (b1 && !b2) = isI x ∧ (b1 = false → isI x = false)) := by
  cases h with
  | non => exact ⟨_, .base .non, false, false, kit_ty (by decide +kernel), kit_ty (by decide +kernel), rfl, fun _ => rfl⟩
  | bl b => exact ⟨_, .base (.bl b), true, true, kit_ty (by decide +kernel), kit_ty (by decide +kernel), rfl, fun _ => rfl⟩
  | int i => exact ⟨_, .base (.int i), true, false, kit_ty (by decide +kernel), kit_ty (by decide +kernel), rfl, fun z => by cases z⟩
  | str b => exact ⟨_, .base (.str b), false, false, kit_ty (by decide +kernel), kit_ty (by decide +kernel), rfl, fun _ => rfl⟩
  | lst e => exact ⟨_, .base (.lst e), false, false, kit_ty (by decide +kernel), kit_ty (by decide +kernel), rfl, fun _ => rfl⟩
  | tup e => exact ⟨_, .base (.tup e), false, false, kit_ty (by decide +kernel), kit_ty (by decide +kernel), rfl, fun _ => rfl⟩
def spIsInt : Sp := fun vs H Q _ => ∃ x, vs = [x] ∧ Thg H x ∧ Q (.bl (isI x)) H
def natV : V → Bool
  | .int i => decide (0 ≤ i)
  | _ => false
def betV (lo hi : Int) : V → Bool
  | .int i => decide (lo ≤ i ∧ i ≤ hi)
  | _ => false
def spIsNat : Sp := fun vs H Q _ => ∃ x, vs = [x] ∧ Thg H x ∧ Q (.bl (natV x)) H
def spIsBet : Sp := fun vs H Q _ => ∃ x lo hi, vs = [x, .int lo, .int hi] ∧ Thg H x ∧ Q (.bl (betV lo hi x)) H
section
variable {P : Program} {w : World} {K : PySem.W.Frag} {mg : Str → Option Value} {base : Heap} {ad : Ad}
theorem ok_is_integer  {f : Addr} {fd : FuncData} (F : Fun K "is_integer" "is_integer" s_is_integer f fd) (T : Txt K mg ad) : FnOk P w K mg base (L2.CX P w) 1 f fd ["thing"] (spIsInt) := by
  refine F.okX sc_is_integer (fun vs H Q E => ?_) (fun cdv A outer s H vs Q E hr h => ?_)
  · walk_at "len"
  ·
    obtain ⟨x, rfl, hx, k⟩ := h
    refine ⟨_, (pss_one (ps_ret (pe_and (pe_callB call_isi (by rfl) T.z_isinstance (by decide +kernel) (pa_cons (pv 0) (pa_cons (pe_bltn (v := .ty "int") (by rfl) T.z_int (by decide +kernel) rfl) pa_nil))) (pe_one (pe_not (pe_callB call_isi (by rfl) T.z_isinstance (by decide +kernel) (pa_cons (pv 0) (pa_cons (pe_bltn (v := .ty "bool") (by rfl) T.z_bool (by decide +kernel) rfl) pa_nil)))))))), ?_⟩
    obtain ⟨t, ty, b1, b2, e1, e2, e3, e4⟩ := thg_ty (K := K) hx
    refine ⟨_, rfl, _, _, _, _, b1, rfl, .ty _, ty, e1, b1, rfl, ?_⟩
    refine ite2 (fun c => ?_) (fun c => ?_)
    · refine ⟨_, rfl, _, _, _, _, b2, rfl, .ty _, ty, e2, b2, rfl, ?_⟩
      subst c
      rw [Bool.true_and] at e3
      rw [e3]
      exact k
    · have c' : b1 = false := by simpa using c
      have := e4 c'
      rw [this] at k
      exact k
theorem ok_is_natural (c_is_integer : CalX P w K mg base 1 "is_integer" spIsInt) {f : Addr} {fd : FuncData} (F : Fun K "is_natural" "is_natural" s_is_natural f fd) (T : Txt K mg ad) : FnOk P w K mg base (L2.CX P w) 2 f fd ["thing"] (spIsNat) := by
  refine F.okX sc_is_natural (fun vs H Q E => ?_) (fun cdv A outer s H vs Q E hr h => ?_)
  · walk_at "len"
  ·
    obtain ⟨x, rfl, hx, k⟩ := h
    refine ⟨_, (pss_one (ps_ret (pe_and (pc_call c_is_integer hr (by first | decide | omega) (takes_of rfl rfl rfl rfl) (by rfl) (pa_cons (pv 0) pa_nil)) (pe_one (pe_cmpR op_ge (pv 0) pe_int (nomark _)))))), ?_⟩
    refine ⟨_, rfl, _, rfl, hx, _, rfl, ?_⟩
    refine ite2 (fun c => ?_) (fun c => ?_)
    · cases x <;> first | exact absurd c Bool.false_ne_true | skip
      exact ⟨_, rfl, _, _, rfl, rfl, k⟩
    · cases x <;> first | exact k | exact absurd rfl c
theorem ok_is_between (c_is_integer : CalX P w K mg base 1 "is_integer" spIsInt) {f : Addr} {fd : FuncData} (F : Fun K "is_between" "is_between" s_is_between f fd) (T : Txt K mg ad) : FnOk P w K mg base (L2.CX P w) 2 f fd ["thing", "low", "high"] (spIsBet) := by
  refine F.okX sc_is_between (fun vs H Q E => ?_) (fun cdv A outer s H vs Q E hr h => ?_)
  · walk_at "len"
  ·
    obtain ⟨x, lo, hi, rfl, hx, k⟩ := h
    refine ⟨_, (pss_one (ps_ret (pe_and (pc_call c_is_integer hr (by first | decide | omega) (takes_of rfl rfl rfl rfl) (by rfl) (pa_cons (pv 0) pa_nil)) (pe_one (pe_chain op_le op_le (pv 1) (pv 0) (pv 2)))))), ?_⟩
    refine ⟨_, rfl, _, rfl, hx, _, rfl, ?_⟩
    refine ite2 (fun c => ?_) (fun c => ?_)
    · cases x <;> first | exact absurd c Bool.false_ne_true | skip
      rename_i i
      refine ⟨_, rfl, _, rfl, _, _, rfl, rfl, _, rfl, ?_⟩
      refine ite2 (fun c1 => ?_) (fun c1 => ?_)
      · refine ⟨_, rfl, _, _, rfl, rfl, ?_⟩
        have c1' : lo ≤ i := by simpa using c1
        have e : betV lo hi (.int i) = decide (i ≤ hi) := by simp [betV, c1']
        rw [e] at k
        exact k
      · have c1' : ¬ lo ≤ i := by simpa using c1
        have e : betV lo hi (.int i) = false := by simp [betV, c1']
        rw [e] at k
        exact k
    · cases x <;> first | exact k | exact absurd rfl c

/-! ### a semiring object: what its methods promise -/
/-- plus, times: of elements x, y of the object at p (class C, fields fs) -/
def spBin (C : Addr) (fs : List (Str × V)) (el : V → Prop) (f : V → V → V) : Sp := fun vs H Q _ => ∃ p dx x y, vs = [.ref p, x, y] ∧ H p = some (.ins C dx fs) ∧ el x ∧ el y ∧ Q (f x y) H
def spNul (C : Addr) (fs : List (Str × V)) (z : V) : Sp := fun vs H Q _ => ∃ p dx, vs = [.ref p] ∧ H p = some (.ins C dx fs) ∧ Q z H
def spSt (C ns : Addr) (fs : List (Str × V)) (el : V → Prop) (st : V → Option V) : Sp := fun vs H Q E => ∃ p dx x, vs = [.ref p, x] ∧ H p = some (.ins C dx fs) ∧ el x ∧ (∀ s, st x = some s → Q s H) ∧ (st x = none → E (.ref ns) none H)
def spEl (C : Addr) (fs : List (Str × V)) (t : V → Bool) : Sp := fun vs H Q _ => ∃ p dx x, vs = [.ref p, x] ∧ H p = some (.ins C dx fs) ∧ Thg H x ∧ Q (.bl (t x)) H
/-- a number of at least 0 below 2 ^ n -/
def Nm (n : Nat) (v : V) : Prop := ∃ i : Int, v = .int i ∧ 0 ≤ i ∧ i.natAbs < 2 ^ n
def addV : V → V → V
  | .int i, .int j => .int (i + j)
  | x, _ => x
def mulV : V → V → V
  | .int i, .int j => .int (i * j)
  | x, _ => x
def st0V : V → Option V
  | .int i => if i = 0 then some (.int 1) else none
  | _ => none
theorem ok_Numbers_zero  {f : Addr} {fd : FuncData} (F : Fun K "zero" "Numbers.zero" s_Numbers_zero f fd) (T : Txt K mg ad) : FnOk P w K mg base (L2.CX P w) 1 f fd ["self"] (spNul ad.Numbers [] (.int 0)) := by
  refine F.okX sc_Numbers_zero (fun vs H Q E => ?_) (fun cdv A outer s H vs Q E hr h => ?_)
  · walk_at "len"
  ·
    obtain ⟨p, dx, rfl, hp, k⟩ := h
    refine ⟨_, (pss_one (ps_ret pe_int)), ?_⟩
    exact k
theorem ok_Numbers_one  {f : Addr} {fd : FuncData} (F : Fun K "one" "Numbers.one" s_Numbers_one f fd) (T : Txt K mg ad) : FnOk P w K mg base (L2.CX P w) 1 f fd ["self"] (spNul ad.Numbers [] (.int 1)) := by
  refine F.okX sc_Numbers_one (fun vs H Q E => ?_) (fun cdv A outer s H vs Q E hr h => ?_)
  · walk_at "len"
  ·
    obtain ⟨p, dx, rfl, hp, k⟩ := h
    refine ⟨_, (pss_one (ps_ret pe_int)), ?_⟩
    exact k
theorem ok_Numbers_plus  {f : Addr} {fd : FuncData} (F : Fun K "plus" "Numbers.plus" s_Numbers_plus f fd) (T : Txt K mg ad) : FnOk P w K mg base (L2.CX P w) 1 f fd ["self", "a", "b"] (spBin ad.Numbers [] (Nm 400) addV) := by
  refine F.okX sc_Numbers_plus (fun vs H Q E => ?_) (fun cdv A outer s H vs Q E hr h => ?_)
  · walk_at "len"
  ·
    obtain ⟨p, dx, x, y, rfl, hp, ⟨i, rfl, hi, bi⟩, ⟨j, rfl, hj, bj⟩, k⟩ := h
    refine ⟨_, (pss_one (ps_ret (pe_op op_add (pv 1) (pv 2)))), ?_⟩
    exact ⟨_, rfl, _, rfl, _, _, rfl, rfl, k⟩
theorem ok_Numbers_times  {f : Addr} {fd : FuncData} (F : Fun K "times" "Numbers.times" s_Numbers_times f fd) (T : Txt K mg ad) : FnOk P w K mg base (L2.CX P w) 1 f fd ["self", "a", "b"] (spBin ad.Numbers [] (Nm 400) mulV) := by
  refine F.okX sc_Numbers_times (fun vs H Q E => ?_) (fun cdv A outer s H vs Q E hr h => ?_)
  · walk_at "len"
  ·
    obtain ⟨p, dx, x, y, rfl, hp, ⟨i, rfl, hi, bi⟩, ⟨j, rfl, hj, bj⟩, k⟩ := h
    refine ⟨_, (pss_one (ps_ret (pe_op op_mulW (pv 1) (pv 2)))), ?_⟩
    exact ⟨_, rfl, _, rfl, _, _, rfl, rfl, wide_mul bi bj (by decide) (by decide) (by decide), k⟩
theorem ok_Numbers_star  {f : Addr} {fd : FuncData} (F : Fun K "star" "Numbers.star" s_Numbers_star f fd) (T : Txt K mg ad) : FnOk P w K mg base (L2.CX P w) 1 f fd ["self", "a"] (spSt ad.Numbers ad.NoStar [] (Nm 400) st0V) := by
  refine F.okX sc_Numbers_star (fun vs H Q E => ?_) (fun cdv A outer s H vs Q E hr h => ?_)
  · walk_at "len"
  ·
    obtain ⟨p, dx, x, rfl, hp, ⟨i, rfl, hi, bi⟩, k1, k2⟩ := h
    refine ⟨_, (pss_cons (ps_if (pt_cmpR op_ne (pv 1) pe_int (nomark _)) (pss_one (ps_raise rfl (takes_of rfl rfl rfl rfl) (pmk_own PySem.F.excBase_ValueError T.x_NoStar T.g_NoStar T.k_NoStar (raises_own T.b_NoStar T.t_NoStar) (by rfl)))) pss_nil)
      (pss_one (ps_ret pe_int))), ?_⟩
    refine ⟨_, rfl, rfl, _, rfl, ?_⟩
    by_cases c : i = 0
    · subst c
      refine iteF ?_
      exact k1 _ rfl
    · have e : (!decide (V.int i = V.int 0)) = true := by simp [c]
      rw [e]
      refine iteT ?_
      exact k2 (by simp [st0V, c])
theorem ok_Numbers_is_element (c_is_natural : CalX P w K mg base 2 "is_natural" spIsNat) {f : Addr} {fd : FuncData} (F : Fun K "is_element" "Numbers.is_element" s_Numbers_is_element f fd) (T : Txt K mg ad) : FnOk P w K mg base (L2.CX P w) 3 f fd ["self", "a"] (spEl ad.Numbers [] natV) := by
  refine F.okX sc_Numbers_is_element (fun vs H Q E => ?_) (fun cdv A outer s H vs Q E hr h => ?_)
  · walk_at "len"
  ·
    obtain ⟨p, dx, x, rfl, hp, hx, k⟩ := h
    refine ⟨_, (pss_one (ps_ret (pc_call c_is_natural hr (by first | decide | omega) (takes_of rfl rfl rfl rfl) (by rfl) (pa_cons (pv 1) pa_nil)))), ?_⟩
    exact ⟨_, rfl, _, rfl, hx, k⟩
/-! costs -/
def Cs (v : V) : Prop := v = .non ∨ ∃ i : Int, v = .int i ∧ 0 ≤ i
def minV : V → V → V
  | .non, y => y
  | x, .non => x
  | .int i, .int j => .int (if j < i then j else i)
  | x, _ => x
def csV : V → V → V
  | .int i, .int j => .int (i + j)
  | _, _ => .non
def costE : V → Bool
  | .non => true
  | x => natV x
theorem ok_Costs_zero  {f : Addr} {fd : FuncData} (F : Fun K "zero" "Costs.zero" s_Costs_zero f fd) (T : Txt K mg ad) : FnOk P w K mg base (L2.CX P w) 1 f fd ["self"] (spNul ad.Costs [] .non) := by
  refine F.okX sc_Costs_zero (fun vs H Q E => ?_) (fun cdv A outer s H vs Q E hr h => ?_)
  · walk_at "len"
  ·
    obtain ⟨p, dx, rfl, hp, k⟩ := h
    refine ⟨_, (pss_one (ps_ret pe_non)), ?_⟩
    exact k
theorem ok_Costs_one  {f : Addr} {fd : FuncData} (F : Fun K "one" "Costs.one" s_Costs_one f fd) (T : Txt K mg ad) : FnOk P w K mg base (L2.CX P w) 1 f fd ["self"] (spNul ad.Costs [] (.int 0)) := by
  refine F.okX sc_Costs_one (fun vs H Q E => ?_) (fun cdv A outer s H vs Q E hr h => ?_)
  · walk_at "len"
  ·
    obtain ⟨p, dx, rfl, hp, k⟩ := h
    refine ⟨_, (pss_one (ps_ret pe_int)), ?_⟩
    exact k
theorem ok_Costs_plus  {f : Addr} {fd : FuncData} (F : Fun K "plus" "Costs.plus" s_Costs_plus f fd) (T : Txt K mg ad) : FnOk P w K mg base (L2.CX P w) 1 f fd ["self", "a", "b"] (spBin ad.Costs [] Cs minV) := by
  refine F.okX sc_Costs_plus (fun vs H Q E => ?_) (fun cdv A outer s H vs Q E hr h => ?_)
  · walk_at "len"
  ·
    obtain ⟨p, dx, x, y, rfl, hp, hx, hy, k⟩ := h
    refine ⟨_, (pss_cons (ps_if (pt_cmpR op_isN (pv 1) pe_non (nomark _)) (pss_one (ps_ret (pv 2))) pss_nil)
      (pss_cons (ps_if (pt_cmpR op_isN (pv 2) pe_non (nomark _)) (pss_one (ps_ret (pv 1))) pss_nil)
      (pss_one (ps_ret (pe_callB (call_min2 rfl) (by rfl) T.z_min (by decide +kernel) (pa_cons (pv 1) (pa_cons (pv 2) pa_nil))))))), ?_⟩
    rcases hx with rfl | ⟨i, rfl, hi⟩
    · refine ⟨_, rfl, rfl, _, rfl, iteT ⟨_, rfl, ?_⟩⟩
      exact k
    · refine ⟨_, rfl, rfl, _, rfl, iteF ?_⟩
      rcases hy with rfl | ⟨j, rfl, hj⟩
      · refine ⟨_, rfl, rfl, _, rfl, iteT ⟨_, rfl, k⟩⟩
      · exact ⟨_, rfl, rfl, _, rfl, iteF ⟨_, rfl, _, rfl, _, _, rfl, k⟩⟩
theorem ok_Costs_times  {f : Addr} {fd : FuncData} (F : Fun K "times" "Costs.times" s_Costs_times f fd) (T : Txt K mg ad) : FnOk P w K mg base (L2.CX P w) 1 f fd ["self", "a", "b"] (spBin ad.Costs [] Cs csV) := by
  refine F.okX sc_Costs_times (fun vs H Q E => ?_) (fun cdv A outer s H vs Q E hr h => ?_)
  · walk_at "len"
  ·
    obtain ⟨p, dx, x, y, rfl, hp, hx, hy, k⟩ := h
    refine ⟨_, (pss_cons (ps_if (PW.pt (pw_or (pt_cmpR op_isN (pv 1) pe_non (nomark _)) (pw_or1 (pt_cmpR op_isN (pv 2) pe_non (nomark _))))) (pss_one (ps_ret pe_non)) pss_nil)
      (pss_one (ps_ret (pe_op op_add (pv 1) (pv 2))))), ?_⟩
    rcases hx with rfl | ⟨i, rfl, hi⟩
    · exact ⟨_, rfl, rfl, _, rfl, iteT (iteT k)⟩
    · refine ⟨_, rfl, rfl, _, rfl, iteF ?_⟩
      rcases hy with rfl | ⟨j, rfl, hj⟩
      · exact ⟨_, rfl, rfl, _, rfl, iteT k⟩
      · exact ⟨_, rfl, rfl, _, rfl, iteF ⟨_, rfl, _, rfl, _, _, rfl, rfl, k⟩⟩
theorem ok_Costs_star  {f : Addr} {fd : FuncData} (F : Fun K "star" "Costs.star" s_Costs_star f fd) (T : Txt K mg ad) : FnOk P w K mg base (L2.CX P w) 1 f fd ["self", "a"] (spSt ad.Costs ad.NoStar [] Cs (fun _ => some (.int 0))) := by
  refine F.okX sc_Costs_star (fun vs H Q E => ?_) (fun cdv A outer s H vs Q E hr h => ?_)
  · walk_at "len"
  ·
    obtain ⟨p, dx, x, rfl, hp, hx, k1, k2⟩ := h
    refine ⟨_, (pss_one (ps_ret pe_int)), ?_⟩
    exact k1 _ rfl
theorem ok_Costs_is_element (c_is_natural : CalX P w K mg base 2 "is_natural" spIsNat) {f : Addr} {fd : FuncData} (F : Fun K "is_element" "Costs.is_element" s_Costs_is_element f fd) (T : Txt K mg ad) : FnOk P w K mg base (L2.CX P w) 3 f fd ["self", "a"] (spEl ad.Costs [] costE) := by
  refine F.okX sc_Costs_is_element (fun vs H Q E => ?_) (fun cdv A outer s H vs Q E hr h => ?_)
  · walk_at "len"
  ·
    obtain ⟨p, dx, x, rfl, hp, hx, k⟩ := h
    refine ⟨_, (pss_one (ps_ret (pe_or (pe_cmpR op_isN (pv 1) pe_non (nomark _)) (pe_one (pc_call c_is_natural hr (by first | decide | omega) (takes_of rfl rfl rfl rfl) (by rfl) (pa_cons (pv 1) pa_nil)))))), ?_⟩
    refine ⟨_, rfl, rfl, _, rfl, ?_⟩
    by_cases c : x = .non
    · subst c
      exact iteT k
    · rw [decide_eq_false c]
      refine iteF ⟨_, rfl, _, rfl, hx, ?_⟩
      have e : costE x = natV x := by cases x <;> first | rfl | exact absurd rfl c
      rw [e] at k
      exact k
/-! levels, events -/
def Bt (t : Int) (v : V) : Prop := ∃ i : Int, v = .int i ∧ 0 ≤ i ∧ i ≤ t
def maxV : V → V → V
  | .int i, .int j => .int (if j > i then j else i)
  | x, _ => x
def mnV : V → V → V
  | .int i, .int j => .int (if j < i then j else i)
  | x, _ => x
def orV : V → V → V
  | .int i, .int j => .int (Builtin.bitOr i j)
  | x, _ => x
def andV : V → V → V
  | .int i, .int j => .int (Builtin.bitAnd i j)
  | x, _ => x
abbrev fT (t : Int) : List (Str × V) := putF "_top" (.int t) []
abbrev fA (t : Int) : List (Str × V) := putF "_all_bits" (.int t) []
theorem fT_l (t : Int) : (fT t).lookup ("_top" : Str) = some (.int t) := by rw [lookup_putF, if_pos rfl]
theorem fA_l (t : Int) : (fA t).lookup ("_all_bits" : Str) = some (.int t) := by rw [lookup_putF, if_pos rfl]
def spLevI (ad : Ad) : Sp := fun vs H Q E => ∃ p dx t, vs = [.ref p, .int t] ∧ H p = some (.ins ad.Levels dx []) ∧ (1 ≤ t → Q .non (upd H p (.ins ad.Levels dx (fT t)))) ∧ (t < 1 → E (.ref ad.InvalidArgument) none H)
def spEvI (ad : Ad) : Sp := fun vs H Q E => ∃ p dx t, vs = [.ref p, .int t] ∧ H p = some (.ins ad.Events dx []) ∧ (0 ≤ t ∧ t ≤ 200 → Q .non (upd H p (.ins ad.Events dx (fA (1 * 2 ^ t.toNat - 1))))) ∧ (t < 0 ∨ 200 < t → E (.ref ad.InvalidArgument) none H)
theorem ok_Levels_init  {f : Addr} {fd : FuncData} (F : Fun K "__init__" "Levels.__init__" s_Levels_init f fd) (T : Txt K mg ad) : FnOk P w K mg base (L2.CX P w) 1 f fd ["self", "top"] (spLevI ad) := by
  refine F.okX sc_Levels_init (fun vs H Q E => ?_) (fun cdv A outer s H vs Q E hr h => ?_)
  · walk_at "len"
  ·
    obtain ⟨p, dx, t, rfl, hp, k1, k2⟩ := h
    refine ⟨_, (pss_cons (ps_if (pt_cmpR op_lt (pv 1) pe_int (nomark _)) (pss_one (ps_raise rfl (takes_of rfl rfl rfl rfl) (pmk_own PySem.F.excBase_ValueError T.x_InvalidArgument T.g_InvalidArgument T.k_InvalidArgument (raises_own T.b_InvalidArgument T.t_InvalidArgument) (by rfl)))) pss_nil)
      (pss_one (ps_fld (pv 0) (pv 1) rfl))), ?_⟩
    refine ⟨_, rfl, _, _, rfl, rfl, _, rfl, ?_⟩
    refine ite2 (fun c => ?_) (fun c => ?_)
    · exact k2 (by simpa using c)
    · have c' : ¬ t < 1 := by simpa using c
      exact ⟨_, rfl, _, rfl, p, _, dx, _, rfl, hp, T.c_Levels, T.nT_Levels, (by show 0 < 1000; decide), k1 (by omega)⟩
theorem ok_Levels_zero {tp : Int} {f : Addr} {fd : FuncData} (F : Fun K "zero" "Levels.zero" s_Levels_zero f fd) (T : Txt K mg ad) : FnOk P w K mg base (L2.CX P w) 1 f fd ["self"] (spNul ad.Levels (fT tp) (.int 0)) := by
  refine F.okX sc_Levels_zero (fun vs H Q E => ?_) (fun cdv A outer s H vs Q E hr h => ?_)
  · walk_at "len"
  ·
    obtain ⟨p, dx, rfl, hp, k⟩ := h
    refine ⟨_, (pss_one (ps_ret pe_int)), ?_⟩
    exact k
theorem ok_Levels_one {tp : Int} {f : Addr} {fd : FuncData} (F : Fun K "one" "Levels.one" s_Levels_one f fd) (T : Txt K mg ad) : FnOk P w K mg base (L2.CX P w) 1 f fd ["self"] (spNul ad.Levels (fT tp) (.int tp)) := by
  refine F.okX sc_Levels_one (fun vs H Q E => ?_) (fun cdv A outer s H vs Q E hr h => ?_)
  · walk_at "len"
  ·
    obtain ⟨p, dx, rfl, hp, k⟩ := h
    refine ⟨_, (pss_one (ps_ret (pe_fld (pv 0) rfl))), ?_⟩
    exact ⟨_, rfl, p, _, dx, _, _, rfl, hp, T.c_Levels, T.nT_Levels, fT_l _, k⟩
theorem ok_Levels_plus {tp : Int} {f : Addr} {fd : FuncData} (F : Fun K "plus" "Levels.plus" s_Levels_plus f fd) (T : Txt K mg ad) : FnOk P w K mg base (L2.CX P w) 1 f fd ["self", "a", "b"] (spBin ad.Levels (fT tp) (Bt tp) maxV) := by
  refine F.okX sc_Levels_plus (fun vs H Q E => ?_) (fun cdv A outer s H vs Q E hr h => ?_)
  · walk_at "len"
  ·
    obtain ⟨p, dx, x, y, rfl, hp, ⟨i, rfl, hi, bi⟩, ⟨j, rfl, hj, bj⟩, k⟩ := h
    refine ⟨_, (pss_one (ps_ret (pe_callB (call_max2 rfl) (by rfl) T.z_max (by decide +kernel) (pa_cons (pv 1) (pa_cons (pv 2) pa_nil))))), ?_⟩
    exact ⟨_, rfl, _, rfl, _, _, rfl, k⟩
theorem ok_Levels_times {tp : Int} {f : Addr} {fd : FuncData} (F : Fun K "times" "Levels.times" s_Levels_times f fd) (T : Txt K mg ad) : FnOk P w K mg base (L2.CX P w) 1 f fd ["self", "a", "b"] (spBin ad.Levels (fT tp) (Bt tp) mnV) := by
  refine F.okX sc_Levels_times (fun vs H Q E => ?_) (fun cdv A outer s H vs Q E hr h => ?_)
  · walk_at "len"
  ·
    obtain ⟨p, dx, x, y, rfl, hp, ⟨i, rfl, hi, bi⟩, ⟨j, rfl, hj, bj⟩, k⟩ := h
    refine ⟨_, (pss_one (ps_ret (pe_callB (call_min2 rfl) (by rfl) T.z_min (by decide +kernel) (pa_cons (pv 1) (pa_cons (pv 2) pa_nil))))), ?_⟩
    exact ⟨_, rfl, _, rfl, _, _, rfl, k⟩
theorem ok_Levels_star {tp : Int} {f : Addr} {fd : FuncData} (F : Fun K "star" "Levels.star" s_Levels_star f fd) (T : Txt K mg ad) : FnOk P w K mg base (L2.CX P w) 1 f fd ["self", "a"] (spSt ad.Levels ad.NoStar (fT tp) (Bt tp) (fun _ => some (.int tp))) := by
  refine F.okX sc_Levels_star (fun vs H Q E => ?_) (fun cdv A outer s H vs Q E hr h => ?_)
  · walk_at "len"
  ·
    obtain ⟨p, dx, x, rfl, hp, hx, k1, k2⟩ := h
    refine ⟨_, (pss_one (ps_ret (pe_fld (pv 0) rfl))), ?_⟩
    exact ⟨_, rfl, p, _, dx, _, _, rfl, hp, T.c_Levels, T.nT_Levels, fT_l _, k1 _ rfl⟩
theorem ok_Levels_is_element {tp : Int} (c_is_between : CalX P w K mg base 2 "is_between" spIsBet) {f : Addr} {fd : FuncData} (F : Fun K "is_element" "Levels.is_element" s_Levels_is_element f fd) (T : Txt K mg ad) : FnOk P w K mg base (L2.CX P w) 3 f fd ["self", "a"] (spEl ad.Levels (fT tp) (betV 0 tp)) := by
  refine F.okX sc_Levels_is_element (fun vs H Q E => ?_) (fun cdv A outer s H vs Q E hr h => ?_)
  · walk_at "len"
  ·
    obtain ⟨p, dx, x, rfl, hp, hx, k⟩ := h
    refine ⟨_, (pss_one (ps_ret (pc_call c_is_between hr (by first | decide | omega) (takes_of rfl rfl rfl rfl) (by rfl) (pa_cons (pv 1) (pa_cons pe_int (pa_cons (pe_fld (pv 0) rfl) pa_nil)))))), ?_⟩
    exact ⟨_, rfl, _, rfl, p, _, dx, _, _, rfl, hp, T.c_Levels, T.nT_Levels, fT_l _, _, _, _, rfl, hx, k⟩
theorem ok_Events_init  {f : Addr} {fd : FuncData} (F : Fun K "__init__" "Events.__init__" s_Events_init f fd) (T : Txt K mg ad) : FnOk P w K mg base (L2.CX P w) 1 f fd ["self", "count"] (spEvI ad) := by
  refine F.okX sc_Events_init (fun vs H Q E => ?_) (fun cdv A outer s H vs Q E hr h => ?_)
  · walk_at "len"
  ·
    obtain ⟨p, dx, t, rfl, hp, k1, k2⟩ := h
    refine ⟨_, (pss_cons (ps_if (pt_not (pt_chain op_le op_le pe_int (pv 1) (pe_gint (by rfl) T.g_MOST_EVENTS))) (pss_one (ps_raise rfl (takes_of rfl rfl rfl rfl) (pmk_own PySem.F.excBase_ValueError T.x_InvalidArgument T.g_InvalidArgument T.k_InvalidArgument (raises_own T.b_InvalidArgument T.t_InvalidArgument) (by rfl)))) pss_nil)
      (pss_one (ps_fld (pv 0) (pe_op op_sub (pe_op op_shl pe_int (pv 1)) pe_int) rfl))), ?_⟩
    refine ⟨_, rfl, _, _, rfl, rfl, _, rfl, ?_⟩
    by_cases c0 : 0 ≤ t
    · rw [decide_eq_true c0]
      refine iteT ⟨_, _, rfl, rfl, _, rfl, ?_⟩
      by_cases c1 : t ≤ 200
      · rw [decide_eq_true c1]
        refine iteF ?_
        refine ⟨_, rfl, _, _, rfl, rfl, ⟨c0, by omega, by decide⟩, _, _, rfl, rfl, _, rfl, p, _, dx, _, rfl, hp, T.c_Events, T.nA_Events, (by show 0 < 1000; decide), k1 ⟨c0, c1⟩⟩
      · rw [decide_eq_false c1]
        exact iteT (k2 (.inr (by omega)))
    · rw [decide_eq_false c0]
      exact iteF ⟨_, rfl, iteT (k2 (.inl (by omega)))⟩
theorem ok_Events_zero {tp : Int} {f : Addr} {fd : FuncData} (F : Fun K "zero" "Events.zero" s_Events_zero f fd) (T : Txt K mg ad) : FnOk P w K mg base (L2.CX P w) 1 f fd ["self"] (spNul ad.Events (fA tp) (.int 0)) := by
  refine F.okX sc_Events_zero (fun vs H Q E => ?_) (fun cdv A outer s H vs Q E hr h => ?_)
  · walk_at "len"
  ·
    obtain ⟨p, dx, rfl, hp, k⟩ := h
    refine ⟨_, (pss_one (ps_ret pe_int)), ?_⟩
    exact k
theorem ok_Events_one {tp : Int} {f : Addr} {fd : FuncData} (F : Fun K "one" "Events.one" s_Events_one f fd) (T : Txt K mg ad) : FnOk P w K mg base (L2.CX P w) 1 f fd ["self"] (spNul ad.Events (fA tp) (.int tp)) := by
  refine F.okX sc_Events_one (fun vs H Q E => ?_) (fun cdv A outer s H vs Q E hr h => ?_)
  · walk_at "len"
  ·
    obtain ⟨p, dx, rfl, hp, k⟩ := h
    refine ⟨_, (pss_one (ps_ret (pe_fld (pv 0) rfl))), ?_⟩
    exact ⟨_, rfl, p, _, dx, _, _, rfl, hp, T.c_Events, T.nA_Events, fA_l _, k⟩
theorem ok_Events_plus {tp : Int} {f : Addr} {fd : FuncData} (F : Fun K "plus" "Events.plus" s_Events_plus f fd) (T : Txt K mg ad) : FnOk P w K mg base (L2.CX P w) 1 f fd ["self", "a", "b"] (spBin ad.Events (fA tp) (Bt tp) orV) := by
  refine F.okX sc_Events_plus (fun vs H Q E => ?_) (fun cdv A outer s H vs Q E hr h => ?_)
  · walk_at "len"
  ·
    obtain ⟨p, dx, x, y, rfl, hp, ⟨i, rfl, hi, bi⟩, ⟨j, rfl, hj, bj⟩, k⟩ := h
    refine ⟨_, (pss_one (ps_ret (pe_op op_or (pv 1) (pv 2)))), ?_⟩
    exact ⟨_, rfl, _, rfl, _, _, rfl, rfl, k⟩
theorem ok_Events_times {tp : Int} {f : Addr} {fd : FuncData} (F : Fun K "times" "Events.times" s_Events_times f fd) (T : Txt K mg ad) : FnOk P w K mg base (L2.CX P w) 1 f fd ["self", "a", "b"] (spBin ad.Events (fA tp) (Bt tp) andV) := by
  refine F.okX sc_Events_times (fun vs H Q E => ?_) (fun cdv A outer s H vs Q E hr h => ?_)
  · walk_at "len"
  ·
    obtain ⟨p, dx, x, y, rfl, hp, ⟨i, rfl, hi, bi⟩, ⟨j, rfl, hj, bj⟩, k⟩ := h
    refine ⟨_, (pss_one (ps_ret (pe_op op_and (pv 1) (pv 2)))), ?_⟩
    exact ⟨_, rfl, _, rfl, _, _, rfl, rfl, k⟩
theorem ok_Events_star {tp : Int} {f : Addr} {fd : FuncData} (F : Fun K "star" "Events.star" s_Events_star f fd) (T : Txt K mg ad) : FnOk P w K mg base (L2.CX P w) 1 f fd ["self", "a"] (spSt ad.Events ad.NoStar (fA tp) (Bt tp) (fun _ => some (.int tp))) := by
  refine F.okX sc_Events_star (fun vs H Q E => ?_) (fun cdv A outer s H vs Q E hr h => ?_)
  · walk_at "len"
  ·
    obtain ⟨p, dx, x, rfl, hp, hx, k1, k2⟩ := h
    refine ⟨_, (pss_one (ps_ret (pe_fld (pv 0) rfl))), ?_⟩
    exact ⟨_, rfl, p, _, dx, _, _, rfl, hp, T.c_Events, T.nA_Events, fA_l _, k1 _ rfl⟩
theorem ok_Events_is_element {tp : Int} (c_is_between : CalX P w K mg base 2 "is_between" spIsBet) {f : Addr} {fd : FuncData} (F : Fun K "is_element" "Events.is_element" s_Events_is_element f fd) (T : Txt K mg ad) : FnOk P w K mg base (L2.CX P w) 3 f fd ["self", "a"] (spEl ad.Events (fA tp) (betV 0 tp)) := by
  refine F.okX sc_Events_is_element (fun vs H Q E => ?_) (fun cdv A outer s H vs Q E hr h => ?_)
  · walk_at "len"
  ·
    obtain ⟨p, dx, x, rfl, hp, hx, k⟩ := h
    refine ⟨_, (pss_one (ps_ret (pc_call c_is_between hr (by first | decide | omega) (takes_of rfl rfl rfl rfl) (by rfl) (pa_cons (pv 1) (pa_cons pe_int (pa_cons (pe_fld (pv 0) rfl) pa_nil)))))), ?_⟩
    exact ⟨_, rfl, _, rfl, p, _, dx, _, _, rfl, hp, T.c_Events, T.nA_Events, fA_l _, _, _, _, rfl, hx, k⟩
end
end K02

set_option Elab.async false
set_option linter.all false
set_option maxRecDepth 100000
set_option maxHeartbeats 4000000
namespace K02
open PySem L2 Ew
local macro_rules | `(tactic| walk_at "len") => `(tactic| first | (intro h; obtain ⟨_, e, _⟩ := h; rw [e]; rfl) | (intro h; obtain ⟨_, _, e, _⟩ := h; rw [e]; rfl) | (intro h; obtain ⟨_, _, _, e, _⟩ := h; rw [e]; rfl) | (intro h; obtain ⟨_, _, _, _, e, _⟩ := h; rw [e]; rfl) | (intro h; obtain ⟨_, _, _, _, _, e, _⟩ := h; rw [e]; rfl) | (intro h; obtain ⟨_, _, _, _, _, _, e, _⟩ := h; rw [e]; rfl) | (intro h; obtain ⟨_, _, _, _, _, _, _, e, _⟩ := h; rw [e]; rfl) | (intro h; exact h.elim))
/-! ### the law's own draws -/
/-- all but what stands at a is as it was -/
def Fr1 (a : Addr) (H H' : Hp) : Prop := ∀ b o, b ≠ a → H b = some o → H' b = some o
theorem Fr1.refl (a : Addr) (H : Hp) : Fr1 a H H := fun _ _ _ h => h
theorem Fr1.trans {a : Addr} {H H1 H2 : Hp} (x : Fr1 a H H1) (y : Fr1 a H1 H2) : Fr1 a H H2 := fun b o n h => y b o n (x b o n h)
theorem Fr1.upd {a : Addr} {H H1 : Hp} {o : HO} (x : Fr1 a H H1) : Fr1 a H (upd H1 a o) := fun b u n h => by rw [upd_ne n]; exact x b u n h
theorem Fr1.of {a : Addr} {H H1 : Hp} (x : Same H H1) : Fr1 a H H1 := fun b o _ h => x b o h
theorem Fr1.new {a p : Addr} {H H1 : Hp} {o : HO} (x : Fr1 a H H1) (h : H p = none) : Fr1 a H (L2.upd H1 p o) := fun b u n e => by rw [upd_ne (ne_of_none e h)]; exact x b u n e
theorem same_new {p : Addr} {H H1 : Hp} {o : HO} (x : Same H H1) (h : H p = none) : Same H (L2.upd H1 p o) := fun b u e => by rw [upd_ne (ne_of_none e h)]; exact x b u e
/-- the pot: what is drawn from -/
def PotAt (H : Hp) (a : Addr) : Prop := ∃ (b : Addr) (ns : List Int) (i c sd : Int), H a = some (.lst [.ref b, .int i, .int c, .int sd]) ∧ H b = some (.lst (ns.map V.int)) ∧ b ≠ a ∧ 0 ≤ i ∧ 0 ≤ c ∧ 0 ≤ sd
theorem PotAt.same {H H' : Hp} {a : Addr} (p : PotAt H a) (s : Same H H') : PotAt H' a := by
  obtain ⟨b, ns, i, c, sd, h1, h2, h3, h4⟩ := p
  exact ⟨b, ns, i, c, sd, s _ _ h1, s _ _ h2, h3, h4⟩
theorem PotAt.some {H : Hp} {a : Addr} (p : PotAt H a) : ∃ o, H a = some o := by
  obtain ⟨b, ns, i, c, sd, h1, _⟩ := p
  exact ⟨_, h1⟩
def spPot (K : PySem.W.Frag) : Sp := fun vs H Q _ => ∃ (a : Addr) (ns : List Int), vs = [.ref a] ∧ SqL K H a (ns.map V.int) ∧ ns.length ≤ 63 ∧ ∀ H' p, Same H H' → H p = none → PotAt H' p → Q (.ref p) H'
def spNext : Sp := fun vs H Q _ => ∃ a lim, vs = [.ref a, .int lim] ∧ PotAt H a ∧ 0 < lim ∧ lim.natAbs < 2 ^ 250 ∧ ∀ H' r, Fr1 a H H' → PotAt H' a → 0 ≤ r → r < lim → Q (.int r) H'
section
variable {P : Program} {w : World} {K : PySem.W.Frag} {mg : Str → Option Value} {base : Heap} {ad : Ad}
theorem ok_law_pot  {f : Addr} {fd : FuncData} (F : Fun K "_law_pot" "_law_pot" s_law_pot f fd) (T : Txt K mg ad) : FnOk P w K mg base (L2.CX P w) 1 f fd ["script"] (spPot K) := by
  refine F.okX sc_law_pot (fun vs H Q E => ?_) (fun cdv A outer s H vs Q E hr h => ?_)
  · walk_at "len"
  ·
    obtain ⟨a, ns, rfl, hS, hl, k⟩ := h
    refine ⟨_, (pss_cons (ps_set (i := 1) sc_law_pot.nd rfl (by first | exact Or.inl rfl | exact Or.inr rfl) pe_int)
      (pss_cons (ps_for (passes_of rfl) rfl (pi_list (pv 0)) (pg_name (i := 2) sc_law_pot.nd rfl (by first | exact Or.inl rfl | exact Or.inr rfl)) (pss_one (ps_set (i := 1) sc_law_pot.nd rfl (by first | exact Or.inl rfl | exact Or.inr rfl) (pe_op op_mod (pe_callTy call_int1 (by rfl) T.z_int (by decide +kernel) (pa_cons (pe_op op_add (pe_op op_mul (pv 1) pe_int) (pv 2)) pa_nil)) pe_int))))
      (pss_one (ps_ret (pe_lst (pa_cons (pe_callTy call_list_of (by rfl) T.z_list (by decide +kernel) (pa_cons (pv 0) pa_nil)) (pa_cons pe_int (pa_cons pe_int (pa_cons (pv 1) pa_nil))))))))), ?_⟩
    refine ⟨_, rfl, a, rfl, ⟨_, hS⟩, for_list (K := K) (a := a) (xs := ns.map V.int) (fun i σ H2 => ∃ (sd : Int) (v : Option V), σ = [some (.ref a), some (.int sd), v] ∧ 0 ≤ sd ∧ H2 = H)
      ⟨1, none, rfl, by decide, rfl⟩ (fun i σ H2 _ ⟨_, _, _, _, e⟩ => by rw [e]; exact hS) ?_ ?_⟩
    · rintro i y σ H2 hi ⟨sd, v, rfl, hsd, rfl⟩
      obtain ⟨z, rfl⟩ : ∃ z, y = V.int z := by
        rw [List.getElem?_map] at hi
        cases e : ns[i]? with
        | none =>
          rw [e] at hi
          cases hi
        | some z =>
          rw [e] at hi
          exact ⟨z, (Option.some.inj hi).symm⟩
      refine ⟨_, rfl, _, _, rfl, rfl, .inr ⟨by decide, by decide⟩, _, rfl, _, _, rfl, rfl, .inl ⟨_, rfl, _, _, rfl, rfl, (by show (0 : Int) < 2147483647; decide), ?_⟩⟩
      exact ⟨_, _, rfl, Int.emod_nonneg _ (by decide), rfl⟩
    · rintro σ H2 ⟨sd, v, rfl, hsd, rfl⟩
      refine ⟨_, rfl, a, _, rfl, .inl hS, fun l hl1 => ⟨_, rfl, (by show 4 ≤ sizeLine; decide), fun p hp => ?_⟩⟩
      have npl : p ≠ l := by
        intro z
        subst z
        rw [upd_same] at hp
        cases hp
      have hp0 : H2 p = none := by rw [upd_ne npl] at hp; exact hp
      exact k _ p (same_new (same_new (Same.refl _) hl1) hp0) hp0 ⟨l, ns, 0, 0, sd, upd_same, by rw [upd_ne (Ne.symm npl), upd_same], Ne.symm npl, by decide, by decide, hsd⟩
theorem ok_law_next  {f : Addr} {fd : FuncData} (F : Fun K "_law_next" "_law_next" s_law_next f fd) (T : Txt K mg ad) : FnOk P w K mg base (L2.CX P w) 1 f fd ["pot", "limit"] (spNext) := by
  refine F.okX sc_law_next (fun vs H Q E => ?_) (fun cdv A outer s H vs Q E hr h => ?_)
  · walk_at "len"
  ·
    obtain ⟨a, lim, rfl, ⟨b, ns, i, c, sd, h1, h2, h3, h4, h5, h6⟩, hl0, hl1, k⟩ := h
    have hr1 : ∀ x : Int, 0 ≤ x % lim ∧ x % lim < lim := fun x => ⟨Int.emod_nonneg _ (by omega), Int.emod_lt_of_pos _ hl0⟩
    refine ⟨_, (C8.pss_cut (ps_if (PW.pt (pw_and (pt_cmpR op_eq (pe_ix ix_list (pv 0) pe_int (fun _ _ => rfl)) pe_int (nomark _)) (pw_and1 (pt_cmpR op_lt (pe_ix ix_list (pv 0) pe_int (fun _ _ => rfl)) (pe_callB call_len (by rfl) T.z_len (by decide +kernel) (pa_cons (pe_ix ix_list (pv 0) pe_int (fun _ _ => rfl)) pa_nil)) (nomark _))))) (pss_cons (ps_set (i := 2) sc_law_next.nd rfl (by first | exact Or.inl rfl | exact Or.inr rfl) (pe_callB call_abs (by rfl) T.z_abs (by decide +kernel) (pa_cons (pe_callTy call_int1 (by rfl) T.z_int (by decide +kernel) (pa_cons (pe_ix ix_list (pe_ix ix_list (pv 0) pe_int (fun _ _ => rfl)) (pe_ix ix_list (pv 0) pe_int (fun _ _ => rfl)) (fun _ _ => rfl)) pa_nil)) pa_nil)))
      (pss_cons (ps_asg (pe_op op_add (pe_ix ix_list (pv 0) pe_int (fun _ _ => rfl)) pe_int) (pg_sub (pv 0) pe_int set_list))
      (pss_cons (ps_if (pt_cmpR op_lt (pv 2) (pe_op op_pow pe_int pe_int) (nomark _)) (pss_one (ps_ret (pe_op op_mod (pe_callTy call_int1 (by rfl) T.z_int (by decide +kernel) (pa_cons (pv 2) pa_nil)) (pv 1)))) pss_nil)
      (pss_one (ps_asg (pv 2) (pg_sub (pv 0) pe_int set_list)))))) pss_nil)
      (C8.pss_cut (ps_if (pt_cmpR op_gt (pe_ix ix_list (pv 0) pe_int (fun _ _ => rfl)) pe_int (nomark _)) (pss_cons (ps_set (i := 3) sc_law_next.nd rfl (by first | exact Or.inl rfl | exact Or.inr rfl) (pe_op op_mod (pe_callTy call_int1 (by rfl) T.z_int (by decide +kernel) (pa_cons (pe_ix ix_list (pv 0) pe_int (fun _ _ => rfl)) pa_nil)) (pv 1)))
      (pss_cons (ps_asg (pe_op op_fdivW (pe_ix ix_list (pv 0) pe_int (fun _ _ => rfl)) (pv 1)) (pg_sub (pv 0) pe_int set_list))
      (pss_one (ps_ret (pv 3))))) pss_nil)
      (pss_cons (ps_asg (pe_op op_mod (pe_callTy call_int1 (by rfl) T.z_int (by decide +kernel) (pa_cons (pe_op op_add (pe_op op_mul (pe_ix ix_list (pv 0) pe_int (fun _ _ => rfl)) pe_int) pe_int) pa_nil)) pe_int) (pg_sub (pv 0) pe_int set_list))
      (pss_cons (ps_set (i := 4) sc_law_next.nd rfl (by first | exact Or.inl rfl | exact Or.inr rfl) (pe_op op_mod (pe_callTy call_int1 (by rfl) T.z_int (by decide +kernel) (pa_cons (pe_op op_add (pe_op op_mul (pe_ix ix_list (pv 0) pe_int (fun _ _ => rfl)) pe_int) (pe_op op_fdiv (pe_ix ix_list (pv 0) pe_int (fun _ _ => rfl)) pe_int)) pa_nil)) pe_int))
      (pss_one (ps_ret (pe_op op_mod (pe_callTy call_int1 (by rfl) T.z_int (by decide +kernel) (pa_cons (pv 4) pa_nil)) (pv 1)))))))), ?_⟩
    refine ⟨fun σ H' => ∃ (i' c' : Int) (v : Option V), σ = [some (.ref a), some (.int lim), v, none, none] ∧ H' a = some (.lst [.ref b, .int i', .int c', .int sd]) ∧ Fr1 a H H' ∧ 0 ≤ i' ∧ 0 ≤ c', ?_, ?_⟩
    · -- if pot[2] == 0 and pot[1] < len(pot[0])
      refine ⟨_, rfl, a, _, _, _, rfl, rfl, SqL.of h1, (by rfl), rfl, _, rfl, ?_⟩
      by_cases c0 : ¬ c = 0
      · have e : decide (V.int c = V.int 0) = false := by simp [c0]
        rw [e]
        refine iteF (iteF ?_)
        exact ⟨i, c, none, rfl, h1, Fr1.refl _ _, h4, h5⟩
      · have c0' : c = 0 := by omega
        subst c0'
        refine iteT ?_
        refine ⟨_, rfl, a, _, _, _, rfl, rfl, SqL.of h1, (by rfl), _, rfl, a, _, _, _, rfl, rfl, SqL.of h1, (by rfl), .ref b, ns.length, rfl, Or.inl ⟨_, SqL.of h2, by rw [List.length_map]⟩, _, _, rfl, rfl, _, rfl, ?_⟩
        by_cases c1 : ¬ i < (ns.length : Int)
        · rw [decide_eq_false c1]
          exact iteF ⟨i, 0, none, rfl, h1, Fr1.refl _ _, h4, h5⟩
        · have c1 : i < (ns.length : Int) := by omega
          rw [decide_eq_true c1]
          refine iteT ?_
          -- cell
          obtain ⟨z, hz⟩ : ∃ z, ns[i.toNat]? = some z := ⟨ns[i.toNat]'(by omega), List.getElem?_eq_getElem _⟩
          have hz' : (ns.map V.int)[i.toNat]? = some (.int z) := by rw [List.getElem?_map, hz]; rfl
          refine ⟨_, rfl, a, _, _, _, rfl, rfl, SqL.of h1, (by rfl), _, rfl, a, _, _, _, rfl, rfl, SqL.of h1, (by rfl), b, _, _, _, rfl, rfl, SqL.of h2, at_of (by omega) hz', .inl ⟨_, rfl, _, rfl, ?_⟩⟩
          have hcell : 0 ≤ (if z < 0 then -z else z) := by split <;> omega
          generalize (if z < 0 then -z else z) = cell at hcell ⊢
          -- pot[1] = pot[1] + 1
          refine ⟨_, rfl, a, _, _, _, rfl, rfl, SqL.of h1, (by rfl), _, _, rfl, rfl, _, rfl, a, _, _, 1, rfl, rfl, h1, (by rfl), ?_⟩
          -- if cell < 10 ** 18
          refine ⟨_, rfl, _, _, rfl, rfl, ⟨by decide, by decide, by decide⟩, _, _, rfl, rfl, _, rfl, ?_⟩
          refine ite2 (fun _ => ?_) (fun _ => ?_)
          · refine ⟨_, rfl, .inl ⟨_, rfl, _, rfl, _, _, rfl, rfl, hl0, ?_⟩⟩
            exact k _ _ (Fr1.refl _ _).upd ⟨b, ns, i + 1, 0, sd, upd_same, by rw [upd_ne h3]; exact h2, h3, by omega, by decide, h6⟩ (hr1 _).1 (hr1 _).2
          · refine ⟨_, rfl, _, rfl, a, _, _, 2, rfl, rfl, upd_same, (by rfl), ?_⟩
            exact ⟨i + 1, cell, _, rfl, upd_same, (Fr1.refl _ _).upd.upd, by omega, hcell⟩
    · rintro σ H1 ⟨i', c', v, rfl, g1, fr, hi', hc'⟩
      have g2 : H1 b = some (.lst (ns.map V.int)) := fr b _ h3 h2
      refine ⟨fun σ H' => ∃ (v v' : Option V), σ = [some (.ref a), some (.int lim), v, v', none] ∧ H' = H1, ?_, ?_⟩
      · -- if pot[2] > 0
        refine ⟨_, rfl, a, _, _, _, rfl, rfl, SqL.of g1, (by rfl), _, _, rfl, rfl, _, rfl, ?_⟩
        refine ite2 (fun _ => ?_) (fun _ => ?_)
        · refine ⟨_, rfl, a, _, _, _, rfl, rfl, SqL.of g1, (by rfl), .inl ⟨_, rfl, _, rfl, _, _, rfl, rfl, hl0, ?_⟩⟩
          refine ⟨_, rfl, a, _, _, _, rfl, rfl, SqL.of g1, (by rfl), _, rfl, _, _, rfl, rfl, wide_div hl0 hl1 (by decide) (by decide), _, rfl, a, _, _, 2, rfl, rfl, g1, (by rfl), _, rfl, ?_⟩
          exact k _ _ fr.upd ⟨b, ns, i', c' / lim, sd, upd_same, by rw [upd_ne h3]; exact g2, h3, hi', Int.ediv_nonneg hc' (by omega), h6⟩ (hr1 _).1 (hr1 _).2
        · exact ⟨v, none, rfl, rfl⟩
      · rintro σ H2 ⟨v, v', rfl, rfl⟩
        refine ⟨_, rfl, a, _, _, _, rfl, rfl, SqL.of g1, (by rfl), _, _, rfl, rfl, .inr ⟨by decide, by decide⟩, _, _, rfl, rfl, .inl ⟨_, rfl, _, _, rfl, rfl, (by show (0 : Int) < 2147483647; decide), _, rfl, a, _, _, 3, rfl, rfl, g1, (by rfl), ?_⟩⟩
        refine ⟨_, rfl, a, _, _, _, rfl, rfl, SqL.of upd_same, (by rfl), _, _, rfl, rfl, .inr ⟨by decide, by decide⟩, _, rfl, a, _, _, _, rfl, rfl, SqL.of upd_same, (by rfl), _, _, rfl, rfl, ⟨by decide, by decide⟩, _, _, rfl, rfl, .inl ⟨_, rfl, _, _, rfl, rfl, (by show (0 : Int) < 2147483629; decide), ?_⟩⟩
        refine ⟨_, rfl, .inl ⟨_, rfl, _, rfl, _, _, rfl, rfl, hl0, ?_⟩⟩
        exact k _ _ fr.upd ⟨b, ns, i', c', _, upd_same, by rw [upd_ne h3]; exact g2, h3, hi', hc', Int.emod_nonneg _ (by decide)⟩ (hr1 _).1 (hr1 _).2
end
/-! ### _law_is_int, _law_same -/
theorem rd_isi {K : PySem.W.Frag} {H : Hp} {x : V} {t : Value} {Q : VK} (T : String) (b : Bool) (ty : TyX K H x t) (e : PySem.W.kitOne K t (.type T) = some b) (q : Q (.bl b) H) : rIsi K [x, .ty T] H Q := ⟨x, _, t, _, b, rfl, .ty _, ty, e, q⟩
theorem yes_then {σ : L2.St} {H : Hp} {Q : Bool → Hp → Prop} (q : Q true H) : tYes σ H Q := q
def flatD : V → Bool
  | .non => true
  | .bl _ => true
  | .int _ => true
  | .str _ => true
  | _ => false
/-- x and y are the same data, at most n lists or tuples within one another -/
def SameD (H : Hp) : Nat → V → V → Prop
  | 0, x, y => flatD x = true ∧ x = y
  | n + 1, x, y => (flatD x = true ∧ x = y) ∨ ∃ (a b : Addr) (xs ys : List V), x = .ref a ∧ y = .ref b ∧ ((H a = some (.lst xs) ∧ H b = some (.lst ys)) ∨ (H a = some (.tup xs) ∧ H b = some (.tup ys))) ∧
      xs.length = ys.length ∧ xs.length ≤ 100000 ∧ ∀ (i : Nat) (u v : V), xs[i]? = some u → ys[i]? = some v → SameD H n u v
theorem SameD.mono {H H' : Hp} (s : Same H H') : ∀ {n : Nat} {x y : V}, SameD H n x y → SameD H' n x y
  | 0, _, _, h => h
  | n + 1, _, _, .inl h => .inl h
  | n + 1, _, _, .inr ⟨a, b, xs, ys, e1, e2, h, l1, l2, k⟩ => .inr ⟨a, b, xs, ys, e1, e2, h.elim (fun z => .inl ⟨s _ _ z.1, s _ _ z.2⟩) (fun z => .inr ⟨s _ _ z.1, s _ _ z.2⟩), l1, l2, fun i u v h1 h2 => (k i u v h1 h2).mono s⟩
theorem SameD.flat {H : Hp} {x : V} (h : flatD x = true) : ∀ {n : Nat}, SameD H n x x
  | 0 => ⟨h, rfl⟩
  | _ + 1 => .inl ⟨h, rfl⟩
def spRel (sm : Hp → V → V → Prop) : Sp := fun vs H Q _ => ∃ x y, vs = [x, y] ∧ sm H x y ∧ ∀ H', Same H H' → Q (.bl true) H'
def spSame (n : Nat) : Sp := fun vs H Q _ => ∃ x y, vs = [x, y] ∧ SameD H n x y ∧ ∀ H', Same H H' → Q (.bl true) H'
section
variable {P : Program} {w : World} {K : PySem.W.Frag} {mg : Str → Option Value} {base : Heap} {ad : Ad}
theorem ok_law_is_int  {f : Addr} {fd : FuncData} (F : Fun K "_law_is_int" "_law_is_int" s_law_is_int f fd) (T : Txt K mg ad) : FnOk P w K mg base (L2.CX P w) 1 f fd ["value"] (spIsInt) := by
  refine F.okX sc_law_is_int (fun vs H Q E => ?_) (fun cdv A outer s H vs Q E hr h => ?_)
  · walk_at "len"
  ·
    obtain ⟨x, rfl, hx, k⟩ := h
    refine ⟨_, (pss_one (ps_ret (pe_and (pe_callB call_isi (by rfl) T.z_isinstance (by decide +kernel) (pa_cons (pv 0) (pa_cons (pe_bltn (v := .ty "int") (by rfl) T.z_int (by decide +kernel) rfl) pa_nil))) (pe_one (pe_not (pe_callB call_isi (by rfl) T.z_isinstance (by decide +kernel) (pa_cons (pv 0) (pa_cons (pe_bltn (v := .ty "bool") (by rfl) T.z_bool (by decide +kernel) rfl) pa_nil)))))))), ?_⟩
    obtain ⟨t, ty, b1, b2, e1, e2, e3, e4⟩ := thg_ty (K := K) hx
    refine ⟨_, rfl, ⟨_, _, _, _, b1, rfl, .ty _, ty, e1, b1, rfl, ?_⟩⟩
    refine ite2 (fun c => ?_) (fun c => ?_)
    · refine ⟨_, rfl, ⟨_, _, _, _, b2, rfl, .ty _, ty, e2, b2, rfl, ?_⟩⟩
      subst c
      rw [Bool.true_and] at e3
      rw [e3]
      exact k
    · have c' : b1 = false := by simpa using c
      have := e4 c'
      rw [this] at k
      exact k
theorem scal_refl {x : V} (h : flatD x = true) : scal x x = true := by cases x <;> first | rfl | cases h
theorem ok_law_same {n lv : Nat} {sm : Hp → V → V → Prop} (hlv : 1 ≤ lv) (hm : ∀ H H' u v, Same H H' → sm H u v → sm H' u v) (hn : ∀ u v (H : Hp), SameD H n u v → (flatD u = true ∧ u = v) ∨ ∃ (a b : Addr) (xs ys : List V), u = .ref a ∧ v = .ref b ∧ ((H a = some (.lst xs) ∧ H b = some (.lst ys)) ∨ (H a = some (.tup xs) ∧ H b = some (.tup ys))) ∧ xs.length = ys.length ∧ xs.length ≤ 100000 ∧ ∀ (i : Nat) (u v : V), xs[i]? = some u → ys[i]? = some v → sm H u v) (c_law_is_int : CalX P w K mg base 1 "_law_is_int" spIsInt) (c_law_same : CalX P w K mg base lv "_law_same" (spRel sm)) {f : Addr} {fd : FuncData} (F : Fun K "_law_same" "_law_same" s_law_same f fd) (T : Txt K mg ad) : FnOk P w K mg base (L2.CX P w) (lv + 1) f fd ["found", "value"] (spSame n) := by
  refine F.okX sc_law_same (fun vs H Q E => ?_) (fun cdv A outer s H vs Q E hr h => ?_)
  · walk_at "len"
  ·
    obtain ⟨x, y, rfl, hxy, k⟩ := h
    refine ⟨_, (pss_cons (ps_if (pt_cmpR op_isN (pv 1) pe_non (nomark _)) (pss_one (ps_ret (pe_cmpR op_isN (pv 0) pe_non (nomark _)))) pss_nil)
      (pss_cons (ps_if (pt_val (pe_callB call_isi (by rfl) T.z_isinstance (by decide +kernel) (pa_cons (pv 1) (pa_cons (pe_bltn (v := .ty "bool") (by rfl) T.z_bool (by decide +kernel) rfl) pa_nil)))) (pss_one (ps_ret (pe_and (pe_callB call_isi (by rfl) T.z_isinstance (by decide +kernel) (pa_cons (pv 0) (pa_cons (pe_bltn (v := .ty "bool") (by rfl) T.z_bool (by decide +kernel) rfl) pa_nil))) (pe_one (pe_cmpR op_eq (pv 0) (pv 1) (nomark _)))))) pss_nil)
      (pss_cons (ps_if (pt_val (pe_callB call_isi (by rfl) T.z_isinstance (by decide +kernel) (pa_cons (pv 1) (pa_cons (pe_bltn (v := .ty "int") (by rfl) T.z_int (by decide +kernel) rfl) pa_nil)))) (pss_one (ps_ret (pe_and (pc_call c_law_is_int hr (by first | decide | omega) (takes_of rfl rfl rfl rfl) (by rfl) (pa_cons (pv 0) pa_nil)) (pe_one (pe_cmpR op_eq (pv 0) (pv 1) (nomark _)))))) pss_nil)
      (pss_cons (ps_if (pt_val (pe_callB call_isi (by rfl) T.z_isinstance (by decide +kernel) (pa_cons (pv 1) (pa_cons (pe_bltn (v := .ty "str") (by rfl) T.z_str (by decide +kernel) rfl) pa_nil)))) (pss_one (ps_ret (pe_and (pe_callB call_isi (by rfl) T.z_isinstance (by decide +kernel) (pa_cons (pv 0) (pa_cons (pe_bltn (v := .ty "str") (by rfl) T.z_str (by decide +kernel) rfl) pa_nil))) (pe_one (pe_cmpR op_eq (pv 0) (pv 1) (nomark _)))))) pss_nil)
      (pss_cons (ps_if (PW.pt (pw_or (pt_cmpR op_ne (pe_callB call_isi (by rfl) T.z_isinstance (by decide +kernel) (pa_cons (pv 1) (pa_cons (pe_bltn (v := .ty "list") (by rfl) T.z_list (by decide +kernel) rfl) pa_nil))) (pe_callB call_isi (by rfl) T.z_isinstance (by decide +kernel) (pa_cons (pv 0) (pa_cons (pe_bltn (v := .ty "list") (by rfl) T.z_list (by decide +kernel) rfl) pa_nil))) (nomark _)) (pw_or1 (pt_cmpR op_ne (pe_callB call_isi (by rfl) T.z_isinstance (by decide +kernel) (pa_cons (pv 1) (pa_cons (pe_bltn (v := .ty "tuple") (by rfl) T.z_tuple (by decide +kernel) rfl) pa_nil))) (pe_callB call_isi (by rfl) T.z_isinstance (by decide +kernel) (pa_cons (pv 0) (pa_cons (pe_bltn (v := .ty "tuple") (by rfl) T.z_tuple (by decide +kernel) rfl) pa_nil))) (nomark _))))) (pss_one (ps_ret pe_bl)) pss_nil)
      (pss_one (ps_ret (pe_and (pe_cmpR op_eq (pe_callB call_len (by rfl) T.z_len (by decide +kernel) (pa_cons (pv 0) pa_nil)) (pe_callB call_len (by rfl) T.z_len (by decide +kernel) (pa_cons (pv 1) pa_nil)) (nomark _)) (pe_one (pe_callB (cr_all rfl) (by rfl) T.z_all (by decide +kernel) (pa_cons (pe_lc (own := [("k", 2)]) (tt := tYes) rfl sc_law_same.nd (pi_range1 (by rfl) T.z_range (pa_cons (pe_callB call_len (by rfl) T.z_len (by decide +kernel) (pa_cons (pv 1) pa_nil)) pa_nil)) (blkOk_by (by kernel_rfl)) (fun _ _ _ _ _ => (pg_name (i := 2) sc_law_same.nd rfl (by first | exact Or.inl rfl | exact Or.inr rfl))) (fun _ _ _ _ _ => pts_nil) (fun _ _ _ _ _ => (pc_call c_law_same hr (by first | decide | omega) takes0 (by rfl) (pa_cons (pe_ix (kix_seq (K := K)) (pv 0) (pv 2) (fun _ _ => rfl)) (pa_cons (pe_ix (kix_seq (K := K)) (pv 1) (pv 2) (fun _ _ => rfl)) pa_nil))))) pa_nil))))))))))), ?_⟩
    have ni : ∀ {x : V} {b : Bool}, decide (x = x) = b → b = true := fun h => by rw [← h]; exact decide_eq_true rfl
    rcases hn _ _ _ hxy with ⟨hf, rfl⟩ | ⟨a, b, xs, ys, rfl, rfl, hab, hl, hl2, hs⟩
    · cases x with
      | non => exact ⟨_, rfl, rfl, _, rfl, iteT ⟨_, rfl, rfl, k _ (Same.refl _)⟩⟩
      | bl v =>
        refine ⟨_, rfl, rfl, _, rfl, iteF ⟨_, rfl, ⟨_, _, _, _, true, rfl, .ty _, (.base (.bl v)), (kit_ty (by decide +kernel)), _, rfl, iteT ⟨_, rfl, ⟨_, _, _, _, true, rfl, .ty _, (.base (.bl v)), (kit_ty (by decide +kernel)), _, rfl, iteT ⟨_, rfl, _, rfl, rfl, ?_⟩⟩⟩⟩⟩⟩
        rw [decide_eq_true rfl]
        exact k _ (Same.refl _)
      | int i =>
        refine ⟨_, rfl, rfl, _, rfl, iteF ⟨_, rfl, ⟨_, _, _, _, false, rfl, .ty _, (.base (.int i)), (kit_ty (by decide +kernel)), _, rfl, iteF ⟨_, rfl, ⟨_, _, _, _, true, rfl, .ty _, (.base (.int i)), (kit_ty (by decide +kernel)), _, rfl, iteT ⟨_, rfl, _, rfl, .int i, ⟨_, rfl, iteT ⟨_, rfl, _, rfl, rfl, ?_⟩⟩⟩⟩⟩⟩⟩⟩
        rw [decide_eq_true rfl]
        exact k _ (Same.refl _)
      | str z =>
        refine ⟨_, rfl, rfl, _, rfl, iteF ⟨_, rfl, ⟨_, _, _, _, false, rfl, .ty _, (.base (.str z)), (kit_ty (by decide +kernel)), _, rfl, iteF ⟨_, rfl, ⟨_, _, _, _, false, rfl, .ty _, (.base (.str z)), (kit_ty (by decide +kernel)), _, rfl, iteF ⟨_, rfl, ⟨_, _, _, _, true, rfl, .ty _, (.base (.str z)), (kit_ty (by decide +kernel)), _, rfl, iteT ⟨_, rfl, ⟨_, _, _, _, true, rfl, .ty _, (.base (.str z)), (kit_ty (by decide +kernel)), _, rfl, iteT ⟨_, rfl, _, rfl, rfl, ?_⟩⟩⟩⟩⟩⟩⟩⟩⟩⟩
        rw [decide_eq_true rfl]
        exact k _ (Same.refl _)
      | byt _ => cases hf
      | flt _ => cases hf
      | ref _ => cases hf
      | ty _ => cases hf
    · have core : ∀ (K2 : PySem.W.Frag), True := fun _ => trivial
      -- types
      have tyA : ∃ t l1 l2, TyX K H (.ref a) t ∧ TyX K H (.ref b) t ∧ PySem.W.kitOne K t (.type "bool") = some false ∧ PySem.W.kitOne K t (.type "int") = some false ∧ PySem.W.kitOne K t (.type "str") = some false ∧ PySem.W.kitOne K t (.type "list") = some l1 ∧ PySem.W.kitOne K t (.type "tuple") = some l2 := by
        rcases hab with ⟨h1, h2⟩ | ⟨h1, h2⟩
        · exact ⟨_, true, false, .base (.lst h1), .base (.lst h2), kit_ty (by decide +kernel), kit_ty (by decide +kernel), kit_ty (by decide +kernel), kit_ty (by decide +kernel), kit_ty (by decide +kernel)⟩
        · exact ⟨_, false, true, .base (.tup h1), .base (.tup h2), kit_ty (by decide +kernel), kit_ty (by decide +kernel), kit_ty (by decide +kernel), kit_ty (by decide +kernel), kit_ty (by decide +kernel)⟩
      obtain ⟨t, l1, l2, ta, tb, e1, e2, e3, e4, e5⟩ := tyA
      have lenA : LenV K (.ref a) H xs.length := by
        rcases hab with ⟨h1, _⟩ | ⟨h1, _⟩
        · exact Or.inl ⟨_, SqL.of h1, rfl⟩
        · exact Or.inr ⟨_, SqT.of h1, rfl⟩
      have lenB : LenV K (.ref b) H ys.length := by
        rcases hab with ⟨_, h1⟩ | ⟨_, h1⟩
        · exact Or.inl ⟨_, SqL.of h1, rfl⟩
        · exact Or.inr ⟨_, SqT.of h1, rfl⟩
      refine ⟨_, rfl, rfl, _, rfl, iteF ⟨_, rfl, ⟨_, _, _, _, false, rfl, .ty _, tb, e1, _, rfl, iteF ⟨_, rfl, ⟨_, _, _, _, false, rfl, .ty _, tb, e2, _, rfl, iteF ⟨_, rfl, ⟨_, _, _, _, false, rfl, .ty _, tb, e3, _, rfl, iteF ?_⟩⟩⟩⟩⟩⟩⟩
      refine ⟨_, rfl, ⟨_, _, _, _, l1, rfl, .ty _, tb, e4, _, rfl, ⟨_, _, _, _, l1, rfl, .ty _, ta, e4, rfl, _, rfl, ?_⟩⟩⟩
      rw [decide_eq_true rfl]
      refine iteF ⟨_, rfl, ⟨_, _, _, _, l2, rfl, .ty _, tb, e5, _, rfl, ⟨_, _, _, _, l2, rfl, .ty _, ta, e5, rfl, _, rfl, ?_⟩⟩⟩
      rw [decide_eq_true rfl]
      refine iteF ?_
      refine ⟨_, rfl, .ref a, _, rfl, lenA, _, rfl, .ref b, _, rfl, lenB, rfl, _, rfl, ?_⟩
      have el : decide (V.int (xs.length : Int) = V.int (ys.length : Int)) = true := by rw [hl]; exact decide_eq_true rfl
      rw [el]
      refine iteT ?_
      refine ⟨_, rfl, .ref b, _, rfl, lenB, _, rfl, by omega, by omega, fun D hD => ?_⟩
      refine lc_range (lo := 0) (n := ys.length) (fun i H' => Same H H' ∧ H' D = some (.lst ((List.replicate i true).map V.bl))) ⟨same_new (Same.refl _) hD, upd_same⟩ (fun i H1 hi ⟨s1, hd1⟩ => ?_) (fun H1 ⟨s1, hd1⟩ => ?_)
      · have hi2 : i < xs.length := by rw [hl]; exact hi
        have hu : xs[i]? = some xs[i] := List.getElem?_eq_getElem hi2
        have hv : ys[i]? = some ys[i] := List.getElem?_eq_getElem hi
        have e0 : (0 : Int) + (i : Int) = (i : Int) := by omega
        have au : atI xs ((0 : Int) + (i : Int)) = some xs[i] := at_of e0 hu
        have av : atI ys ((0 : Int) + (i : Int)) = some ys[i] := at_of e0 hv
        have fin : ∀ H4, Same H1 H4 → H4 D = some (.lst ((List.replicate i true).map V.bl)) ∧ ((List.replicate i true).map V.bl).length < sizeLine ∧ Same H (upd H4 D (.lst ((List.replicate i true).map V.bl ++ [.bl true]))) ∧ (upd H4 D (.lst ((List.replicate i true).map V.bl ++ [.bl true]))) D = some (.lst ((List.replicate (i + 1) true).map V.bl)) := fun H4 s4 => by
          refine ⟨s4 _ _ hd1, ?_, same_new (s1.trans s4) hD, ?_⟩
          · rw [List.length_map, List.length_replicate]
            exact Nat.lt_of_lt_of_le hi (Nat.le_trans (by omega : ys.length ≤ 100000) (by decide))
          · rw [upd_same, List.replicate_succ', List.map_append]
            rfl
        have go : ∀ H4, Same H1 H4 → ∃ acc, H4 D = some (.lst acc) ∧ acc.length < sizeLine ∧ (fun i H' => Same H H' ∧ H' D = some (.lst ((List.replicate i true).map V.bl))) (i + 1) (upd H4 D (.lst (acc ++ [.bl true]))) := fun H4 s4 => by
          obtain ⟨q1, q2, q3, q4⟩ := fin H4 s4
          exact ⟨_, q1, q2, q3, q4⟩
        have sd : sm H1 xs[i] ys[i] := hm _ _ _ _ s1 (hs i _ _ hu hv)
        refine ⟨rfl, ?_⟩
        refine yes_then ?_
        refine iteT ?_
        rcases hab with ⟨h1, h2⟩ | ⟨h1, h2⟩
        · exact ⟨_, rfl, _, rfl, .inl ⟨a, xs, _, _, rfl, rfl, SqL.of (s1 _ _ h1), au, _, rfl, _, rfl, .inl ⟨b, ys, _, _, rfl, rfl, SqL.of (s1 _ _ h2), av, _, _, rfl, sd, go⟩⟩⟩
        · exact ⟨_, rfl, _, rfl, .inr (.inl ⟨a, xs, _, _, rfl, rfl, SqT.of (s1 _ _ h1), au, _, rfl, _, rfl, .inr (.inl ⟨b, ys, _, _, rfl, rfl, SqT.of (s1 _ _ h2), av, _, _, rfl, sd, go⟩)⟩)⟩
      · refine ⟨D, List.replicate ys.length true, rfl, SqL.of hd1, ?_⟩
        have er : (List.replicate ys.length true).all id = true := by simp
        rw [er]
        exact k _ s1
theorem same_cal {f : Addr} {fd : FuncData} (F : Fun K "_law_same" "_law_same" s_law_same f fd) (T : Txt K mg ad) (hm : mg "_law_same" = some (.ref f)) (b : Binds K fd ["found", "value"] []) (ci : CalX P w K mg base 1 "_law_is_int" spIsInt) : ∀ n : Nat, CalX P w K mg base (n + 2) "_law_same" (spSame n)
  | 0 => cal_mk (ok_law_same (n := 0) (lv := 1) (sm := fun _ _ _ => False) (by decide) (fun _ _ _ _ _ h => h) (fun _ _ _ h => .inl h) ci (cal_mk (k := 1) ⟨fun _ _ _ _ ⟨_, _, _, h, _⟩ => h.elim, fun _ _ _ _ _ _ _ _ _ _ _ _ _ ⟨_, _, _, h, _⟩ => h.elim⟩ hm F.kp b) F T) hm F.kp b
  | n + 1 => cal_mk (ok_law_same (n := n + 1) (lv := n + 2) (sm := fun H u v => SameD H n u v) (by omega) (fun _ _ _ _ s h => h.mono s) (fun _ _ _ h => h) ci (same_cal F T hm b ci n) F T) hm F.kp b
end
end K02

set_option Elab.async false
set_option linter.all false
set_option maxRecDepth 100000
set_option maxHeartbeats 4000000
namespace K02
open PySem L2 Ew
local macro_rules | `(tactic| walk_at "len") => `(tactic| first | (intro h; obtain ⟨_, e, _⟩ := h; rw [e]; rfl) | (intro h; obtain ⟨_, _, e, _⟩ := h; rw [e]; rfl) | (intro h; obtain ⟨_, _, _, e, _⟩ := h; rw [e]; rfl) | (intro h; obtain ⟨_, _, _, _, e, _⟩ := h; rw [e]; rfl) | (intro h; obtain ⟨_, _, _, _, _, e, _⟩ := h; rw [e]; rfl) | (intro h; obtain ⟨_, _, _, _, _, _, e, _⟩ := h; rw [e]; rfl) | (intro h; obtain ⟨_, _, _, _, _, _, _, e, _⟩ := h; rw [e]; rfl) | (intro h; exact h.elim))
/-! ### a ring: its methods, what is true of them -/
def NI (x : V) : Prop := x = .non ∨ ∃ i, x = .int i
structure RingX (P : Program) (w : World) (K : PySem.W.Frag) (mg : Str → Option Value) (base : Heap) (C ns : Addr) (fs : List (Str × V)) (el sm : V → Prop) (pl tm : V → V → V) (z o : V) (st : V → Option V) (ie : V → Bool) : Prop where
  lk : fs.lookup ("plus" : Str) = none ∧ fs.lookup ("times" : Str) = none ∧ fs.lookup ("zero" : Str) = none ∧ fs.lookup ("one" : Str) = none ∧ fs.lookup ("star" : Str) = none ∧ fs.lookup ("is_element" : Str) = none
  plus : MetX P w K mg base 3 C "plus" (spBin C fs el pl)
  times : MetX P w K mg base 3 C "times" (spBin C fs el tm)
  zero : MetX P w K mg base 3 C "zero" (spNul C fs z)
  one : MetX P w K mg base 3 C "one" (spNul C fs o)
  star : MetX P w K mg base 3 C "star" (spSt C ns fs el st)
  elem : MetX P w K mg base 3 C "is_element" (spEl C fs ie)
  sub : ∀ x, sm x → el x
  ni : ∀ x, el x → NI x
  cpl : ∀ x y, sm x → sm y → el (pl x y)
  ctm : ∀ x y, sm x → sm y → el (tm x y)
  npl : ∀ x y, el x → el y → NI (pl x y)
  ntm : ∀ x y, el x → el y → NI (tm x y)
  smz : sm z
  smo : sm o
  sms : ∀ x s, sm x → st x = some s → sm s
  a1 : ∀ a b, sm a → sm b → pl a b = pl b a
  a2 : ∀ a b, sm a → sm b → tm a b = tm b a
  a3 : ∀ a b c, sm a → sm b → sm c → pl a (pl b c) = pl (pl a b) c
  a4 : ∀ a b c, sm a → sm b → sm c → tm a (tm b c) = tm (tm a b) c
  a5 : ∀ a b c, sm a → sm b → sm c → tm a (pl b c) = pl (tm a b) (tm a c)
  a6 : ∀ a, sm a → pl a z = a
  a7 : ∀ a, sm a → tm a o = a
  a8 : ∀ a, sm a → tm a z = z
  a9 : ∀ a s, sm a → st a = some s → pl o (tm a s) = s
theorem scal_ni {x y : V} (h1 : NI x) (h2 : NI y) : scal x y = true := by
  rcases h1 with rfl | ⟨i, rfl⟩ <;> rcases h2 with rfl | ⟨j, rfl⟩ <;> rfl
section
variable {P : Program} {w : World} {K : PySem.W.Frag} {mg : Str → Option Value} {base : Heap} {ad : Ad}
def spStar (C : Addr) (fs : List (Str × V)) (el : V → Prop) (st : V → Option V) : Sp := fun vs H Q _ => ∃ p dx x, vs = [.ref p, x] ∧ H p = some (.ins C dx fs) ∧ el x ∧ (∀ s, st x = some s → ∀ l, H l = none → Q (.ref l) (upd H l (.lst [s]))) ∧ (st x = none → Q (.str "none") H)
theorem ok_law_star {C : Addr} {fs : List (Str × V)} {el sm : V → Prop} {pl tm : V → V → V} {z o : V} {st : V → Option V} {ie : V → Bool} (R : RingX P w K mg base C ad.NoStar fs el sm pl tm z o st ie) {f : Addr} {fd : FuncData} (F : Fun K "_law_star" "_law_star" s_law_star f fd) (T : Txt K mg ad) : FnOk P w K mg base (L2.CX P w) 7 f fd ["ring", "a"] (spStar C fs el st) := by
  refine F.okX sc_law_star (fun vs H Q E => ?_) (fun cdv A outer s H vs Q E hr h => ?_)
  · walk_at "len"
  ·
    obtain ⟨p, dx, x, rfl, hp, hx, k1, k2⟩ := h
    refine ⟨_, (pss_one (ps_tryD (i := 2) rfl rfl sc_law_star.nd rfl rfl ⟨rfl, by decide, .inl T.g_WorthError⟩ (takes_of rfl rfl rfl rfl))), ?_⟩
    intro pn1 xe1 tk1 po1
    refine ⟨_, (pss_one (ps_ret (pe_lst (pa_cons (pd_meth hr tk1 (pv 0) (pa_cons (pv 1) pa_nil)) pa_nil)))), ?_⟩
    refine ⟨_, rfl, p, C, dx, fs, 3, _, rfl, hp, R.lk.2.2.2.2.1, by decide, R.star, _, rfl, p, dx, x, rfl, hp, hx, fun s hs => ?_, fun hs => ?_⟩
    · exact ⟨(by show 1 ≤ sizeLine; decide), fun l hl => k1 s hs l hl⟩
    · refine ⟨true, T.em_NoStar, fun _ a ha => ?_, fun q => Bool.noConfusion q⟩
      intro oe pn hz hf
      refine ⟨_, (pss_one (ps_ret (pe_op op_mulS pe_str (pe_callTy call_int1 (by rfl) T.z_int (by decide +kernel) (pa_cons (pe_callB (call_isED hz hf) (by rfl) T.z_isinstance (by decide +kernel) (pa_cons (pv 2) (pa_cons (pe_gcls (by rfl) T.g_NoStar) pa_nil))) pa_nil))))), ?_⟩
      refine ⟨_, rfl, _, rfl, rfl, T.ec_NoStar, _, _, true, rfl, fun u hu => hu, T.ki_NoStar, .inr ⟨true, rfl, _, true, rfl, rfl, ?_⟩⟩
      exact k2 hs
def spRef : Sp := fun vs H Q _ => ∃ kd n, vs = [.int kd, .int n] ∧ ((kd = 0 ∧ n < 1) ∨ (kd ≠ 0 ∧ (n < 0 ∨ 200 < n))) ∧ ∀ H', Same H H' → Q (.bl true) H'
theorem ok_law_refused (mLev : MakX P w K mg base 1 "Levels" ad.Levels (spLevI ad)) (mEv : MakX P w K mg base 1 "Events" ad.Events (spEvI ad)) {f : Addr} {fd : FuncData} (F : Fun K "_law_refused" "_law_refused" s_law_refused f fd) (T : Txt K mg ad) : FnOk P w K mg base (L2.CX P w) 7 f fd ["kind", "size"] (spRef) := by
  refine F.okX sc_law_refused (fun vs H Q E => ?_) (fun cdv A outer s H vs Q E hr h => ?_)
  · walk_at "len"
  ·
    obtain ⟨kd, n, rfl, hc, k⟩ := h
    refine ⟨_, (pss_cons (ps_tryD (i := 2) rfl rfl sc_law_refused.nd rfl rfl ⟨rfl, by decide, .inl T.g_WorthError⟩ (takes_of rfl rfl rfl rfl))
      (pss_one (ps_ret pe_bl))), ?_⟩
    intro pn1 xe1 tk1 po1
    refine ⟨_, (pss_one (ps_if (pt_cmpR op_eq (pv 0) pe_int (nomark _)) (pss_one (ps_expr (pd_make hr tk1 (by rfl) (pa_cons (pv 1) pa_nil)))) (pss_one (ps_expr (pd_make hr tk1 (by rfl) (pa_cons (pv 1) pa_nil)))))), ?_⟩
    refine ⟨_, rfl, rfl, _, rfl, ?_⟩
    have em : ∀ y dy C, H y = none → H dy = none → Same H (upd (upd H dy (.own y)) y (.ins C dy [])) := fun y dy C h1 h2 => same_new (same_new (Same.refl _) h2) h1
    have fin : ∀ (H1 : Hp) (σ : L2.St) (hσ : σ[2]? = some (none : Option V)) (W : WX), Same H H1 → True := fun _ _ _ _ _ => trivial
    rcases hc with ⟨rfl, hn⟩ | ⟨hk, hn⟩
    · rw [decide_eq_true rfl]
      refine iteT ⟨1, ad.Levels, _, by decide, mLev, _, rfl, fun y dy h1 h2 h3 => ?_⟩
      refine ⟨y, dy, n, rfl, upd_same, fun q => by omega, fun _ => ?_⟩
      refine ⟨true, T.em_InvalidArgument, fun _ a ha => ?_, fun q => Bool.noConfusion q⟩
      intro oe pn hz hf
      refine ⟨_, (pss_one (ps_ret (pe_callB (call_isED hz hf) (by rfl) T.z_isinstance (by decide +kernel) (pa_cons (pv 2) (pa_cons (pe_gcls (by rfl) T.g_InvalidArgument) pa_nil))))), ?_⟩
      exact ⟨_, rfl, _, rfl, rfl, T.ec_InvalidArgument, _, _, true, rfl, fun u hu => hu, T.ki_InvalidArgument, k _ (em y dy _ h1 h2)⟩
    · have e : decide (V.int kd = V.int 0) = false := by simp [hk]
      rw [e]
      refine iteF ⟨1, ad.Events, _, by decide, mEv, _, rfl, fun y dy h1 h2 h3 => ?_⟩
      refine ⟨y, dy, n, rfl, upd_same, fun q => by omega, fun _ => ?_⟩
      refine ⟨true, T.em_InvalidArgument, fun _ a ha => ?_, fun q => Bool.noConfusion q⟩
      intro oe pn hz hf
      refine ⟨_, (pss_one (ps_ret (pe_callB (call_isED hz hf) (by rfl) T.z_isinstance (by decide +kernel) (pa_cons (pv 2) (pa_cons (pe_gcls (by rfl) T.g_InvalidArgument) pa_nil))))), ?_⟩
      exact ⟨_, rfl, _, rfl, rfl, T.ec_InvalidArgument, _, _, true, rfl, fun u hu => hu, T.ki_InvalidArgument, k _ (em y dy _ h1 h2)⟩

/-! ### the axioms at three elements -/
section
variable {C ns : Addr} {fs : List (Str × V)} {el sm : V → Prop} {pl tm : V → V → V} {z o : V} {st : V → Option V} {ie : V → Bool} {j k i : Nat} {σ : L2.St} {H : Hp} {p dx : Addr} {m : Str} {f : V → V → V} {ta tb : TE} {x y : V} {W : WX}
theorem val_bin (M : MetX P w K mg base k C m (spBin C fs el f)) (hk : k ≤ j) (hl : fs.lookup m = none) (hp : H p = some (.ins C dx fs)) (hs : σ[i]? = some (some (.ref p))) (ha : Val ta σ H x) (hb : Val tb σ H y) (hx : el x) (hy : el y) :
    Val (tMethD P w K mg base j m W (tVar i) (tCons ta (tCons tb tNil))) σ H (f x y) := by
  intro Q q
  refine ⟨_, hs, p, C, dx, fs, k, _, rfl, hp, hl, hk, M, ?_⟩
  refine ha _ ?_
  refine hb _ ?_
  exact ⟨p, dx, x, y, rfl, hp, hx, hy, q⟩
theorem val_nul (M : MetX P w K mg base k C m (spNul C fs x)) (hk : k ≤ j) (hl : fs.lookup m = none) (hp : H p = some (.ins C dx fs)) (hs : σ[i]? = some (some (.ref p))) :
    Val (tMethD P w K mg base j m W (tVar i) tNil) σ H x := by
  intro Q q
  exact ⟨_, hs, p, C, dx, fs, k, _, rfl, hp, hl, hk, M, p, dx, rfl, hp, q⟩
theorem ans_ne0 (ha : Val ta σ H x) (hb : Val tb σ H y) (h1 : NI x) (h2 : NI y) (e : x = y) : Ans (tTest (tOp rNe ta tb)) σ H false :=
  ans_ne ha hb (scal_ni h1 h2) (by rw [decide_eq_true e]; rfl)
end
def spAx (C : Addr) (fs : List (Str × V)) (sm : V → Prop) : Sp := fun vs H Q _ => ∃ p dx a b c, vs = [.ref p, a, b, c] ∧ H p = some (.ins C dx fs) ∧ sm a ∧ sm b ∧ sm c ∧ ∀ H', Same H H' → Q (.bl true) H'
theorem ok_law_axioms {C : Addr} {fs : List (Str × V)} {el sm : V → Prop} {pl tm : V → V → V} {z o : V} {st : V → Option V} {ie : V → Bool} (R : RingX P w K mg base C ad.NoStar fs el sm pl tm z o st ie) (c_law_star : CalX P w K mg base 7 "_law_star" (spStar C fs el st)) {f : Addr} {fd : FuncData} (F : Fun K "_law_axioms" "_law_axioms" s_law_axioms f fd) (T : Txt K mg ad) : FnOk P w K mg base (L2.CX P w) 13 f fd ["ring", "a", "b", "c"] (spAx C fs sm) := by
  refine F.okX sc_law_axioms (fun vs H Q E => ?_) (fun cdv A outer s H vs Q E hr h => ?_)
  · walk_at "len"
  ·
    obtain ⟨p, dx, a, b, c, rfl, hp, sa, sb, sc, k⟩ := h
    refine ⟨_, (pss_cons (ps_if (PW.pt (pw_or (pt_cmpR op_ne (pd_meth hr (takes_of rfl rfl rfl rfl) (pv 0) (pa_cons (pv 1) (pa_cons (pv 2) pa_nil))) (pd_meth hr (takes_of rfl rfl rfl rfl) (pv 0) (pa_cons (pv 2) (pa_cons (pv 1) pa_nil))) (nomark _)) (pw_or1 (pt_cmpR op_ne (pd_meth hr (takes_of rfl rfl rfl rfl) (pv 0) (pa_cons (pv 1) (pa_cons (pv 2) pa_nil))) (pd_meth hr (takes_of rfl rfl rfl rfl) (pv 0) (pa_cons (pv 2) (pa_cons (pv 1) pa_nil))) (nomark _))))) (pss_one (ps_ret pe_bl)) pss_nil)
      (pss_cons (ps_if (pt_cmpR op_ne (pd_meth hr (takes_of rfl rfl rfl rfl) (pv 0) (pa_cons (pv 1) (pa_cons (pd_meth hr (takes_of rfl rfl rfl rfl) (pv 0) (pa_cons (pv 2) (pa_cons (pv 3) pa_nil))) pa_nil))) (pd_meth hr (takes_of rfl rfl rfl rfl) (pv 0) (pa_cons (pd_meth hr (takes_of rfl rfl rfl rfl) (pv 0) (pa_cons (pv 1) (pa_cons (pv 2) pa_nil))) (pa_cons (pv 3) pa_nil))) (nomark _)) (pss_one (ps_ret pe_bl)) pss_nil)
      (pss_cons (ps_if (pt_cmpR op_ne (pd_meth hr (takes_of rfl rfl rfl rfl) (pv 0) (pa_cons (pv 1) (pa_cons (pd_meth hr (takes_of rfl rfl rfl rfl) (pv 0) (pa_cons (pv 2) (pa_cons (pv 3) pa_nil))) pa_nil))) (pd_meth hr (takes_of rfl rfl rfl rfl) (pv 0) (pa_cons (pd_meth hr (takes_of rfl rfl rfl rfl) (pv 0) (pa_cons (pv 1) (pa_cons (pv 2) pa_nil))) (pa_cons (pv 3) pa_nil))) (nomark _)) (pss_one (ps_ret pe_bl)) pss_nil)
      (pss_cons (ps_if (pt_cmpR op_ne (pd_meth hr (takes_of rfl rfl rfl rfl) (pv 0) (pa_cons (pv 1) (pa_cons (pd_meth hr (takes_of rfl rfl rfl rfl) (pv 0) (pa_cons (pv 2) (pa_cons (pv 3) pa_nil))) pa_nil))) (pd_meth hr (takes_of rfl rfl rfl rfl) (pv 0) (pa_cons (pd_meth hr (takes_of rfl rfl rfl rfl) (pv 0) (pa_cons (pv 1) (pa_cons (pv 2) pa_nil))) (pa_cons (pd_meth hr (takes_of rfl rfl rfl rfl) (pv 0) (pa_cons (pv 1) (pa_cons (pv 3) pa_nil))) pa_nil))) (nomark _)) (pss_one (ps_ret pe_bl)) pss_nil)
      (pss_cons (ps_if (PW.pt (pw_or (pt_cmpR op_ne (pd_meth hr (takes_of rfl rfl rfl rfl) (pv 0) (pa_cons (pv 1) (pa_cons (pd_meth0 hr (takes_of rfl rfl rfl rfl) (pv 0)) pa_nil))) (pv 1) (nomark _)) (pw_or (pt_cmpR op_ne (pd_meth hr (takes_of rfl rfl rfl rfl) (pv 0) (pa_cons (pv 1) (pa_cons (pd_meth0 hr (takes_of rfl rfl rfl rfl) (pv 0)) pa_nil))) (pv 1) (nomark _)) (pw_or1 (pt_cmpR op_ne (pd_meth hr (takes_of rfl rfl rfl rfl) (pv 0) (pa_cons (pv 1) (pa_cons (pd_meth0 hr (takes_of rfl rfl rfl rfl) (pv 0)) pa_nil))) (pd_meth0 hr (takes_of rfl rfl rfl rfl) (pv 0)) (nomark _)))))) (pss_one (ps_ret pe_bl)) pss_nil)
      (pss_cons (ps_set (i := 4) sc_law_axioms.nd rfl (by first | exact Or.inl rfl | exact Or.inr rfl) (pc_call c_law_star hr (by first | decide | omega) (takes_of rfl rfl rfl rfl) (by rfl) (pa_cons (pv 0) (pa_cons (pv 1) pa_nil))))
      (pss_one (ps_ret (pe_or (pe_cmpR (op_eqD hr.units) (pv 4) pe_str (nomark _)) (pe_one (pe_cmpR op_eq (pd_meth hr (takes_of rfl rfl rfl rfl) (pv 0) (pa_cons (pd_meth0 hr (takes_of rfl rfl rfl rfl) (pv 0)) (pa_cons (pd_meth hr (takes_of rfl rfl rfl rfl) (pv 0) (pa_cons (pv 1) (pa_cons (pe_ix ix_list (pv 4) pe_int (fun _ _ => rfl)) pa_nil))) pa_nil))) (pe_ix ix_list (pv 4) pe_int (fun _ _ => rfl)) (nomark _)))))))))))), ?_⟩
    have ea := R.sub _ sa
    have eb := R.sub _ sb
    have ec := R.sub _ sc
    have PL : ∀ {x y : V} {ta tb : TE} {W : WX}, Val ta (L2.start ["ring", "a", "b", "c", "star"] [V.ref p, a, b, c]) H x → Val tb (L2.start ["ring", "a", "b", "c", "star"] [V.ref p, a, b, c]) H y → el x → el y →
        Val (tMethD P w K mg base 12 "plus" W (tVar 0) (tCons ta (tCons tb tNil))) (L2.start ["ring", "a", "b", "c", "star"] [V.ref p, a, b, c]) H (pl x y) := fun h1 h2 h3 h4 => val_bin R.plus (by decide) R.lk.1 hp rfl h1 h2 h3 h4
    have TM : ∀ {x y : V} {ta tb : TE} {W : WX}, Val ta (L2.start ["ring", "a", "b", "c", "star"] [V.ref p, a, b, c]) H x → Val tb (L2.start ["ring", "a", "b", "c", "star"] [V.ref p, a, b, c]) H y → el x → el y →
        Val (tMethD P w K mg base 12 "times" W (tVar 0) (tCons ta (tCons tb tNil))) (L2.start ["ring", "a", "b", "c", "star"] [V.ref p, a, b, c]) H (tm x y) := fun h1 h2 h3 h4 => val_bin R.times (by decide) R.lk.2.1 hp rfl h1 h2 h3 h4
    have ZE : ∀ {W : WX}, Val (tMethD P w K mg base 12 "zero" W (tVar 0) tNil) (L2.start ["ring", "a", "b", "c", "star"] [V.ref p, a, b, c]) H z := val_nul R.zero (by decide) R.lk.2.2.1 hp rfl
    have ON : ∀ {W : WX}, Val (tMethD P w K mg base 12 "one" W (tVar 0) tNil) (L2.start ["ring", "a", "b", "c", "star"] [V.ref p, a, b, c]) H o := val_nul R.one (by decide) R.lk.2.2.2.1 hp rfl
    have va : Val (tVar 1) (L2.start ["ring", "a", "b", "c", "star"] [V.ref p, a, b, c]) H a := val_var rfl
    have vb : Val (tVar 2) (L2.start ["ring", "a", "b", "c", "star"] [V.ref p, a, b, c]) H b := val_var rfl
    have vc : Val (tVar 3) (L2.start ["ring", "a", "b", "c", "star"] [V.ref p, a, b, c]) H c := val_var rfl
    have ez := R.sub _ R.smz
    have eo := R.sub _ R.smo
    refine st_no (ans_or (ans_ne0 (PL va vb ea eb) (PL vb va eb ea) (R.npl _ _ ea eb) (R.npl _ _ eb ea) (R.a1 _ _ sa sb)) (ans_ne0 (TM va vb ea eb) (TM vb va eb ea) (R.ntm _ _ ea eb) (R.ntm _ _ eb ea) (R.a2 _ _ sa sb))) ?_
    have ebc := R.cpl _ _ sb sc
    have eab := R.cpl _ _ sa sb
    have tbc := R.ctm _ _ sb sc
    have tab := R.ctm _ _ sa sb
    have tac := R.ctm _ _ sa sc
    refine st_no (ans_ne0 (PL va (PL vb vc eb ec) ea ebc) (PL (PL va vb ea eb) vc eab ec) (R.npl _ _ ea ebc) (R.npl _ _ eab ec) (R.a3 _ _ _ sa sb sc)) ?_
    refine st_no (ans_ne0 (TM va (TM vb vc eb ec) ea tbc) (TM (TM va vb ea eb) vc tab ec) (R.ntm _ _ ea tbc) (R.ntm _ _ tab ec) (R.a4 _ _ _ sa sb sc)) ?_
    refine st_no (ans_ne0 (TM va (PL vb vc eb ec) ea ebc) (PL (TM va vb ea eb) (TM va vc ea ec) tab tac) (R.ntm _ _ ea ebc) (R.npl _ _ tab tac) (R.a5 _ _ _ sa sb sc)) ?_
    refine st_no (ans_or (ans_ne0 (PL va ZE ea ez) va (R.npl _ _ ea ez) (R.ni _ ea) (R.a6 _ sa)) (ans_or (ans_ne0 (TM va ON ea eo) va (R.ntm _ _ ea eo) (R.ni _ ea) (R.a7 _ sa)) (ans_ne0 (TM va ZE ea ez) ZE (R.ntm _ _ ea ez) (R.ni _ ez) (R.a8 _ sa)))) ?_
    -- star = _law_star(ring, a)
    refine ⟨_, rfl, _, rfl, p, dx, a, rfl, hp, ea, fun s hs l hl => ?_, fun hs => ?_⟩
    · have ss := R.sms _ _ sa hs
      have es := R.sub _ ss
      have hl1 : (upd H l (.lst [s])) l = some (.lst [s]) := upd_same
      have npl : p ≠ l := ne_of_none hp hl
      have hp1 : (upd H l (.lst [s])) p = some (.ins C dx fs) := by rw [upd_ne npl]; exact hp
      obtain ⟨ds, hd, sh⟩ : ∃ ds : PyData, Dp K (upd H l (.lst [s])) s ds ∧ SeqAt.shaped (.list [ds]) = true ∧ PyData.eqv (.list [ds]) (.str "none") = false := by
        rcases R.ni _ es with rfl | ⟨i, rfl⟩
        · exact ⟨_, .non, by decide, by decide⟩
        · exact ⟨_, .int i, by rfl, by rfl⟩
      refine ⟨_, rfl, _, _, .lst (SqL.of hl1) (.cons hd .nil), .str _, sh.1, by decide +kernel, ?_⟩
      rw [sh.2]
      refine ⟨false, rfl, iteF ?_⟩
      refine val_bin (σ := [some (.ref p), some a, some b, some c, some (.ref l)]) (i := 0) R.plus (by decide) R.lk.1 hp1 rfl (val_nul (σ := [some (.ref p), some a, some b, some c, some (.ref l)]) (i := 0) R.one (by decide) R.lk.2.2.2.1 hp1 rfl) (val_bin (σ := [some (.ref p), some a, some b, some c, some (.ref l)]) (i := 0) R.times (by decide) R.lk.2.1 hp1 rfl (val_var (i := 1) rfl) (fun Q q => ⟨_, rfl, l, _, _, _, rfl, rfl, SqL.of hl1, (by rfl), q⟩) ea es) eo (R.ctm _ _ sa ss) _ ?_
      refine ⟨_, rfl, l, _, _, _, rfl, rfl, SqL.of hl1, (by rfl), scal_ni (R.npl _ _ eo (R.ctm _ _ sa ss)) (R.ni _ es), ?_⟩
      rw [decide_eq_true (R.a9 _ _ sa hs)]
      exact k _ (same_new (Same.refl _) hl)
    · refine ⟨_, rfl, _, _, .str _, .str _, by decide +kernel, by decide +kernel, ?_⟩
      have e : PyData.eqv (.str ("none" : Str)) (.str ("none" : Str)) = true := by decide +kernel
      rw [e]
      exact ⟨true, rfl, iteT (k _ (Same.refl _))⟩
inductive Due : Int → V → V → V → V → Prop
  | n {x y : V} : Nm 400 x → Nm 400 y → Due 0 x y (addV x y) (mulV x y)
  | c {x y : V} : Cs x → Cs y → Due 1 x y (minV x y) (csV x y)
  | l {t : Int} {x y : V} : Bt t x → Bt t y → Due 2 x y (maxV x y) (mnV x y)
  | e {t : Int} {x y : V} : Bt t x → Bt t y → Due 3 x y (orV x y) (andV x y)
def spDue : Sp := fun vs H Q _ => ∃ kd sz x y r1 r2, vs = [.int kd, .int sz, x, y] ∧ Due kd x y r1 r2 ∧ ∀ l, H l = none → Q (.ref l) (upd H l (.lst [r1, r2]))
theorem ok_law_due  {f : Addr} {fd : FuncData} (F : Fun K "_law_due" "_law_due" s_law_due f fd) (T : Txt K mg ad) : FnOk P w K mg base (L2.CX P w) 1 f fd ["kind", "size", "a", "b"] (spDue) := by
  refine F.okX sc_law_due (fun vs H Q E => ?_) (fun cdv A outer s H vs Q E hr h => ?_)
  · walk_at "len"
  ·
    obtain ⟨kd, sz, x, y, r1, r2, rfl, hd, k⟩ := h
    have two : 2 ≤ sizeLine := by decide
    refine ⟨_, (pss_cons (ps_if (pt_cmpR op_eq (pv 0) pe_int (nomark _)) (pss_one (ps_ret (pe_lst (pa_cons (pe_op op_add (pv 2) (pv 3)) (pa_cons (pe_op op_mulW (pv 2) (pv 3)) pa_nil))))) pss_nil)
      (pss_cons (ps_if (pt_cmpR op_eq (pv 0) pe_int (nomark _)) (pss_cons (ps_if (PW.pt (pw_or (pt_cmpR op_isN (pv 2) pe_non (nomark _)) (pw_or1 (pt_cmpR op_isN (pv 3) pe_non (nomark _))))) (pss_one (ps_ret (pe_lst (pa_cons (pe_ifExp (pt_cmpR op_isN (pv 2) pe_non (nomark _)) (pv 3) (pv 2)) (pa_cons pe_non pa_nil))))) pss_nil)
      (pss_one (ps_ret (pe_lst (pa_cons (pe_callB (call_min2 rfl) (by rfl) T.z_min (by decide +kernel) (pa_cons (pv 2) (pa_cons (pv 3) pa_nil))) (pa_cons (pe_op op_add (pv 2) (pv 3)) pa_nil)))))) pss_nil)
      (pss_cons (ps_if (pt_cmpR op_eq (pv 0) pe_int (nomark _)) (pss_one (ps_ret (pe_lst (pa_cons (pe_callB (call_max2 rfl) (by rfl) T.z_max (by decide +kernel) (pa_cons (pv 2) (pa_cons (pv 3) pa_nil))) (pa_cons (pe_callB (call_min2 rfl) (by rfl) T.z_min (by decide +kernel) (pa_cons (pv 2) (pa_cons (pv 3) pa_nil))) pa_nil))))) pss_nil)
      (pss_one (ps_ret (pe_lst (pa_cons (pe_op op_or (pv 2) (pv 3)) (pa_cons (pe_op op_and (pv 2) (pv 3)) pa_nil)))))))), ?_⟩
    have no : ∀ {i j : Int}, i ≠ j → decide (V.int i = V.int j) = false := fun h => by simp [h]
    cases hd with
    | n hx hy =>
      obtain ⟨i, rfl, hi, bi⟩ := hx
      obtain ⟨j, rfl, hj, bj⟩ := hy
      exact ⟨_, rfl, rfl, _, rfl, iteT ⟨_, rfl, _, rfl, _, _, rfl, rfl, _, rfl, _, rfl, _, _, rfl, rfl, wide_mul bi bj (by decide) (by decide) (by decide), two, k⟩⟩
    | c hx hy =>
      refine ⟨_, rfl, rfl, _, rfl, ?_⟩
      rw [no (by decide : (1 : Int) ≠ 0)]
      refine iteF ⟨_, rfl, rfl, _, rfl, iteT ?_⟩
      rcases hx with rfl | ⟨i, rfl, hi⟩
      · exact ⟨_, rfl, rfl, _, rfl, iteT (iteT ⟨_, rfl, rfl, _, rfl, iteT ⟨_, rfl, two, k⟩⟩)⟩
      · refine ⟨_, rfl, rfl, _, rfl, iteF ?_⟩
        rcases hy with rfl | ⟨j, rfl, hj⟩
        · exact ⟨_, rfl, rfl, _, rfl, iteT ⟨_, rfl, rfl, _, rfl, iteF ⟨_, rfl, two, k⟩⟩⟩
        · exact ⟨_, rfl, rfl, _, rfl, iteF ⟨_, rfl, _, rfl, _, _, rfl, _, rfl, _, rfl, _, _, rfl, rfl, two, k⟩⟩
    | l hx hy =>
      obtain ⟨i, rfl, hi, bi⟩ := hx
      obtain ⟨j, rfl, hj, bj⟩ := hy
      refine ⟨_, rfl, rfl, _, rfl, ?_⟩
      rw [no (by decide : (2 : Int) ≠ 0)]
      refine iteF ⟨_, rfl, rfl, _, rfl, ?_⟩
      rw [no (by decide : (2 : Int) ≠ 1)]
      exact iteF ⟨_, rfl, rfl, _, rfl, iteT ⟨_, rfl, _, rfl, _, _, rfl, _, rfl, _, rfl, _, _, rfl, two, k⟩⟩
    | e hx hy =>
      obtain ⟨i, rfl, hi, bi⟩ := hx
      obtain ⟨j, rfl, hj, bj⟩ := hy
      refine ⟨_, rfl, rfl, _, rfl, ?_⟩
      rw [no (by decide : (3 : Int) ≠ 0)]
      refine iteF ⟨_, rfl, rfl, _, rfl, ?_⟩
      rw [no (by decide : (3 : Int) ≠ 1)]
      refine iteF ⟨_, rfl, rfl, _, rfl, ?_⟩
      rw [no (by decide : (3 : Int) ≠ 2)]
      exact iteF ⟨_, rfl, _, rfl, _, _, rfl, rfl, _, rfl, _, rfl, _, _, rfl, rfl, two, k⟩
/-- an element of kind kd, size sz -/
def Elt (kd sz : Int) (v : V) : Prop := if kd = 0 then Nm 100 v else if kd = 1 then Cs v else Bt sz v
def spElt : Sp := fun vs H Q _ => ∃ a kd sz, vs = [.ref a, .int kd, .int sz] ∧ PotAt H a ∧ 0 ≤ kd ∧ 0 ≤ sz ∧ sz < 2 ^ 240 ∧ ∀ H' v, Fr1 a H H' → PotAt H' a → Elt kd sz v → Q v H'
theorem ok_law_element (c_law_next : CalX P w K mg base 1 "_law_next" spNext) {f : Addr} {fd : FuncData} (F : Fun K "_law_element" "_law_element" s_law_element f fd) (T : Txt K mg ad) : FnOk P w K mg base (L2.CX P w) 4 f fd ["pot", "kind", "size"] (spElt) := by
  refine F.okX sc_law_element (fun vs H Q E => ?_) (fun cdv A outer s H vs Q E hr h => ?_)
  · walk_at "len"
  ·
    obtain ⟨a, kd, sz, rfl, hP, h0, h1, h2, k⟩ := h
    refine ⟨_, (C8.pss_cut (ps_if (PW.pt (pw_and (pt_cmpR op_eq (pv 1) pe_int (nomark _)) (pw_and1 (pt_cmpR op_eq (pc_call c_law_next hr (by first | decide | omega) (takes_of rfl rfl rfl rfl) (by rfl) (pa_cons (pv 0) (pa_cons pe_int pa_nil))) pe_int (nomark _))))) (pss_one (ps_ret pe_non)) pss_nil)
      (pss_cons (ps_if (pt_cmpR op_lt (pv 1) pe_int (nomark _)) (pss_one (ps_ret (pc_call c_law_next hr (by first | decide | omega) (takes_of rfl rfl rfl rfl) (by rfl) (pa_cons (pv 0) (pa_cons (pe_ix ix_list (pe_lst (pa_cons pe_int (pa_cons (pe_op op_pow pe_int pe_int) pa_nil))) (pc_call c_law_next hr (by first | decide | omega) (takes_of rfl rfl rfl rfl) (by rfl) (pa_cons (pv 0) (pa_cons pe_int pa_nil))) (fun _ _ => rfl)) pa_nil))))) pss_nil)
      (pss_one (ps_ret (pc_call c_law_next hr (by first | decide | omega) (takes_of rfl rfl rfl rfl) (by rfl) (pa_cons (pv 0) (pa_cons (pe_op op_add (pv 2) pe_int) pa_nil))))))), ?_⟩
    refine ⟨fun σ H' => σ = [some (.ref a), some (.int kd), some (.int sz)] ∧ Fr1 a H H' ∧ PotAt H' a, ?_, ?_⟩
    · refine ⟨_, rfl, rfl, _, rfl, ?_⟩
      by_cases c : kd = 1
      · subst c
        refine iteT ⟨_, rfl, a, 4, rfl, hP, by decide, by decide, fun H1 r f1 p1 r0 r1 => ⟨rfl, _, rfl, ?_⟩⟩
        refine ite2 (fun _ => ?_) (fun _ => ?_)
        · exact k _ _ f1 p1 (.inl rfl)
        · exact ⟨rfl, f1, p1⟩
      · have e : decide (V.int kd = V.int 1) = false := by simp [c]
        rw [e]
        exact iteF (iteF ⟨rfl, Fr1.refl _ _, hP⟩)
    · rintro σ H1 ⟨rfl, f1, p1⟩
      refine ⟨_, rfl, _, _, rfl, rfl, _, rfl, ?_⟩
      refine ite2 (fun c => ?_) (fun c => ?_)
      · have c' : kd < 2 := by simpa using c
        refine ⟨_, rfl, _, _, rfl, rfl, ⟨by decide, by decide, by decide⟩, (by show 2 ≤ sizeLine; decide), fun l hl => ?_⟩
        have nal : a ≠ l := by
          obtain ⟨o, ho⟩ := p1.some
          exact ne_of_none ho hl
        have p2 : PotAt (upd H1 l (.lst [.int 3, .int (10 ^ (30 : Int).toNat)])) a := p1.same (same_new (Same.refl _) hl)
        refine ⟨_, rfl, a, 2, rfl, p2, by decide, by decide, fun H2 r f2 p3 r0 r1 => ?_⟩
        have hl2 : H2 l = some (.lst [.int 3, .int (10 ^ (30 : Int).toNat)]) := f2 l _ (Ne.symm nal) upd_same
        have fr : Fr1 a H H2 := (f1.trans ((Fr1.refl a H1).trans (Fr1.of (same_new (Same.refl _) hl)))).trans f2
        have go : ∀ lim : Int, 0 < lim → lim ≤ 10 ^ 30 → ∀ r v, 0 ≤ v → v < lim → ∀ H3, Fr1 a H2 H3 → PotAt H3 a → r = V.int v → Q r H3 := fun lim l0 l1 r v v0 v1 H3 f3 p4 e => by
          subst e
          refine k H3 _ (fr.trans f3) p4 ?_
          unfold Elt
          by_cases c0 : kd = 0
          · rw [if_pos c0]
            exact ⟨v, rfl, v0, by omega⟩
          · rw [if_neg c0, if_pos (by omega)]
            exact .inr ⟨v, rfl, v0⟩
        have hr01 : r = 0 ∨ r = 1 := by omega
        rcases hr01 with rfl | rfl
        · exact ⟨l, _, _, _, rfl, rfl, SqL.of hl2, (by rfl), a, 3, rfl, p3, by decide, by decide, fun H3 v f3 p4 v0 v1 => go 3 (by decide) (by decide) _ v v0 v1 H3 f3 p4 rfl⟩
        · exact ⟨l, _, _, _, rfl, rfl, SqL.of hl2, (by rfl), a, _, rfl, p3, by decide, by decide, fun H3 v f3 p4 v0 v1 => go (10 ^ 30) (by decide) (by decide) _ v v0 v1 H3 f3 p4 rfl⟩
      · have c' : ¬ kd < 2 := by simpa using c
        refine ⟨_, rfl, _, rfl, _, _, rfl, rfl, a, sz + 1, rfl, p1, by omega, by omega, fun H2 r f2 p2 r0 r1 => ?_⟩
        refine k _ _ (f1.trans f2) p2 ?_
        unfold Elt
        rw [if_neg (by omega), if_neg (by omega)]
        exact ⟨r, rfl, r0, by omega⟩
end
end K02

set_option Elab.async false
set_option linter.all false
set_option maxRecDepth 100000
set_option maxHeartbeats 4000000
namespace K02
open PySem L2 Ew
local macro_rules | `(tactic| walk_at "len") => `(tactic| first | (intro h; obtain ⟨_, e, _⟩ := h; rw [e]; rfl) | (intro h; obtain ⟨_, _, e, _⟩ := h; rw [e]; rfl) | (intro h; obtain ⟨_, _, _, e, _⟩ := h; rw [e]; rfl) | (intro h; obtain ⟨_, _, _, _, e, _⟩ := h; rw [e]; rfl) | (intro h; obtain ⟨_, _, _, _, _, e, _⟩ := h; rw [e]; rfl) | (intro h; obtain ⟨_, _, _, _, _, _, e, _⟩ := h; rw [e]; rfl) | (intro h; obtain ⟨_, _, _, _, _, _, _, e, _⟩ := h; rw [e]; rfl) | (intro h; exact h.elim))
structure KindOk (kd sz : Int) (sm : V → Prop) (pl tm : V → V → V) (z o : V) (st : V → Option V) (ie : V → Bool) : Prop where
  k0 : 0 ≤ kd
  k4 : kd < 4
  s0 : 0 ≤ sz
  s1 : sz < 2 ^ 240
  elt : ∀ v, Elt kd sz v → sm v
  due : ∀ x y, sm x → sm y → Due kd x y (pl x y) (tm x y)
  zo : (kd = 0 ∧ z = .int 0 ∧ o = .int 1) ∨ (kd = 1 ∧ z = .non ∧ o = .int 0) ∨ ((kd = 2 ∨ kd = 3) ∧ z = .int 0 ∧ o = .int sz)
  st0 : kd = 0 → ∀ v, sm v → ∃ i, v = .int i ∧ ((0 < i ∧ st v = none) ∨ (¬ 0 < i ∧ ∃ s, st v = some (.int s)))
  stp : kd ≠ 0 → ∀ v, sm v → st v = some (if kd = 1 then .int 0 else .int sz)
  ie1 : ∀ x, isI x = false → x ≠ .non → ie x = false
  ie2 : ie (.int (-1)) = false
  ie3 : 2 ≤ kd → ie (.int (sz + 1)) = false
  ie4 : kd ≠ 1 → ie .non = false
  ie5 : ∀ v, sm v → ie v = true
theorem pick2 (x y : V) {r : Int} (h0 : 0 ≤ r) (h1 : r < 2) : ∃ z, atI [x, y] r = some z ∧ (z = x ∨ z = y) := by
  have : r = 0 ∨ r = 1 := by omega
  rcases this with rfl | rfl
  · exact ⟨x, rfl, .inl rfl⟩
  · exact ⟨y, rfl, .inr rfl⟩
theorem iteFc {c : Bool} {A B : Prop} (h : c = false) (q : B) : if c = true then A else B := by
  subst h
  exact iteF q
theorem iteTc {c : Bool} {A B : Prop} (h : c = true) (q : A) : if c = true then A else B := by
  subst h
  exact iteT q
theorem ni_flat {x : V} (h : NI x) : flatD x = true := by rcases h with rfl | ⟨i, rfl⟩ <;> rfl
theorem same_list {H : Hp} {a b : Addr} {xs : List V} (ha : H a = some (.lst xs)) (hb : H b = some (.lst xs)) (hl : xs.length ≤ 100000) (hf : ∀ u ∈ xs, flatD u = true) : SameD H 1 (.ref a) (.ref b) :=
  .inr ⟨a, b, xs, xs, rfl, rfl, .inl ⟨ha, hb⟩, rfl, hl, fun i u v hu hv => by
    have e : u = v := Option.some.inj (hu.symm.trans hv)
    subst e
    exact SameD.flat (hf _ (List.mem_of_getElem? hu))⟩
theorem same_upd_new {p : Addr} {H : Hp} {o : HO} (h : H p = none) : Same H (upd H p o) := same_new (Same.refl _) h
theorem thg_same {H H' : Hp} {x : V} (s : Same H H') (h : Thg H x) : Thg H' x := by
  cases h with
  | non => exact .non
  | bl b => exact .bl b
  | int i => exact .int i
  | str b => exact .str b
  | lst e => exact .lst (s _ _ e)
  | tup e => exact .tup (s _ _ e)
section
variable {P : Program} {w : World} {K : PySem.W.Frag} {mg : Str → Option Value} {base : Heap} {ad : Ad}
/-- the rings of the four kinds -/
structure Rings (P : Program) (w : World) (K : PySem.W.Frag) (mg : Str → Option Value) (base : Heap) (ad : Ad) : Prop where
  num : RingX P w K mg base ad.Numbers ad.NoStar [] (Nm 400) (Nm 100) addV mulV (.int 0) (.int 1) st0V natV
  cst : RingX P w K mg base ad.Costs ad.NoStar [] Cs Cs minV csV .non (.int 0) (fun _ => some (.int 0)) costE
  lev : ∀ t, 1 ≤ t → RingX P w K mg base ad.Levels ad.NoStar (fT t) (Bt t) (Bt t) maxV mnV (.int 0) (.int t) (fun _ => some (.int t)) (betV 0 t)
  evt : ∀ n : Nat, RingX P w K mg base ad.Events ad.NoStar (fA (1 * 2 ^ n - 1)) (Bt (1 * 2 ^ n - 1)) (Bt (1 * 2 ^ n - 1)) orV andV (.int 0) (.int (1 * 2 ^ n - 1)) (fun _ => some (.int (1 * 2 ^ n - 1))) (betV 0 (1 * 2 ^ n - 1))
theorem kind_num {sz : Int} (h0 : 0 ≤ sz) (h1 : sz < 2 ^ 240) : KindOk 0 sz (Nm 100) addV mulV (.int 0) (.int 1) st0V natV where
  k0 := by decide
  k4 := by decide
  s0 := h0
  s1 := h1
  elt := fun v h => h
  due := fun x y ⟨i, e1, h1, h2⟩ ⟨j, e2, h3, h4⟩ => .n ⟨i, e1, h1, Nat.lt_of_lt_of_le h2 (Nat.pow_le_pow_right (by decide) (by decide))⟩ ⟨j, e2, h3, Nat.lt_of_lt_of_le h4 (Nat.pow_le_pow_right (by decide) (by decide))⟩
  zo := .inl ⟨rfl, rfl, rfl⟩
  st0 := fun _ v ⟨i, e, h1, h2⟩ => ⟨i, e, by
    subst e
    by_cases c : i = 0
    · exact .inr ⟨by omega, 1, by simp [st0V, c]⟩
    · exact .inl ⟨by omega, by simp [st0V, c]⟩⟩
  stp := fun h => absurd rfl h
  ie1 := fun x h _ => by cases x <;> first | rfl | cases h
  ie2 := by decide
  ie3 := fun h => absurd h (by decide)
  ie4 := fun _ => rfl
  ie5 := fun v ⟨i, e, h1, h2⟩ => by subst e; exact decide_eq_true h1
theorem kind_cst {sz : Int} (h0 : 0 ≤ sz) (h1 : sz < 2 ^ 240) : KindOk 1 sz Cs minV csV .non (.int 0) (fun _ => some (.int 0)) costE where
  k0 := by decide
  k4 := by decide
  s0 := h0
  s1 := h1
  elt := fun v h => h
  due := fun x y h1 h2 => .c h1 h2
  zo := .inr (.inl ⟨rfl, rfl, rfl⟩)
  st0 := fun h => absurd h (by decide)
  stp := fun _ v _ => rfl
  ie1 := fun x h hn => by cases x <;> first | rfl | exact absurd rfl hn | cases h
  ie2 := by decide
  ie3 := fun h => absurd h (by decide)
  ie4 := fun h => absurd rfl h
  ie5 := fun v h => by
    rcases h with rfl | ⟨i, rfl, h⟩
    · rfl
    · exact decide_eq_true h
theorem bet_in {t i : Int} (h0 : 0 ≤ i) (h1 : i ≤ t) : betV 0 t (.int i) = true := decide_eq_true ⟨h0, h1⟩
theorem kind_bt {kd sz : Int} {pl tm : V → V → V} (hk : kd = 2 ∨ kd = 3) (h0 : 0 ≤ sz) (h1 : sz < 2 ^ 240) (hd : ∀ x y, Bt sz x → Bt sz y → Due kd x y (pl x y) (tm x y)) : KindOk kd sz (Bt sz) pl tm (.int 0) (.int sz) (fun _ => some (.int sz)) (betV 0 sz) where
  k0 := by omega
  k4 := by omega
  s0 := h0
  s1 := h1
  elt := fun v h => by
    unfold Elt at h
    rw [if_neg (by omega), if_neg (by omega)] at h
    exact h
  due := hd
  zo := .inr (.inr ⟨hk, rfl, rfl⟩)
  st0 := fun h => by omega
  stp := fun _ v _ => by rw [if_neg (by omega)]
  ie1 := fun x h _ => by cases x <;> first | rfl | cases h
  ie2 := by simp [betV]
  ie3 := fun _ => by simp [betV]; omega
  ie4 := fun _ => rfl
  ie5 := fun v ⟨i, e, h2, h3⟩ => by subst e; exact bet_in h2 h3
theorem same_made {H : Hp} {y d : Addr} {o o' : HO} (h1 : H y = none) (h2 : H d = none) : Same H (upd (upd H d o) y o') := same_new (same_new (Same.refl _) h2) h1
theorem pw2 {n : Nat} (h : n ≤ 200) : 0 ≤ 1 * (2 : Int) ^ n - 1 ∧ 1 * (2 : Int) ^ n - 1 < 2 ^ 240 := by
  have e : (2 : Int) ^ n = ((2 ^ n : Nat) : Int) := by simp
  have h1 : 1 ≤ 2 ^ n := Nat.one_le_two_pow
  have h2 : 2 ^ n ≤ 2 ^ 200 := Nat.pow_le_pow_right (by decide) h
  rw [e]
  omega
def spLaw (K : PySem.W.Frag) : Sp := fun vs H Q _ => ∃ (a : Addr) (ns : List Int), vs = [.ref a] ∧ SqL K H a (ns.map V.int) ∧ ns.length ≤ 63 ∧ ∀ H', Q (.bl true) H'
theorem ok_law (R : Rings P w K mg base ad) (mkN : Mk0 K mg "Numbers" ad.Numbers) (mkC : Mk0 K mg "Costs" ad.Costs) (mLev : MakX P w K mg base 1 "Levels" ad.Levels (spLevI ad)) (mEv : MakX P w K mg base 1 "Events" ad.Events (spEvI ad)) (c_law_pot : CalX P w K mg base 1 "_law_pot" (spPot K)) (c_law_next : CalX P w K mg base 1 "_law_next" spNext) (c_law_element : CalX P w K mg base 4 "_law_element" spElt) (c_law_same : CalX P w K mg base 3 "_law_same" (spSame 1)) (c_law_due : CalX P w K mg base 1 "_law_due" spDue) (c_law_refused : CalX P w K mg base 7 "_law_refused" spRef) (c_star : ∀ {C : Addr} {fs : List (Str × V)} {el sm : V → Prop} {pl tm : V → V → V} {z o : V} {st : V → Option V} {ie : V → Bool}, RingX P w K mg base C ad.NoStar fs el sm pl tm z o st ie → CalX P w K mg base 7 "_law_star" (spStar C fs el st)) (c_ax : ∀ {C : Addr} {fs : List (Str × V)} {el sm : V → Prop} {pl tm : V → V → V} {z o : V} {st : V → Option V} {ie : V → Bool}, RingX P w K mg base C ad.NoStar fs el sm pl tm z o st ie → CalX P w K mg base 13 "_law_axioms" (spAx C fs sm)) {f : Addr} {fd : FuncData} (F : Fun K "law" "law" s_law f fd) (T : Txt K mg ad) : FnOk P w K mg base (L2.CX P w) 21 f fd ["script"] (spLaw K) := by
  refine F.okX sc_law (fun vs H Q E => ?_) (fun cdv A outer s H vs Q E hr h => ?_)
  · walk_at "len"
  ·
    obtain ⟨sa, ns, rfl, hS, hlen, k⟩ := h
    have two : 2 ≤ sizeLine := by decide
    have four : 4 ≤ sizeLine := by decide
    refine ⟨_, (pss_cons (ps_set (i := 1) sc_law.nd rfl (by first | exact Or.inl rfl | exact Or.inr rfl) (pc_call c_law_pot hr (by first | decide | omega) (takes_of rfl rfl rfl rfl) (by rfl) (pa_cons (pv 0) pa_nil)))
      (pss_cons (ps_set (i := 2) sc_law.nd rfl (by first | exact Or.inl rfl | exact Or.inr rfl) (pc_call c_law_next hr (by first | decide | omega) (takes_of rfl rfl rfl rfl) (by rfl) (pa_cons (pv 1) (pa_cons pe_int pa_nil))))
      (pss_cons (ps_set (i := 3) sc_law.nd rfl (by first | exact Or.inl rfl | exact Or.inr rfl) (pe_op op_add pe_int (pc_call c_law_next hr (by first | decide | omega) (takes_of rfl rfl rfl rfl) (by rfl) (pa_cons (pv 1) (pa_cons (pe_ix ix_list (pe_lst (pa_cons pe_int (pa_cons pe_int pa_nil))) (pc_call c_law_next hr (by first | decide | omega) (takes_of rfl rfl rfl rfl) (by rfl) (pa_cons (pv 1) (pa_cons pe_int pa_nil))) (fun _ _ => rfl)) pa_nil)))))
      (pss_cons (ps_set (i := 4) sc_law.nd rfl (by first | exact Or.inl rfl | exact Or.inr rfl) (pc_call c_law_next hr (by first | decide | omega) (takes_of rfl rfl rfl rfl) (by rfl) (pa_cons (pv 1) (pa_cons (pe_ix ix_list (pe_lst (pa_cons pe_int (pa_cons pe_int pa_nil))) (pc_call c_law_next hr (by first | decide | omega) (takes_of rfl rfl rfl rfl) (by rfl) (pa_cons (pv 1) (pa_cons pe_int pa_nil))) (fun _ _ => rfl)) pa_nil))))
      (C8.pss_cut (ps_set (i := 5) sc_law.nd rfl (by first | exact Or.inl rfl | exact Or.inr rfl) (pe_ix ix_list (pe_lst (pa_cons (pd_new0 (by rfl)) (pa_cons (pd_new0 (by rfl)) (pa_cons (pd_make hr (takes_of rfl rfl rfl rfl) (by rfl) (pa_cons (pv 3) pa_nil)) (pa_cons (pd_make hr (takes_of rfl rfl rfl rfl) (by rfl) (pa_cons (pv 4) pa_nil)) pa_nil))))) (pv 2) (fun _ _ => rfl)))
      (C8.pss_cut (ps_if (pt_cmpR op_eq (pv 2) pe_int (nomark _)) (pss_one (ps_set (i := 3) sc_law.nd rfl (by first | exact Or.inl rfl | exact Or.inr rfl) (pe_op op_sub (pe_op op_shl pe_int (pv 4)) pe_int))) pss_nil)
      (pss_cons (ps_set (i := 6) sc_law.nd rfl (by first | exact Or.inl rfl | exact Or.inr rfl) (pc_call c_law_element hr (by first | decide | omega) (takes_of rfl rfl rfl rfl) (by rfl) (pa_cons (pv 1) (pa_cons (pv 2) (pa_cons (pv 3) pa_nil)))))
      (pss_cons (ps_set (i := 7) sc_law.nd rfl (by first | exact Or.inl rfl | exact Or.inr rfl) (pc_call c_law_element hr (by first | decide | omega) (takes_of rfl rfl rfl rfl) (by rfl) (pa_cons (pv 1) (pa_cons (pv 2) (pa_cons (pv 3) pa_nil)))))
      (pss_cons (ps_set (i := 8) sc_law.nd rfl (by first | exact Or.inl rfl | exact Or.inr rfl) (pc_call c_law_element hr (by first | decide | omega) (takes_of rfl rfl rfl rfl) (by rfl) (pa_cons (pv 1) (pa_cons (pv 2) (pa_cons (pv 3) pa_nil)))))
      (C8.pss_cut (ps_if (PW.pt (pw_or (pt_not (pt_val (pd_call hr (takes_of rfl rfl rfl rfl) (by rfl) (pa_cons (pv 5) (pa_cons (pv 6) (pa_cons (pv 7) (pa_cons (pv 8) pa_nil))))))) (pw_or1 (pt_not (pt_val (pc_call c_law_same hr (by first | decide | omega) (takes_of rfl rfl rfl rfl) (by rfl) (pa_cons (pe_lst (pa_cons (pd_meth hr (takes_of rfl rfl rfl rfl) (pv 5) (pa_cons (pv 6) (pa_cons (pv 7) pa_nil))) (pa_cons (pd_meth hr (takes_of rfl rfl rfl rfl) (pv 5) (pa_cons (pv 6) (pa_cons (pv 7) pa_nil))) pa_nil))) (pa_cons (pc_call c_law_due hr (by first | decide | omega) (takes_of rfl rfl rfl rfl) (by rfl) (pa_cons (pv 2) (pa_cons (pv 3) (pa_cons (pv 6) (pa_cons (pv 7) pa_nil))))) pa_nil)))))))) (pss_one (ps_ret pe_bl)) pss_nil)
      (C8.pss_cut (ps_if (pt_not (pt_val (pc_call c_law_same hr (by first | decide | omega) (takes_of rfl rfl rfl rfl) (by rfl) (pa_cons (pe_lst (pa_cons (pd_meth0 hr (takes_of rfl rfl rfl rfl) (pv 5)) (pa_cons (pd_meth0 hr (takes_of rfl rfl rfl rfl) (pv 5)) pa_nil))) (pa_cons (pe_ix ix_list (pe_lst (pa_cons (pe_lst (pa_cons pe_int (pa_cons pe_int pa_nil))) (pa_cons (pe_lst (pa_cons pe_non (pa_cons pe_int pa_nil))) (pa_cons (pe_lst (pa_cons pe_int (pa_cons (pv 3) pa_nil))) (pa_cons (pe_lst (pa_cons pe_int (pa_cons (pv 3) pa_nil))) pa_nil))))) (pv 2) (fun _ _ => rfl)) pa_nil))))) (pss_one (ps_ret pe_bl)) pss_nil)
      (C8.pss_cut (ps_if (PW.pt (pw_or (PW.pt (pw_and (pt_cmpR op_eq (pv 2) pe_int (nomark _)) (pw_and1 (pt_cmpR op_ne (pe_cmpR (op_eqD hr.units) (pd_call hr (takes_of rfl rfl rfl rfl) (by rfl) (pa_cons (pv 5) (pa_cons (pv 6) pa_nil))) pe_str (nomark _)) (pe_cmpR op_gt (pv 6) pe_int (nomark _)) (nomark _))))) (pw_or1 (PW.pt (pw_and (pt_cmpR op_gt (pv 2) pe_int (nomark _)) (pw_and1 (pt_cmpR (op_neD hr.units) (pd_call hr (takes_of rfl rfl rfl rfl) (by rfl) (pa_cons (pv 5) (pa_cons (pv 6) pa_nil))) (pe_lst (pa_cons (pe_ix ix_list (pe_lst (pa_cons pe_int (pa_cons pe_int (pa_cons (pv 3) (pa_cons (pv 3) pa_nil))))) (pv 2) (fun _ _ => rfl)) pa_nil)) (nomark _)))))))) (pss_one (ps_ret pe_bl)) pss_nil)
      (C8.pss_cut (ps_set (i := 9) sc_law.nd rfl (by first | exact Or.inl rfl | exact Or.inr rfl) (pe_op op_cat (pe_lst (pa_cons pe_str (pa_cons (pe_un un_neg pe_int) (pa_cons pe_bl (pa_cons (pe_lst pa_nil) (pa_cons (pe_tup (pa_cons pe_int pa_nil)) pa_nil)))))) (pe_ix ix_list (pe_lst (pa_cons (pe_lst pa_nil) (pa_cons (pe_lst pa_nil) (pa_cons (pe_lst (pa_cons (pe_op op_add (pv 3) pe_int) pa_nil)) (pa_cons (pe_lst (pa_cons (pe_op op_add (pv 3) pe_int) pa_nil)) pa_nil))))) (pv 2) (fun _ _ => rfl))))
      (C8.pss_cut (ps_if (pt_cmpR op_ne (pv 2) pe_int (nomark _)) (pss_one (ps_expr (pe_bm PySem.F.plainAttrs_list PySem.F.slot_list_append PySem.F.type_list_append mt_append (pv 9) (pa_cons pe_non pa_nil)))) pss_nil)
      (C8.pss_cut (ps_if (PW.pt (pw_or (pt_not (pt_val (pe_callB (cr_all rfl) (by rfl) T.z_all (by decide +kernel) (pa_cons (pe_lc (own := [("thing", 10)]) (tt := tYes) rfl sc_law.nd (pi_list (pv 9)) (blkOk_by (by kernel_rfl)) (fun _ _ _ _ _ => (pg_name (i := 10) sc_law.nd rfl (by first | exact Or.inl rfl | exact Or.inr rfl))) (fun _ _ _ _ _ => pts_nil) (fun _ _ _ _ _ => (pe_cmpR op_isBl (kpd_meth (P := P) (w := w) (K := K) (mg := mg) (base := base) hr takes0 (pv 5) (pa_cons (pv 10) pa_nil)) pe_bl (nomark _)))) pa_nil)))) (pw_or1 (pt_not (pt_val (pe_callB (cr_all rfl) (by rfl) T.z_all (by decide +kernel) (pa_cons (pe_lc (own := [("x", 11)]) (tt := tYes) rfl sc_law.nd (pi_list (pe_lst (pa_cons (pv 6) (pa_cons (pv 7) (pa_cons (pv 8) pa_nil))))) (blkOk_by (by kernel_rfl)) (fun _ _ _ _ _ => (pg_name (i := 11) sc_law.nd rfl (by first | exact Or.inl rfl | exact Or.inr rfl))) (fun _ _ _ _ _ => pts_nil) (fun _ _ _ _ _ => (pe_cmpR op_isBl (kpd_meth (P := P) (w := w) (K := K) (mg := mg) (base := base) hr takes0 (pv 5) (pa_cons (pv 11) pa_nil)) pe_bl (nomark _)))) pa_nil))))))) (pss_one (ps_ret pe_bl)) pss_nil)
      (pss_one (ps_ret (pe_and (pc_call c_law_refused hr (by first | decide | omega) (takes_of rfl rfl rfl rfl) (by rfl) (pa_cons pe_int (pa_cons pe_int pa_nil))) (pe_and (pc_call c_law_refused hr (by first | decide | omega) (takes_of rfl rfl rfl rfl) (by rfl) (pa_cons pe_int (pa_cons pe_int pa_nil))) (pe_one (pc_call c_law_refused hr (by first | decide | omega) (takes_of rfl rfl rfl rfl) (by rfl) (pa_cons pe_int (pa_cons (pe_un un_neg pe_int) pa_nil))))))))))))))))))))))), ?_⟩
    -- pot, kind
    refine ⟨_, rfl, sa, ns, rfl, hS, hlen, fun H1 p s1 np P1 => ⟨_, rfl, p, 4, rfl, P1, by decide, by decide, fun H2 kd f2 P2 kd0 kd4 => ?_⟩⟩
    -- size
    refine ⟨_, rfl, two, fun l hl => ⟨_, rfl, p, 2, rfl, P2.same (same_upd_new hl), by decide, by decide, fun H3 r f3 P3 r0 r2 => ?_⟩⟩
    obtain ⟨lm, e1, e2⟩ := pick2 (.int 2) (.int 50) r0 r2
    obtain ⟨lim, el, l0, l1⟩ : ∃ lim : Int, lm = .int lim ∧ 0 < lim ∧ lim ≤ 50 := by
      rcases e2 with rfl | rfl
      · exact ⟨2, rfl, by decide, by decide⟩
      · exact ⟨50, rfl, by decide, by decide⟩
    subst el
    have npl : l ≠ p := by
      obtain ⟨o, ho⟩ := P2.some
      exact (ne_of_none ho hl).symm
    refine ⟨l, _, r, _, rfl, rfl, SqL.of (f3 _ _ npl upd_same), e1, p, lim, rfl, P3, l0, by omega, fun H4 v f4 P4 v0 v1 => ⟨_, _, rfl, rfl, ?_⟩⟩
    -- bits
    refine ⟨_, rfl, two, fun l' hl' => ⟨_, rfl, p, 2, rfl, P4.same (same_upd_new hl'), by decide, by decide, fun H5 r' f5 P5 r0' r2' => ?_⟩⟩
    obtain ⟨lm, e1', e2'⟩ := pick2 (.int 4) (.int 201) r0' r2'
    obtain ⟨lim', el, l0', l1'⟩ : ∃ lim : Int, lm = .int lim ∧ 0 < lim ∧ lim ≤ 201 := by
      rcases e2' with rfl | rfl
      · exact ⟨4, rfl, by decide, by decide⟩
      · exact ⟨201, rfl, by decide, by decide⟩
    subst el
    have npl' : l' ≠ p := by
      obtain ⟨o, ho⟩ := P4.some
      exact (ne_of_none ho hl').symm
    refine ⟨l', _, r', _, rfl, rfl, SqL.of (f5 _ _ npl' upd_same), e1', p, lim', rfl, P5, l0', by omega, fun H6 bt f6 P6 bt0 bt1 => ?_⟩
    -- ring
    refine ⟨fun σ H' => ∃ (rg dx C : Addr) (fs : List (Str × V)) (el sm : V → Prop) (pl tm : V → V → V) (z o : V) (st : V → Option V) (ie : V → Bool),
      σ = [some (.ref sa), some (.ref p), some (.int kd), some (.int (1 + v)), some (.int bt), some (.ref rg), none, none, none, none, none, none] ∧ PotAt H' p ∧ H' rg = some (.ins C dx fs) ∧ RingX P w K mg base C ad.NoStar fs el sm pl tm z o st ie ∧ KindOk kd (if kd = 3 then 1 * 2 ^ bt.toNat - 1 else 1 + v) sm pl tm z o st ie, ?_, ?_⟩
    · refine ⟨ad.Numbers, mkN, fun yN dN a1 a2 a3 => ⟨ad.Costs, mkC, fun yC dC b1 b2 b3 => ⟨1, ad.Levels, _, by decide, mLev, _, rfl, fun yL dL c1 c2 c3 => ⟨yL, dL, 1 + v, rfl, upd_same, fun _ => ⟨rfl, ?_⟩, fun h => absurd h (by omega)⟩⟩⟩⟩
      refine ⟨1, ad.Events, _, by decide, mEv, _, rfl, fun yE dE d1 d2 d3 => ⟨yE, dE, bt, rfl, upd_same, fun _ => ⟨rfl, four, fun L hL => ?_⟩, fun h => by omega⟩⟩
      have sN := same_made (o := .own yN) (o' := .ins ad.Numbers dN []) a1 a2
      have sC := same_made (o := .own yC) (o' := .ins ad.Costs dC []) b1 b2
      have sL := same_new (o := .ins ad.Levels dL (fT (1 + v))) (same_made (o := .own yL) (o' := .ins ad.Levels dL []) c1 c2) c1
      have sE := same_new (o := .ins ad.Events dE (fA (1 * 2 ^ bt.toNat - 1))) (same_made (o := .own yE) (o' := .ins ad.Events dE []) d1 d2) d1
      have sF := same_upd_new (o := .lst [.ref yN, .ref yC, .ref yL, .ref yE]) hL
      have PF := P6.same ((((sN.trans sC).trans sL).trans sE).trans sF)
      have hN := (((sC.trans sL).trans sE).trans sF) _ _ (upd_same (a := yN))
      have hC := ((sL.trans sE).trans sF) _ _ (upd_same (a := yC))
      have hL' := (sE.trans sF) _ _ (upd_same (a := yL))
      have hE := sF _ _ (upd_same (a := yE))
      have : kd = 0 ∨ kd = 1 ∨ kd = 2 ∨ kd = 3 := by omega
      rcases this with rfl | rfl | rfl | rfl
      · refine ⟨_, rfl, L, _, _, _, rfl, rfl, SqL.of upd_same, (by rfl), yN, dN, _, _, _, _, _, _, _, _, _, _, rfl, PF, hN, R.num, ?_⟩
        rw [if_neg (by decide)]
        exact kind_num (by omega) (by omega)
      · refine ⟨_, rfl, L, _, _, _, rfl, rfl, SqL.of upd_same, (by rfl), yC, dC, _, _, _, _, _, _, _, _, _, _, rfl, PF, hC, R.cst, ?_⟩
        rw [if_neg (by decide)]
        exact kind_cst (by omega) (by omega)
      · refine ⟨_, rfl, L, _, _, _, rfl, rfl, SqL.of upd_same, (by rfl), yL, dL, _, _, _, _, _, _, _, _, _, _, rfl, PF, hL', R.lev (1 + v) (by omega), ?_⟩
        rw [if_neg (by decide)]
        exact kind_bt (.inl rfl) (by omega) (by omega) fun x y h1 h2 => .l h1 h2
      · refine ⟨_, rfl, L, _, _, _, rfl, rfl, SqL.of upd_same, (by rfl), yE, dE, _, _, _, _, _, _, _, _, _, _, rfl, PF, hE, R.evt bt.toNat, ?_⟩
        rw [if_pos rfl]
        have hp := pw2 (n := bt.toNat) (by omega)
        exact kind_bt (.inr rfl) hp.1 hp.2 fun x y h1 h2 => .e h1 h2
    · rintro σ H7 ⟨rg, dx, C, fs, el, sm, pl, tm, z, o, st, ie, rfl, P7, hr7, RX, KO⟩
      refine ⟨fun σ H' => ∃ sz : Int, σ = [some (.ref sa), some (.ref p), some (.int kd), some (.int sz), some (.int bt), some (.ref rg), none, none, none, none, none, none] ∧ H' = H7 ∧ KindOk kd sz sm pl tm z o st ie, ?_, ?_⟩
      · -- if kind == 3
        refine ⟨_, rfl, rfl, _, rfl, ?_⟩
        by_cases c : kd = 3
        · subst c
          rw [if_pos rfl] at KO
          exact iteT ⟨_, rfl, _, _, rfl, rfl, ⟨bt0, by omega, by decide⟩, _, _, rfl, rfl, _, rfl, rfl, KO⟩
        · have e : decide (V.int kd = V.int 3) = false := by simp [c]
          rw [e]
          rw [if_neg c] at KO
          exact iteF ⟨_, rfl, rfl, KO⟩
      · rintro σ H8 ⟨sz, rfl, rfl, KO⟩
        -- a, b, c
        have nrp : rg ≠ p := by
          obtain ⟨b, ns', i, c', sd, h1, _⟩ := P7
          exact ne_of hr7 h1 (by intro z; cases z)
        refine ⟨_, rfl, _, rfl, _, rfl, p, kd, sz, rfl, P7, KO.k0, KO.s0, KO.s1, fun H9 va f9 P9 ea => ?_⟩
        refine ⟨_, rfl, _, rfl, _, rfl, p, kd, sz, rfl, P9, KO.k0, KO.s0, KO.s1, fun H10 vb f10 P10 eb => ?_⟩
        refine ⟨_, rfl, _, rfl, _, rfl, p, kd, sz, rfl, P10, KO.k0, KO.s0, KO.s1, fun H11 vc f11 P11 ec => ?_⟩
        have hr : H11 rg = some (.ins C dx fs) := f11 _ _ nrp (f10 _ _ nrp (f9 _ _ nrp hr7))
        have ma := KO.elt _ ea
        have mb := KO.elt _ eb
        have mc := KO.elt _ ec
        have ela := RX.sub _ ma
        have elb := RX.sub _ mb
        have elc := RX.sub _ mc
        have nia := RX.ni _ ela
        have nib := RX.ni _ elb
        have nic := RX.ni _ elc
        -- the axioms, plus and times
        refine ⟨fun σ H' => σ = [some (.ref sa), some (.ref p), some (.int kd), some (.int sz), some (.int bt), some (.ref rg), some va, some vb, some vc, none, none, none] ∧ Same H11 H', ?_, ?_⟩
        · refine ⟨13, _, by decide, c_ax RX, _, rfl, _, rfl, _, rfl, _, rfl, rg, dx, va, vb, vc, rfl, hr, ma, mb, mc, fun H12 s12 => ⟨true, rfl, iteF ?_⟩⟩
          have hr12 := s12 _ _ hr
          refine val_bin (σ := [some (.ref sa), some (.ref p), some (.int kd), some (.int sz), some (.int bt), some (.ref rg), some va, some vb, some vc, none, none, none]) (i := 5) RX.plus (by decide) RX.lk.1 hr12 rfl (val_var (i := 6) rfl) (val_var (i := 7) rfl) ela elb _ ?_
          refine val_bin (σ := [some (.ref sa), some (.ref p), some (.int kd), some (.int sz), some (.int bt), some (.ref rg), some va, some vb, some vc, none, none, none]) (i := 5) RX.times (by decide) RX.lk.2.1 hr12 rfl (val_var (i := 6) rfl) (val_var (i := 7) rfl) ela elb _ ?_
          refine ⟨two, fun l1 hl1 => ⟨_, rfl, _, rfl, _, rfl, _, rfl, kd, sz, va, vb, _, _, rfl, KO.due _ _ ma mb, fun l2 hl2 => ⟨.ref l1, .ref l2, rfl, ?_, fun H13 s13 => ⟨true, rfl, iteF ⟨rfl, ?_⟩⟩⟩⟩⟩
          · refine same_list ((same_upd_new hl2) _ _ upd_same) upd_same (by show 2 ≤ 100000; decide) fun u hu => ?_
            rcases List.mem_cons.mp hu with rfl | hu
            · exact ni_flat (RX.npl _ _ ela elb)
            · rcases List.mem_cons.mp hu with rfl | hu
              · exact ni_flat (RX.ntm _ _ ela elb)
              · cases hu
          · exact ((s12.trans (same_upd_new hl1)).trans (same_upd_new hl2)).trans s13
        · rintro σ H12 ⟨rfl, s12⟩
          have hr12 := s12 _ _ hr
          -- zero, one
          refine ⟨fun σ H' => σ = [some (.ref sa), some (.ref p), some (.int kd), some (.int sz), some (.int bt), some (.ref rg), some va, some vb, some vc, none, none, none] ∧ Same H11 H', ?_, ?_⟩
          · refine val_nul (σ := [some (.ref sa), some (.ref p), some (.int kd), some (.int sz), some (.int bt), some (.ref rg), some va, some vb, some vc, none, none, none]) (i := 5) RX.zero (by decide) RX.lk.2.2.1 hr12 rfl _ ?_
            refine val_nul (σ := [some (.ref sa), some (.ref p), some (.int kd), some (.int sz), some (.int bt), some (.ref rg), some va, some vb, some vc, none, none, none]) (i := 5) RX.one (by decide) RX.lk.2.2.2.1 hr12 rfl _ ?_
            refine ⟨two, fun l0 hl0 => ⟨two, fun m0 h0 => ⟨two, fun m1 h1 => ⟨_, rfl, two, fun m2 h2 => ⟨_, rfl, two, fun m3 h3 => ⟨four, fun L hL => ?_⟩⟩⟩⟩⟩⟩
            have t0 := same_upd_new (o := .lst [.int 0, .int 1]) h0
            have t1 := same_upd_new (o := .lst [.non, .int 0]) h1
            have t2 := same_upd_new (o := .lst [.int 0, .int sz]) h2
            have t3 := same_upd_new (o := .lst [.int 0, .int sz]) h3
            have tL := same_upd_new (o := .lst [.ref m0, .ref m1, .ref m2, .ref m3]) hL
            have g0 := (((t1.trans t2).trans t3).trans tL) _ _ (upd_same (a := m0))
            have g1 := ((t2.trans t3).trans tL) _ _ (upd_same (a := m1))
            have g2 := (t3.trans tL) _ _ (upd_same (a := m2))
            have g3 := tL _ _ (upd_same (a := m3))
            have tt := (((t0.trans t1).trans t2).trans t3).trans tL
            have gl := tt _ _ (upd_same (a := l0))
            have hfl : ∀ u ∈ [z, o], flatD u = true := fun u hu => by
              rcases List.mem_cons.mp hu with rfl | hu
              · exact ni_flat (RX.ni _ (RX.sub _ RX.smz))
              · rcases List.mem_cons.mp hu with rfl | hu
                · exact ni_flat (RX.ni _ (RX.sub _ RX.smo))
                · cases hu
            have cn := (s12.trans (same_upd_new (o := .lst [z, o]) hl0)).trans tt
            rcases KO.zo with ⟨rfl, rfl, rfl⟩ | ⟨rfl, rfl, rfl⟩ | ⟨rfl | rfl, rfl, rfl⟩
            · exact ⟨_, rfl, L, _, _, .ref m0, rfl, rfl, SqL.of upd_same, (by rfl), .ref l0, .ref m0, rfl, same_list gl g0 (by show 2 ≤ 100000; decide) hfl, fun H13 s13 => ⟨true, rfl, iteF ⟨rfl, cn.trans s13⟩⟩⟩
            · exact ⟨_, rfl, L, _, _, .ref m1, rfl, rfl, SqL.of upd_same, (by rfl), .ref l0, .ref m1, rfl, same_list gl g1 (by show 2 ≤ 100000; decide) hfl, fun H13 s13 => ⟨true, rfl, iteF ⟨rfl, cn.trans s13⟩⟩⟩
            · exact ⟨_, rfl, L, _, _, .ref m2, rfl, rfl, SqL.of upd_same, (by rfl), .ref l0, .ref m2, rfl, same_list gl g2 (by show 2 ≤ 100000; decide) hfl, fun H13 s13 => ⟨true, rfl, iteF ⟨rfl, cn.trans s13⟩⟩⟩
            · exact ⟨_, rfl, L, _, _, .ref m3, rfl, rfl, SqL.of upd_same, (by rfl), .ref l0, .ref m3, rfl, same_list gl g3 (by show 2 ≤ 100000; decide) hfl, fun H13 s13 => ⟨true, rfl, iteF ⟨rfl, cn.trans s13⟩⟩⟩
          · rintro σ H13 ⟨rfl, s13⟩
            have hr13 := s13 _ _ hr
            -- the stars
            refine ⟨fun σ H' => σ = [some (.ref sa), some (.ref p), some (.int kd), some (.int sz), some (.int bt), some (.ref rg), some va, some vb, some vc, none, none, none] ∧ Same H11 H', ?_, ?_⟩
            · by_cases c0 : kd = 0
              · obtain ⟨i, ei, hst⟩ := KO.st0 c0 _ ma
                subst c0
                subst ei
                refine ⟨_, rfl, rfl, _, rfl, iteT ?_⟩
                refine ⟨7, _, by decide, c_star RX, _, rfl, _, rfl, rg, dx, _, rfl, hr13, ela, fun s hs l hl => ?_, fun hs => ?_⟩
                · obtain ⟨hi, q, hq⟩ : ¬ 0 < i ∧ ∃ s, st (.int i) = some (.int s) := by
                    rcases hst with ⟨h1, h2⟩ | h1
                    · rw [h2] at hs
                      cases hs
                    · exact h1
                  rw [hq] at hs
                  cases hs
                  have hl1 : (upd H13 l (.lst [.int q])) l = some (.lst [.int q]) := upd_same
                  refine ⟨_, _, .lst (SqL.of hl1) (.cons (.int q) .nil), .str _, by rfl, by decide +kernel, _, rfl, _, _, rfl, rfl, rfl, _, rfl, ?_⟩
                  have e : PyData.eqv (.list [.int q]) (.str ("none" : Str)) = false := by rfl
                  refine iteFc (show (!decide (V.bl (PyData.eqv (.list [.int q]) (.str ("none" : Str))) = V.bl (decide (0 < i)))) = false by rw [e]; simp [hi]) ?_
                  exact ⟨_, rfl, _, _, rfl, rfl, _, rfl, iteF (iteF ⟨rfl, s13.trans (same_upd_new hl)⟩)⟩
                · obtain ⟨hi⟩ : PLift (0 < i) := ⟨by
                    rcases hst with ⟨h1, h2⟩ | ⟨_, s, h1⟩
                    · exact h1
                    · rw [h1] at hs
                      cases hs⟩
                  refine ⟨_, _, .str _, .str _, by decide +kernel, by decide +kernel, _, rfl, _, _, rfl, rfl, rfl, _, rfl, ?_⟩
                  have e : PyData.eqv (.str ("none" : Str)) (.str ("none" : Str)) = true := by decide +kernel
                  refine iteFc (show (!decide (V.bl (PyData.eqv (.str ("none" : Str)) (.str ("none" : Str))) = V.bl (decide (0 < i)))) = false by rw [e]; simp [hi]) ?_
                  exact ⟨_, rfl, _, _, rfl, rfl, _, rfl, iteF (iteF ⟨rfl, s13⟩)⟩
              · have hst := KO.stp c0 _ ma
                have hk0 := KO.k0
                have e : decide (V.int kd = V.int 0) = false := by simp [c0]
                refine ⟨_, rfl, rfl, _, rfl, ?_⟩
                rw [e]
                refine iteF (iteF ⟨_, rfl, _, _, rfl, rfl, _, rfl, ?_⟩)
                rw [decide_eq_true (by omega : 0 < kd)]
                refine iteT ?_
                refine ⟨7, _, by decide, c_star RX, _, rfl, _, rfl, rg, dx, _, rfl, hr13, ela, fun s hs l hl => ?_, fun hs => by rw [hst] at hs; cases hs⟩
                rw [hst] at hs
                obtain ⟨q, hq, hat⟩ : ∃ q, (if kd = 1 then V.int 0 else V.int sz) = V.int q ∧ atI [V.int 0, V.int 0, V.int sz, V.int sz] kd = some (.int q) := by
                  have hk4 := KO.k4
                  have : kd = 1 ∨ kd = 2 ∨ kd = 3 := by omega
                  rcases this with rfl | rfl | rfl
                  · exact ⟨0, rfl, rfl⟩
                  · exact ⟨sz, rfl, rfl⟩
                  · exact ⟨sz, rfl, rfl⟩
                rw [hq] at hs
                cases hs
                have hl1 : (upd H13 l (.lst [.int q])) l = some (.lst [.int q]) := upd_same
                refine ⟨_, rfl, _, rfl, four, fun m hm => ⟨_, rfl, m, _, kd, .int q, rfl, rfl, SqL.of upd_same, hat, (by show 1 ≤ sizeLine; decide), fun m2 hm2 => ?_⟩⟩
                have t1 := same_upd_new (o := .lst [V.int 0, V.int 0, V.int sz, V.int sz]) hm
                have t2 := same_upd_new (o := .lst [V.int q]) hm2
                refine ⟨_, _, .lst (SqL.of ((t1.trans t2) _ _ hl1)) (.cons (.int q) .nil), .lst (SqL.of upd_same) (.cons (.int q) .nil), by rfl, by rfl, ?_⟩
                have e : PyData.eqv (.list [.int q]) (.list [.int q]) = true := PySem.SeqAt.eqv_refl _ rfl
                rw [e]
                exact ⟨_, rfl, iteF ⟨rfl, ((s13.trans (same_upd_new hl)).trans t1).trans t2⟩⟩
            · rintro σ H14 ⟨rfl, s14⟩
              -- bad
              refine ⟨fun σ H' => ∃ (q : Addr) (zs : List V), σ = [some (.ref sa), some (.ref p), some (.int kd), some (.int sz), some (.int bt), some (.ref rg), some va, some vb, some vc, some (.ref q), none, none] ∧ Same H11 H' ∧ H11 q = none ∧ H' q = some (.lst zs) ∧ zs.length ≤ 8 ∧ ∀ x ∈ zs, ie x = false ∧ ∀ H'', (∀ b u, b ≠ q → H' b = some u → H'' b = some u) → Thg H'' x, ?_, ?_⟩
              · refine ⟨_, rfl, by decide, fun e0 g0 => ⟨by decide, fun t0 g1 => ⟨(by show 5 ≤ sizeLine; decide), fun B gB => ?_⟩⟩⟩
                refine ⟨by decide, fun r0 q0 => ⟨by decide, fun r1 q1 => ⟨_, rfl, _, _, rfl, rfl, (by show 1 ≤ sizeLine; decide), fun r2 q2 => ⟨_, rfl, _, _, rfl, rfl, (by show 1 ≤ sizeLine; decide), fun r3 q3 => ⟨four, fun L hL => ?_⟩⟩⟩⟩⟩
                have u0 := same_upd_new (o := .lst []) g0
                have u1 := same_upd_new (o := .tup [.int 0]) g1
                have uB := same_upd_new (o := .lst [.str "1", .int (-1), .bl true, .ref e0, .ref t0]) gB
                have v0 := same_upd_new (o := .lst []) q0
                have v1 := same_upd_new (o := .lst []) q1
                have v2 := same_upd_new (o := .lst [.int (sz + 1)]) q2
                have v3 := same_upd_new (o := .lst [.int (sz + 1)]) q3
                have vL := same_upd_new (o := .lst [.ref r0, .ref r1, .ref r2, .ref r3]) hL
                have w0 := (((v1.trans v2).trans v3).trans vL) _ _ (upd_same (a := r0))
                have w1 := ((v2.trans v3).trans vL) _ _ (upd_same (a := r1))
                have w2 := (v3.trans vL) _ _ (upd_same (a := r2))
                have w3 := vL _ _ (upd_same (a := r3))
                have vv := (((v0.trans v1).trans v2).trans v3).trans vL
                have wB := vv _ _ (upd_same (a := B))
                have we := ((u1.trans uB).trans vv) _ _ (upd_same (a := e0))
                have wt := (uB.trans vv) _ _ (upd_same (a := t0))
                have all := ((s14.trans ((u0.trans u1).trans uB))).trans vv
                have bad5 : ∀ (q : Addr) (zs : List V) (Hx : Hp), Hx q = none → Same _ Hx → ∀ x ∈ [V.str "1", .int (-1), .bl true, .ref e0, .ref t0], ie x = false ∧ ∀ H'', (∀ b u, b ≠ q → upd Hx q (.lst zs) b = some u → H'' b = some u) → Thg H'' x := fun q zs Hx hx sx x hm => by
                  have he : Hx e0 = some (.lst []) := sx _ _ we
                  have ht : Hx t0 = some (.tup [.int 0]) := sx _ _ wt
                  have ne : e0 ≠ q := ne_of_none he hx
                  have nt : t0 ≠ q := ne_of_none ht hx
                  rcases List.mem_cons.mp hm with rfl | hm
                  · exact ⟨KO.ie1 _ rfl (by intro z; cases z), fun _ _ => .str _⟩
                  · rcases List.mem_cons.mp hm with rfl | hm
                    · exact ⟨KO.ie2, fun _ _ => .int _⟩
                    · rcases List.mem_cons.mp hm with rfl | hm
                      · exact ⟨KO.ie1 _ rfl (by intro z; cases z), fun _ _ => .bl _⟩
                      · rcases List.mem_cons.mp hm with rfl | hm
                        · exact ⟨KO.ie1 _ rfl (by intro z; cases z), fun H'' h => .lst (h _ _ ne (by rw [upd_ne ne]; exact he))⟩
                        · rcases List.mem_cons.mp hm with rfl | hm
                          · exact ⟨KO.ie1 _ rfl (by intro z; cases z), fun H'' h => .tup (h _ _ nt (by rw [upd_ne nt]; exact ht))⟩
                          · cases hm
                have fin : ∀ (r : Addr) (es : List V), (es = [] ∨ (es = [.int (sz + 1)] ∧ 2 ≤ kd)) → ∀ q (Hx : Hp), Hx q = none → Same _ Hx → Same H11 Hx → ∃ (q' : Addr) (zs : List V), ([some (.ref sa), some (.ref p), some (.int kd), some (.int sz), some (.int bt), some (.ref rg), some va, some vb, some vc, some (.ref q), none, none] : L2.St) = [some (.ref sa), some (.ref p), some (.int kd), some (.int sz), some (.int bt), some (.ref rg), some va, some vb, some vc, some (.ref q'), none, none] ∧ Same H11 (upd Hx q (.lst ([V.str "1", .int (-1), .bl true, .ref e0, .ref t0] ++ es))) ∧ H11 q' = none ∧ upd Hx q (.lst ([V.str "1", .int (-1), .bl true, .ref e0, .ref t0] ++ es)) q' = some (.lst zs) ∧ zs.length ≤ 8 ∧ ∀ x ∈ zs, ie x = false ∧ ∀ H'', (∀ b u, b ≠ q' → upd Hx q (.lst ([V.str "1", .int (-1), .bl true, .ref e0, .ref t0] ++ es)) b = some u → H'' b = some u) → Thg H'' x := fun r es hes q Hx hx sx s11 => by
                  refine ⟨q, _, rfl, same_new s11 (s11.free hx), s11.free hx, upd_same, ?_, fun x hm => ?_⟩
                  · rcases hes with rfl | ⟨rfl, _⟩
                    · show 5 ≤ 8
                      decide
                    · show 6 ≤ 8
                      decide
                  · rcases List.mem_append.mp hm with hm | hm
                    · exact bad5 q _ Hx hx sx x hm
                    · rcases hes with rfl | ⟨rfl, h2⟩
                      · cases hm
                      · rcases List.mem_cons.mp hm with rfl | hm
                        · exact ⟨KO.ie3 h2, fun _ _ => .int _⟩
                        · cases hm
                have hk0 := KO.k0
                have hk4 := KO.k4
                have : kd = 0 ∨ kd = 1 ∨ kd = 2 ∨ kd = 3 := by omega
                rcases this with e | e | e | e
                · exact ⟨_, rfl, L, _, kd, .ref r0, rfl, rfl, SqL.of upd_same, (by subst e; rfl), B, r0, _, _, rfl, rfl, wB, w0, (by show 5 ≤ sizeLine; decide), fun q hq => fin r0 _ (.inl rfl) q _ hq (Same.refl _) all⟩
                · exact ⟨_, rfl, L, _, kd, .ref r1, rfl, rfl, SqL.of upd_same, (by subst e; rfl), B, r1, _, _, rfl, rfl, wB, w1, (by show 5 ≤ sizeLine; decide), fun q hq => fin r1 _ (.inl rfl) q _ hq (Same.refl _) all⟩
                · exact ⟨_, rfl, L, _, kd, .ref r2, rfl, rfl, SqL.of upd_same, (by subst e; rfl), B, r2, _, _, rfl, rfl, wB, w2, (by show 6 ≤ sizeLine; decide), fun q hq => fin r2 _ (.inr ⟨rfl, by omega⟩) q _ hq (Same.refl _) all⟩
                · exact ⟨_, rfl, L, _, kd, .ref r3, rfl, rfl, SqL.of upd_same, (by subst e; rfl), B, r3, _, _, rfl, rfl, wB, w3, (by show 6 ≤ sizeLine; decide), fun q hq => fin r3 _ (.inr ⟨rfl, by omega⟩) q _ hq (Same.refl _) all⟩
              · rintro σ H15 ⟨q, zs, rfl, s15, q11, hq, hz8, hzs⟩
                have hr15 := s15 _ _ hr
                refine ⟨fun σ H' => ∃ zs : List V, σ = [some (.ref sa), some (.ref p), some (.int kd), some (.int sz), some (.int bt), some (.ref rg), some va, some vb, some vc, some (.ref q), none, none] ∧ Same H11 H' ∧ H' q = some (.lst zs) ∧ zs.length ≤ 9 ∧ ∀ x ∈ zs, ie x = false ∧ Thg H' x, ?_, ?_⟩
                · -- if kind != 1: bad.append(None)
                  refine ⟨_, rfl, rfl, _, rfl, ?_⟩
                  by_cases c1 : kd = 1
                  · subst c1
                    exact iteF ⟨zs, rfl, s15, hq, by omega, fun x hx => ⟨(hzs x hx).1, (hzs x hx).2 _ fun _ _ _ h => h⟩⟩
                  · have e : (!decide (V.int kd = V.int 1)) = true := by simp [c1]
                    rw [e]
                    refine iteT ⟨_, rfl, .inl ⟨rfl, _, SqL.of hq⟩, q, _, _, rfl, rfl, hq, Nat.lt_of_le_of_lt hz8 (by decide), zs ++ [.non], rfl, ?_, upd_same, by rw [List.length_append]; exact Nat.add_le_add_right hz8 1, fun x hx => ?_⟩
                    · exact same_new s15 q11
                    · rcases List.mem_append.mp hx with hx | hx
                      · exact ⟨(hzs x hx).1, (hzs x hx).2 _ fun b u hb h => by rw [upd_ne hb]; exact h⟩
                      · rcases List.mem_cons.mp hx with rfl | hx
                        · exact ⟨KO.ie4 c1, .non⟩
                        · cases hx
                · rintro σ H16 ⟨ws, rfl, s16, hq16, hw9, hws⟩
                  have hr16 := s16 _ _ hr
                  have repl : ∀ i : Nat, (List.replicate i true).map V.bl ++ [V.bl true] = (List.replicate (i + 1) true).map V.bl := fun i => by
                    rw [List.replicate_succ', List.map_append]
                    rfl
                  have rall : ∀ i : Nat, (List.replicate i true).all id = true := fun i => by simp
                  refine ⟨fun σ H' => True, ?_, ?_⟩
                  · -- not all([.. is False for thing in bad])
                    refine ⟨_, rfl, q, rfl, ⟨_, SqL.of hq16⟩, fun D hD => ?_⟩
                    refine lc_list (K := K) (a := q) (xs := ws) (fun i H' => Same H16 H' ∧ H' D = some (.lst ((List.replicate i true).map V.bl))) ⟨same_new (Same.refl _) hD, upd_same⟩ (fun i H' hi ⟨s1, _⟩ => SqL.of (s1 _ _ hq16)) (fun i x H' hi ⟨s1, hd1⟩ => ?_) (fun H17 ⟨s17, hd17⟩ => ?_)
                    · obtain ⟨ix, tx⟩ := hws x (List.mem_of_getElem? hi)
                      have hrx := s1 _ _ hr16
                      have li : i < ws.length := (List.getElem?_eq_some_iff.mp hi).1
                      refine ⟨rfl, ?_⟩
                      refine yes_then ?_
                      refine iteT ?_
                      refine ⟨_, rfl, rg, C, dx, fs, 3, _, rfl, hrx, RX.lk.2.2.2.2.2, by decide, RX.elem, _, rfl, rg, dx, x, rfl, hrx, thg_same s1 tx, _, _, rfl, rfl, ?_⟩
                      rw [ix]
                      refine ⟨_, hd1, ?_, same_new s1 hD, ?_⟩
                      · rw [List.length_map, List.length_replicate]
                        exact Nat.lt_of_lt_of_le li (Nat.le_trans hw9 (by decide))
                      · rw [upd_same]
                        exact congrArg (fun l => some (HO.lst l)) (repl i)
                    · refine ⟨D, List.replicate ws.length true, rfl, SqL.of hd17, ?_⟩
                      rw [rall]
                      refine ⟨true, rfl, iteF ?_⟩
                      -- not all([.. is True for x in [a, b, c]])
                      refine ⟨_, rfl, _, rfl, _, rfl, (by show 3 ≤ sizeLine; decide), fun l hl => ⟨l, rfl, ⟨_, SqL.of upd_same⟩, fun D2 hD2 => ?_⟩⟩
                      have hr17 := (s17.trans (same_upd_new (o := .lst [va, vb, vc]) hl)) _ _ hr16
                      have hl17 : (upd H17 l (.lst [va, vb, vc])) l = some (.lst [va, vb, vc]) := upd_same
                      refine lc_list (K := K) (a := l) (xs := [va, vb, vc]) (fun i H' => Same (upd H17 l (.lst [va, vb, vc])) H' ∧ H' D2 = some (.lst ((List.replicate i true).map V.bl))) ⟨same_new (Same.refl _) hD2, upd_same⟩ (fun i H' hi ⟨s1, _⟩ => SqL.of (s1 _ _ hl17)) (fun i x H' hi ⟨s1, hd1⟩ => ?_) (fun H18 ⟨s18, hd18⟩ => ?_)
                      · have hx : sm x ∧ NI x := by
                          rcases List.mem_cons.mp (List.mem_of_getElem? hi) with rfl | hm
                          · exact ⟨ma, nia⟩
                          · rcases List.mem_cons.mp hm with rfl | hm
                            · exact ⟨mb, nib⟩
                            · rcases List.mem_cons.mp hm with rfl | hm
                              · exact ⟨mc, nic⟩
                              · cases hm
                        have tx : Thg H' x := by
                          rcases hx.2 with rfl | ⟨i, rfl⟩
                          · exact .non
                          · exact .int _
                        have hrx := s1 _ _ hr17
                        have li : i < 3 := (List.getElem?_eq_some_iff.mp hi).1
                        refine ⟨rfl, ?_⟩
                        refine yes_then ?_
                        refine iteT ?_
                        refine ⟨_, rfl, rg, C, dx, fs, 3, _, rfl, hrx, RX.lk.2.2.2.2.2, by decide, RX.elem, _, rfl, rg, dx, x, rfl, hrx, tx, _, _, rfl, rfl, ?_⟩
                        rw [KO.ie5 _ hx.1]
                        refine ⟨_, hd1, ?_, same_new s1 hD2, ?_⟩
                        · rw [List.length_map, List.length_replicate]
                          exact Nat.lt_of_lt_of_le li (by decide)
                        · rw [upd_same]
                          exact congrArg (fun l => some (HO.lst l)) (repl i)
                      · refine ⟨D2, List.replicate 3 true, rfl, SqL.of hd18, ?_⟩
                        exact ⟨true, rfl, iteF trivial⟩
                  · rintro σ H19 _
                    refine ⟨0, 0, rfl, .inl ⟨rfl, by decide⟩, fun H20 _ => ⟨true, rfl, iteT ?_⟩⟩
                    refine ⟨1, 201, rfl, .inr ⟨by decide, .inr (by decide)⟩, fun H21 _ => ⟨true, rfl, iteT ?_⟩⟩
                    exact ⟨_, rfl, 1, -1, rfl, .inr ⟨by decide, .inl (by decide)⟩, fun H22 _ => k _⟩
end
end K02

set_option Elab.async false
set_option linter.all false
set_option maxRecDepth 100000
set_option maxHeartbeats 4000000
namespace K02
open PySem L2 Ew
section
variable {P : Program} {w : World} {K : PySem.W.Frag} {mg : Str → Option Value} {base : Heap} {ad : Ad}
/-- a ring's six methods -/
structure Six (P : Program) (w : World) (K : PySem.W.Frag) (mg : Str → Option Value) (base : Heap) (C ns : Addr) (fs : List (Str × V)) (el : V → Prop) (pl tm : V → V → V) (z o : V) (st : V → Option V) (ie : V → Bool) : Prop where
  plus : MetX P w K mg base 3 C "plus" (spBin C fs el pl)
  times : MetX P w K mg base 3 C "times" (spBin C fs el tm)
  zero : MetX P w K mg base 3 C "zero" (spNul C fs z)
  one : MetX P w K mg base 3 C "one" (spNul C fs o)
  star : MetX P w K mg base 3 C "star" (spSt C ns fs el st)
  elem : MetX P w K mg base 3 C "is_element" (spEl C fs ie)
theorem nm_le {a b : Nat} (h : a ≤ b) {v : V} (x : Nm a v) : Nm b v := by
  obtain ⟨i, e, h1, h2⟩ := x
  exact ⟨i, e, h1, Nat.lt_of_lt_of_le h2 (Nat.pow_le_pow_right (by decide) h)⟩
theorem nm_add {a : Nat} {x y : V} (hx : Nm a x) (hy : Nm a y) : Nm (a + 1) (addV x y) := by
  obtain ⟨i, rfl, h1, h2⟩ := hx
  obtain ⟨j, rfl, h3, h4⟩ := hy
  refine ⟨i + j, rfl, by omega, ?_⟩
  have e : (i + j).natAbs = i.natAbs + j.natAbs := by omega
  rw [e, Nat.pow_succ]
  omega
theorem nm_mul {a b : Nat} {x y : V} (hx : Nm a x) (hy : Nm b y) : Nm (a + b) (mulV x y) := by
  obtain ⟨i, rfl, h1, h2⟩ := hx
  obtain ⟨j, rfl, h3, h4⟩ := hy
  exact ⟨i * j, rfl, Int.mul_nonneg h1 h3, wide_lt h2 h4⟩
theorem ring_num (S : Six P w K mg base ad.Numbers ad.NoStar [] (Nm 400) addV mulV (.int 0) (.int 1) st0V natV) : RingX P w K mg base ad.Numbers ad.NoStar [] (Nm 400) (Nm 100) addV mulV (.int 0) (.int 1) st0V natV where
  lk := ⟨rfl, rfl, rfl, rfl, rfl, rfl⟩
  plus := S.plus
  times := S.times
  zero := S.zero
  one := S.one
  star := S.star
  elem := S.elem
  sub := fun _ h => nm_le (by decide) h
  ni := fun _ ⟨i, e, _⟩ => .inr ⟨i, e⟩
  cpl := fun _ _ h1 h2 => nm_le (by decide) (nm_add h1 h2)
  ctm := fun _ _ h1 h2 => nm_le (by decide) (nm_mul h1 h2)
  npl := fun _ _ ⟨i, e, _⟩ ⟨j, e2, _⟩ => by subst e; subst e2; exact .inr ⟨_, rfl⟩
  ntm := fun _ _ ⟨i, e, _⟩ ⟨j, e2, _⟩ => by subst e; subst e2; exact .inr ⟨_, rfl⟩
  smz := ⟨0, rfl, by decide, by decide⟩
  smo := ⟨1, rfl, by decide, by decide⟩
  sms := fun x s ⟨i, e, h1, h2⟩ h => by
    subst e
    by_cases c : i = 0
    · rw [show st0V (.int i) = some (.int 1) by simp [st0V, c]] at h
      cases h
      exact ⟨1, rfl, by decide, by decide⟩
    · rw [show st0V (.int i) = none by simp [st0V, c]] at h
      cases h
  a1 := fun _ _ ⟨i, e, _⟩ ⟨j, e2, _⟩ => by subst e; subst e2; exact congrArg V.int (Int.add_comm _ _)
  a2 := fun _ _ ⟨i, e, _⟩ ⟨j, e2, _⟩ => by subst e; subst e2; exact congrArg V.int (Int.mul_comm _ _)
  a3 := fun _ _ _ ⟨i, e, _⟩ ⟨j, e2, _⟩ ⟨l, e3, _⟩ => by subst e; subst e2; subst e3; exact congrArg V.int (Int.add_assoc _ _ _).symm
  a4 := fun _ _ _ ⟨i, e, _⟩ ⟨j, e2, _⟩ ⟨l, e3, _⟩ => by subst e; subst e2; subst e3; exact congrArg V.int (Int.mul_assoc _ _ _).symm
  a5 := fun _ _ _ ⟨i, e, _⟩ ⟨j, e2, _⟩ ⟨l, e3, _⟩ => by subst e; subst e2; subst e3; exact congrArg V.int (Int.mul_add _ _ _)
  a6 := fun _ ⟨i, e, _⟩ => by subst e; exact congrArg V.int (Int.add_zero _)
  a7 := fun _ ⟨i, e, _⟩ => by subst e; exact congrArg V.int (Int.mul_one _)
  a8 := fun _ ⟨i, e, _⟩ => by subst e; exact congrArg V.int (Int.mul_zero _)
  a9 := fun a s ⟨i, e, h1, h2⟩ h => by
    subst e
    by_cases c : i = 0
    · subst c
      rw [show st0V (.int 0) = some (.int 1) by rfl] at h
      cases h
      rfl
    · rw [show st0V (.int i) = none by simp [st0V, c]] at h
      cases h
theorem ring_cst (S : Six P w K mg base ad.Costs ad.NoStar [] Cs minV csV .non (.int 0) (fun _ => some (.int 0)) costE) : RingX P w K mg base ad.Costs ad.NoStar [] Cs Cs minV csV .non (.int 0) (fun _ => some (.int 0)) costE where
  lk := ⟨rfl, rfl, rfl, rfl, rfl, rfl⟩
  plus := S.plus
  times := S.times
  zero := S.zero
  one := S.one
  star := S.star
  elem := S.elem
  sub := fun _ h => h
  ni := fun _ h => h.elim .inl fun ⟨i, e, _⟩ => .inr ⟨i, e⟩
  cpl := fun x y h1 h2 => by
    rcases h1 with rfl | ⟨i, rfl, hi⟩ <;> rcases h2 with rfl | ⟨j, rfl, hj⟩
    · exact .inl rfl
    · exact .inr ⟨j, rfl, hj⟩
    · exact .inr ⟨i, rfl, hi⟩
    · exact .inr ⟨_, rfl, by split <;> assumption⟩
  ctm := fun x y h1 h2 => by
    rcases h1 with rfl | ⟨i, rfl, hi⟩ <;> rcases h2 with rfl | ⟨j, rfl, hj⟩
    · exact .inl rfl
    · exact .inl rfl
    · exact .inl rfl
    · exact .inr ⟨_, rfl, by omega⟩
  npl := fun x y h1 h2 => by
    rcases h1 with rfl | ⟨i, rfl, hi⟩ <;> rcases h2 with rfl | ⟨j, rfl, hj⟩
    · exact .inl rfl
    · exact .inr ⟨j, rfl⟩
    · exact .inr ⟨i, rfl⟩
    · exact .inr ⟨_, rfl⟩
  ntm := fun x y h1 h2 => by
    rcases h1 with rfl | ⟨i, rfl, hi⟩ <;> rcases h2 with rfl | ⟨j, rfl, hj⟩
    · exact .inl rfl
    · exact .inl rfl
    · exact .inl rfl
    · exact .inr ⟨_, rfl⟩
  smz := .inl rfl
  smo := .inr ⟨0, rfl, by decide⟩
  sms := fun x s _ h => by cases h; exact .inr ⟨0, rfl, by decide⟩
  a1 := fun a b h1 h2 => by
    rcases h1 with rfl | ⟨i, rfl, hi⟩ <;> rcases h2 with rfl | ⟨j, rfl, hj⟩ <;> first | rfl | exact congrArg V.int (by (repeat' split) <;> omega)
  a2 := fun a b h1 h2 => by
    rcases h1 with rfl | ⟨i, rfl, hi⟩ <;> rcases h2 with rfl | ⟨j, rfl, hj⟩ <;> first | rfl | exact congrArg V.int (Int.add_comm _ _)
  a3 := fun a b c h1 h2 h3 => by
    rcases h1 with rfl | ⟨i, rfl, hi⟩ <;> rcases h2 with rfl | ⟨j, rfl, hj⟩ <;> rcases h3 with rfl | ⟨l, rfl, hl⟩ <;> first | rfl | exact congrArg V.int (by (repeat' split) <;> omega)
  a4 := fun a b c h1 h2 h3 => by
    rcases h1 with rfl | ⟨i, rfl, hi⟩ <;> rcases h2 with rfl | ⟨j, rfl, hj⟩ <;> rcases h3 with rfl | ⟨l, rfl, hl⟩ <;> first | rfl | exact congrArg V.int (Int.add_assoc _ _ _).symm
  a5 := fun a b c h1 h2 h3 => by
    rcases h1 with rfl | ⟨i, rfl, hi⟩ <;> rcases h2 with rfl | ⟨j, rfl, hj⟩ <;> rcases h3 with rfl | ⟨l, rfl, hl⟩ <;> first | rfl | exact congrArg V.int (by (repeat' split) <;> omega)
  a6 := fun a h1 => by rcases h1 with rfl | ⟨i, rfl, hi⟩ <;> rfl
  a7 := fun a h1 => by rcases h1 with rfl | ⟨i, rfl, hi⟩ <;> first | rfl | exact congrArg V.int (Int.add_zero _)
  a8 := fun a h1 => by rcases h1 with rfl | ⟨i, rfl, hi⟩ <;> rfl
  a9 := fun a s h1 h => by
    cases h
    rcases h1 with rfl | ⟨i, rfl, hi⟩
    · rfl
    · exact congrArg V.int (by (repeat' split) <;> omega)
theorem fT_no (t : Int) {m : Str} (h : ¬ m = "_top") : (fT t).lookup m = none := by rw [lookup_putF, if_neg h]; rfl
theorem fA_no (t : Int) {m : Str} (h : ¬ m = "_all_bits") : (fA t).lookup m = none := by rw [lookup_putF, if_neg h]; rfl
theorem ring_lev {t : Int} (ht : 1 ≤ t) (S : Six P w K mg base ad.Levels ad.NoStar (fT t) (Bt t) maxV mnV (.int 0) (.int t) (fun _ => some (.int t)) (betV 0 t)) : RingX P w K mg base ad.Levels ad.NoStar (fT t) (Bt t) (Bt t) maxV mnV (.int 0) (.int t) (fun _ => some (.int t)) (betV 0 t) where
  lk := ⟨fT_no _ (by decide), fT_no _ (by decide), fT_no _ (by decide), fT_no _ (by decide), fT_no _ (by decide), fT_no _ (by decide)⟩
  plus := S.plus
  times := S.times
  zero := S.zero
  one := S.one
  star := S.star
  elem := S.elem
  sub := fun _ h => h
  ni := fun _ ⟨i, e, _⟩ => .inr ⟨i, e⟩
  cpl := fun _ _ ⟨i, e, h1, h2⟩ ⟨j, e2, h3, h4⟩ => by subst e; subst e2; exact ⟨_, rfl, by split <;> omega, by split <;> omega⟩
  ctm := fun _ _ ⟨i, e, h1, h2⟩ ⟨j, e2, h3, h4⟩ => by subst e; subst e2; exact ⟨_, rfl, by split <;> omega, by split <;> omega⟩
  npl := fun _ _ ⟨i, e, _⟩ ⟨j, e2, _⟩ => by subst e; subst e2; exact .inr ⟨_, rfl⟩
  ntm := fun _ _ ⟨i, e, _⟩ ⟨j, e2, _⟩ => by subst e; subst e2; exact .inr ⟨_, rfl⟩
  smz := ⟨0, rfl, by decide, by omega⟩
  smo := ⟨t, rfl, by omega, by omega⟩
  sms := fun x s _ h => by cases h; exact ⟨t, rfl, by omega, by omega⟩
  a1 := fun _ _ ⟨i, e, _⟩ ⟨j, e2, _⟩ => by subst e; subst e2; exact congrArg V.int (by (repeat' split) <;> omega)
  a2 := fun _ _ ⟨i, e, _⟩ ⟨j, e2, _⟩ => by subst e; subst e2; exact congrArg V.int (by (repeat' split) <;> omega)
  a3 := fun _ _ _ ⟨i, e, _⟩ ⟨j, e2, _⟩ ⟨l, e3, _⟩ => by subst e; subst e2; subst e3; exact congrArg V.int (by (repeat' split) <;> omega)
  a4 := fun _ _ _ ⟨i, e, _⟩ ⟨j, e2, _⟩ ⟨l, e3, _⟩ => by subst e; subst e2; subst e3; exact congrArg V.int (by (repeat' split) <;> omega)
  a5 := fun _ _ _ ⟨i, e, _⟩ ⟨j, e2, _⟩ ⟨l, e3, _⟩ => by subst e; subst e2; subst e3; exact congrArg V.int (by (repeat' split) <;> omega)
  a6 := fun _ ⟨i, e, h1, h2⟩ => by subst e; exact congrArg V.int (by (repeat' split) <;> omega)
  a7 := fun _ ⟨i, e, h1, h2⟩ => by subst e; exact congrArg V.int (by (repeat' split) <;> omega)
  a8 := fun _ ⟨i, e, h1, h2⟩ => by subst e; exact congrArg V.int (by (repeat' split) <;> omega)
  a9 := fun a s ⟨i, e, h1, h2⟩ h => by
    cases h
    subst e
    exact congrArg V.int (by (repeat' split) <;> omega)
/-! bits -/
theorem bt_nat {n : Nat} {v : V} (h : Bt (1 * 2 ^ n - 1) v) : ∃ a : Nat, v = .int (a : Int) ∧ a < 2 ^ n := by
  obtain ⟨i, rfl, h1, h2⟩ := h
  have e : (2 : Int) ^ n = ((2 ^ n : Nat) : Int) := by simp
  rw [e] at h2
  exact ⟨i.toNat, by congr 1; omega, by omega⟩
theorem nat_bt {n a : Nat} (h : a < 2 ^ n) : Bt (1 * 2 ^ n - 1) (.int (a : Int)) := by
  have e : (2 : Int) ^ n = ((2 ^ n : Nat) : Int) := by simp
  exact ⟨(a : Int), rfl, by omega, by rw [e]; omega⟩
theorem or_nat (a b : Nat) : orV (.int (a : Int)) (.int (b : Int)) = .int ((a ||| b : Nat) : Int) := by
  show V.int (Builtin.bitOr a b) = _
  rw [Bits.bitOr_pp (by omega) (by omega)]
  rfl
theorem and_nat (a b : Nat) : andV (.int (a : Int)) (.int (b : Int)) = .int ((a &&& b : Nat) : Int) := by
  show V.int (Builtin.bitAnd a b) = _
  rw [PyProof.Rows.bitAnd_pp (by omega) (by omega)]
  rfl
theorem top_nat (n : Nat) : (.int (1 * 2 ^ n - 1) : V) = .int ((2 ^ n - 1 : Nat) : Int) := by
  have e : (2 : Int) ^ n = ((2 ^ n : Nat) : Int) := by simp
  have h : 1 ≤ 2 ^ n := Nat.one_le_two_pow
  congr 1
  rw [e]
  omega
theorem and_top {n a : Nat} (h : a < 2 ^ n) : a &&& (2 ^ n - 1) = a := by
  rw [Nat.and_two_pow_sub_one_eq_mod, Nat.mod_eq_of_lt h]
theorem top_or {n a : Nat} (h : a < 2 ^ n) : (2 ^ n - 1) ||| a = 2 ^ n - 1 := by
  apply Nat.eq_of_testBit_eq
  intro i
  rw [Nat.testBit_or, Nat.testBit_two_pow_sub_one]
  by_cases c : i < n
  · simp [c]
  · have : a.testBit i = false := Nat.testBit_lt_two_pow (Nat.lt_of_lt_of_le h (Nat.pow_le_pow_right (by decide) (by omega)))
    simp [c, this]
theorem ring_evt (n : Nat) (S : Six P w K mg base ad.Events ad.NoStar (fA (1 * 2 ^ n - 1)) (Bt (1 * 2 ^ n - 1)) orV andV (.int 0) (.int (1 * 2 ^ n - 1)) (fun _ => some (.int (1 * 2 ^ n - 1))) (betV 0 (1 * 2 ^ n - 1))) :
    RingX P w K mg base ad.Events ad.NoStar (fA (1 * 2 ^ n - 1)) (Bt (1 * 2 ^ n - 1)) (Bt (1 * 2 ^ n - 1)) orV andV (.int 0) (.int (1 * 2 ^ n - 1)) (fun _ => some (.int (1 * 2 ^ n - 1))) (betV 0 (1 * 2 ^ n - 1)) where
  lk := ⟨fA_no _ (by decide), fA_no _ (by decide), fA_no _ (by decide), fA_no _ (by decide), fA_no _ (by decide), fA_no _ (by decide)⟩
  plus := S.plus
  times := S.times
  zero := S.zero
  one := S.one
  star := S.star
  elem := S.elem
  sub := fun _ h => h
  ni := fun _ ⟨i, e, _⟩ => .inr ⟨i, e⟩
  cpl := fun _ _ h1 h2 => by
    obtain ⟨a, rfl, ha⟩ := bt_nat h1
    obtain ⟨b, rfl, hb⟩ := bt_nat h2
    rw [or_nat]
    exact nat_bt (Nat.or_lt_two_pow ha hb)
  ctm := fun _ _ h1 h2 => by
    obtain ⟨a, rfl, ha⟩ := bt_nat h1
    obtain ⟨b, rfl, hb⟩ := bt_nat h2
    rw [and_nat]
    exact nat_bt (Nat.and_lt_two_pow _ hb)
  npl := fun _ _ ⟨i, e, _⟩ ⟨j, e2, _⟩ => by subst e; subst e2; exact .inr ⟨_, rfl⟩
  ntm := fun _ _ ⟨i, e, _⟩ ⟨j, e2, _⟩ => by subst e; subst e2; exact .inr ⟨_, rfl⟩
  smz := nat_bt (a := 0) (Nat.two_pow_pos n)
  smo := by
    rw [top_nat]
    exact nat_bt (Nat.sub_lt (Nat.two_pow_pos n) (by decide))
  sms := fun x s _ h => by
    cases h
    rw [top_nat]
    exact nat_bt (Nat.sub_lt (Nat.two_pow_pos n) (by decide))
  a1 := fun _ _ h1 h2 => by
    obtain ⟨a, rfl, ha⟩ := bt_nat h1
    obtain ⟨b, rfl, hb⟩ := bt_nat h2
    rw [or_nat, or_nat, Nat.or_comm]
  a2 := fun _ _ h1 h2 => by
    obtain ⟨a, rfl, ha⟩ := bt_nat h1
    obtain ⟨b, rfl, hb⟩ := bt_nat h2
    rw [and_nat, and_nat, Nat.and_comm]
  a3 := fun _ _ _ h1 h2 h3 => by
    obtain ⟨a, rfl, ha⟩ := bt_nat h1
    obtain ⟨b, rfl, hb⟩ := bt_nat h2
    obtain ⟨c, rfl, hc⟩ := bt_nat h3
    rw [or_nat, or_nat, or_nat, or_nat, Nat.or_assoc]
  a4 := fun _ _ _ h1 h2 h3 => by
    obtain ⟨a, rfl, ha⟩ := bt_nat h1
    obtain ⟨b, rfl, hb⟩ := bt_nat h2
    obtain ⟨c, rfl, hc⟩ := bt_nat h3
    rw [and_nat, and_nat, and_nat, and_nat, Nat.and_assoc]
  a5 := fun _ _ _ h1 h2 h3 => by
    obtain ⟨a, rfl, ha⟩ := bt_nat h1
    obtain ⟨b, rfl, hb⟩ := bt_nat h2
    obtain ⟨c, rfl, hc⟩ := bt_nat h3
    rw [or_nat, and_nat, and_nat, and_nat, or_nat]
    refine congrArg (fun k : Nat => V.int (k : Int)) (Nat.eq_of_testBit_eq fun i => ?_)
    rw [Nat.testBit_and, Nat.testBit_or, Nat.testBit_or, Nat.testBit_and, Nat.testBit_and, Bool.and_or_distrib_left]
  a6 := fun _ h1 => by
    obtain ⟨a, rfl, ha⟩ := bt_nat h1
    have e : (.int 0 : V) = .int ((0 : Nat) : Int) := rfl
    rw [e, or_nat, Nat.or_zero]
  a7 := fun _ h1 => by
    obtain ⟨a, rfl, ha⟩ := bt_nat h1
    rw [top_nat, and_nat, and_top ha]
  a8 := fun _ h1 => by
    obtain ⟨a, rfl, ha⟩ := bt_nat h1
    have e : (.int 0 : V) = .int ((0 : Nat) : Int) := rfl
    rw [e, and_nat, Nat.and_zero]
  a9 := fun a s h1 h => by
    obtain ⟨a, rfl, ha⟩ := bt_nat h1
    cases h
    rw [top_nat, and_nat, and_top ha, or_nat, top_or ha]
end
end K02

set_option Elab.async false
set_option linter.all false
set_option maxRecDepth 100000
set_option maxHeartbeats 8000000
namespace K02
open PySem L2 Ew

theorem all_mk {l : PySem.W.OpenLaw} {w : World} {K : PySem.W.Frag} {h : Heap} {mg : Str → Option Value} {fa : Addr} (X : K.In h) (G : h.Ns mainGlobals mg) (hfa : mg "law" = some (.ref fa))
    {C_Events : Addr}
    {C_Levels : Addr}
    {C_Costs : Addr}
    {C_Numbers : Addr}
    {C_NoStar : Addr}
    {C_InvalidArgument : Addr}
    {C_WorthError : Addr}
    {f_is_integer : Addr} {od_is_integer an_is_integer : Option Addr} {sl_is_integer : Array (Option Value)} {oc_is_integer kV_is_integer dc_is_integer pm_is_integer cd_is_integer ct_is_integer : Value}
    {f_is_natural : Addr} {od_is_natural an_is_natural : Option Addr} {sl_is_natural : Array (Option Value)} {oc_is_natural kV_is_natural dc_is_natural pm_is_natural cd_is_natural ct_is_natural : Value}
    {f_is_between : Addr} {od_is_between an_is_between : Option Addr} {sl_is_between : Array (Option Value)} {oc_is_between kV_is_between dc_is_between pm_is_between cd_is_between ct_is_between : Value}
    {f_Numbers_zero : Addr} {od_Numbers_zero an_Numbers_zero : Option Addr} {sl_Numbers_zero : Array (Option Value)} {oc_Numbers_zero kV_Numbers_zero dc_Numbers_zero pm_Numbers_zero cd_Numbers_zero ct_Numbers_zero : Value}
    {f_Numbers_one : Addr} {od_Numbers_one an_Numbers_one : Option Addr} {sl_Numbers_one : Array (Option Value)} {oc_Numbers_one kV_Numbers_one dc_Numbers_one pm_Numbers_one cd_Numbers_one ct_Numbers_one : Value}
    {f_Numbers_plus : Addr} {od_Numbers_plus an_Numbers_plus : Option Addr} {sl_Numbers_plus : Array (Option Value)} {oc_Numbers_plus kV_Numbers_plus dc_Numbers_plus pm_Numbers_plus cd_Numbers_plus ct_Numbers_plus : Value}
    {f_Numbers_times : Addr} {od_Numbers_times an_Numbers_times : Option Addr} {sl_Numbers_times : Array (Option Value)} {oc_Numbers_times kV_Numbers_times dc_Numbers_times pm_Numbers_times cd_Numbers_times ct_Numbers_times : Value}
    {f_Numbers_star : Addr} {od_Numbers_star an_Numbers_star : Option Addr} {sl_Numbers_star : Array (Option Value)} {oc_Numbers_star kV_Numbers_star dc_Numbers_star pm_Numbers_star cd_Numbers_star ct_Numbers_star : Value}
    {f_Numbers_is_element : Addr} {od_Numbers_is_element an_Numbers_is_element : Option Addr} {sl_Numbers_is_element : Array (Option Value)} {oc_Numbers_is_element kV_Numbers_is_element dc_Numbers_is_element pm_Numbers_is_element cd_Numbers_is_element ct_Numbers_is_element : Value}
    {f_Costs_zero : Addr} {od_Costs_zero an_Costs_zero : Option Addr} {sl_Costs_zero : Array (Option Value)} {oc_Costs_zero kV_Costs_zero dc_Costs_zero pm_Costs_zero cd_Costs_zero ct_Costs_zero : Value}
    {f_Costs_one : Addr} {od_Costs_one an_Costs_one : Option Addr} {sl_Costs_one : Array (Option Value)} {oc_Costs_one kV_Costs_one dc_Costs_one pm_Costs_one cd_Costs_one ct_Costs_one : Value}
    {f_Costs_plus : Addr} {od_Costs_plus an_Costs_plus : Option Addr} {sl_Costs_plus : Array (Option Value)} {oc_Costs_plus kV_Costs_plus dc_Costs_plus pm_Costs_plus cd_Costs_plus ct_Costs_plus : Value}
    {f_Costs_times : Addr} {od_Costs_times an_Costs_times : Option Addr} {sl_Costs_times : Array (Option Value)} {oc_Costs_times kV_Costs_times dc_Costs_times pm_Costs_times cd_Costs_times ct_Costs_times : Value}
    {f_Costs_star : Addr} {od_Costs_star an_Costs_star : Option Addr} {sl_Costs_star : Array (Option Value)} {oc_Costs_star kV_Costs_star dc_Costs_star pm_Costs_star cd_Costs_star ct_Costs_star : Value}
    {f_Costs_is_element : Addr} {od_Costs_is_element an_Costs_is_element : Option Addr} {sl_Costs_is_element : Array (Option Value)} {oc_Costs_is_element kV_Costs_is_element dc_Costs_is_element pm_Costs_is_element cd_Costs_is_element ct_Costs_is_element : Value}
    {f_Levels_init : Addr} {od_Levels_init an_Levels_init : Option Addr} {sl_Levels_init : Array (Option Value)} {oc_Levels_init kV_Levels_init dc_Levels_init pm_Levels_init cd_Levels_init ct_Levels_init : Value}
    {f_Levels_zero : Addr} {od_Levels_zero an_Levels_zero : Option Addr} {sl_Levels_zero : Array (Option Value)} {oc_Levels_zero kV_Levels_zero dc_Levels_zero pm_Levels_zero cd_Levels_zero ct_Levels_zero : Value}
    {f_Levels_one : Addr} {od_Levels_one an_Levels_one : Option Addr} {sl_Levels_one : Array (Option Value)} {oc_Levels_one kV_Levels_one dc_Levels_one pm_Levels_one cd_Levels_one ct_Levels_one : Value}
    {f_Levels_plus : Addr} {od_Levels_plus an_Levels_plus : Option Addr} {sl_Levels_plus : Array (Option Value)} {oc_Levels_plus kV_Levels_plus dc_Levels_plus pm_Levels_plus cd_Levels_plus ct_Levels_plus : Value}
    {f_Levels_times : Addr} {od_Levels_times an_Levels_times : Option Addr} {sl_Levels_times : Array (Option Value)} {oc_Levels_times kV_Levels_times dc_Levels_times pm_Levels_times cd_Levels_times ct_Levels_times : Value}
    {f_Levels_star : Addr} {od_Levels_star an_Levels_star : Option Addr} {sl_Levels_star : Array (Option Value)} {oc_Levels_star kV_Levels_star dc_Levels_star pm_Levels_star cd_Levels_star ct_Levels_star : Value}
    {f_Levels_is_element : Addr} {od_Levels_is_element an_Levels_is_element : Option Addr} {sl_Levels_is_element : Array (Option Value)} {oc_Levels_is_element kV_Levels_is_element dc_Levels_is_element pm_Levels_is_element cd_Levels_is_element ct_Levels_is_element : Value}
    {f_Events_init : Addr} {od_Events_init an_Events_init : Option Addr} {sl_Events_init : Array (Option Value)} {oc_Events_init kV_Events_init dc_Events_init pm_Events_init cd_Events_init ct_Events_init : Value}
    {f_Events_zero : Addr} {od_Events_zero an_Events_zero : Option Addr} {sl_Events_zero : Array (Option Value)} {oc_Events_zero kV_Events_zero dc_Events_zero pm_Events_zero cd_Events_zero ct_Events_zero : Value}
    {f_Events_one : Addr} {od_Events_one an_Events_one : Option Addr} {sl_Events_one : Array (Option Value)} {oc_Events_one kV_Events_one dc_Events_one pm_Events_one cd_Events_one ct_Events_one : Value}
    {f_Events_plus : Addr} {od_Events_plus an_Events_plus : Option Addr} {sl_Events_plus : Array (Option Value)} {oc_Events_plus kV_Events_plus dc_Events_plus pm_Events_plus cd_Events_plus ct_Events_plus : Value}
    {f_Events_times : Addr} {od_Events_times an_Events_times : Option Addr} {sl_Events_times : Array (Option Value)} {oc_Events_times kV_Events_times dc_Events_times pm_Events_times cd_Events_times ct_Events_times : Value}
    {f_Events_star : Addr} {od_Events_star an_Events_star : Option Addr} {sl_Events_star : Array (Option Value)} {oc_Events_star kV_Events_star dc_Events_star pm_Events_star cd_Events_star ct_Events_star : Value}
    {f_Events_is_element : Addr} {od_Events_is_element an_Events_is_element : Option Addr} {sl_Events_is_element : Array (Option Value)} {oc_Events_is_element kV_Events_is_element dc_Events_is_element pm_Events_is_element cd_Events_is_element ct_Events_is_element : Value}
    {f_law_pot : Addr} {od_law_pot an_law_pot : Option Addr} {sl_law_pot : Array (Option Value)} {oc_law_pot kV_law_pot dc_law_pot pm_law_pot cd_law_pot ct_law_pot : Value}
    {f_law_next : Addr} {od_law_next an_law_next : Option Addr} {sl_law_next : Array (Option Value)} {oc_law_next kV_law_next dc_law_next pm_law_next cd_law_next ct_law_next : Value}
    {f_law_is_int : Addr} {od_law_is_int an_law_is_int : Option Addr} {sl_law_is_int : Array (Option Value)} {oc_law_is_int kV_law_is_int dc_law_is_int pm_law_is_int cd_law_is_int ct_law_is_int : Value}
    {f_law_same : Addr} {od_law_same an_law_same : Option Addr} {sl_law_same : Array (Option Value)} {oc_law_same kV_law_same dc_law_same pm_law_same cd_law_same ct_law_same : Value}
    {f_law_star : Addr} {od_law_star an_law_star : Option Addr} {sl_law_star : Array (Option Value)} {oc_law_star kV_law_star dc_law_star pm_law_star cd_law_star ct_law_star : Value}
    {f_law_refused : Addr} {od_law_refused an_law_refused : Option Addr} {sl_law_refused : Array (Option Value)} {oc_law_refused kV_law_refused dc_law_refused pm_law_refused cd_law_refused ct_law_refused : Value}
    {f_law_axioms : Addr} {od_law_axioms an_law_axioms : Option Addr} {sl_law_axioms : Array (Option Value)} {oc_law_axioms kV_law_axioms dc_law_axioms pm_law_axioms cd_law_axioms ct_law_axioms : Value}
    {f_law_due : Addr} {od_law_due an_law_due : Option Addr} {sl_law_due : Array (Option Value)} {oc_law_due kV_law_due dc_law_due pm_law_due cd_law_due ct_law_due : Value}
    {f_law_element : Addr} {od_law_element an_law_element : Option Addr} {sl_law_element : Array (Option Value)} {oc_law_element kV_law_element dc_law_element pm_law_element cd_law_element ct_law_element : Value}
    {f_law : Addr} {od_law an_law : Option Addr} {sl_law : Array (Option Value)} {oc_law kV_law dc_law pm_law cd_law ct_law : Value}
    {tk_MOST_EVENTS : Tok}
    (aC_WorthError : PySem.W.nsIn K mainGlobals "WorthError" = some (some (.ref C_WorthError)))
    (aC_InvalidArgument : PySem.W.nsIn K mainGlobals "InvalidArgument" = some (some (.ref C_InvalidArgument)))
    (aC_NoStar : PySem.W.nsIn K mainGlobals "NoStar" = some (some (.ref C_NoStar)))
    (aC_Numbers : PySem.W.nsIn K mainGlobals "Numbers" = some (some (.ref C_Numbers)))
    (aC_Costs : PySem.W.nsIn K mainGlobals "Costs" = some (some (.ref C_Costs)))
    (aC_Levels : PySem.W.nsIn K mainGlobals "Levels" = some (some (.ref C_Levels)))
    (aC_Events : PySem.W.nsIn K mainGlobals "Events" = some (some (.ref C_Events)))
    (a_is_integer : PySem.W.nsIn K mainGlobals "is_integer" = some (some (.ref f_is_integer)))
    (l_is_integer : K.lookup f_is_integer = some ⟨oc_is_integer, od_is_integer, .func (PySem.W.fnOf "is_integer" "is_integer" (defArgs s_is_integer) (defBody s_is_integer) (defScope s_is_integer) .none kV_is_integer dc_is_integer pm_is_integer an_is_integer cd_is_integer ct_is_integer), sl_is_integer⟩)
    (c_is_integer : PySem.W.codeIn K cd_is_integer "is_integer" = true)
    (k_is_integer : PySem.W.keepIn K (.ref f_is_integer) = true)
    (a_is_natural : PySem.W.nsIn K mainGlobals "is_natural" = some (some (.ref f_is_natural)))
    (l_is_natural : K.lookup f_is_natural = some ⟨oc_is_natural, od_is_natural, .func (PySem.W.fnOf "is_natural" "is_natural" (defArgs s_is_natural) (defBody s_is_natural) (defScope s_is_natural) .none kV_is_natural dc_is_natural pm_is_natural an_is_natural cd_is_natural ct_is_natural), sl_is_natural⟩)
    (c_is_natural : PySem.W.codeIn K cd_is_natural "is_natural" = true)
    (k_is_natural : PySem.W.keepIn K (.ref f_is_natural) = true)
    (a_is_between : PySem.W.nsIn K mainGlobals "is_between" = some (some (.ref f_is_between)))
    (l_is_between : K.lookup f_is_between = some ⟨oc_is_between, od_is_between, .func (PySem.W.fnOf "is_between" "is_between" (defArgs s_is_between) (defBody s_is_between) (defScope s_is_between) .none kV_is_between dc_is_between pm_is_between an_is_between cd_is_between ct_is_between), sl_is_between⟩)
    (c_is_between : PySem.W.codeIn K cd_is_between "is_between" = true)
    (k_is_between : PySem.W.keepIn K (.ref f_is_between) = true)
    (a_Numbers_zero : PySem.W.findIn K (.ref C_Numbers) "zero" = some (some (.ref f_Numbers_zero)))
    (i_Numbers_zero : PySem.W.isFn K (.ref f_Numbers_zero) = true)
    (l_Numbers_zero : K.lookup f_Numbers_zero = some ⟨oc_Numbers_zero, od_Numbers_zero, .func (PySem.W.fnOf "zero" "Numbers.zero" (defArgs s_Numbers_zero) (defBody s_Numbers_zero) (defScope s_Numbers_zero) .none kV_Numbers_zero dc_Numbers_zero pm_Numbers_zero an_Numbers_zero cd_Numbers_zero ct_Numbers_zero), sl_Numbers_zero⟩)
    (c_Numbers_zero : PySem.W.codeIn K cd_Numbers_zero "Numbers.zero" = true)
    (k_Numbers_zero : PySem.W.keepIn K (.ref f_Numbers_zero) = true)
    (a_Numbers_one : PySem.W.findIn K (.ref C_Numbers) "one" = some (some (.ref f_Numbers_one)))
    (i_Numbers_one : PySem.W.isFn K (.ref f_Numbers_one) = true)
    (l_Numbers_one : K.lookup f_Numbers_one = some ⟨oc_Numbers_one, od_Numbers_one, .func (PySem.W.fnOf "one" "Numbers.one" (defArgs s_Numbers_one) (defBody s_Numbers_one) (defScope s_Numbers_one) .none kV_Numbers_one dc_Numbers_one pm_Numbers_one an_Numbers_one cd_Numbers_one ct_Numbers_one), sl_Numbers_one⟩)
    (c_Numbers_one : PySem.W.codeIn K cd_Numbers_one "Numbers.one" = true)
    (k_Numbers_one : PySem.W.keepIn K (.ref f_Numbers_one) = true)
    (a_Numbers_plus : PySem.W.findIn K (.ref C_Numbers) "plus" = some (some (.ref f_Numbers_plus)))
    (i_Numbers_plus : PySem.W.isFn K (.ref f_Numbers_plus) = true)
    (l_Numbers_plus : K.lookup f_Numbers_plus = some ⟨oc_Numbers_plus, od_Numbers_plus, .func (PySem.W.fnOf "plus" "Numbers.plus" (defArgs s_Numbers_plus) (defBody s_Numbers_plus) (defScope s_Numbers_plus) .none kV_Numbers_plus dc_Numbers_plus pm_Numbers_plus an_Numbers_plus cd_Numbers_plus ct_Numbers_plus), sl_Numbers_plus⟩)
    (c_Numbers_plus : PySem.W.codeIn K cd_Numbers_plus "Numbers.plus" = true)
    (k_Numbers_plus : PySem.W.keepIn K (.ref f_Numbers_plus) = true)
    (a_Numbers_times : PySem.W.findIn K (.ref C_Numbers) "times" = some (some (.ref f_Numbers_times)))
    (i_Numbers_times : PySem.W.isFn K (.ref f_Numbers_times) = true)
    (l_Numbers_times : K.lookup f_Numbers_times = some ⟨oc_Numbers_times, od_Numbers_times, .func (PySem.W.fnOf "times" "Numbers.times" (defArgs s_Numbers_times) (defBody s_Numbers_times) (defScope s_Numbers_times) .none kV_Numbers_times dc_Numbers_times pm_Numbers_times an_Numbers_times cd_Numbers_times ct_Numbers_times), sl_Numbers_times⟩)
    (c_Numbers_times : PySem.W.codeIn K cd_Numbers_times "Numbers.times" = true)
    (k_Numbers_times : PySem.W.keepIn K (.ref f_Numbers_times) = true)
    (a_Numbers_star : PySem.W.findIn K (.ref C_Numbers) "star" = some (some (.ref f_Numbers_star)))
    (i_Numbers_star : PySem.W.isFn K (.ref f_Numbers_star) = true)
    (l_Numbers_star : K.lookup f_Numbers_star = some ⟨oc_Numbers_star, od_Numbers_star, .func (PySem.W.fnOf "star" "Numbers.star" (defArgs s_Numbers_star) (defBody s_Numbers_star) (defScope s_Numbers_star) .none kV_Numbers_star dc_Numbers_star pm_Numbers_star an_Numbers_star cd_Numbers_star ct_Numbers_star), sl_Numbers_star⟩)
    (c_Numbers_star : PySem.W.codeIn K cd_Numbers_star "Numbers.star" = true)
    (k_Numbers_star : PySem.W.keepIn K (.ref f_Numbers_star) = true)
    (a_Numbers_is_element : PySem.W.findIn K (.ref C_Numbers) "is_element" = some (some (.ref f_Numbers_is_element)))
    (i_Numbers_is_element : PySem.W.isFn K (.ref f_Numbers_is_element) = true)
    (l_Numbers_is_element : K.lookup f_Numbers_is_element = some ⟨oc_Numbers_is_element, od_Numbers_is_element, .func (PySem.W.fnOf "is_element" "Numbers.is_element" (defArgs s_Numbers_is_element) (defBody s_Numbers_is_element) (defScope s_Numbers_is_element) .none kV_Numbers_is_element dc_Numbers_is_element pm_Numbers_is_element an_Numbers_is_element cd_Numbers_is_element ct_Numbers_is_element), sl_Numbers_is_element⟩)
    (c_Numbers_is_element : PySem.W.codeIn K cd_Numbers_is_element "Numbers.is_element" = true)
    (k_Numbers_is_element : PySem.W.keepIn K (.ref f_Numbers_is_element) = true)
    (a_Costs_zero : PySem.W.findIn K (.ref C_Costs) "zero" = some (some (.ref f_Costs_zero)))
    (i_Costs_zero : PySem.W.isFn K (.ref f_Costs_zero) = true)
    (l_Costs_zero : K.lookup f_Costs_zero = some ⟨oc_Costs_zero, od_Costs_zero, .func (PySem.W.fnOf "zero" "Costs.zero" (defArgs s_Costs_zero) (defBody s_Costs_zero) (defScope s_Costs_zero) .none kV_Costs_zero dc_Costs_zero pm_Costs_zero an_Costs_zero cd_Costs_zero ct_Costs_zero), sl_Costs_zero⟩)
    (c_Costs_zero : PySem.W.codeIn K cd_Costs_zero "Costs.zero" = true)
    (k_Costs_zero : PySem.W.keepIn K (.ref f_Costs_zero) = true)
    (a_Costs_one : PySem.W.findIn K (.ref C_Costs) "one" = some (some (.ref f_Costs_one)))
    (i_Costs_one : PySem.W.isFn K (.ref f_Costs_one) = true)
    (l_Costs_one : K.lookup f_Costs_one = some ⟨oc_Costs_one, od_Costs_one, .func (PySem.W.fnOf "one" "Costs.one" (defArgs s_Costs_one) (defBody s_Costs_one) (defScope s_Costs_one) .none kV_Costs_one dc_Costs_one pm_Costs_one an_Costs_one cd_Costs_one ct_Costs_one), sl_Costs_one⟩)
    (c_Costs_one : PySem.W.codeIn K cd_Costs_one "Costs.one" = true)
    (k_Costs_one : PySem.W.keepIn K (.ref f_Costs_one) = true)
    (a_Costs_plus : PySem.W.findIn K (.ref C_Costs) "plus" = some (some (.ref f_Costs_plus)))
    (i_Costs_plus : PySem.W.isFn K (.ref f_Costs_plus) = true)
    (l_Costs_plus : K.lookup f_Costs_plus = some ⟨oc_Costs_plus, od_Costs_plus, .func (PySem.W.fnOf "plus" "Costs.plus" (defArgs s_Costs_plus) (defBody s_Costs_plus) (defScope s_Costs_plus) .none kV_Costs_plus dc_Costs_plus pm_Costs_plus an_Costs_plus cd_Costs_plus ct_Costs_plus), sl_Costs_plus⟩)
    (c_Costs_plus : PySem.W.codeIn K cd_Costs_plus "Costs.plus" = true)
    (k_Costs_plus : PySem.W.keepIn K (.ref f_Costs_plus) = true)
    (a_Costs_times : PySem.W.findIn K (.ref C_Costs) "times" = some (some (.ref f_Costs_times)))
    (i_Costs_times : PySem.W.isFn K (.ref f_Costs_times) = true)
    (l_Costs_times : K.lookup f_Costs_times = some ⟨oc_Costs_times, od_Costs_times, .func (PySem.W.fnOf "times" "Costs.times" (defArgs s_Costs_times) (defBody s_Costs_times) (defScope s_Costs_times) .none kV_Costs_times dc_Costs_times pm_Costs_times an_Costs_times cd_Costs_times ct_Costs_times), sl_Costs_times⟩)
    (c_Costs_times : PySem.W.codeIn K cd_Costs_times "Costs.times" = true)
    (k_Costs_times : PySem.W.keepIn K (.ref f_Costs_times) = true)
    (a_Costs_star : PySem.W.findIn K (.ref C_Costs) "star" = some (some (.ref f_Costs_star)))
    (i_Costs_star : PySem.W.isFn K (.ref f_Costs_star) = true)
    (l_Costs_star : K.lookup f_Costs_star = some ⟨oc_Costs_star, od_Costs_star, .func (PySem.W.fnOf "star" "Costs.star" (defArgs s_Costs_star) (defBody s_Costs_star) (defScope s_Costs_star) .none kV_Costs_star dc_Costs_star pm_Costs_star an_Costs_star cd_Costs_star ct_Costs_star), sl_Costs_star⟩)
    (c_Costs_star : PySem.W.codeIn K cd_Costs_star "Costs.star" = true)
    (k_Costs_star : PySem.W.keepIn K (.ref f_Costs_star) = true)
    (a_Costs_is_element : PySem.W.findIn K (.ref C_Costs) "is_element" = some (some (.ref f_Costs_is_element)))
    (i_Costs_is_element : PySem.W.isFn K (.ref f_Costs_is_element) = true)
    (l_Costs_is_element : K.lookup f_Costs_is_element = some ⟨oc_Costs_is_element, od_Costs_is_element, .func (PySem.W.fnOf "is_element" "Costs.is_element" (defArgs s_Costs_is_element) (defBody s_Costs_is_element) (defScope s_Costs_is_element) .none kV_Costs_is_element dc_Costs_is_element pm_Costs_is_element an_Costs_is_element cd_Costs_is_element ct_Costs_is_element), sl_Costs_is_element⟩)
    (c_Costs_is_element : PySem.W.codeIn K cd_Costs_is_element "Costs.is_element" = true)
    (k_Costs_is_element : PySem.W.keepIn K (.ref f_Costs_is_element) = true)
    (a_Levels_init : PySem.W.findIn K (.ref C_Levels) "__init__" = some (some (.ref f_Levels_init)))
    (i_Levels_init : PySem.W.isFn K (.ref f_Levels_init) = true)
    (l_Levels_init : K.lookup f_Levels_init = some ⟨oc_Levels_init, od_Levels_init, .func (PySem.W.fnOf "__init__" "Levels.__init__" (defArgs s_Levels_init) (defBody s_Levels_init) (defScope s_Levels_init) .none kV_Levels_init dc_Levels_init pm_Levels_init an_Levels_init cd_Levels_init ct_Levels_init), sl_Levels_init⟩)
    (c_Levels_init : PySem.W.codeIn K cd_Levels_init "Levels.__init__" = true)
    (k_Levels_init : PySem.W.keepIn K (.ref f_Levels_init) = true)
    (a_Levels_zero : PySem.W.findIn K (.ref C_Levels) "zero" = some (some (.ref f_Levels_zero)))
    (i_Levels_zero : PySem.W.isFn K (.ref f_Levels_zero) = true)
    (l_Levels_zero : K.lookup f_Levels_zero = some ⟨oc_Levels_zero, od_Levels_zero, .func (PySem.W.fnOf "zero" "Levels.zero" (defArgs s_Levels_zero) (defBody s_Levels_zero) (defScope s_Levels_zero) .none kV_Levels_zero dc_Levels_zero pm_Levels_zero an_Levels_zero cd_Levels_zero ct_Levels_zero), sl_Levels_zero⟩)
    (c_Levels_zero : PySem.W.codeIn K cd_Levels_zero "Levels.zero" = true)
    (k_Levels_zero : PySem.W.keepIn K (.ref f_Levels_zero) = true)
    (a_Levels_one : PySem.W.findIn K (.ref C_Levels) "one" = some (some (.ref f_Levels_one)))
    (i_Levels_one : PySem.W.isFn K (.ref f_Levels_one) = true)
    (l_Levels_one : K.lookup f_Levels_one = some ⟨oc_Levels_one, od_Levels_one, .func (PySem.W.fnOf "one" "Levels.one" (defArgs s_Levels_one) (defBody s_Levels_one) (defScope s_Levels_one) .none kV_Levels_one dc_Levels_one pm_Levels_one an_Levels_one cd_Levels_one ct_Levels_one), sl_Levels_one⟩)
    (c_Levels_one : PySem.W.codeIn K cd_Levels_one "Levels.one" = true)
    (k_Levels_one : PySem.W.keepIn K (.ref f_Levels_one) = true)
    (a_Levels_plus : PySem.W.findIn K (.ref C_Levels) "plus" = some (some (.ref f_Levels_plus)))
    (i_Levels_plus : PySem.W.isFn K (.ref f_Levels_plus) = true)
    (l_Levels_plus : K.lookup f_Levels_plus = some ⟨oc_Levels_plus, od_Levels_plus, .func (PySem.W.fnOf "plus" "Levels.plus" (defArgs s_Levels_plus) (defBody s_Levels_plus) (defScope s_Levels_plus) .none kV_Levels_plus dc_Levels_plus pm_Levels_plus an_Levels_plus cd_Levels_plus ct_Levels_plus), sl_Levels_plus⟩)
    (c_Levels_plus : PySem.W.codeIn K cd_Levels_plus "Levels.plus" = true)
    (k_Levels_plus : PySem.W.keepIn K (.ref f_Levels_plus) = true)
    (a_Levels_times : PySem.W.findIn K (.ref C_Levels) "times" = some (some (.ref f_Levels_times)))
    (i_Levels_times : PySem.W.isFn K (.ref f_Levels_times) = true)
    (l_Levels_times : K.lookup f_Levels_times = some ⟨oc_Levels_times, od_Levels_times, .func (PySem.W.fnOf "times" "Levels.times" (defArgs s_Levels_times) (defBody s_Levels_times) (defScope s_Levels_times) .none kV_Levels_times dc_Levels_times pm_Levels_times an_Levels_times cd_Levels_times ct_Levels_times), sl_Levels_times⟩)
    (c_Levels_times : PySem.W.codeIn K cd_Levels_times "Levels.times" = true)
    (k_Levels_times : PySem.W.keepIn K (.ref f_Levels_times) = true)
    (a_Levels_star : PySem.W.findIn K (.ref C_Levels) "star" = some (some (.ref f_Levels_star)))
    (i_Levels_star : PySem.W.isFn K (.ref f_Levels_star) = true)
    (l_Levels_star : K.lookup f_Levels_star = some ⟨oc_Levels_star, od_Levels_star, .func (PySem.W.fnOf "star" "Levels.star" (defArgs s_Levels_star) (defBody s_Levels_star) (defScope s_Levels_star) .none kV_Levels_star dc_Levels_star pm_Levels_star an_Levels_star cd_Levels_star ct_Levels_star), sl_Levels_star⟩)
    (c_Levels_star : PySem.W.codeIn K cd_Levels_star "Levels.star" = true)
    (k_Levels_star : PySem.W.keepIn K (.ref f_Levels_star) = true)
    (a_Levels_is_element : PySem.W.findIn K (.ref C_Levels) "is_element" = some (some (.ref f_Levels_is_element)))
    (i_Levels_is_element : PySem.W.isFn K (.ref f_Levels_is_element) = true)
    (l_Levels_is_element : K.lookup f_Levels_is_element = some ⟨oc_Levels_is_element, od_Levels_is_element, .func (PySem.W.fnOf "is_element" "Levels.is_element" (defArgs s_Levels_is_element) (defBody s_Levels_is_element) (defScope s_Levels_is_element) .none kV_Levels_is_element dc_Levels_is_element pm_Levels_is_element an_Levels_is_element cd_Levels_is_element ct_Levels_is_element), sl_Levels_is_element⟩)
    (c_Levels_is_element : PySem.W.codeIn K cd_Levels_is_element "Levels.is_element" = true)
    (k_Levels_is_element : PySem.W.keepIn K (.ref f_Levels_is_element) = true)
    (a_Events_init : PySem.W.findIn K (.ref C_Events) "__init__" = some (some (.ref f_Events_init)))
    (i_Events_init : PySem.W.isFn K (.ref f_Events_init) = true)
    (l_Events_init : K.lookup f_Events_init = some ⟨oc_Events_init, od_Events_init, .func (PySem.W.fnOf "__init__" "Events.__init__" (defArgs s_Events_init) (defBody s_Events_init) (defScope s_Events_init) .none kV_Events_init dc_Events_init pm_Events_init an_Events_init cd_Events_init ct_Events_init), sl_Events_init⟩)
    (c_Events_init : PySem.W.codeIn K cd_Events_init "Events.__init__" = true)
    (k_Events_init : PySem.W.keepIn K (.ref f_Events_init) = true)
    (a_Events_zero : PySem.W.findIn K (.ref C_Events) "zero" = some (some (.ref f_Events_zero)))
    (i_Events_zero : PySem.W.isFn K (.ref f_Events_zero) = true)
    (l_Events_zero : K.lookup f_Events_zero = some ⟨oc_Events_zero, od_Events_zero, .func (PySem.W.fnOf "zero" "Events.zero" (defArgs s_Events_zero) (defBody s_Events_zero) (defScope s_Events_zero) .none kV_Events_zero dc_Events_zero pm_Events_zero an_Events_zero cd_Events_zero ct_Events_zero), sl_Events_zero⟩)
    (c_Events_zero : PySem.W.codeIn K cd_Events_zero "Events.zero" = true)
    (k_Events_zero : PySem.W.keepIn K (.ref f_Events_zero) = true)
    (a_Events_one : PySem.W.findIn K (.ref C_Events) "one" = some (some (.ref f_Events_one)))
    (i_Events_one : PySem.W.isFn K (.ref f_Events_one) = true)
    (l_Events_one : K.lookup f_Events_one = some ⟨oc_Events_one, od_Events_one, .func (PySem.W.fnOf "one" "Events.one" (defArgs s_Events_one) (defBody s_Events_one) (defScope s_Events_one) .none kV_Events_one dc_Events_one pm_Events_one an_Events_one cd_Events_one ct_Events_one), sl_Events_one⟩)
    (c_Events_one : PySem.W.codeIn K cd_Events_one "Events.one" = true)
    (k_Events_one : PySem.W.keepIn K (.ref f_Events_one) = true)
    (a_Events_plus : PySem.W.findIn K (.ref C_Events) "plus" = some (some (.ref f_Events_plus)))
    (i_Events_plus : PySem.W.isFn K (.ref f_Events_plus) = true)
    (l_Events_plus : K.lookup f_Events_plus = some ⟨oc_Events_plus, od_Events_plus, .func (PySem.W.fnOf "plus" "Events.plus" (defArgs s_Events_plus) (defBody s_Events_plus) (defScope s_Events_plus) .none kV_Events_plus dc_Events_plus pm_Events_plus an_Events_plus cd_Events_plus ct_Events_plus), sl_Events_plus⟩)
    (c_Events_plus : PySem.W.codeIn K cd_Events_plus "Events.plus" = true)
    (k_Events_plus : PySem.W.keepIn K (.ref f_Events_plus) = true)
    (a_Events_times : PySem.W.findIn K (.ref C_Events) "times" = some (some (.ref f_Events_times)))
    (i_Events_times : PySem.W.isFn K (.ref f_Events_times) = true)
    (l_Events_times : K.lookup f_Events_times = some ⟨oc_Events_times, od_Events_times, .func (PySem.W.fnOf "times" "Events.times" (defArgs s_Events_times) (defBody s_Events_times) (defScope s_Events_times) .none kV_Events_times dc_Events_times pm_Events_times an_Events_times cd_Events_times ct_Events_times), sl_Events_times⟩)
    (c_Events_times : PySem.W.codeIn K cd_Events_times "Events.times" = true)
    (k_Events_times : PySem.W.keepIn K (.ref f_Events_times) = true)
    (a_Events_star : PySem.W.findIn K (.ref C_Events) "star" = some (some (.ref f_Events_star)))
    (i_Events_star : PySem.W.isFn K (.ref f_Events_star) = true)
    (l_Events_star : K.lookup f_Events_star = some ⟨oc_Events_star, od_Events_star, .func (PySem.W.fnOf "star" "Events.star" (defArgs s_Events_star) (defBody s_Events_star) (defScope s_Events_star) .none kV_Events_star dc_Events_star pm_Events_star an_Events_star cd_Events_star ct_Events_star), sl_Events_star⟩)
    (c_Events_star : PySem.W.codeIn K cd_Events_star "Events.star" = true)
    (k_Events_star : PySem.W.keepIn K (.ref f_Events_star) = true)
    (a_Events_is_element : PySem.W.findIn K (.ref C_Events) "is_element" = some (some (.ref f_Events_is_element)))
    (i_Events_is_element : PySem.W.isFn K (.ref f_Events_is_element) = true)
    (l_Events_is_element : K.lookup f_Events_is_element = some ⟨oc_Events_is_element, od_Events_is_element, .func (PySem.W.fnOf "is_element" "Events.is_element" (defArgs s_Events_is_element) (defBody s_Events_is_element) (defScope s_Events_is_element) .none kV_Events_is_element dc_Events_is_element pm_Events_is_element an_Events_is_element cd_Events_is_element ct_Events_is_element), sl_Events_is_element⟩)
    (c_Events_is_element : PySem.W.codeIn K cd_Events_is_element "Events.is_element" = true)
    (k_Events_is_element : PySem.W.keepIn K (.ref f_Events_is_element) = true)
    (a_law_pot : PySem.W.nsIn K mainGlobals "_law_pot" = some (some (.ref f_law_pot)))
    (l_law_pot : K.lookup f_law_pot = some ⟨oc_law_pot, od_law_pot, .func (PySem.W.fnOf "_law_pot" "_law_pot" (defArgs s_law_pot) (defBody s_law_pot) (defScope s_law_pot) .none kV_law_pot dc_law_pot pm_law_pot an_law_pot cd_law_pot ct_law_pot), sl_law_pot⟩)
    (c_law_pot : PySem.W.codeIn K cd_law_pot "_law_pot" = true)
    (k_law_pot : PySem.W.keepIn K (.ref f_law_pot) = true)
    (a_law_next : PySem.W.nsIn K mainGlobals "_law_next" = some (some (.ref f_law_next)))
    (l_law_next : K.lookup f_law_next = some ⟨oc_law_next, od_law_next, .func (PySem.W.fnOf "_law_next" "_law_next" (defArgs s_law_next) (defBody s_law_next) (defScope s_law_next) .none kV_law_next dc_law_next pm_law_next an_law_next cd_law_next ct_law_next), sl_law_next⟩)
    (c_law_next : PySem.W.codeIn K cd_law_next "_law_next" = true)
    (k_law_next : PySem.W.keepIn K (.ref f_law_next) = true)
    (a_law_is_int : PySem.W.nsIn K mainGlobals "_law_is_int" = some (some (.ref f_law_is_int)))
    (l_law_is_int : K.lookup f_law_is_int = some ⟨oc_law_is_int, od_law_is_int, .func (PySem.W.fnOf "_law_is_int" "_law_is_int" (defArgs s_law_is_int) (defBody s_law_is_int) (defScope s_law_is_int) .none kV_law_is_int dc_law_is_int pm_law_is_int an_law_is_int cd_law_is_int ct_law_is_int), sl_law_is_int⟩)
    (c_law_is_int : PySem.W.codeIn K cd_law_is_int "_law_is_int" = true)
    (k_law_is_int : PySem.W.keepIn K (.ref f_law_is_int) = true)
    (a_law_same : PySem.W.nsIn K mainGlobals "_law_same" = some (some (.ref f_law_same)))
    (l_law_same : K.lookup f_law_same = some ⟨oc_law_same, od_law_same, .func (PySem.W.fnOf "_law_same" "_law_same" (defArgs s_law_same) (defBody s_law_same) (defScope s_law_same) .none kV_law_same dc_law_same pm_law_same an_law_same cd_law_same ct_law_same), sl_law_same⟩)
    (c_law_same : PySem.W.codeIn K cd_law_same "_law_same" = true)
    (k_law_same : PySem.W.keepIn K (.ref f_law_same) = true)
    (a_law_star : PySem.W.nsIn K mainGlobals "_law_star" = some (some (.ref f_law_star)))
    (l_law_star : K.lookup f_law_star = some ⟨oc_law_star, od_law_star, .func (PySem.W.fnOf "_law_star" "_law_star" (defArgs s_law_star) (defBody s_law_star) (defScope s_law_star) .none kV_law_star dc_law_star pm_law_star an_law_star cd_law_star ct_law_star), sl_law_star⟩)
    (c_law_star : PySem.W.codeIn K cd_law_star "_law_star" = true)
    (k_law_star : PySem.W.keepIn K (.ref f_law_star) = true)
    (a_law_refused : PySem.W.nsIn K mainGlobals "_law_refused" = some (some (.ref f_law_refused)))
    (l_law_refused : K.lookup f_law_refused = some ⟨oc_law_refused, od_law_refused, .func (PySem.W.fnOf "_law_refused" "_law_refused" (defArgs s_law_refused) (defBody s_law_refused) (defScope s_law_refused) .none kV_law_refused dc_law_refused pm_law_refused an_law_refused cd_law_refused ct_law_refused), sl_law_refused⟩)
    (c_law_refused : PySem.W.codeIn K cd_law_refused "_law_refused" = true)
    (k_law_refused : PySem.W.keepIn K (.ref f_law_refused) = true)
    (a_law_axioms : PySem.W.nsIn K mainGlobals "_law_axioms" = some (some (.ref f_law_axioms)))
    (l_law_axioms : K.lookup f_law_axioms = some ⟨oc_law_axioms, od_law_axioms, .func (PySem.W.fnOf "_law_axioms" "_law_axioms" (defArgs s_law_axioms) (defBody s_law_axioms) (defScope s_law_axioms) .none kV_law_axioms dc_law_axioms pm_law_axioms an_law_axioms cd_law_axioms ct_law_axioms), sl_law_axioms⟩)
    (c_law_axioms : PySem.W.codeIn K cd_law_axioms "_law_axioms" = true)
    (k_law_axioms : PySem.W.keepIn K (.ref f_law_axioms) = true)
    (a_law_due : PySem.W.nsIn K mainGlobals "_law_due" = some (some (.ref f_law_due)))
    (l_law_due : K.lookup f_law_due = some ⟨oc_law_due, od_law_due, .func (PySem.W.fnOf "_law_due" "_law_due" (defArgs s_law_due) (defBody s_law_due) (defScope s_law_due) .none kV_law_due dc_law_due pm_law_due an_law_due cd_law_due ct_law_due), sl_law_due⟩)
    (c_law_due : PySem.W.codeIn K cd_law_due "_law_due" = true)
    (k_law_due : PySem.W.keepIn K (.ref f_law_due) = true)
    (a_law_element : PySem.W.nsIn K mainGlobals "_law_element" = some (some (.ref f_law_element)))
    (l_law_element : K.lookup f_law_element = some ⟨oc_law_element, od_law_element, .func (PySem.W.fnOf "_law_element" "_law_element" (defArgs s_law_element) (defBody s_law_element) (defScope s_law_element) .none kV_law_element dc_law_element pm_law_element an_law_element cd_law_element ct_law_element), sl_law_element⟩)
    (c_law_element : PySem.W.codeIn K cd_law_element "_law_element" = true)
    (k_law_element : PySem.W.keepIn K (.ref f_law_element) = true)
    (a_law : PySem.W.nsIn K mainGlobals "law" = some (some (.ref f_law)))
    (l_law : K.lookup f_law = some ⟨oc_law, od_law, .func (PySem.W.fnOf "law" "law" (defArgs s_law) (defBody s_law) (defScope s_law) .none kV_law dc_law pm_law an_law cd_law ct_law), sl_law⟩)
    (c_law : PySem.W.codeIn K cd_law "law" = true)
    (k_law : PySem.W.keepIn K (.ref f_law) = true)
    (x_WorthError : PySem.W.excIn K C_WorthError [.type "ValueError", .type "Exception", .type "BaseException", .type "object"] "ValueError.__new__" = true)
    (kp_WorthError : PySem.W.keepIn K (.ref C_WorthError) = true)
    (b_WorthError : PySem.W.subIn K (.ref C_WorthError) (.type "BaseException") = some true)
    (t_WorthError : PySem.W.typeIn K (.ref C_WorthError) = some (.type "type"))
    (hd_WorthError : PySem.W.hasDictIn K C_WorthError = true)
    (ga_WorthError : PySem.W.findIn K (.ref C_WorthError) "__getattribute__" = some (some (.builtin "BaseException.__getattribute__")))
    (gg_WorthError : PySem.W.findIn K (.ref C_WorthError) "__getattr__" = some none)
    (cc_WorthError : PySem.W.findIn K (.ref C_WorthError) "__class__" = some (some (.builtin "object.__class__")))
    (mo_WorthError : PySem.W.mroIn K C_WorthError (.type "object") = some true)
    (x_InvalidArgument : PySem.W.excIn K C_InvalidArgument [.type "ValueError", .type "Exception", .type "BaseException", .type "object"] "ValueError.__new__" = true)
    (kp_InvalidArgument : PySem.W.keepIn K (.ref C_InvalidArgument) = true)
    (b_InvalidArgument : PySem.W.subIn K (.ref C_InvalidArgument) (.type "BaseException") = some true)
    (t_InvalidArgument : PySem.W.typeIn K (.ref C_InvalidArgument) = some (.type "type"))
    (hd_InvalidArgument : PySem.W.hasDictIn K C_InvalidArgument = true)
    (ga_InvalidArgument : PySem.W.findIn K (.ref C_InvalidArgument) "__getattribute__" = some (some (.builtin "BaseException.__getattribute__")))
    (gg_InvalidArgument : PySem.W.findIn K (.ref C_InvalidArgument) "__getattr__" = some none)
    (cc_InvalidArgument : PySem.W.findIn K (.ref C_InvalidArgument) "__class__" = some (some (.builtin "object.__class__")))
    (mo_InvalidArgument : PySem.W.mroIn K C_InvalidArgument (.type "object") = some true)
    (s_InvalidArgument_WorthError : PySem.W.subIn K (.ref C_InvalidArgument) (.ref C_WorthError) = some true)
    (x_NoStar : PySem.W.excIn K C_NoStar [.type "ValueError", .type "Exception", .type "BaseException", .type "object"] "ValueError.__new__" = true)
    (kp_NoStar : PySem.W.keepIn K (.ref C_NoStar) = true)
    (b_NoStar : PySem.W.subIn K (.ref C_NoStar) (.type "BaseException") = some true)
    (t_NoStar : PySem.W.typeIn K (.ref C_NoStar) = some (.type "type"))
    (hd_NoStar : PySem.W.hasDictIn K C_NoStar = true)
    (ga_NoStar : PySem.W.findIn K (.ref C_NoStar) "__getattribute__" = some (some (.builtin "BaseException.__getattribute__")))
    (gg_NoStar : PySem.W.findIn K (.ref C_NoStar) "__getattr__" = some none)
    (cc_NoStar : PySem.W.findIn K (.ref C_NoStar) "__class__" = some (some (.builtin "object.__class__")))
    (mo_NoStar : PySem.W.mroIn K C_NoStar (.type "object") = some true)
    (s_NoStar_WorthError : PySem.W.subIn K (.ref C_NoStar) (.ref C_WorthError) = some true)
    (pg_Numbers : PySem.W.plainGet K C_Numbers Str.empty = true)
    (hd_Numbers : PySem.W.hasDictIn K C_Numbers = true)
    (po_Numbers : PySem.W.plainOver K C_Numbers = true)
    (sa_Numbers : PySem.W.findIn K (.ref C_Numbers) "__setattr__" = some (some (.builtin "object.__setattr__")))
    (mk_Numbers : PySem.W.makesIn K C_Numbers = true)
    (kc_Numbers : PySem.W.keepIn K (.ref C_Numbers) = true)
    (ini_Numbers : PySem.W.findIn K (.ref C_Numbers) "__init__" = some (some (.builtin "object.__init__")))
    (pg_Costs : PySem.W.plainGet K C_Costs Str.empty = true)
    (hd_Costs : PySem.W.hasDictIn K C_Costs = true)
    (po_Costs : PySem.W.plainOver K C_Costs = true)
    (sa_Costs : PySem.W.findIn K (.ref C_Costs) "__setattr__" = some (some (.builtin "object.__setattr__")))
    (mk_Costs : PySem.W.makesIn K C_Costs = true)
    (kc_Costs : PySem.W.keepIn K (.ref C_Costs) = true)
    (ini_Costs : PySem.W.findIn K (.ref C_Costs) "__init__" = some (some (.builtin "object.__init__")))
    (pg_Levels : PySem.W.plainGet K C_Levels Str.empty = true)
    (hd_Levels : PySem.W.hasDictIn K C_Levels = true)
    (po_Levels : PySem.W.plainOver K C_Levels = true)
    (sa_Levels : PySem.W.findIn K (.ref C_Levels) "__setattr__" = some (some (.builtin "object.__setattr__")))
    (mk_Levels : PySem.W.makesIn K C_Levels = true)
    (kc_Levels : PySem.W.keepIn K (.ref C_Levels) = true)
    (pg_Events : PySem.W.plainGet K C_Events Str.empty = true)
    (hd_Events : PySem.W.hasDictIn K C_Events = true)
    (po_Events : PySem.W.plainOver K C_Events = true)
    (sa_Events : PySem.W.findIn K (.ref C_Events) "__setattr__" = some (some (.builtin "object.__setattr__")))
    (mk_Events : PySem.W.makesIn K C_Events = true)
    (kc_Events : PySem.W.keepIn K (.ref C_Events) = true)
    (spc : PySem.W.specialIn K (.builtin "object.__class__") "__get__" = some (some (.builtin "getset_descriptor.__get__")))
    (tki : PySem.W.takesIn K (.builtin "object.__class__") = some true)
    (n_Levels__top : PySem.W.findIn K (.ref C_Levels) "_top" = some none)
    (n_Events__all_bits : PySem.W.findIn K (.ref C_Events) "_all_bits" = some none)
    (g_MOST_EVENTS : PySem.W.nsIn K mainGlobals "MOST_EVENTS" = some (some (.int 200 tk_MOST_EVENTS)))
    (z_isinstance : PySem.W.nsIn K mainGlobals "isinstance" = some none)
    (z_int : PySem.W.nsIn K mainGlobals "int" = some none)
    (z_bool : PySem.W.nsIn K mainGlobals "bool" = some none)
    (z_str : PySem.W.nsIn K mainGlobals "str" = some none)
    (z_list : PySem.W.nsIn K mainGlobals "list" = some none)
    (z_tuple : PySem.W.nsIn K mainGlobals "tuple" = some none)
    (z_min : PySem.W.nsIn K mainGlobals "min" = some none)
    (z_max : PySem.W.nsIn K mainGlobals "max" = some none)
    (z_abs : PySem.W.nsIn K mainGlobals "abs" = some none)
    (z_len : PySem.W.nsIn K mainGlobals "len" = some none)
    (z_range : PySem.W.nsIn K mainGlobals "range" = some none)
    (z_all : PySem.W.nsIn K mainGlobals "all" = some none)
    : ∃ fd : FuncData, (∀ (s : Shared) (v : Value), BindsTo s fd ⟨[v], []⟩ [("script", v)]) ∧ ∀ base : Heap, K.In base → base.Ns mainGlobals mg → FnOk l.prog w K mg base (L2.CX l.prog w) 21 fa fd ["script"] (spLaw K) := by
  have e := hfa.symm.trans (PySem.W.mg_of X G a_law)
  cases e
  have F_is_integer := fun_mk (st := s_is_integer) l_is_integer c_is_integer k_is_integer
  have b_is_integer := F_is_integer.binds (ps := ["thing"]) fun _ _ _ _ _ _ us hl => match us, hl with | [_], _ => rfl
  have F_is_natural := fun_mk (st := s_is_natural) l_is_natural c_is_natural k_is_natural
  have b_is_natural := F_is_natural.binds (ps := ["thing"]) fun _ _ _ _ _ _ us hl => match us, hl with | [_], _ => rfl
  have F_is_between := fun_mk (st := s_is_between) l_is_between c_is_between k_is_between
  have b_is_between := F_is_between.binds (ps := ["thing", "low", "high"]) fun _ _ _ _ _ _ us hl => match us, hl with | [_, _, _], _ => rfl
  have F_Numbers_zero := fun_mk (st := s_Numbers_zero) l_Numbers_zero c_Numbers_zero k_Numbers_zero
  have b_Numbers_zero := F_Numbers_zero.binds (ps := ["self"]) fun _ _ _ _ _ _ us hl => match us, hl with | [_], _ => rfl
  have F_Numbers_one := fun_mk (st := s_Numbers_one) l_Numbers_one c_Numbers_one k_Numbers_one
  have b_Numbers_one := F_Numbers_one.binds (ps := ["self"]) fun _ _ _ _ _ _ us hl => match us, hl with | [_], _ => rfl
  have F_Numbers_plus := fun_mk (st := s_Numbers_plus) l_Numbers_plus c_Numbers_plus k_Numbers_plus
  have b_Numbers_plus := F_Numbers_plus.binds (ps := ["self", "a", "b"]) fun _ _ _ _ _ _ us hl => match us, hl with | [_, _, _], _ => rfl
  have F_Numbers_times := fun_mk (st := s_Numbers_times) l_Numbers_times c_Numbers_times k_Numbers_times
  have b_Numbers_times := F_Numbers_times.binds (ps := ["self", "a", "b"]) fun _ _ _ _ _ _ us hl => match us, hl with | [_, _, _], _ => rfl
  have F_Numbers_star := fun_mk (st := s_Numbers_star) l_Numbers_star c_Numbers_star k_Numbers_star
  have b_Numbers_star := F_Numbers_star.binds (ps := ["self", "a"]) fun _ _ _ _ _ _ us hl => match us, hl with | [_, _], _ => rfl
  have F_Numbers_is_element := fun_mk (st := s_Numbers_is_element) l_Numbers_is_element c_Numbers_is_element k_Numbers_is_element
  have b_Numbers_is_element := F_Numbers_is_element.binds (ps := ["self", "a"]) fun _ _ _ _ _ _ us hl => match us, hl with | [_, _], _ => rfl
  have F_Costs_zero := fun_mk (st := s_Costs_zero) l_Costs_zero c_Costs_zero k_Costs_zero
  have b_Costs_zero := F_Costs_zero.binds (ps := ["self"]) fun _ _ _ _ _ _ us hl => match us, hl with | [_], _ => rfl
  have F_Costs_one := fun_mk (st := s_Costs_one) l_Costs_one c_Costs_one k_Costs_one
  have b_Costs_one := F_Costs_one.binds (ps := ["self"]) fun _ _ _ _ _ _ us hl => match us, hl with | [_], _ => rfl
  have F_Costs_plus := fun_mk (st := s_Costs_plus) l_Costs_plus c_Costs_plus k_Costs_plus
  have b_Costs_plus := F_Costs_plus.binds (ps := ["self", "a", "b"]) fun _ _ _ _ _ _ us hl => match us, hl with | [_, _, _], _ => rfl
  have F_Costs_times := fun_mk (st := s_Costs_times) l_Costs_times c_Costs_times k_Costs_times
  have b_Costs_times := F_Costs_times.binds (ps := ["self", "a", "b"]) fun _ _ _ _ _ _ us hl => match us, hl with | [_, _, _], _ => rfl
  have F_Costs_star := fun_mk (st := s_Costs_star) l_Costs_star c_Costs_star k_Costs_star
  have b_Costs_star := F_Costs_star.binds (ps := ["self", "a"]) fun _ _ _ _ _ _ us hl => match us, hl with | [_, _], _ => rfl
  have F_Costs_is_element := fun_mk (st := s_Costs_is_element) l_Costs_is_element c_Costs_is_element k_Costs_is_element
  have b_Costs_is_element := F_Costs_is_element.binds (ps := ["self", "a"]) fun _ _ _ _ _ _ us hl => match us, hl with | [_, _], _ => rfl
  have F_Levels_init := fun_mk (st := s_Levels_init) l_Levels_init c_Levels_init k_Levels_init
  have b_Levels_init := F_Levels_init.binds (ps := ["self", "top"]) fun _ _ _ _ _ _ us hl => match us, hl with | [_, _], _ => rfl
  have F_Levels_zero := fun_mk (st := s_Levels_zero) l_Levels_zero c_Levels_zero k_Levels_zero
  have b_Levels_zero := F_Levels_zero.binds (ps := ["self"]) fun _ _ _ _ _ _ us hl => match us, hl with | [_], _ => rfl
  have F_Levels_one := fun_mk (st := s_Levels_one) l_Levels_one c_Levels_one k_Levels_one
  have b_Levels_one := F_Levels_one.binds (ps := ["self"]) fun _ _ _ _ _ _ us hl => match us, hl with | [_], _ => rfl
  have F_Levels_plus := fun_mk (st := s_Levels_plus) l_Levels_plus c_Levels_plus k_Levels_plus
  have b_Levels_plus := F_Levels_plus.binds (ps := ["self", "a", "b"]) fun _ _ _ _ _ _ us hl => match us, hl with | [_, _, _], _ => rfl
  have F_Levels_times := fun_mk (st := s_Levels_times) l_Levels_times c_Levels_times k_Levels_times
  have b_Levels_times := F_Levels_times.binds (ps := ["self", "a", "b"]) fun _ _ _ _ _ _ us hl => match us, hl with | [_, _, _], _ => rfl
  have F_Levels_star := fun_mk (st := s_Levels_star) l_Levels_star c_Levels_star k_Levels_star
  have b_Levels_star := F_Levels_star.binds (ps := ["self", "a"]) fun _ _ _ _ _ _ us hl => match us, hl with | [_, _], _ => rfl
  have F_Levels_is_element := fun_mk (st := s_Levels_is_element) l_Levels_is_element c_Levels_is_element k_Levels_is_element
  have b_Levels_is_element := F_Levels_is_element.binds (ps := ["self", "a"]) fun _ _ _ _ _ _ us hl => match us, hl with | [_, _], _ => rfl
  have F_Events_init := fun_mk (st := s_Events_init) l_Events_init c_Events_init k_Events_init
  have b_Events_init := F_Events_init.binds (ps := ["self", "count"]) fun _ _ _ _ _ _ us hl => match us, hl with | [_, _], _ => rfl
  have F_Events_zero := fun_mk (st := s_Events_zero) l_Events_zero c_Events_zero k_Events_zero
  have b_Events_zero := F_Events_zero.binds (ps := ["self"]) fun _ _ _ _ _ _ us hl => match us, hl with | [_], _ => rfl
  have F_Events_one := fun_mk (st := s_Events_one) l_Events_one c_Events_one k_Events_one
  have b_Events_one := F_Events_one.binds (ps := ["self"]) fun _ _ _ _ _ _ us hl => match us, hl with | [_], _ => rfl
  have F_Events_plus := fun_mk (st := s_Events_plus) l_Events_plus c_Events_plus k_Events_plus
  have b_Events_plus := F_Events_plus.binds (ps := ["self", "a", "b"]) fun _ _ _ _ _ _ us hl => match us, hl with | [_, _, _], _ => rfl
  have F_Events_times := fun_mk (st := s_Events_times) l_Events_times c_Events_times k_Events_times
  have b_Events_times := F_Events_times.binds (ps := ["self", "a", "b"]) fun _ _ _ _ _ _ us hl => match us, hl with | [_, _, _], _ => rfl
  have F_Events_star := fun_mk (st := s_Events_star) l_Events_star c_Events_star k_Events_star
  have b_Events_star := F_Events_star.binds (ps := ["self", "a"]) fun _ _ _ _ _ _ us hl => match us, hl with | [_, _], _ => rfl
  have F_Events_is_element := fun_mk (st := s_Events_is_element) l_Events_is_element c_Events_is_element k_Events_is_element
  have b_Events_is_element := F_Events_is_element.binds (ps := ["self", "a"]) fun _ _ _ _ _ _ us hl => match us, hl with | [_, _], _ => rfl
  have F_law_pot := fun_mk (st := s_law_pot) l_law_pot c_law_pot k_law_pot
  have b_law_pot := F_law_pot.binds (ps := ["script"]) fun _ _ _ _ _ _ us hl => match us, hl with | [_], _ => rfl
  have F_law_next := fun_mk (st := s_law_next) l_law_next c_law_next k_law_next
  have b_law_next := F_law_next.binds (ps := ["pot", "limit"]) fun _ _ _ _ _ _ us hl => match us, hl with | [_, _], _ => rfl
  have F_law_is_int := fun_mk (st := s_law_is_int) l_law_is_int c_law_is_int k_law_is_int
  have b_law_is_int := F_law_is_int.binds (ps := ["value"]) fun _ _ _ _ _ _ us hl => match us, hl with | [_], _ => rfl
  have F_law_same := fun_mk (st := s_law_same) l_law_same c_law_same k_law_same
  have b_law_same := F_law_same.binds (ps := ["found", "value"]) fun _ _ _ _ _ _ us hl => match us, hl with | [_, _], _ => rfl
  have F_law_star := fun_mk (st := s_law_star) l_law_star c_law_star k_law_star
  have b_law_star := F_law_star.binds (ps := ["ring", "a"]) fun _ _ _ _ _ _ us hl => match us, hl with | [_, _], _ => rfl
  have F_law_refused := fun_mk (st := s_law_refused) l_law_refused c_law_refused k_law_refused
  have b_law_refused := F_law_refused.binds (ps := ["kind", "size"]) fun _ _ _ _ _ _ us hl => match us, hl with | [_, _], _ => rfl
  have F_law_axioms := fun_mk (st := s_law_axioms) l_law_axioms c_law_axioms k_law_axioms
  have b_law_axioms := F_law_axioms.binds (ps := ["ring", "a", "b", "c"]) fun _ _ _ _ _ _ us hl => match us, hl with | [_, _, _, _], _ => rfl
  have F_law_due := fun_mk (st := s_law_due) l_law_due c_law_due k_law_due
  have b_law_due := F_law_due.binds (ps := ["kind", "size", "a", "b"]) fun _ _ _ _ _ _ us hl => match us, hl with | [_, _, _, _], _ => rfl
  have F_law_element := fun_mk (st := s_law_element) l_law_element c_law_element k_law_element
  have b_law_element := F_law_element.binds (ps := ["pot", "kind", "size"]) fun _ _ _ _ _ _ us hl => match us, hl with | [_, _, _], _ => rfl
  have F_law := fun_mk (st := s_law) l_law c_law k_law
  have b_law := F_law.binds (ps := ["script"]) fun _ _ _ _ _ _ us hl => match us, hl with | [_], _ => rfl
  have cl_Numbers : Cls K C_Numbers := ⟨pg_Numbers, hd_Numbers, po_Numbers, sa_Numbers⟩
  have cl_Costs : Cls K C_Costs := ⟨pg_Costs, hd_Costs, po_Costs, sa_Costs⟩
  have cl_Levels : Cls K C_Levels := ⟨pg_Levels, hd_Levels, po_Levels, sa_Levels⟩
  have cl_Events : Cls K C_Events := ⟨pg_Events, hd_Events, po_Events, sa_Events⟩
  let ad : Ad := ⟨C_WorthError, C_InvalidArgument, C_NoStar, C_Numbers, C_Costs, C_Levels, C_Events⟩
  have kself : ∀ C : Addr, PySem.W.kitOne K (.ref C) (.ref C) = some true := fun C => by
    show (if (Value.ref C == Value.ref C) = true then some true else _) = some true
    rw [if_pos (by simp)]
  have T : Txt K mg ad :=
    { z_isinstance := PySem.W.mg_none_of X G z_isinstance, z_int := PySem.W.mg_none_of X G z_int, z_bool := PySem.W.mg_none_of X G z_bool, z_str := PySem.W.mg_none_of X G z_str, z_list := PySem.W.mg_none_of X G z_list, z_tuple := PySem.W.mg_none_of X G z_tuple,
      z_min := PySem.W.mg_none_of X G z_min, z_max := PySem.W.mg_none_of X G z_max, z_abs := PySem.W.mg_none_of X G z_abs, z_len := PySem.W.mg_none_of X G z_len, z_range := PySem.W.mg_none_of X G z_range, z_all := PySem.W.mg_none_of X G z_all,
      g_MOST_EVENTS := ⟨_, PySem.W.mg_of X G g_MOST_EVENTS⟩, g_WorthError := PySem.W.mg_of X G aC_WorthError, g_InvalidArgument := PySem.W.mg_of X G aC_InvalidArgument, g_NoStar := PySem.W.mg_of X G aC_NoStar,
      x_InvalidArgument := x_InvalidArgument, x_NoStar := x_NoStar, k_InvalidArgument := kp_InvalidArgument, k_NoStar := kp_NoStar, b_InvalidArgument := b_InvalidArgument, b_NoStar := b_NoStar, t_InvalidArgument := t_InvalidArgument, t_NoStar := t_NoStar,
      ec_InvalidArgument := ⟨ga_InvalidArgument, gg_InvalidArgument, b_InvalidArgument, hd_InvalidArgument, cc_InvalidArgument, spc, tki, mo_InvalidArgument⟩,
      ec_NoStar := ⟨ga_NoStar, gg_NoStar, b_NoStar, hd_NoStar, cc_NoStar, spc, tki, mo_NoStar⟩,
      em_InvalidArgument := PySem.W.exm_ref b_WorthError hd_WorthError t_WorthError s_InvalidArgument_WorthError, em_NoStar := PySem.W.exm_ref b_WorthError hd_WorthError t_WorthError s_NoStar_WorthError,
      ki_InvalidArgument := kself _, ki_NoStar := kself _, c_Levels := cl_Levels, c_Events := cl_Events, nT_Levels := n_Levels__top, nA_Events := n_Events__all_bits }
  refine ⟨PySem.W.fnOf "law" "law" (defArgs s_law) (defBody s_law) (defScope s_law) .none kV_law dc_law pm_law an_law cd_law ct_law, fun s v => .of_eq rfl, fun base _ _ => ?_⟩
  have c_is_integer := cal_mk (x := "is_integer") (ok_is_integer (P := l.prog) (w := w) (K := K) (mg := mg) (base := base) (ad := ad) F_is_integer T) (PySem.W.mg_of X G a_is_integer) k_is_integer b_is_integer
  have c_is_natural := cal_mk (x := "is_natural") (ok_is_natural (P := l.prog) (w := w) (K := K) (mg := mg) (base := base) (ad := ad) c_is_integer F_is_natural T) (PySem.W.mg_of X G a_is_natural) k_is_natural b_is_natural
  have c_is_between := cal_mk (x := "is_between") (ok_is_between (P := l.prog) (w := w) (K := K) (mg := mg) (base := base) (ad := ad) c_is_integer F_is_between T) (PySem.W.mg_of X G a_is_between) k_is_between b_is_between
  have c_law_pot := cal_mk (x := "_law_pot") (ok_law_pot (P := l.prog) (w := w) (K := K) (mg := mg) (base := base) (ad := ad) F_law_pot T) (PySem.W.mg_of X G a_law_pot) k_law_pot b_law_pot
  have c_law_next := cal_mk (x := "_law_next") (ok_law_next (P := l.prog) (w := w) (K := K) (mg := mg) (base := base) (ad := ad) F_law_next T) (PySem.W.mg_of X G a_law_next) k_law_next b_law_next
  have c_law_is_int := cal_mk (x := "_law_is_int") (ok_law_is_int (P := l.prog) (w := w) (K := K) (mg := mg) (base := base) (ad := ad) F_law_is_int T) (PySem.W.mg_of X G a_law_is_int) k_law_is_int b_law_is_int
  have mLev := (mak_mk ⟨mk_Levels, a_Levels_init, i_Levels_init, kc_Levels⟩ (PySem.W.mg_of X G aC_Levels) (ok_Levels_init (P := l.prog) (w := w) (K := K) (mg := mg) (base := base) (ad := ad) F_Levels_init T) b_Levels_init)
  have mEv := (mak_mk ⟨mk_Events, a_Events_init, i_Events_init, kc_Events⟩ (PySem.W.mg_of X G aC_Events) (ok_Events_init (P := l.prog) (w := w) (K := K) (mg := mg) (base := base) (ad := ad) F_Events_init T) b_Events_init)
  have R : Rings l.prog w K mg base ad :=
    { num := ring_num ⟨(met_mk cl_Numbers ⟨a_Numbers_plus, i_Numbers_plus, k_Numbers_plus⟩ ((ok_Numbers_plus (P := l.prog) (w := w) (K := K) (mg := mg) (base := base) (ad := ad) F_Numbers_plus T).mono (by decide)) b_Numbers_plus), (met_mk cl_Numbers ⟨a_Numbers_times, i_Numbers_times, k_Numbers_times⟩ ((ok_Numbers_times (P := l.prog) (w := w) (K := K) (mg := mg) (base := base) (ad := ad) F_Numbers_times T).mono (by decide)) b_Numbers_times), (met_mk cl_Numbers ⟨a_Numbers_zero, i_Numbers_zero, k_Numbers_zero⟩ ((ok_Numbers_zero (P := l.prog) (w := w) (K := K) (mg := mg) (base := base) (ad := ad) F_Numbers_zero T).mono (by decide)) b_Numbers_zero), (met_mk cl_Numbers ⟨a_Numbers_one, i_Numbers_one, k_Numbers_one⟩ ((ok_Numbers_one (P := l.prog) (w := w) (K := K) (mg := mg) (base := base) (ad := ad) F_Numbers_one T).mono (by decide)) b_Numbers_one), (met_mk cl_Numbers ⟨a_Numbers_star, i_Numbers_star, k_Numbers_star⟩ ((ok_Numbers_star (P := l.prog) (w := w) (K := K) (mg := mg) (base := base) (ad := ad) F_Numbers_star T).mono (by decide)) b_Numbers_star), (met_mk cl_Numbers ⟨a_Numbers_is_element, i_Numbers_is_element, k_Numbers_is_element⟩ ((ok_Numbers_is_element (P := l.prog) (w := w) (K := K) (mg := mg) (base := base) (ad := ad) c_is_natural F_Numbers_is_element T).mono (by decide)) b_Numbers_is_element)⟩
      cst := ring_cst ⟨(met_mk cl_Costs ⟨a_Costs_plus, i_Costs_plus, k_Costs_plus⟩ ((ok_Costs_plus (P := l.prog) (w := w) (K := K) (mg := mg) (base := base) (ad := ad) F_Costs_plus T).mono (by decide)) b_Costs_plus), (met_mk cl_Costs ⟨a_Costs_times, i_Costs_times, k_Costs_times⟩ ((ok_Costs_times (P := l.prog) (w := w) (K := K) (mg := mg) (base := base) (ad := ad) F_Costs_times T).mono (by decide)) b_Costs_times), (met_mk cl_Costs ⟨a_Costs_zero, i_Costs_zero, k_Costs_zero⟩ ((ok_Costs_zero (P := l.prog) (w := w) (K := K) (mg := mg) (base := base) (ad := ad) F_Costs_zero T).mono (by decide)) b_Costs_zero), (met_mk cl_Costs ⟨a_Costs_one, i_Costs_one, k_Costs_one⟩ ((ok_Costs_one (P := l.prog) (w := w) (K := K) (mg := mg) (base := base) (ad := ad) F_Costs_one T).mono (by decide)) b_Costs_one), (met_mk cl_Costs ⟨a_Costs_star, i_Costs_star, k_Costs_star⟩ ((ok_Costs_star (P := l.prog) (w := w) (K := K) (mg := mg) (base := base) (ad := ad) F_Costs_star T).mono (by decide)) b_Costs_star), (met_mk cl_Costs ⟨a_Costs_is_element, i_Costs_is_element, k_Costs_is_element⟩ ((ok_Costs_is_element (P := l.prog) (w := w) (K := K) (mg := mg) (base := base) (ad := ad) c_is_natural F_Costs_is_element T).mono (by decide)) b_Costs_is_element)⟩
      lev := fun t ht => ring_lev ht ⟨(met_mk cl_Levels ⟨a_Levels_plus, i_Levels_plus, k_Levels_plus⟩ ((ok_Levels_plus (P := l.prog) (w := w) (K := K) (mg := mg) (base := base) (ad := ad) F_Levels_plus T).mono (by decide)) b_Levels_plus), (met_mk cl_Levels ⟨a_Levels_times, i_Levels_times, k_Levels_times⟩ ((ok_Levels_times (P := l.prog) (w := w) (K := K) (mg := mg) (base := base) (ad := ad) F_Levels_times T).mono (by decide)) b_Levels_times), (met_mk cl_Levels ⟨a_Levels_zero, i_Levels_zero, k_Levels_zero⟩ ((ok_Levels_zero (P := l.prog) (w := w) (K := K) (mg := mg) (base := base) (ad := ad) F_Levels_zero T).mono (by decide)) b_Levels_zero), (met_mk cl_Levels ⟨a_Levels_one, i_Levels_one, k_Levels_one⟩ ((ok_Levels_one (P := l.prog) (w := w) (K := K) (mg := mg) (base := base) (ad := ad) F_Levels_one T).mono (by decide)) b_Levels_one), (met_mk cl_Levels ⟨a_Levels_star, i_Levels_star, k_Levels_star⟩ ((ok_Levels_star (P := l.prog) (w := w) (K := K) (mg := mg) (base := base) (ad := ad) F_Levels_star T).mono (by decide)) b_Levels_star), (met_mk cl_Levels ⟨a_Levels_is_element, i_Levels_is_element, k_Levels_is_element⟩ ((ok_Levels_is_element (P := l.prog) (w := w) (K := K) (mg := mg) (base := base) (ad := ad) c_is_between F_Levels_is_element T).mono (by decide)) b_Levels_is_element)⟩
      evt := fun n => ring_evt n ⟨(met_mk cl_Events ⟨a_Events_plus, i_Events_plus, k_Events_plus⟩ ((ok_Events_plus (P := l.prog) (w := w) (K := K) (mg := mg) (base := base) (ad := ad) F_Events_plus T).mono (by decide)) b_Events_plus), (met_mk cl_Events ⟨a_Events_times, i_Events_times, k_Events_times⟩ ((ok_Events_times (P := l.prog) (w := w) (K := K) (mg := mg) (base := base) (ad := ad) F_Events_times T).mono (by decide)) b_Events_times), (met_mk cl_Events ⟨a_Events_zero, i_Events_zero, k_Events_zero⟩ ((ok_Events_zero (P := l.prog) (w := w) (K := K) (mg := mg) (base := base) (ad := ad) F_Events_zero T).mono (by decide)) b_Events_zero), (met_mk cl_Events ⟨a_Events_one, i_Events_one, k_Events_one⟩ ((ok_Events_one (P := l.prog) (w := w) (K := K) (mg := mg) (base := base) (ad := ad) F_Events_one T).mono (by decide)) b_Events_one), (met_mk cl_Events ⟨a_Events_star, i_Events_star, k_Events_star⟩ ((ok_Events_star (P := l.prog) (w := w) (K := K) (mg := mg) (base := base) (ad := ad) F_Events_star T).mono (by decide)) b_Events_star), (met_mk cl_Events ⟨a_Events_is_element, i_Events_is_element, k_Events_is_element⟩ ((ok_Events_is_element (P := l.prog) (w := w) (K := K) (mg := mg) (base := base) (ad := ad) c_is_between F_Events_is_element T).mono (by decide)) b_Events_is_element)⟩ }
  have c_law_same := same_cal (P := l.prog) (w := w) (base := base) (ad := ad) F_law_same T (PySem.W.mg_of X G a_law_same) b_law_same c_law_is_int 1
  have c_star : ∀ {C : Addr} {fs : List (Str × V)} {el sm : V → Prop} {pl tm : V → V → V} {z o : V} {st : V → Option V} {ie : V → Bool}, RingX l.prog w K mg base C ad.NoStar fs el sm pl tm z o st ie → CalX l.prog w K mg base 7 "_law_star" (spStar C fs el st) := fun RX =>
    cal_mk (ok_law_star (ad := ad) RX F_law_star T) (PySem.W.mg_of X G a_law_star) k_law_star b_law_star
  have c_ax : ∀ {C : Addr} {fs : List (Str × V)} {el sm : V → Prop} {pl tm : V → V → V} {z o : V} {st : V → Option V} {ie : V → Bool}, RingX l.prog w K mg base C ad.NoStar fs el sm pl tm z o st ie → CalX l.prog w K mg base 13 "_law_axioms" (spAx C fs sm) := fun RX =>
    cal_mk (ok_law_axioms (ad := ad) RX (c_star RX) F_law_axioms T) (PySem.W.mg_of X G a_law_axioms) k_law_axioms b_law_axioms
  have c_law_due := cal_mk (x := "_law_due") (ok_law_due (P := l.prog) (w := w) (K := K) (mg := mg) (base := base) (ad := ad) F_law_due T) (PySem.W.mg_of X G a_law_due) k_law_due b_law_due
  have c_law_element := cal_mk (x := "_law_element") (ok_law_element (P := l.prog) (w := w) (K := K) (mg := mg) (base := base) (ad := ad) c_law_next F_law_element T) (PySem.W.mg_of X G a_law_element) k_law_element b_law_element
  have c_law_refused := cal_mk (x := "_law_refused") (ok_law_refused (P := l.prog) (w := w) (K := K) (mg := mg) (base := base) (ad := ad) mLev mEv F_law_refused T) (PySem.W.mg_of X G a_law_refused) k_law_refused b_law_refused
  exact ok_law (P := l.prog) (w := w) (base := base) (ad := ad) R ⟨PySem.W.mg_of X G aC_Numbers, mk_Numbers, ini_Numbers, kc_Numbers⟩ ⟨PySem.W.mg_of X G aC_Costs, mk_Costs, ini_Costs, kc_Costs⟩ mLev mEv c_law_pot c_law_next c_law_element c_law_same c_law_due c_law_refused c_star c_ax F_law T
theorem walk {l : PySem.W.OpenLaw} {q : Program} {loose : List Str} {XP : (Str → Option Value) → Heap → Prop} {YP : World → Heap → Prop} {d : DefRec} {K : Params → PySem.W.Frag} (hn : l.most = some 63) (hdf : d.params.defaults = [])
    (hY : ∀ (w : World) (h : Heap), YP w h → (K w.params).In h)
    (F : ∀ (w : World) (mg : Str → Option Value) (fa : Addr) (h : Heap), (K w.params).In h → h.Ns mainGlobals mg → mg d.name = some (.ref fa) →
      ∃ fd : FuncData, (∀ (s : Shared) (u : Value), BindsTo s fd ⟨[u], []⟩ [("script", u)]) ∧ ∀ base : Heap, (K w.params).In base → base.Ns mainGlobals mg → FnOk l.prog w (K w.params) mg base (L2.CX l.prog w) 21 fa fd ["script"] (spLaw (K w.params))) :
    PySem.W.WalkO q loose XP YP l.row.toRowW d [] (fun f vs => PySem.call f vs) :=
  L2.walk_of (n := 63) (k := 21) (x := "script") (CX := fun w => L2.CX l.prog w) (sp := fun w => spLaw (K w.params)) hn (by decide) hdf ⟨rfl, by decide, by decide⟩ hY F (fun _ _ a ns hl _ hS => ⟨a, ns, rfl, hS, hl, fun _ => rfl⟩) fun _ _ _ _ _ h => by
    obtain ⟨_, _, _, _, _, _, _, _, _, _, _, _, z⟩ := h
    exact z
end K02
open PySem PySem.W PyProof.Rows
set_option maxRecDepth 100000 in
set_option maxHeartbeats 0 in
theorem PySem.Challenge.cw_everyworth_k02_built_semirings_holds : PySem.Challenge.rw_everyworth_k02_built_semirings.Holds := by
  w_on; o_law; k_head; (case hw => w_witness2)
  k_fill
  refine K02.walk (l := PySem.Challenge.rw_everyworth_k02_built_semirings) rfl rfl (fun w h Y => PySem.W.kIn_of Y) ?F
  case F =>
    intro w mg fa h KX G hmg
    refine' K02.all_mk KX G hmg ?aC_WorthError ?aC_InvalidArgument ?aC_NoStar ?aC_Numbers ?aC_Costs ?aC_Levels ?aC_Events ?a_is_integer ?l_is_integer ?c_is_integer ?k_is_integer ?a_is_natural ?l_is_natural ?c_is_natural ?k_is_natural ?a_is_between ?l_is_between ?c_is_between ?k_is_between ?a_Numbers_zero ?i_Numbers_zero ?l_Numbers_zero ?c_Numbers_zero ?k_Numbers_zero ?a_Numbers_one ?i_Numbers_one ?l_Numbers_one ?c_Numbers_one ?k_Numbers_one ?a_Numbers_plus ?i_Numbers_plus ?l_Numbers_plus ?c_Numbers_plus ?k_Numbers_plus ?a_Numbers_times ?i_Numbers_times ?l_Numbers_times ?c_Numbers_times ?k_Numbers_times ?a_Numbers_star ?i_Numbers_star ?l_Numbers_star ?c_Numbers_star ?k_Numbers_star ?a_Numbers_is_element ?i_Numbers_is_element ?l_Numbers_is_element ?c_Numbers_is_element ?k_Numbers_is_element ?a_Costs_zero ?i_Costs_zero ?l_Costs_zero ?c_Costs_zero ?k_Costs_zero ?a_Costs_one ?i_Costs_one ?l_Costs_one ?c_Costs_one ?k_Costs_one ?a_Costs_plus ?i_Costs_plus ?l_Costs_plus ?c_Costs_plus ?k_Costs_plus ?a_Costs_times ?i_Costs_times ?l_Costs_times ?c_Costs_times ?k_Costs_times ?a_Costs_star ?i_Costs_star ?l_Costs_star ?c_Costs_star ?k_Costs_star ?a_Costs_is_element ?i_Costs_is_element ?l_Costs_is_element ?c_Costs_is_element ?k_Costs_is_element ?a_Levels_init ?i_Levels_init ?l_Levels_init ?c_Levels_init ?k_Levels_init ?a_Levels_zero ?i_Levels_zero ?l_Levels_zero ?c_Levels_zero ?k_Levels_zero ?a_Levels_one ?i_Levels_one ?l_Levels_one ?c_Levels_one ?k_Levels_one ?a_Levels_plus ?i_Levels_plus ?l_Levels_plus ?c_Levels_plus ?k_Levels_plus ?a_Levels_times ?i_Levels_times ?l_Levels_times ?c_Levels_times ?k_Levels_times ?a_Levels_star ?i_Levels_star ?l_Levels_star ?c_Levels_star ?k_Levels_star ?a_Levels_is_element ?i_Levels_is_element ?l_Levels_is_element ?c_Levels_is_element ?k_Levels_is_element ?a_Events_init ?i_Events_init ?l_Events_init ?c_Events_init ?k_Events_init ?a_Events_zero ?i_Events_zero ?l_Events_zero ?c_Events_zero ?k_Events_zero ?a_Events_one ?i_Events_one ?l_Events_one ?c_Events_one ?k_Events_one ?a_Events_plus ?i_Events_plus ?l_Events_plus ?c_Events_plus ?k_Events_plus ?a_Events_times ?i_Events_times ?l_Events_times ?c_Events_times ?k_Events_times ?a_Events_star ?i_Events_star ?l_Events_star ?c_Events_star ?k_Events_star ?a_Events_is_element ?i_Events_is_element ?l_Events_is_element ?c_Events_is_element ?k_Events_is_element ?a_law_pot ?l_law_pot ?c_law_pot ?k_law_pot ?a_law_next ?l_law_next ?c_law_next ?k_law_next ?a_law_is_int ?l_law_is_int ?c_law_is_int ?k_law_is_int ?a_law_same ?l_law_same ?c_law_same ?k_law_same ?a_law_star ?l_law_star ?c_law_star ?k_law_star ?a_law_refused ?l_law_refused ?c_law_refused ?k_law_refused ?a_law_axioms ?l_law_axioms ?c_law_axioms ?k_law_axioms ?a_law_due ?l_law_due ?c_law_due ?k_law_due ?a_law_element ?l_law_element ?c_law_element ?k_law_element ?a_law ?l_law ?c_law ?k_law ?x_WorthError ?kp_WorthError ?b_WorthError ?t_WorthError ?hd_WorthError ?ga_WorthError ?gg_WorthError ?cc_WorthError ?mo_WorthError ?x_InvalidArgument ?kp_InvalidArgument ?b_InvalidArgument ?t_InvalidArgument ?hd_InvalidArgument ?ga_InvalidArgument ?gg_InvalidArgument ?cc_InvalidArgument ?mo_InvalidArgument ?s_InvalidArgument_WorthError ?x_NoStar ?kp_NoStar ?b_NoStar ?t_NoStar ?hd_NoStar ?ga_NoStar ?gg_NoStar ?cc_NoStar ?mo_NoStar ?s_NoStar_WorthError ?pg_Numbers ?hd_Numbers ?po_Numbers ?sa_Numbers ?mk_Numbers ?kc_Numbers ?ini_Numbers ?pg_Costs ?hd_Costs ?po_Costs ?sa_Costs ?mk_Costs ?kc_Costs ?ini_Costs ?pg_Levels ?hd_Levels ?po_Levels ?sa_Levels ?mk_Levels ?kc_Levels ?pg_Events ?hd_Events ?po_Events ?sa_Events ?mk_Events ?kc_Events ?spc ?tki ?n_Levels__top ?n_Events__all_bits ?g_MOST_EVENTS ?z_isinstance ?z_int ?z_bool ?z_str ?z_list ?z_tuple ?z_min ?z_max ?z_abs ?z_len ?z_range ?z_all
    (case aC_WorthError => k_is)
    (case aC_InvalidArgument => k_is)
    (case aC_NoStar => k_is)
    (case aC_Numbers => k_is)
    (case aC_Costs => k_is)
    (case aC_Levels => k_is)
    (case aC_Events => k_is)
    (case a_is_integer => k_is)
    (case l_is_integer => k_is)
    (case c_is_integer => k_is)
    (case k_is_integer => k_is)
    (case a_is_natural => k_is)
    (case l_is_natural => k_is)
    (case c_is_natural => k_is)
    (case k_is_natural => k_is)
    (case a_is_between => k_is)
    (case l_is_between => k_is)
    (case c_is_between => k_is)
    (case k_is_between => k_is)
    (case a_Numbers_zero => k_is)
    (case i_Numbers_zero => k_is)
    (case l_Numbers_zero => k_is)
    (case c_Numbers_zero => k_is)
    (case k_Numbers_zero => k_is)
    (case a_Numbers_one => k_is)
    (case i_Numbers_one => k_is)
    (case l_Numbers_one => k_is)
    (case c_Numbers_one => k_is)
    (case k_Numbers_one => k_is)
    (case a_Numbers_plus => k_is)
    (case i_Numbers_plus => k_is)
    (case l_Numbers_plus => k_is)
    (case c_Numbers_plus => k_is)
    (case k_Numbers_plus => k_is)
    (case a_Numbers_times => k_is)
    (case i_Numbers_times => k_is)
    (case l_Numbers_times => k_is)
    (case c_Numbers_times => k_is)
    (case k_Numbers_times => k_is)
    (case a_Numbers_star => k_is)
    (case i_Numbers_star => k_is)
    (case l_Numbers_star => k_is)
    (case c_Numbers_star => k_is)
    (case k_Numbers_star => k_is)
    (case a_Numbers_is_element => k_is)
    (case i_Numbers_is_element => k_is)
    (case l_Numbers_is_element => k_is)
    (case c_Numbers_is_element => k_is)
    (case k_Numbers_is_element => k_is)
    (case a_Costs_zero => k_is)
    (case i_Costs_zero => k_is)
    (case l_Costs_zero => k_is)
    (case c_Costs_zero => k_is)
    (case k_Costs_zero => k_is)
    (case a_Costs_one => k_is)
    (case i_Costs_one => k_is)
    (case l_Costs_one => k_is)
    (case c_Costs_one => k_is)
    (case k_Costs_one => k_is)
    (case a_Costs_plus => k_is)
    (case i_Costs_plus => k_is)
    (case l_Costs_plus => k_is)
    (case c_Costs_plus => k_is)
    (case k_Costs_plus => k_is)
    (case a_Costs_times => k_is)
    (case i_Costs_times => k_is)
    (case l_Costs_times => k_is)
    (case c_Costs_times => k_is)
    (case k_Costs_times => k_is)
    (case a_Costs_star => k_is)
    (case i_Costs_star => k_is)
    (case l_Costs_star => k_is)
    (case c_Costs_star => k_is)
    (case k_Costs_star => k_is)
    (case a_Costs_is_element => k_is)
    (case i_Costs_is_element => k_is)
    (case l_Costs_is_element => k_is)
    (case c_Costs_is_element => k_is)
    (case k_Costs_is_element => k_is)
    (case a_Levels_init => k_is)
    (case i_Levels_init => k_is)
    (case l_Levels_init => k_is)
    (case c_Levels_init => k_is)
    (case k_Levels_init => k_is)
    (case a_Levels_zero => k_is)
    (case i_Levels_zero => k_is)
    (case l_Levels_zero => k_is)
    (case c_Levels_zero => k_is)
    (case k_Levels_zero => k_is)
    (case a_Levels_one => k_is)
    (case i_Levels_one => k_is)
    (case l_Levels_one => k_is)
    (case c_Levels_one => k_is)
    (case k_Levels_one => k_is)
    (case a_Levels_plus => k_is)
    (case i_Levels_plus => k_is)
    (case l_Levels_plus => k_is)
    (case c_Levels_plus => k_is)
    (case k_Levels_plus => k_is)
    (case a_Levels_times => k_is)
    (case i_Levels_times => k_is)
    (case l_Levels_times => k_is)
    (case c_Levels_times => k_is)
    (case k_Levels_times => k_is)
    (case a_Levels_star => k_is)
    (case i_Levels_star => k_is)
    (case l_Levels_star => k_is)
    (case c_Levels_star => k_is)
    (case k_Levels_star => k_is)
    (case a_Levels_is_element => k_is)
    (case i_Levels_is_element => k_is)
    (case l_Levels_is_element => k_is)
    (case c_Levels_is_element => k_is)
    (case k_Levels_is_element => k_is)
    (case a_Events_init => k_is)
    (case i_Events_init => k_is)
    (case l_Events_init => k_is)
    (case c_Events_init => k_is)
    (case k_Events_init => k_is)
    (case a_Events_zero => k_is)
    (case i_Events_zero => k_is)
    (case l_Events_zero => k_is)
    (case c_Events_zero => k_is)
    (case k_Events_zero => k_is)
    (case a_Events_one => k_is)
    (case i_Events_one => k_is)
    (case l_Events_one => k_is)
    (case c_Events_one => k_is)
    (case k_Events_one => k_is)
    (case a_Events_plus => k_is)
    (case i_Events_plus => k_is)
    (case l_Events_plus => k_is)
    (case c_Events_plus => k_is)
    (case k_Events_plus => k_is)
    (case a_Events_times => k_is)
    (case i_Events_times => k_is)
    (case l_Events_times => k_is)
    (case c_Events_times => k_is)
    (case k_Events_times => k_is)
    (case a_Events_star => k_is)
    (case i_Events_star => k_is)
    (case l_Events_star => k_is)
    (case c_Events_star => k_is)
    (case k_Events_star => k_is)
    (case a_Events_is_element => k_is)
    (case i_Events_is_element => k_is)
    (case l_Events_is_element => k_is)
    (case c_Events_is_element => k_is)
    (case k_Events_is_element => k_is)
    (case a_law_pot => k_is)
    (case l_law_pot => k_is)
    (case c_law_pot => k_is)
    (case k_law_pot => k_is)
    (case a_law_next => k_is)
    (case l_law_next => k_is)
    (case c_law_next => k_is)
    (case k_law_next => k_is)
    (case a_law_is_int => k_is)
    (case l_law_is_int => k_is)
    (case c_law_is_int => k_is)
    (case k_law_is_int => k_is)
    (case a_law_same => k_is)
    (case l_law_same => k_is)
    (case c_law_same => k_is)
    (case k_law_same => k_is)
    (case a_law_star => k_is)
    (case l_law_star => k_is)
    (case c_law_star => k_is)
    (case k_law_star => k_is)
    (case a_law_refused => k_is)
    (case l_law_refused => k_is)
    (case c_law_refused => k_is)
    (case k_law_refused => k_is)
    (case a_law_axioms => k_is)
    (case l_law_axioms => k_is)
    (case c_law_axioms => k_is)
    (case k_law_axioms => k_is)
    (case a_law_due => k_is)
    (case l_law_due => k_is)
    (case c_law_due => k_is)
    (case k_law_due => k_is)
    (case a_law_element => k_is)
    (case l_law_element => k_is)
    (case c_law_element => k_is)
    (case k_law_element => k_is)
    (case a_law => k_is)
    (case l_law => k_is)
    (case c_law => k_is)
    (case k_law => k_is)
    (case x_WorthError => k_exc)
    (case kp_WorthError => k_is)
    (case b_WorthError => k_is)
    (case t_WorthError => k_is)
    (case hd_WorthError => k_is)
    (case ga_WorthError => k_is)
    (case gg_WorthError => k_is)
    (case cc_WorthError => k_is)
    (case mo_WorthError => k_is)
    (case x_InvalidArgument => k_exc)
    (case kp_InvalidArgument => k_is)
    (case b_InvalidArgument => k_is)
    (case t_InvalidArgument => k_is)
    (case hd_InvalidArgument => k_is)
    (case ga_InvalidArgument => k_is)
    (case gg_InvalidArgument => k_is)
    (case cc_InvalidArgument => k_is)
    (case mo_InvalidArgument => k_is)
    (case s_InvalidArgument_WorthError => k_is)
    (case x_NoStar => k_exc)
    (case kp_NoStar => k_is)
    (case b_NoStar => k_is)
    (case t_NoStar => k_is)
    (case hd_NoStar => k_is)
    (case ga_NoStar => k_is)
    (case gg_NoStar => k_is)
    (case cc_NoStar => k_is)
    (case mo_NoStar => k_is)
    (case s_NoStar_WorthError => k_is)
    (case pg_Numbers => k_is)
    (case hd_Numbers => k_is)
    (case po_Numbers => k_is)
    (case sa_Numbers => k_is)
    (case mk_Numbers => k_is)
    (case kc_Numbers => k_is)
    (case ini_Numbers => k_is)
    (case pg_Costs => k_is)
    (case hd_Costs => k_is)
    (case po_Costs => k_is)
    (case sa_Costs => k_is)
    (case mk_Costs => k_is)
    (case kc_Costs => k_is)
    (case ini_Costs => k_is)
    (case pg_Levels => k_is)
    (case hd_Levels => k_is)
    (case po_Levels => k_is)
    (case sa_Levels => k_is)
    (case mk_Levels => k_is)
    (case kc_Levels => k_is)
    (case pg_Events => k_is)
    (case hd_Events => k_is)
    (case po_Events => k_is)
    (case sa_Events => k_is)
    (case mk_Events => k_is)
    (case kc_Events => k_is)
    (case spc => k_is)
    (case tki => k_is)
    (case n_Levels__top => k_is)
    (case n_Events__all_bits => k_is)
    (case g_MOST_EVENTS => k_is)
    (case z_isinstance => k_is)
    (case z_int => k_is)
    (case z_bool => k_is)
    (case z_str => k_is)
    (case z_list => k_is)
    (case z_tuple => k_is)
    (case z_min => k_is)
    (case z_max => k_is)
    (case z_abs => k_is)
    (case z_len => k_is)
    (case z_range => k_is)
    (case z_all => k_is)
