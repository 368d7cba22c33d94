import PyProof.Rows.All
import Wide.All
import OpenK.AllK
import Wide.FinOn
import HandS.ForMost
import HandS.ForExc
import HandS.IsInst
import HandS.ExcIs
import HandS.CallSlots
import HandS.Wide
import HandS.EndBits
import HandS.Flow
import HandS.AnyAll
import HandS.SortKw
import HandS.GenOver
import HandS.GenList
import PyProof.GenRules
import PyProof.GenQ
import HandS.Steps
import HandS.Codes
import HandS.Dict
import KE.KeyNested
import KE.KDictKeyed
import KE.KDictDisplayH
import HandS.List
import KE.KIndexOf
import HandS.DictComp
import HandS.SortInts
import HandS.Defaults
import HandS.TupMul
import PySem.Challenge.RW_everyworth_k14_putting_nodes_in
import HandS.Style
import HandS.More
import HandS.TryOnly
import HandS.EndTab
import HandS.EndOwn
set_option Elab.async false
set_option linter.all false
set_option maxRecDepth 100000
set_option maxHeartbeats 4000000
/-! Rules whose callee is told by the reading: calls of defs, methods, classes by what stands in the heap. -/
namespace Ew
open PySem PySem.Spec PyProof.Rows L2

/-- a def under its name keeps sp at level k -/
structure CalX (P : Program) (w : World) (K : PySem.W.Frag) (mg : Str → Option Value) (base : Heap) (k : Nat) (x : Str) (sp : Sp) : Prop where
  ex : ∃ (f : Addr) (fd : FuncData) (ps : List Str) (ds : List Value) (dvs : List V) (sp0 : Sp), FnOk P w K mg base (L2.CX P w) k f fd ps sp0 ∧ mg x = some (.ref f) ∧ PySem.W.keepIn K (.ref f) = true ∧ Binds K fd ps ds ∧ Vals dvs ds ∧
    ∀ vs H Q E, sp vs H Q E → sp0 (vs ++ dvs) H Q E
/-- a method m of the class at C keeps sp at level k -/
structure MetX (P : Program) (w : World) (K : PySem.W.Frag) (mg : Str → Option Value) (base : Heap) (k : Nat) (C : Addr) (m : Str) (sp : Sp) : Prop where
  ex : ∃ (f : Addr) (fd : FuncData) (ps : List Str) (ds : List Value) (dvs : List V) (sp0 : Sp), Cls K C ∧ Meth K C m f ∧ FnOk P w K mg base (L2.CX P w) k f fd ps sp0 ∧ Binds K fd ps ds ∧ Vals dvs ds ∧
    ∀ vs H Q E, sp vs H Q E → sp0 (vs ++ dvs) H Q E
/-- a class under its name, its __init__ keeps sp at level k -/
structure MakX (P : Program) (w : World) (K : PySem.W.Frag) (mg : Str → Option Value) (base : Heap) (k : Nat) (x : Str) (C : Addr) (sp : Sp) : Prop where
  ex : ∃ (f : Addr) (fd : FuncData) (ps : List Str) (ds : List Value) (dvs : List V) (sp0 : Sp), Mk K C f ∧ mg x = some (.ref C) ∧ FnOk P w K mg base (L2.CX P w) k f fd ps sp0 ∧ Binds K fd ps ds ∧ Vals dvs ds ∧
    ∀ vs H Q E, sp vs H Q E → sp0 (vs ++ dvs) H Q E

def tCallD (P : Program) (w : World) (K : PySem.W.Frag) (mg : Str → Option Value) (base : Heap) (j : Nat) (x : Str) (W : WX) (t : TA) : TE := fun σ H Q =>
  ∃ (k : Nat) (sp : Sp), k ≤ j ∧ CalX P w K mg base k x sp ∧ t σ H fun vs H1 => sp vs H1 Q (WE W σ)
def tMethD (P : Program) (w : World) (K : PySem.W.Frag) (mg : Str → Option Value) (base : Heap) (j : Nat) (m : Str) (W : WX) (ta : TE) (t : TA) : TE := fun σ H Q => ta σ H fun x H1 =>
  ∃ (a C dx : Addr) (fs : List (Str × V)) (k : Nat) (sp : Sp), x = .ref a ∧ H1 a = some (.ins C dx fs) ∧ fs.lookup m = none ∧ k ≤ j ∧ MetX P w K mg base k C m sp ∧ t σ H1 fun vs H2 => sp (x :: vs) H2 Q (WE W σ)
def tMakeD (P : Program) (w : World) (K : PySem.W.Frag) (mg : Str → Option Value) (base : Heap) (j : Nat) (x : Str) (W : WX) (t : TA) : TE := fun σ H Q =>
  ∃ (k : Nat) (C : Addr) (sp : Sp), k + 1 ≤ j ∧ MakX P w K mg base k x C sp ∧ t σ H fun vs H1 => ∀ y dy, H1 y = none → H1 dy = none → dy ≠ y →
    sp (.ref y :: vs) (upd (upd H1 dy (.own y)) y (.ins C dy [])) (fun v H2 => v = .non ∧ Q (.ref y) H2) (WE W σ)

section
variable {X : Cx} {j : Nat} {x m : Str} {p pos apos : Pos} {e o : Expr} {es : List Expr} {ta : TE} {t : TA} {W : WX}

theorem pd_call (hr : Room j X.A) (tk : Takes X W) (hg : Gl X x) (ha : PA X (e :: es) t)
    (hdb : (x == ("__debug__" : Str)) = false := by decide) (he : starEach (e :: es) X.env = (false, eval e X.env) :: starEach es X.env := by rfl) (hpl : (backTo pos (starEach es X.env)).any (·.1) = false := by rfl) :
    PE X (.Call (.Name x p) (e :: es) [] pos) (tCallD X.prog X.w X.K X.mg X.base j x W t) := by
  refine ⟨fun pins s σ H Q I h => ?_⟩
  obtain ⟨k, sp, hk, c, h⟩ := h
  obtain ⟨f, fd, ps, ds, dvs, sp0, F, hm, kp, b, d, imp⟩ := c.ex
  refine wpAny_Call_Name_kw (ld_glob I hg hm ?_ hdb)
  refine PySem.W.callWith_K (h₀ := X.base) I.ok.mod.kin kp (thn (ha.run pos pins s σ H _ I h) fun us s1 ⟨vs, H1, I1, r, q⟩ => ⟨I1.kIn, ?_⟩) he hpl
  exact run_fnSD (E := WE W) F (hr.mono hk) b d (passAt tk σ) I1 r (imp _ _ _ _ q)
theorem pd_call0 (hr : Room j X.A) (tk : Takes X W) (hg : Gl X x) (hdb : (x == ("__debug__" : Str)) = false := by decide) :
    PE X (.Call (.Name x p) [] [] pos) (tCallD X.prog X.w X.K X.mg X.base j x W tNil) := by
  refine ⟨fun pins s σ H Q I h => ?_⟩
  obtain ⟨k, sp, hk, c, h⟩ := h
  obtain ⟨f, fd, ps, ds, dvs, sp0, F, hm, kp, b, d, imp⟩ := c.ex
  refine wpAny_Call_Name_kw (ld_glob I hg hm ?_ hdb)
  exact PySem.W.callWith_K0 I.kIn kp (run_fnSD (us := []) (E := WE W) F (hr.mono hk) b d (passAt tk σ) I .nil (imp _ _ _ _ h))

theorem pd_meth {pl : Sem Bool} (hr : Room j X.A) (tk : Takes X W) (he : PE X o ta) (ha : PA X (e :: es) t)
    (hst : starEach (e :: es) X.env = (false, eval e X.env) :: starEach es X.env := by rfl) (hpl : (backTo pos (starEach es X.env)).any (·.1) = false := by rfl)
    (ht : eval (.Call (.Attribute o m apos) (e :: es) [] pos) X.env = (do
      let ov ← eval o X.env
      standAt apos.atName
      let (f, first) ← holding [ov] (getMethod ov m pl)
      callWith pos f first (backTo pos (starEach (e :: es) X.env)) (backToKw pos (keywordEach [] X.env))) := by rfl) :
    PE X (.Call (.Attribute o m apos) (e :: es) [] pos) (tMethD X.prog X.w X.K X.mg X.base j m W ta t) := by
  refine ⟨fun pins s σ H Q I h => ?_⟩
  refine PySem.W.methodCall_KW (pl := pl) (thn (he.run pins s σ H _ I h) fun u s1 hh => ?_) ht
  obtain ⟨x, H1, I1, rx, a, C, dx, fs, k, sp, ex, ea, l, hk, c, q⟩ := hh
  obtain ⟨f, fd, ps, ds, dvs, sp0, hc, hm, F, b, d, imp⟩ := c.ex
  subst ex
  obtain rfl : u = Value.ref a := rx
  refine getmeth_ok I1 ea hc hm l ?_
  refine PySem.W.callWith_K (first := [.ref a]) (h₀ := X.base) I.ok.mod.kin hm.kp (thn (ha.run pos pins s1 σ H1 _ I1 q) fun us s2 ⟨vs, H2, I2, r, q2⟩ => ⟨I2.kIn, ?_⟩) hst hpl
  exact run_fnSD (us := .ref a :: us) (vs := .ref a :: vs) (E := WE W) F (hr.mono hk) b d (passAt tk σ) I2 (.cons rfl r) (imp _ _ _ _ q2)
theorem pd_meth0 {pl : Sem Bool} (hr : Room j X.A) (tk : Takes X W) (he : PE X o ta)
    (ht : eval (.Call (.Attribute o m apos) [] [] pos) X.env = (do
      let ov ← eval o X.env
      standAt apos.atName
      let (f, first) ← holding [ov] (getMethod ov m pl)
      callWith pos f first (backTo pos (starEach [] X.env)) (backToKw pos (keywordEach [] X.env))) := by rfl) :
    PE X (.Call (.Attribute o m apos) [] [] pos) (tMethD X.prog X.w X.K X.mg X.base j m W ta tNil) := by
  refine ⟨fun pins s σ H Q I h => ?_⟩
  refine PySem.W.methodCall_KW (pl := pl) (thn (he.run pins s σ H _ I h) fun u s1 hh => ?_) ht
  obtain ⟨x, H1, I1, rx, a, C, dx, fs, k, sp, ex, ea, l, hk, c, q⟩ := hh
  obtain ⟨f, fd, ps, ds, dvs, sp0, hc, hm, F, b, d, imp⟩ := c.ex
  subst ex
  obtain rfl : u = Value.ref a := rx
  refine getmeth_ok I1 ea hc hm l ?_
  exact PySem.W.callWith_K0 (first := [.ref a]) I1.kIn hm.kp (run_fnSD (us := [.ref a]) (vs := [.ref a]) (E := WE W) F (hr.mono hk) b d (passAt tk σ) I1 (.cons rfl .nil) (imp _ _ _ _ q))

theorem run_makeD {pins : List (Addr × Obj)} {σ : L2.St} {H : Hp} {s : Shared} {Q : VK} {us : List Value} {vs : List V} {k : Nat} {C f : Addr} {fd : FuncData} {ps : List Str} {ds : List Value} {dvs : List V} {sp : Sp} {E : L2.St → XK}
    (M : Mk X.K C f) (F : FnOk X.prog X.w X.K X.mg X.base (L2.CX X.prog X.w) k f fd ps sp) (hr : Room (k + 1) X.A) (hb : Binds X.K fd ps ds) (hd : Vals dvs ds)
    (hx : PassesAt (L2.CX X.prog X.w) X σ (E σ)) (I : Inv X pins σ H s) (r : Vals vs us)
    (h : ∀ x dx, H x = none → H dx = none → dx ≠ x → sp (.ref x :: (vs ++ dvs)) (upd (upd H dx (.own x)) x (.ins C dx [])) (fun v H2 => v = .non ∧ Q (.ref x) H2) (E σ)) :
    wpAny (model X.prog X.w) X.A (call (.ref C) us) (EP X pins σ Q) X.xe s := by
  have hq := h (s.heap.objs.size + 1) s.heap.objs.size (I.hok.fresh (Nat.le_succ _)) (I.hok.fresh (Nat.le_refl _)) (Nat.ne_of_lt (Nat.lt_succ_self _))
  have I2 := Inv.made (C := C) I
  have r2 : Vals (V.ref (s.heap.objs.size + 1) :: (vs ++ dvs)) (Value.ref (s.heap.objs.size + 1) :: (us ++ ds)) := .cons rfl (r.append hd)
  have hl : (Value.ref (s.heap.objs.size + 1) :: us ++ ds).length = ps.length := by
    have e := r2.length
    rw [F.len _ _ _ _ hq] at e
    exact e.symm
  refine wpAny_call (make_map (f := f) I.kIn M.makes M.init (beq_iff_eq.mp M.fn) (codeAny_mono (F.run _ X.stack _ _ ⟨Value.ref (s.heap.objs.size + 1) :: us, []⟩ (Value.ref (s.heap.objs.size + 1) :: (us ++ ds)) _ _ (E σ) (hr.make C us [])
    (I2.env0.make C us []) (hb _ (Value.ref (s.heap.objs.size + 1) :: us) I2.kIn hl) r2 hq) fun r s' hq' => ?_))
  cases r with
  | error e => exact hx pins _ _ e s' I2 hq'
  | ok fl =>
    cases fl with
    | ret u =>
      obtain ⟨v, H', I3, rv, ev, q3⟩ := I2.after hq'
      subst ev
      exact ⟨rv, ⟨V.ref (s.heap.objs.size + 1), H', I3, rfl, q3⟩⟩
    | next => exact False.elim hq'
    | brk => exact False.elim hq'
    | cont => exact False.elim hq'
theorem pd_make (hr : Room j X.A) (tk : Takes X W) (hg : Gl X x) (ha : PA X (e :: es) t)
    (hdb : (x == ("__debug__" : Str)) = false := by decide) (he : starEach (e :: es) X.env = (false, eval e X.env) :: starEach es X.env := by rfl) (hpl : (backTo pos (starEach es X.env)).any (·.1) = false := by rfl) :
    PE X (.Call (.Name x p) (e :: es) [] pos) (tMakeD X.prog X.w X.K X.mg X.base j x W t) := by
  refine ⟨fun pins s σ H Q I h => ?_⟩
  obtain ⟨k, C, sp, hk, c, h⟩ := h
  obtain ⟨f, fd, ps, ds, dvs, sp0, M, hm, F, b, d, imp⟩ := c.ex
  refine wpAny_Call_Name_kw (ld_glob I hg hm ?_ hdb)
  refine PySem.W.callWith_K (h₀ := X.base) I.ok.mod.kin M.kp (thn (ha.run pos pins s σ H _ I h) fun us s1 ⟨vs, H1, I1, r, q⟩ => ⟨I1.kIn, ?_⟩) he hpl
  exact run_makeD (E := WE W) M F (hr.mono hk) b d (passAt tk σ) I1 r fun y dy h1 h2 h3 => imp _ _ _ _ (q y dy h1 h2 h3)
theorem pd_make0 (hr : Room j X.A) (tk : Takes X W) (hg : Gl X x)
    (hdb : (x == ("__debug__" : Str)) = false := by decide) :
    PE X (.Call (.Name x p) [] [] pos) (tMakeD X.prog X.w X.K X.mg X.base j x W tNil) := by
  refine ⟨fun pins s σ H Q I h => ?_⟩
  obtain ⟨k, C, sp, hk, c, h⟩ := h
  obtain ⟨f, fd, ps, ds, dvs, sp0, M, hm, F, b, d, imp⟩ := c.ex
  refine wpAny_Call_Name_kw (ld_glob I hg hm ?_ hdb)
  exact PySem.W.callWith_K0 I.kIn M.kp (run_makeD (us := []) (E := WE W) M F (hr.mono hk) b d (passAt tk σ) I .nil fun y dy h1 h2 h3 => imp _ _ _ _ (h y dy h1 h2 h3))

/-- a class that has no __init__ of its own -/
structure Mk0 (K : PySem.W.Frag) (mg : Str → Option Value) (x : Str) (C : Addr) : Prop where
  mgC : mg x = some (.ref C)
  makes : PySem.W.makesIn K C = true
  init : PySem.W.findIn K (.ref C) "__init__" = some (some (.builtin "object.__init__"))
  kp : PySem.W.keepIn K (.ref C) = true
def tNew0D (K : PySem.W.Frag) (mg : Str → Option Value) (x : Str) : TE := fun _ H Q =>
  ∃ C, Mk0 K mg x C ∧ ∀ y dy, H y = none → H dy = none → dy ≠ y → Q (.ref y) (upd (upd H dy (.own y)) y (.ins C dy []))
theorem pd_new0 (hg : Gl X x) (hdb : (x == ("__debug__" : Str)) = false := by decide) : PE X (.Call (.Name x p) [] [] pos) (tNew0D X.K X.mg x) := by
  refine ⟨fun pins s σ H Q I h => ?_⟩
  obtain ⟨C, M, h⟩ := h
  refine wpAny_Call_Name_kw (ld_glob I hg M.mgC ?_ hdb)
  have hq := h (s.heap.objs.size + 1) s.heap.objs.size (I.hok.fresh (Nat.le_succ _)) (I.hok.fresh (Nat.le_refl _)) (Nat.ne_of_lt (Nat.lt_succ_self _))
  have I2 := Inv.made (C := C) I
  refine PySem.W.callWith_K0 I.kIn M.kp ?_
  show wpAny (model X.prog X.w) X.A (call (.ref C) []) _ _ _
  have I0 := I
  obtain ⟨hh, g, d, tk, os⟩ := s
  have Y := PySem.W.makes_of (M := model X.prog X.w) I0.kIn M.makes
  refine wpAny_call (PySem.W.make_core Y (PySem.W.looks_findIn I0.kIn M.init) (fun self => PySem.W.Looks.of_pure (PySem.W.oi_bind self)) (.inr ⟨rfl, rfl⟩) ?_)
  have hx : ((hh.push PySem.W.emptyDict).push (PySem.W.instObj C hh.objs.size)).get? (hh.objs.size + 1) = some (PySem.W.instObj C hh.objs.size) := by heap_get
  have t1 : PySem.W.Looks (model X.prog X.w) ((hh.push PySem.W.emptyDict).push (PySem.W.instObj C hh.objs.size)) (typeOf (.ref (hh.objs.size + 1))) (.ref C) := (PySem.W.Looks.ld hx).andThen .now
  have t2 : PySem.W.Looks (model X.prog X.w) ((hh.push PySem.W.emptyDict).push (PySem.W.instObj C hh.objs.size)) (isInstance (.ref (hh.objs.size + 1)) (.type "object")) true := t1.andThen (Y.top.keeps fun b o e => Heap.get?_push_of_some _ (Heap.get?_push_of_some _ e))
  refine codeAny_call_builtin PySem.W.oi_plain PySem.W.entry_oi (@PySem.W.check_slot (model X.prog X.w) _ _ _ "object.__init__" "object" "__init__" (.ref (hh.objs.size + 1)) [] [] _ PySem.W.oi_kind PySem.W.oi_split t2 (PySem.W.oi_args (.ref (hh.objs.size + 1))) ?_)
  rw [PySem.W.oi_run]
  exact wpAny_pure (And.intro rfl ⟨V.ref (hh.objs.size + 1), _, I2, rfl, hq⟩)

/-- f(e, ..) by a known promise -/
def tCallF (sp : Sp) (W : WX) (t : TA) : TE := fun σ H Q => t σ H fun vs H1 => sp vs H1 Q (WE W σ)
theorem pc_call {k : Nat} {sp : Sp} (c : CalX X.prog X.w X.K X.mg X.base k x sp) (hr : Room j X.A) (hk : k ≤ j) (tk : Takes X W) (hg : Gl X x) (ha : PA X (e :: es) t)
    (hdb : (x == ("__debug__" : Str)) = false := by decide) (he : starEach (e :: es) X.env = (false, eval e X.env) :: starEach es X.env := by rfl) (hpl : (backTo pos (starEach es X.env)).any (·.1) = false := by rfl) :
    PE X (.Call (.Name x p) (e :: es) [] pos) (tCallF sp W t) :=
  ⟨fun pins s σ H Q I h => (pd_call (p := p) (pos := pos) hr tk hg ha hdb he hpl).run pins s σ H Q I ⟨k, sp, hk, c, h⟩⟩
theorem pc_call0 {k : Nat} {sp : Sp} (c : CalX X.prog X.w X.K X.mg X.base k x sp) (hr : Room j X.A) (hk : k ≤ j) (tk : Takes X W) (hg : Gl X x) (hdb : (x == ("__debug__" : Str)) = false := by decide) :
    PE X (.Call (.Name x p) [] [] pos) (tCallF sp W tNil) :=
  ⟨fun pins s σ H Q I h => (pd_call0 (p := p) (pos := pos) hr tk hg hdb).run pins s σ H Q I ⟨k, sp, hk, c, h⟩⟩
theorem pe_gint {n : Int} (hg : Gl X x) (h : ∃ t, X.mg x = some (.int n t)) (hdb : (x == ("__debug__" : Str)) = false := by decide) : PE X (.Name x pos) (tC (.int n)) := by
  obtain ⟨t, h⟩ := h
  exact pe_glob hg h ⟨t, rfl⟩ hdb
theorem pe_gcls {C : Addr} (hg : Gl X x) (h : X.mg x = some (.ref C)) (hdb : (x == ("__debug__" : Str)) = false := by decide) : PE X (.Name x pos) (tC (.ref C)) := pe_glob hg h rfl hdb

/-! ### the same rules, the written part named K (within a comprehension's block the reading must not speak of the block) -/
section
variable {K : PySem.W.Frag}
theorem kix_list (hK : X.K = K := by rfl) : IxR X (rIxL K) := hK ▸ ix_list
theorem kix_tup (hK : X.K = K := by rfl) : IxR X (rIxT K) := hK ▸ ix_tup
theorem kix_seq (hK : X.K = K := by rfl) : IxR X (rIx K) := hK ▸ ix_seq
theorem kcall_len (hK : X.K = K := by rfl) : CallR X (.builtin "len") (fun xs H Q => ∃ x n, xs = [x] ∧ LenV K x H n ∧ Q (.int n) H) := hK ▸ call_len
theorem kcall_isi (hK : X.K = K := by rfl) : CallR X (.builtin "isinstance") (rIsi K) := hK ▸ call_isi
theorem kin_seq (hK : X.K = K := by rfl) : OpR X (compareOp .In) (rIn K false) := hK ▸ op_in_seq
theorem knotIn_seq (hK : X.K = K := by rfl) : OpR X (compareOp .NotIn) (rIn K true) := hK ▸ op_notIn_seq
theorem kpe_fld {f : Str} (he : PE X e ta) (hb : attributeBase e f X.env (eval e X.env) = eval e X.env) (hK : X.K = K := by rfl) : PE X (.Attribute e f pos) (tFld K ta f) := hK ▸ pe_fld he hb
theorem kpi_list {tg l : Expr} {tl : TE} (hl : PE X l tl) (hK : X.K = K := by rfl) : PI X tg l (iList K tl) := hK ▸ pi_list hl
theorem kpi_tup {tg l : Expr} {tl : TE} (hl : PE X l tl) (hK : X.K = K := by rfl) : PI X tg l (iTup K tl) := hK ▸ pi_tup hl
end
theorem kpd_meth {P : Program} {w : World} {K : PySem.W.Frag} {mg : Str → Option Value} {base : Heap} {pl : Sem Bool} (hr : Room j X.A) (tk : Takes X W) (he : PE X o ta) (ha : PA X (e :: es) t)
    (hP : X.prog = P := by rfl) (hw : X.w = w := by rfl) (hK : X.K = K := by rfl) (hm : X.mg = mg := by rfl) (hB : X.base = base := by rfl)
    (hst : starEach (e :: es) X.env = (false, eval e X.env) :: starEach es X.env := by rfl) (hpl : (backTo pos (starEach es X.env)).any (·.1) = false := by rfl)
    (ht : eval (.Call (.Attribute o m apos) (e :: es) [] pos) X.env = (do
      let ov ← eval o X.env
      standAt apos.atName
      let (f, first) ← holding [ov] (getMethod ov m pl)
      callWith pos f first (backTo pos (starEach (e :: es) X.env)) (backToKw pos (keywordEach [] X.env))) := by rfl) :
    PE X (.Call (.Attribute o m apos) (e :: es) [] pos) (tMethD P w K mg base j m W ta t) := by
  subst hP hw hK hm hB
  exact pd_meth (pl := pl) hr tk he ha hst hpl ht
theorem kpd_meth0 {P : Program} {w : World} {K : PySem.W.Frag} {mg : Str → Option Value} {base : Heap} {pl : Sem Bool} (hr : Room j X.A) (tk : Takes X W) (he : PE X o ta)
    (hP : X.prog = P := by rfl) (hw : X.w = w := by rfl) (hK : X.K = K := by rfl) (hm : X.mg = mg := by rfl) (hB : X.base = base := by rfl)
    (ht : eval (.Call (.Attribute o m apos) [] [] pos) X.env = (do
      let ov ← eval o X.env
      standAt apos.atName
      let (f, first) ← holding [ov] (getMethod ov m pl)
      callWith pos f first (backTo pos (starEach [] X.env)) (backToKw pos (keywordEach [] X.env))) := by rfl) :
    PE X (.Call (.Attribute o m apos) [] [] pos) (tMethD P w K mg base j m W ta tNil) := by
  subst hP hw hK hm hB
  exact pd_meth0 (pl := pl) hr tk he ht

/-! ### both ways of a two-place rule -/
def rOr (r r' : R2) : R2 := fun x y H Q => r x y H Q ∨ r' x y H Q
theorem op_or2 {f : Value → Value → Sem Value} {r r' : R2} (h : OpR X f r) (h' : OpR X f r') : OpR X f (rOr r r') := OpR.or h h'
theorem call_or2 {f : Value} {r r' : List V → Hp → VK → Prop} (h : CallR X f r) (h' : CallR X f r') : CallR X f (fun xs H Q => r xs H Q ∨ r' xs H Q) := by
  intro pins s σ H xs us Q I v q
  rcases q with q | q
  · exact h pins s σ H xs us Q I v q
  · exact h' pins s σ H xs us Q I v q
/-- isinstance(e, c) of what a suite holds, its class told by the reading -/
def rIsED (K : PySem.W.Frag) (a : Addr) (cls : Value) (d : Option Addr) : List V → Hp → VK → Prop := fun xs H Q => ∃ D, cls = .ref D ∧ d = none ∧ ExcC K D ∧ rIsE K D a xs H Q
theorem call_isED {a : Addr} {oe : Obj} {pn : List (Addr × Obj)} {cls : Value} {d : Option Addr} (hz : Zc cls d oe) (hf : ∃ vs, oe.data = .fields vs) : CallR (X.suite a ((a, oe) :: pn)) (.builtin "isinstance") (rIsED X.K a cls d) := by
  intro pins s σ H xs us Q I r h
  obtain ⟨D, rfl, rfl, C, q⟩ := h
  exact call_isE C hz hf pins s σ H xs us Q I r q
/-- text * 0 or 1 -/
def rMulS : R2 := fun x y H Q => ∃ (a : Str) (b : Bool), x = .str a ∧ y = .int (if b then 1 else 0) ∧ Q (.str (if b then a else Str.empty)) H
theorem op_mulS : OpR X (binaryOp .Mult) rMulS := by
  intro pins s σ H x y v u Q I rx ry h
  obtain ⟨a, b, rfl, rfl, q⟩ := h
  obtain ⟨t, rfl⟩ := rx
  obtain ⟨t', rfl⟩ := ry
  cases b with
  | true =>
    refine SB.mul ⟨by decide, fun _ z => absurd z (by simp), fun _ z => absurd z (by simp)⟩ fun t' k => ?_
    refine ⟨.str a, H, I.tok _, ⟨t', ?_⟩, q⟩
    unfold Txt.mul
    rfl
  | false =>
    refine SB.mul ⟨by decide, fun z => absurd (show (0:Int) < 1 by decide) z, fun z => absurd (show (0:Int) < 1 by decide) z⟩ fun t' k => ?_
    refine ⟨.str Str.empty, H, I.tok _, ⟨t', ?_⟩, q⟩
    unfold Txt.mul
    rfl
end
/-! ### try: the body's and the suite's terms are given where the reading stands -/
section
variable {X : Cx} {x n : Str} {c : Value} {i : Nat} {body suite : List Stmt} {b0 : Stmt} {np pos pos' : Pos} {Wout : WX}
def tsD (X : Cx) (b0 : Stmt) (suite : List Stmt) (a : Addr) (cls : Value) (d : Option Addr) : TS := fun D σ H =>
  ∀ (oe : Obj) (pn : List (Addr × Obj)), Zc cls d oe → (∃ vs, oe.data = .fields vs) → ∃ t, PSs (X.suite a ((a, oe) :: pn)) (b0 :: suite) t ∧ t D σ H
def tbD (X : Cx) (body : List Stmt) (W : WX) : TS := fun D σ H =>
  ∀ (pn : List (Addr × Obj)) (xe : Value → Shared → Prop), Takes (X.tr pn xe) W → PassesOwn (model X.prog X.w) X.A X.env xe → ∃ t, PSs (X.tr pn xe) body t ∧ t D σ H
theorem ps_tryD (hs : X.stack = X.env :: X.outer) (hf : X.env.frame = some X.env.locals) (hN : X.N.Nodup) (hi : X.N[i]? = some n) (hln : X.env.kindOf n = some .local) (hc : Names X x c) (tk : Takes X Wout) :
    PS X (.Try body [.ExceptHandler (some (.Name x np)) (some n) (b0 :: suite) pos'] [] [] pos) (fun D σ H => tbD X body (wAs X.K c i (tsD X b0 suite) Wout D) D σ H) :=
  ps_try_as (tb := tbD X body) (ts := tsD X b0 suite) hs hf hN hi hln hc tk
    (fun _ pn xe tk1 po => ⟨fun pins s σ H D I h => let ⟨_, p, q⟩ := h pn xe tk1 po; p.run pins s σ H D I q⟩)
    (fun a oe cls d pn hz hv => ⟨fun pins s σ H D I h => let ⟨_, p, q⟩ := h oe pn hz hv; p.run pins s σ H D I q⟩)
end
/-! ### from a def's own promise -/
section
variable {P : Program} {w : World} {K : PySem.W.Frag} {mg : Str → Option Value} {base : Heap} {k : Nat} {f C : Addr} {fd : FuncData} {ps : List Str} {sp : Sp} {x m : Str}
theorem cal_mk (G : FnOk P w K mg base (L2.CX P w) k f fd ps sp) (hm : mg x = some (.ref f)) (kp : PySem.W.keepIn K (.ref f) = true) (b : Binds K fd ps []) : CalX P w K mg base k x sp :=
  ⟨f, fd, ps, [], [], sp, G, hm, kp, b, .nil, fun _ _ _ _ h => by rw [List.append_nil]; exact h⟩
theorem met_mk (c : Cls K C) (me : Meth K C m f) (G : FnOk P w K mg base (L2.CX P w) k f fd ps sp) (b : Binds K fd ps []) : MetX P w K mg base k C m sp :=
  ⟨f, fd, ps, [], [], sp, c, me, G, b, .nil, fun _ _ _ _ h => by rw [List.append_nil]; exact h⟩
theorem mak_mk (M : Mk K C f) (hm : mg x = some (.ref C)) (G : FnOk P w K mg base (L2.CX P w) k f fd ps sp) (b : Binds K fd ps []) : MakX P w K mg base k x C sp :=
  ⟨f, fd, ps, [], [], sp, M, hm, G, b, .nil, fun _ _ _ _ h => by rw [List.append_nil]; exact h⟩
theorem cal_false (hm : mg x = some (.ref f)) (kp : PySem.W.keepIn K (.ref f) = true) (b : Binds K fd ps []) : CalX P w K mg base 0 x (fun _ _ _ _ => False) :=
  cal_mk ⟨fun _ _ _ _ h => h.elim, fun _ _ _ _ _ _ _ _ _ _ _ _ _ h => h.elim⟩ hm kp b
theorem CalX.imp {sp' : Sp} (c : CalX P w K mg base k x sp) (h : ∀ vs H Q E, sp' vs H Q E → sp vs H Q E) : CalX P w K mg base k x sp' := by
  obtain ⟨f, fd, ps, ds, dvs, sp0, F, hm, kp, b, d, imp⟩ := c.ex
  exact ⟨f, fd, ps, ds, dvs, sp0, F, hm, kp, b, d, fun vs H Q E q => imp vs H Q E (h vs H Q E q)⟩
theorem MetX.imp {sp' : Sp} (c : MetX P w K mg base k C m sp) (h : ∀ vs H Q E, sp' vs H Q E → sp vs H Q E) : MetX P w K mg base k C m sp' := by
  obtain ⟨f, fd, ps, ds, dvs, sp0, F, hm, kp, b, d, imp⟩ := c.ex
  exact ⟨f, fd, ps, ds, dvs, sp0, F, hm, kp, b, d, fun vs H Q E q => imp vs H Q E (h vs H Q E q)⟩
/-- two promises of one def at once -/
theorem FnOk.or {sp' : Sp} (F : FnOk P w K mg base (L2.CX P w) k f fd ps sp) (G : FnOk P w K mg base (L2.CX P w) k f fd ps sp') : FnOk P w K mg base (L2.CX P w) k f fd ps (fun vs H Q E => sp vs H Q E ∨ sp' vs H Q E) :=
  ⟨fun vs H Q E h => h.elim (F.len vs H Q E) (G.len vs H Q E), fun A outer s H args us vs Q E hr he hb hv hs => hs.elim (F.run A outer s H args us vs Q E hr he hb hv) (G.run A outer s H args us vs Q E hr he hb hv)⟩
end
end Ew

set_option Elab.async false
set_option linter.all false
set_option maxRecDepth 100000
set_option maxHeartbeats 4000000
/-! all(.. for ..), any(.. for ..): the element is any expression that the reading serves. -/
namespace EwG
open PySem PySem.Spec PyProof.Rows L2 Ew GxR

/-- the context of a generator expression's frame -/
abbrev gx (X : Cx) (A1 : Around) (s : Shared) (H : Hp) (cenv : Env) (fp : List Addr) (pn : List (Addr × Obj)) : Cx :=
  { X with A := A1, s_0 := s, H_0 := H, env := cenv, outer := X.stack, stack := cenv :: X.stack, ex := fp, fn := fun _ => false, calm := true, pn := pn, xe := fun _ _ => False }

theorem inv_same {X : Cx} {pins : List (Addr × Obj)} {σ : L2.St} {H : Hp} {s s' : Shared} (I : Inv X pins σ H s) (hh : s'.heap = s.heap) (ho : s'.os = s.os) (hb : AllBare s'.gens) : Inv X pins σ H s' := by
  obtain ⟨h', g', d', t', o'⟩ := s'
  have e1 : h' = s.heap := hh
  have e2 : o' = s.os := ho
  subst e1 e2
  exact ⟨I.ok, I.os, hb, I.base, I.loc, I.cell, I.free, I.freeC, I.pin, I.hok, I.len⟩

section
variable {X : Cx} {pins : List (Addr × Obj)} {σ : L2.St} {H : Hp} {s : Shared}
abbrev genv (X : Cx) (scope : Scope) (C : Addr) (code : Value) : Env := genEnv scope (cloFrom X.env.cells scope.names []) C code builtinsNs X.env

theorem gen_start {scope : Scope} {own : List (Str × Nat)} {fp : List Addr} {A1 : Around} {h' : Heap} {obj : Obj} {code : Value} {m : Str → Option Value} {g' : Array GenState} {t' : Nat}
    (I : Inv X pins σ H s) (ok : BlkOk X.N X.env.scope scope own) (hcell : ∀ y ∈ scope.names, y.2 ≠ .cell) (hN : X.N.Nodup) (hfp : ∀ b ∈ fp, FpOk X pins H b ∧ b < s.heap.objs.size)
    (hA : A1.handled = none) (hfr : A1.frames = some (genv X scope s.heap.objs.size code :: X.stack)) (hn' : h'.Ns s.heap.objs.size m) (kp0 : ∀ b o, s.heap.get? b = some o → h'.get? b = some o) (hs : h'.objs.size = s.heap.objs.size + 1)
    (hob : (h'.push obj).get? h'.objs.size = some obj) (hod : ∀ v, obj.data ≠ .cell v) (hg : AllBare g') :
    Inv (gx X A1 s H (genv X scope s.heap.objs.size code) fp [(h'.objs.size, obj)]) [] (wipe σ (own.map (·.2))) H { s with heap := h'.push obj, gens := g', toks := t' } := by
  have hfree : ∀ y ∈ scope.names, y.2 = .free → ∃ c, X.env.cells.lookup y.1 = some c := fun y hy e => by
    rcases ok.free y hy e with k | k
    · exact I.ok.has _ (.inl k)
    · exact I.ok.has _ (.inr k)
  have kp : ∀ b o, s.heap.get? b = some o → (h'.push obj).get? b = some o := fun b o e => Heap.get?_push_of_some _ (kp0 b o e)
  generalize hcenv : genv X scope s.heap.objs.size code = cenv at hfr
  have hL : cenv.locals = s.heap.objs.size := by rw [← hcenv]; rfl
  have hF : cenv.frame = some cenv.locals := by rw [← hcenv]; rfl
  have hcl : cenv.cells = cloFrom X.env.cells scope.names [] := by rw [← hcenv]; rfl
  have hsc : cenv.scope = scope := by rw [← hcenv]; rfl
  have cm : ∀ {y c}, cenv.cells.lookup y = some c → X.env.cells.lookup y = some c ∧ c < s.heap.objs.size := fun {y c} hm => by
    rw [hcl] at hm
    rcases cloFrom_mem (PySem.mem_of_lookup hm) with hm | ⟨h1, rfl⟩
    · cases hm
    · obtain ⟨c, hc⟩ := hfree _ h1 rfl
      rw [hc]
      obtain ⟨w, z⟩ := I.cell _ _ hc
      exact ⟨rfl, z.lt⟩
  have look : ∀ {y}, scope.names.lookup y = some .free → ∃ c, cenv.cells.lookup y = some c ∧ X.env.cells.lookup y = some c := fun {y} hl => by
    have hy : (y, NameKind.free) ∈ scope.names := PySem.mem_of_lookup hl
    obtain ⟨c', e'⟩ := mem_lookup (cloFrom_has (cells := X.env.cells) (acc := []) hy)
    rw [← hcl] at e'
    exact ⟨c', e', (cm e').1⟩
  have okB : (gx X A1 s H cenv fp [(h'.objs.size, obj)]).Ok := by
    refine ⟨I.ok.mod, by show cenv.scope.kind = _; rw [hsc]; exact ok.kind, by show cenv.globals = _; rw [← hcenv]; exact I.ok.glob, by show cenv.builtins = _; rw [← hcenv]; rfl, by show s.heap.objs.size ≤ cenv.locals; rw [hL]; exact Nat.le_refl _,
      fun y z c e1 e2 => I.ok.inj y z c (cm e1).1 (cm e2).1, fun y hy => ?_, fun y c z e => absurd (show false = true from z) Bool.false_ne_true, fun _ => hA, hfr, .inr ⟨rfl, hF⟩, fun b hb => ⟨?_, fun y c e z => ?_⟩, I.bs, Nat.le_trans I.ok.bsz I.sz, fun b o e hb => ?_, fun b hb z => ?_, I.stack, I.stkFree⟩
    · show ∃ c, cenv.cells.lookup y = some c
      rcases hy with hy | hy
      · have hy : cenv.scope.names.lookup y = some .cell := hy
        rw [hsc] at hy
        exact absurd rfl (hcell _ (PySem.mem_of_lookup hy))
      · have hy : cenv.scope.names.lookup y = some .free := hy
        rw [hsc] at hy
        obtain ⟨c, h1, _⟩ := look hy
        exact ⟨c, h1⟩
    · show b ≠ cenv.locals
      rw [hL]; exact Nat.ne_of_lt (hfp b hb).2
    · exact (hfp b hb).1.2.2.2.2.1 y c (cm e).1 z
    · rcases (hfp b hb).1.2.2.2.1 with z | z
      · exact I.ok.noex b o e z
      · exact absurd (Nat.lt_of_lt_of_le (Heap.lt_size e) (Nat.le_trans I.ok.bsz z)) (Nat.lt_irrefl _)
    · rcases List.mem_cons.mp (I.stkSub b z) with z | z
      · exact (hfp b hb).1.2.1 z
      · exact (hfp b hb).1.2.2.1 z
  refine ⟨okB, rfl, hg, Un.kept kp, ⟨m, ?_, fun i y av e1 e2 e3 => ?_⟩, fun y c e => ?_, ?_, fun y c e => ?_, fun p hp => ?_, I.hok.kept kp, by rw [wipe_length]; exact I.len⟩
  · show Heap.Ns _ cenv.locals _
    rw [hL]
    exact hn'.push _
  · obtain ⟨e2, hne⟩ := wipe_some e2
    have hfr : scope.names.lookup y = some .free := by
      have key : ∀ k, scope.names.lookup y = some k → k = .local ∨ k = .cell → False := fun k hk hh => by
        rcases ok.own _ (PySem.mem_of_lookup hk) hh with e' | e'
        · obtain ⟨p, hp, hpy⟩ := List.mem_map.mp e'
          have e3 := ok.ix p hp
          have : p.1 = y := hpy
          rw [this] at e3
          exact hne (List.mem_map.mpr ⟨p, hp, nodup_ix hN e3 e1⟩)
        · exact e' (List.mem_of_getElem? e1)
      have e3 : Vis cenv.scope y := e3
      rw [hsc] at e3
      rcases e3 with e3 | e3 | e3
      · exact (key _ e3 (.inl rfl)).elim
      · exact (key _ e3 (.inr rfl)).elim
      · exact e3
    obtain ⟨m, hn, hl⟩ := I.loc
    have hvis : Vis X.env.scope y := (ok.free _ (PySem.mem_of_lookup hfr) rfl).elim (fun k => .inr (.inl k)) (fun k => .inr (.inr k))
    obtain ⟨w, r, q⟩ := hl i y av e1 e2 hvis
    refine ⟨w, r, .inr ⟨.inr (by show cenv.scope.names.lookup y = _; rw [hsc]; exact hfr), ?_⟩⟩
    obtain ⟨c, h1, h2⟩ := look hfr
    rcases q with ⟨k, _⟩ | ⟨_, c', e', z⟩
    · have k : X.env.scope.names.lookup y = some .local := k
      rcases ok.free _ (PySem.mem_of_lookup hfr) rfl with k' | k' <;> rw [show X.env.scope.names.lookup y = _ from k'] at k <;> cases k
    · rw [h2] at e'; cases e'
      exact ⟨c, h1, z.keeps kp⟩
  · obtain ⟨w, z⟩ := I.cell y c (cm e).1
    exact ⟨w, z.keeps kp⟩
  · show H cenv.locals = none
    rw [hL]; exact I.hok.fresh (Nat.le_refl _)
  · exact I.freeC y c (cm e).1
  · have e : p = (h'.objs.size, obj) := by
      have hp : p ∈ [(h'.objs.size, obj)] ++ [] := hp
      simpa using hp
    subst e
    have le : s.heap.objs.size ≤ h'.objs.size := by omega
    refine ⟨hob, I.hok.fresh le, ?_, fun z => ?_, hod⟩
    · show h'.objs.size ≠ cenv.locals
      rw [hL, hs]; exact Nat.succ_ne_self _
    · rcases List.mem_cons.mp (I.stkSub _ z) with z | z
      · have := I.lt
        rw [← show h'.objs.size = X.env.locals from z] at this
        exact absurd (Nat.lt_of_lt_of_le this le) (Nat.lt_irrefl _)
      · exact I.nofs le z

/-- e: the truth that goes on (all: True, any: False) -/
def GW (J : It) (g : TG) (te : TE) (vs : List Nat) (σ : L2.St) (e : Bool) (Q : VK) (W : Nat → Nat → Hp → Prop) : Prop := ∀ i m H, W i m H →
  (J.stop i H ∧ Q (.bl e) H) ∨ (J.go i H ∧ ∀ x H', J.yld i H x H' → g x (wipe σ vs) H' fun σ2 H2 => wipe σ2 vs = wipe σ vs ∧ te σ2 H2 fun y H3 => ∃ b, y = .bl b ∧ (b = e → ∃ m', m' < m ∧ W (i + 1) m' H3) ∧ (b ≠ e → Q (.bl b) H3))
abbrev GP (Y : Cx) (e : Bool) (Q : VK) : Nat → Shared → Shared → Prop := fun _ _ s => ∃ σ H, Inv Y [] σ H s ∧ Q (.bl e) H
abbrev GRn (Y : Cx) (e : Bool) (Q : VK) : GenEnd := fun n s₀ r s => r = .ok .next ∧ GP Y e Q n s₀ s
def GYp (Y : Cx) (e : Bool) (Q : VK) : Protocol := fun n s₀ v s kap => ∃ b σ H, v = .bool b ∧ Inv Y [] σ H s ∧ (b ≠ e → Q (.bl b) H) ∧ (b = e → ∀ s' : Shared, s'.heap = s.heap → s'.os = s.os → AllBare s'.gens → kap (.send .none) s')

theorem seg_loop {Y : Cx} {A2 : Around} {elt tg iter : Expr} {scope : Scope} {pos : Pos} {it : Addr} {fp : List Addr} {tn : Nat → Heap → Prop} {J : It} {g : TG} {te : TE} {vs : List Nat} {σ : L2.St} {e : Bool} {Q : VK} {W : Nat → Nat → Hp → Prop}
    (hA : Y.A = A2.over (.compLoop (.GeneratorExp elt [⟨tg, iter, [], 0⟩] scope pos) 0 (.ref it) .none Y.env) []) (hex : Y.ex = fp) (hc : Y.calm = true) (hx : Y.xe = fun _ _ => False) (hpn : ∀ b ∈ fp, ∀ p ∈ Y.pn, p.1 ≠ b) (hco : Y.env.scope.isCoroutine = false)
    (T : Turn Y.prog Y.w Y.K tg J fp it tn) (pg : PG Y tg g) (pe : PE Y elt te) (hW : GW J g te vs σ e Q W) :
    ∀ (m i n : Nat) (s₀ s : Shared) (H : Hp), m < n → Inv Y [] (wipe σ vs) H s → tn i s.heap → (∀ b ∈ fp, H b = none) → W i m H →
      Seg (model Y.prog Y.w) A2 (GRn Y e Q) (GYp Y e Q) n s₀ (.compLoop (.GeneratorExp elt [⟨tg, iter, [], 0⟩] scope pos) 0 (.ref it) .none Y.env)
        ((model Y.prog Y.w).den (.compLoop (.GeneratorExp elt [⟨tg, iter, [], 0⟩] scope pos) 0 (.ref it) .none Y.env)) [] s := by
  have stat : ∀ {σ' : L2.St} {H' : Hp} {s' : Shared}, Inv Y [] σ' H' s' → (∀ b ∈ fp, H' b = none) → ∀ b ∈ fp, FpOk Y [] H' b := fun {σ' H' s'} I' hn b hb =>
    have hb' : b ∈ Y.ex := by rw [hex]; exact hb
    ⟨hn b hb, (I'.ok.exf b hb').1, I'.ok.exfs b hb', .inl hb', fun x c e => (I'.ok.exf b hb').2 x c e, fun p hp => hpn b hb p (by simpa using hp)⟩
  intro m
  induction m using Nat.strongRecOn with
  | ind m ih =>
    intro i n s₀ s H hmn I st hn w
    show Seg _ A2 _ _ _ s₀ _ ((compTurn (.GeneratorExp elt [⟨tg, iter, [], 0⟩] scope pos) 0 (.ref it) .none Y.env).onRaise (leaving Y.env)) [] s
    rw [compTurn_gen, Sem.onRaise_eq_wrap]
    refine seg_bind_wrap (wpAny_standAt ?_)
    rcases hW i m H w with ⟨stop, q⟩ | ⟨go, step⟩
    · refine seg_bind_wrap ?_
      rw [← hA]
      refine thnF (T.done Y rfl rfl rfl hc i [] s _ H (fun _ _ => False) I (stat I hn) st stop) fun r s6 ⟨hr, I6⟩ => ?_
      subst hr
      exact seg_end (.ok .next) ⟨rfl, _, H, I6, q⟩
    · refine seg_bind_wrap ?_
      rw [← hA]
      refine thnF (T.item Y rfl rfl rfl hc i [] s _ H (fun _ _ => False) I (stat I hn) st go) fun r s6 ⟨u, hr, h6⟩ => ?_
      subst hr
      refine seg_bind_wrap ?_
      rw [← hA]
      refine thnF h6 fun _ s7 ⟨x, H7, I7, r7, y7, st7, n7⟩ => ?_
      have I7' := I7.pinned (stat I7 n7) (T.obj _ _ st7)
      refine seg_bind_wrap ?_
      rw [← hA]
      have hpg := pg.run _ s7 _ H7 x u _ I7' r7 (step x H7 y7)
      rw [hx] at hpg
      refine thnF hpg fun _ s8 ⟨σ8, H8, I8, hw8, q8⟩ => ?_
      refine seg_bind_wrap ?_
      rw [← hA]
      refine wpAny_tests_nil ?_
      simp only [if_true]
      have hy : ∀ v, yieldOut Y.env v = yieldValue v := fun v => by simp only [yieldOut, hco, Bool.false_eq_true, if_false]
      simp only [hy]
      rw [Sem.bind_eq_wrap', Sem.bind_eq_wrap', Sem.wrap_wrap, Sem.wrap_wrap]
      refine seg_wrap ?_
      rw [← hA]
      have hpe := pe.run _ s8 σ8 H8 _ I8 q8
      rw [hx] at hpe
      refine thnF hpe fun z s9 ⟨y, H9, I9, r9, b, hyb, q9⟩ => ?_
      subst hyb
      have hz : z = .bool b := r9
      subst hz
      have pin' : ∀ c ∈ fp, ∀ o, s7.heap.get? c = some o → s9.heap.get? c = some o ∧ H9 c = none := fun c hb o e =>
        let z := I9.pin (c, o) (List.mem_append_right _ (List.mem_append_right _ (mem_pinsAt hb e)))
        ⟨z.1, z.2.1⟩
      have hl : (wipe σ vs).length = σ8.length := by rw [← hw8, wipe_length]
      have I10 : Inv Y [] (wipe σ vs) H9 s9 := (I9.unpinned (pins := [])).weak hl fun j v e => by
        rw [← hw8] at e
        exact (wipe_some e).1
      obtain ⟨n', rfl⟩ : ∃ n', n = n' + 1 := ⟨n - 1, by omega⟩
      refine seg_at (seg_yield rfl rfl rfl ⟨b, _, H9, rfl, I10, q9.2, fun hb s' hh ho hg => ?_⟩)
      obtain ⟨m', hm, w'⟩ := q9.1 hb
      refine seg_again rfl (ih m' hm (i + 1) n' s' s' H9 (by omega) (inv_same I10 hh ho hg) ?_ (fun c hc => ?_) w')
      · rw [hh]
        exact T.keep _ _ _ st7 fun c hb o e => (pin' c hb o e).1
      · obtain ⟨o, e, _⟩ := T.obj _ _ st7 c hc
        exact (pin' c hc o e).2

theorem seg_start {Y : Cx} {A2 : Around} {elt tg iter : Expr} {scope : Scope} {pos : Pos} {it : Addr} {fp : List Addr} {tn : Nat → Heap → Prop} {J : It} {e : Bool} {Q : VK} {n : Nat} {s₀ s : Shared}
    (T : Turn Y.prog Y.w Y.K tg J fp it tn) (st : tn 0 s.heap)
    (loop : Seg (model Y.prog Y.w) A2 (GRn Y e Q) (GYp Y e Q) n s₀ (.compLoop (.GeneratorExp elt [⟨tg, iter, [], 0⟩] scope pos) 0 (.ref it) .none Y.env)
        ((model Y.prog Y.w).den (.compLoop (.GeneratorExp elt [⟨tg, iter, [], 0⟩] scope pos) 0 (.ref it) .none Y.env)) [] s) :
    Seg (model Y.prog Y.w) A2 (GRn Y e Q) (GYp Y e Q) n s₀ (.compStart (.GeneratorExp elt [⟨tg, iter, [], 0⟩] scope pos) 0 (.ref it) .none Y.env)
        ((model Y.prog Y.w).den (.compStart (.GeneratorExp elt [⟨tg, iter, [], 0⟩] scope pos) 0 (.ref it) .none Y.env)) [] s := by
  show Seg _ A2 _ _ _ s₀ _ ((compStart (.GeneratorExp elt [⟨tg, iter, [], 0⟩] scope pos) 0 (.ref it) .none Y.env).onRaise (leaving Y.env)) [] s
  unfold compStart
  rw [Sem.onRaise_eq_wrap]
  show Seg _ A2 _ _ _ s₀ _ ((ask >>= _).wrap _ _ _ _) [] s
  refine seg_bind_wrap (wpAny_askSetting ?_)
  split
  · exact seg_again rfl loop
  · first
      | exact seg_bind_wrap (wpAny_rule (seg_bind_wrap (wpAny_standAt (seg_bind_wrap (T.self _ 0 s _ _ st (seg_again rfl loop))))))
      | (refine seg_bind_wrap (wpAny_rule ?_); show Seg _ A2 _ _ _ s₀ _ ((standAt iter.pos >>= _).wrap _ _ _ _) [] s; exact seg_bind_wrap (wpAny_standAt (seg_bind_wrap (T.self _ 0 s _ _ st (seg_again rfl loop)))))

theorem fin_heap {Y : Cx} {σ : L2.St} {H : Hp} {s₁ : Shared} {g : Nat} {h' : Heap} (I : Inv Y [] σ H s₁) (k : ∀ b o, s₁.heap.get? b = some o → h'.get? b = some o) : Inv Y [] σ H { s₁.setGen g .finished with heap := h' } :=
  inv_same (s' := { s₁.setGen g .finished with heap := h' }) (Inv.kept (t' := s₁.toks) I k) rfl rfl (allBare_setGen I.bare rfl)

/-- one step of the walk -/
theorem next_gen {Y : Cx} {A : Around} {a : Addr} {g n : Nat} {gs : GenState} {e : Bool} {Q : VK} {s : Shared} {Qo : Option Value → Shared → Prop} {E : Value → Shared → Prop} (hh : A.handled = none) (hroom : A.depth < recursionLimit)
    (hl : s.heap.NoLimit) (hg : s.heap.IsGen a g) (hgs : s.gens[g]? = some gs) (hb : AllBare s.gens)
    (hgo : ∀ s' : Shared, s'.heap = s.heap → s'.os = s.os → AllBare s'.gens → gs.Goes (model Y.prog Y.w) A.in1 (GRn Y e Q) (GYp Y e Q) n (.send .none) s')
    (hE : ∀ σ H s', Inv Y [] σ H s' → Q (.bl e) H → Qo none s')
    (hO : ∀ b σ H s', b ≠ e → Inv Y [] σ H s' → Q (.bl b) H → Qo (some (.bool b)) s')
    (hN : ∀ n' gs' σ H s', n = n' + 1 → Inv Y [] σ H s' → s'.gens[g]? = some gs' → (∀ s'' : Shared, s''.heap = s'.heap → s''.os = s'.os → AllBare s''.gens → gs'.Goes (model Y.prog Y.w) A.in1 (GRn Y e Q) (GYp Y e Q) n' (.send .none) s'') → Qo (some (.bool e)) s') :
    wpAny (model Y.prog Y.w) A (pyNext (.ref a)) Qo E s := by
  have hgl : g < s.gens.size := by
    rcases Nat.lt_or_ge g s.gens.size with h | h
    · exact h
    · rw [Array.getElem?_eq_none h] at hgs; cases hgs
  refine GenW.wpAny_gsz (Nat.le_refl s.gens.size) ?_
  refine wpAny_pyNext_genexpQ (P := GP Y e Q) hh hl hroom hg hgs (hgo _ rfl rfl (allBare_setGen hb rfl)) (fun v s₁ gs' hbr hY => ?_) (fun s₁ hP h' hk => ?_)
  · obtain ⟨b, σ, H, rfl, I, qne, qe⟩ := hY
    intro hsz
    have hsz1 : g < s₁.gens.size := by
      rw [GenW.setGen_size] at hsz
      omega
    have I' : Inv Y [] σ H (s₁.setGen g gs') := inv_same (s' := s₁.setGen g gs') I rfl rfl (allBare_setGen I.bare hbr)
    by_cases hbe : b = e
    · subst hbe
      have k := qe rfl
      cases n with
      | zero => exact False.elim (k s₁ rfl rfl I.bare)
      | succ n' =>
        refine hN n' gs' σ H _ rfl I' (setGen_self (gs := s₁.gens[g]) (Array.getElem?_eq_getElem hsz1)) fun s'' h1 h2 h3 => ?_
        exact k s'' h1 h2 h3
    · exact hO b σ H _ hbe I' (qne hbe)
  · obtain ⟨σ, H, I, q⟩ := hP
    intro _
    exact hE σ H _ (fin_heap I hk) q

theorem drv_all {Y : Cx} {A : Around} {a : Addr} {g : Nat} {Q : VK} {R : Result → Shared → Prop} {og : Obj} (hpn : (a, og) ∈ Y.pn) (hig : ∀ h : Heap, h.get? a = some og → h.IsGen a g)
    (hh : A.in1.handled = none) (hroom : A.in1.depth < recursionLimit) (hR : ∀ b σ H s', Inv Y [] σ H s' → Q (.bl b) H → R (.ok (.ret (.bool b))) s') :
    ∀ (n : Nat) (gs : GenState) (σ : L2.St) (H : Hp) (s : Shared), Inv Y [] σ H s → s.gens[g]? = some gs →
      (∀ s' : Shared, s'.heap = s.heap → s'.os = s.os → AllBare s'.gens → gs.Goes (model Y.prog Y.w) A.in1.in1 (GRn Y true Q) (GYp Y true Q) n (.send .none) s') →
      codeAny (model Y.prog Y.w) A (.builtin "all.loop" ⟨[.ref a], []⟩) R s := by
  intro n
  induction n with
  | zero =>
    intro gs σ H s I hgs hgo
    refine codeAny_builtin F.entry_all_loop ?_
    rw [Around.under_plainId F.plain_all_loop _]
    show wpAny _ A.in1 (pyNext (.ref a) >>= _) _ _ s
    refine wpAny_bind (next_gen hh hroom I.nolimit (hig _ (I.pin _ (List.mem_append_left _ hpn)).1) hgs I.bare hgo (fun σ H s' I' q => ?_) (fun b σ H s' hb I' q => ?_) fun n' gs' σ H s' hn I' h1 h2 => absurd hn (Nat.succ_ne_zero n').symm)
    · exact wpAny_bind (wpAny_rule (wpAny_pure (hR true σ H s' I' q)))
    · have hb : b = false := by cases b <;> simp_all
      subst hb
      refine wpAny_bind (wpAny_holding (wpAny_truthy_bool ?_))
      refine wpAny_bind (wpAny_letGo ?_)
      simp only [Bool.false_eq_true, if_false]
      exact wpAny_bind (wpAny_rule (wpAny_pure (hR false σ H s' I' q)))
  | succ n ih =>
    intro gs σ H s I hgs hgo
    refine codeAny_builtin F.entry_all_loop ?_
    rw [Around.under_plainId F.plain_all_loop _]
    show wpAny _ A.in1 (pyNext (.ref a) >>= _) _ _ s
    refine wpAny_bind (next_gen hh hroom I.nolimit (hig _ (I.pin _ (List.mem_append_left _ hpn)).1) hgs I.bare hgo (fun σ H s' I' q => ?_) (fun b σ H s' hb I' q => ?_) fun n' gs' σ H s' hn I' h1 h2 => ?_)
    · exact wpAny_bind (wpAny_rule (wpAny_pure (hR true σ H s' I' q)))
    · have hb : b = false := by cases b <;> simp_all
      subst hb
      refine wpAny_bind (wpAny_holding (wpAny_truthy_bool ?_))
      refine wpAny_bind (wpAny_letGo ?_)
      simp only [Bool.false_eq_true, if_false]
      exact wpAny_bind (wpAny_rule (wpAny_pure (hR false σ H s' I' q)))
    · cases hn
      refine wpAny_bind (wpAny_holding (wpAny_truthy_bool ?_))
      refine wpAny_bind (wpAny_letGo ?_)
      simp only [if_true]
      exact wpAny_pure ⟨plainId_quiet F.plain_all_loop _, ih gs' σ H s' I' h1 h2⟩
theorem drv_any {Y : Cx} {A : Around} {a : Addr} {g : Nat} {Q : VK} {R : Result → Shared → Prop} {og : Obj} (hpn : (a, og) ∈ Y.pn) (hig : ∀ h : Heap, h.get? a = some og → h.IsGen a g)
    (hh : A.in1.handled = none) (hroom : A.in1.depth < recursionLimit) (hR : ∀ b σ H s', Inv Y [] σ H s' → Q (.bl b) H → R (.ok (.ret (.bool b))) s') :
    ∀ (n : Nat) (gs : GenState) (σ : L2.St) (H : Hp) (s : Shared), Inv Y [] σ H s → s.gens[g]? = some gs →
      (∀ s' : Shared, s'.heap = s.heap → s'.os = s.os → AllBare s'.gens → gs.Goes (model Y.prog Y.w) A.in1.in1 (GRn Y false Q) (GYp Y false Q) n (.send .none) s') →
      codeAny (model Y.prog Y.w) A (.builtin "any.loop" ⟨[.ref a], []⟩) R s := by
  intro n
  induction n with
  | zero =>
    intro gs σ H s I hgs hgo
    refine codeAny_builtin F.entry_any_loop ?_
    rw [Around.under_plainId F.plain_any_loop _]
    show wpAny _ A.in1 (pyNext (.ref a) >>= _) _ _ s
    refine wpAny_bind (next_gen hh hroom I.nolimit (hig _ (I.pin _ (List.mem_append_left _ hpn)).1) hgs I.bare hgo (fun σ H s' I' q => ?_) (fun b σ H s' hb I' q => ?_) fun n' gs' σ H s' hn I' h1 h2 => absurd hn (Nat.succ_ne_zero n').symm)
    · exact wpAny_bind (wpAny_rule (wpAny_pure (hR false σ H s' I' q)))
    · have hb : b = true := by cases b <;> simp_all
      subst hb
      refine wpAny_bind (wpAny_holding (wpAny_truthy_bool ?_))
      refine wpAny_bind (wpAny_letGo ?_)
      simp only [if_true]
      exact wpAny_bind (wpAny_rule (wpAny_pure (hR true σ H s' I' q)))
  | succ n ih =>
    intro gs σ H s I hgs hgo
    refine codeAny_builtin F.entry_any_loop ?_
    rw [Around.under_plainId F.plain_any_loop _]
    show wpAny _ A.in1 (pyNext (.ref a) >>= _) _ _ s
    refine wpAny_bind (next_gen hh hroom I.nolimit (hig _ (I.pin _ (List.mem_append_left _ hpn)).1) hgs I.bare hgo (fun σ H s' I' q => ?_) (fun b σ H s' hb I' q => ?_) fun n' gs' σ H s' hn I' h1 h2 => ?_)
    · exact wpAny_bind (wpAny_rule (wpAny_pure (hR false σ H s' I' q)))
    · have hb : b = true := by cases b <;> simp_all
      subst hb
      refine wpAny_bind (wpAny_holding (wpAny_truthy_bool ?_))
      refine wpAny_bind (wpAny_letGo ?_)
      simp only [if_true]
      exact wpAny_bind (wpAny_rule (wpAny_pure (hR true σ H s' I' q)))
    · cases hn
      refine wpAny_bind (wpAny_holding (wpAny_truthy_bool ?_))
      refine wpAny_bind (wpAny_letGo ?_)
      simp only [Bool.false_eq_true, if_false]
      exact wpAny_pure ⟨plainId_quiet F.plain_any_loop _, ih gs' σ H s' I' h1 h2⟩

/-- the around of the generator's body, of a consumer that is called at A -/
abbrev gA (A : Around) (elt tg iter : Expr) (scope : Scope) (pos : Pos) (it : Addr) (cenv : Env) : Around := A.in1.in1.over (.compLoop (.GeneratorExp elt [⟨tg, iter, [], 0⟩] scope pos) 0 (.ref it) .none cenv) []
theorem gA_room {k : Nat} {A : Around} {elt tg iter : Expr} {scope : Scope} {pos : Pos} {it : Addr} {cenv : Env} (r : Room (k + 1) A) : Room k (gA A elt tg iter scope pos it cenv) :=
  ⟨r.hd, by have := r.dp; show A.depth + 0 + 1 + 3 * k + 5 < _; omega, by have := r.un; show A.units + 1 + 1 + 0 + 3 + 16 * k + 200 < _; omega⟩
theorem gA_frames {A : Around} {elt tg iter : Expr} {scope : Scope} {pos : Pos} {it : Addr} {cenv : Env} {l : List Env} (h : A.frames = some l) : (gA A elt tg iter scope pos it cenv).frames = some (cenv :: l) := by
  show pushEnvs [cenv] (pushEnvs [] A.frames) = _
  rw [h]
  rfl

/-- the generator at a, that has not begun -/
def Ready2 (X : Cx) (pins : List (Addr × Obj)) (σ : L2.St) (e : Bool) (Q : VK) (a : Addr) (s5 : Shared) : Prop :=
  ∃ (A1 : Around) (s4 : Shared) (H4 : Hp) (cenv : Env) (fp : List Addr) (pn : List (Addr × Obj)) (og : Obj) (g : Nat) (gs : GenState) (σ' : L2.St) (H5 : Hp) (n : Nat),
    (a, og) ∈ pn ∧ (∀ h : Heap, h.get? a = some og → h.IsGen a g) ∧ Inv (gx X A1 s4 H4 cenv fp pn) [] σ' H5 s5 ∧ s5.gens[g]? = some gs ∧
    (∀ s' : Shared, s'.heap = s5.heap → s'.os = s5.os → AllBare s'.gens → gs.Goes (model X.prog X.w) X.A.in1.in1 (GRn (gx X A1 s4 H4 cenv fp pn) e Q) (GYp (gx X A1 s4 H4 cenv fp pn) e Q) n (.send .none) s') ∧
    ∀ σ' H' s', Inv (gx X A1 s4 H4 cenv fp pn) [] σ' H' s' → Inv X pins σ H' s'

/-- all(.., any(..: the reading; e: the truth that goes on -/
def tGen (e : Bool) (P : Addr) (wi : TI) (g : TG) (te : TE) (vs : List Nat) : TE := fun σ H Q => wi σ H fun J H1 => TabG H1 P ∧ ∀ H2, Tabbed P H1 H2 → ∃ W : Nat → Nat → Hp → Prop, (∃ m, W 0 m H2) ∧ GW J g te vs σ e Q W

theorem gen_make {c P : Addr} {elt tg iter : Expr} {gpos : Pos} {scope : Scope} {own : List (Str × Nat)} {wi : TI} {g : TG} {te : TE} {k : Nat} {e : Bool} {Q : VK} {Q' : Value → Shared → Prop}
    (hr : Room (k + 1) X.A) (TB : TabB X.base X.mg c P) (hcode : X.env.code = .ref c) (hN : X.N.Nodup) (ok : BlkOk X.N X.env.scope scope own) (hcell : ∀ y ∈ scope.names, y.2 ≠ .cell) (hco : scope.isCoroutine = false) (h0 : scope.names.lookup (".0" : Str) = some NameKind.local)
    (hi : PI X tg iter wi)
    (hpg : ∀ (A1 : Around) (s : Shared) (H : Hp) (C : Addr) (code : Value) (fp : List Addr) (pn : List (Addr × Obj)), PG (gx X A1 s H (genv X scope C code) fp pn) tg g)
    (hpe : ∀ (A1 : Around) (s : Shared) (H : Hp) (C : Addr) (code : Value) (fp : List Addr) (pn : List (Addr × Obj)), Room k A1 → PE (gx X A1 s H (genv X scope C code) fp pn) elt te)
    (hs : ∀ v, genFold iter X.env v = pure v) (I : Inv X pins σ H s) (h : tGen e P wi g te (own.map (·.2)) σ H Q)
    (hQ : ∀ a s5, Ready2 X pins σ e Q a s5 → Q' (.ref a) s5) :
    wpAny (model X.prog X.w) X.A (eval (.GeneratorExp elt [⟨tg, iter, [], 0⟩] scope gpos) X.env) Q' X.xe s := by
  have hfree : ∀ y ∈ scope.names, y.2 = .free → ∃ c, X.env.cells.lookup y.1 = some c := fun y hy e => by
    rcases ok.free y hy e with k | k
    · exact I.ok.has _ (.inl k)
    · exact I.ok.has _ (.inr k)
  refine wpAny_GeneratorExp_make hco (closure_ok hfree) hcell h0 ok.kind (by have := hr.dp; omega) ?_ hs
  refine thn (hi.run pins s σ H _ I h) fun xv s1 hx => thn hx fun itv s2 h2 => ?_
  obtain ⟨it, fp, tn, J, H2, e2, I2, T, st2, f2, ⟨ps, hP, ht⟩, q⟩ := h2
  subst e2
  have hPs : s2.heap.get? P = some { cls := .none, data := .fields ps } := I2.hok P _ hP
  have cd : PySem.W.CodeHd s2.heap c P := TB.code.keeps fun b u e => I2.bk b u e
  have sz : ∀ b ∈ fp, b < s2.heap.objs.size := fun b hb => by
    obtain ⟨o, e, _⟩ := T.obj _ _ st2 b hb
    exact Heap.lt_size e
  have cont : ∀ (code : Value) (h3 : Heap) (tk : Nat) (ps' : Array Value), Heap.ExtBut P s2.heap h3 → s2.heap.objs.size ≤ h3.objs.size → h3.get? P = some { cls := .none, data := .fields ps' } → (∃ more, ps' = ps ++ more) → TriplesOk ps'.toList →
      wpAny (model X.prog X.w) X.A (builtinsFor X.env.globals X.env.builtins) (fun bi s₄ =>
        ∀ h', h'.Ns s₄.heap.objs.size (fun y => if y = ".0" then some (.ref it) else none) → Heap.SameBut s₄.heap.objs.size (s₄.heap.push { cls := .type "frame", data := .dict #[] }) h' →
          Q' (.ref h'.objs.size) { s₄ with
            gens := s₄.gens.push (.fresh (.compStart (.GeneratorExp elt [⟨tg, iter, [], 0⟩] scope gpos) 0 (.ref it) .none (genEnv scope (cloFrom X.env.cells scope.names []) s₄.heap.objs.size code bi X.env))),
            toks := s₄.toks + 1 + 1 + 1,
            heap := h'.push { cls := .type "generator", data := .fields #[.int s₄.gens.size 0, .str "<genexpr>" (s₄.toks + 1), .str (X.env.qual ++ "<genexpr>") (s₄.toks + 1 + 1)] } }) X.xe { s2 with heap := h3, toks := tk } := by
    intro code h3 tk ps' hx hsz hP3 hmore ht3
    obtain ⟨bm, ob, e1, e2, e3, e4, e5, e6, e7, e8⟩ := TB.bm
    have keep3 : ∀ b u, b ≠ P → s2.heap.get? b = some u → h3.get? b = some u := fun b u hb e => hx b u hb e
    refine wpAny_builtinsFor (m := X.mg) (by rw [I2.ok.glob]; exact (I2.mod.glob.keeps I2.bk).extBut hx TB.gP) e1 e2 (keep3 _ _ e4 (I2.bk _ _ e5)) e6 e7 e8 ?_
    obtain ⟨more, em⟩ := hmore
    have I4 : Inv X pins σ (upd H2 P (.tbl (ps ++ more))) { s2 with heap := h3, toks := tk } :=
      inv_tab (more := more) (h' := h3) (g' := s2.gens) (d' := s2.drawn) (t' := tk) I2 hP keep3 (by rw [← em]; exact hP3) I2.bare
    have nP : ∀ b ∈ fp, b ≠ P := fun b hb z => by
      have := (f2 b hb).1
      rw [z, hP] at this
      cases this
    have f4 : ∀ b ∈ fp, FpOk X pins (upd H2 P (.tbl (ps ++ more))) b ∧ b < h3.objs.size := fun b hb =>
      ⟨⟨by rw [upd_ne (nP b hb)]; exact (f2 b hb).1, (f2 b hb).2⟩, Nat.lt_of_lt_of_le (sz b hb) hsz⟩
    have st4 : tn 0 h3 := T.keep _ _ _ st2 fun b hb o e => keep3 b o (nP b hb) e
    obtain ⟨W, ⟨m0, w0⟩, gw⟩ := q _ ⟨⟨ps ++ more, upd_same, by rw [← em]; exact ht3⟩, fun b hb => upd_ne hb⟩
    intro h' hn' hs'
    have hn' : h'.Ns h3.objs.size (fun y => if y = ".0" then some (.ref it) else none) := hn'
    have hs' : Heap.SameBut h3.objs.size (h3.push { cls := .type "frame", data := .dict #[] }) h' := hs'
    have hsz' : h'.objs.size = h3.objs.size + 1 := by rw [hs'.1, Heap.size_push]
    have keep' : ∀ b o, h3.get? b = some o → h'.get? b = some o := fun b o e => hs'.extBut b o (Nat.ne_of_lt (Heap.lt_size e)) (Heap.get?_push_of_some _ e)
    generalize hcenv : genv X scope h3.objs.size code = cenv
    have I5 := gen_start (A1 := gA X.A elt tg iter scope gpos it cenv) (code := code) (t' := tk + 1 + 1 + 1)
      (obj := { cls := .type "generator", data := .fields #[.int s2.gens.size 0, .str "<genexpr>" (tk + 1), .str (X.env.qual ++ "<genexpr>") (tk + 1 + 1)] })
      (g' := s2.gens.push (.fresh (.compStart (.GeneratorExp elt [⟨tg, iter, [], 0⟩] scope gpos) 0 (.ref it) .none cenv)))
      I4 ok hcell hN f4 hr.hd (by rw [hcenv]; exact gA_frames I.ok.frames) hn' keep' hsz' (Heap.get?_push_size _ rfl) (fun v z => by cases z) (I2.bare.push rfl)
    have pg := hpg (gA X.A elt tg iter scope gpos it cenv) { s2 with heap := h3, toks := tk } (upd H2 P (.tbl (ps ++ more))) h3.objs.size code fp [(h'.objs.size, { cls := .type "generator", data := .fields #[.int s2.gens.size 0, .str "<genexpr>" (tk + 1), .str (X.env.qual ++ "<genexpr>") (tk + 1 + 1)] })]
    have pe := hpe (gA X.A elt tg iter scope gpos it cenv) { s2 with heap := h3, toks := tk } (upd H2 P (.tbl (ps ++ more))) h3.objs.size code fp [(h'.objs.size, { cls := .type "generator", data := .fields #[.int s2.gens.size 0, .str "<genexpr>" (tk + 1), .str (X.env.qual ++ "<genexpr>") (tk + 1 + 1)] })] (gA_room hr)
    have I5 : Inv (gx X (gA X.A elt tg iter scope gpos it cenv) { s2 with heap := h3, toks := tk } (upd H2 P (.tbl (ps ++ more))) (genv X scope h3.objs.size code) fp [(h'.objs.size, _)]) [] (wipe σ (own.map (·.2))) _ _ := I5
    rw [hcenv] at I5 pg pe
    have hcoE : cenv.scope.isCoroutine = false := by rw [← hcenv]; exact hco
    generalize hog : ({ cls := .type "generator", data := .fields #[.int s2.gens.size 0, .str "<genexpr>" (tk + 1), .str (X.env.qual ++ "<genexpr>") (tk + 1 + 1)] } : Obj) = og at I5 pg pe
    have hig : ∀ h : Heap, h.get? h'.objs.size = some og → h.IsGen h'.objs.size s2.gens.size := fun hh e => ⟨og, _, _, e, by rw [← hog], by rw [← hog], by rw [← hog]⟩
    have mI5 : ∀ b ∈ fp, (upd H2 P (.tbl (ps ++ more))) b = none := fun b hb => (f4 b hb).1.1
    have back : ∀ σ' H' s', Inv (gx X (gA X.A elt tg iter scope gpos it cenv) { s2 with heap := h3, toks := tk } (upd H2 P (.tbl (ps ++ more))) cenv fp [(h'.objs.size, og)]) [] σ' H' s' → Inv X pins σ H' s' := fun σ' H' s' I6 =>
      I4.call' (ch := fp) I6.os I6.base I6.hok I6.bare fun b hb => ⟨(f4 b hb).1.2.2.2.1, (f4 b hb).1.2.1, (f4 b hb).1.2.2.2.2.1, (f4 b hb).1.2.2.2.2.2⟩
    have goes : ∀ s' : Shared, s'.heap = h'.push og → s'.os = s2.os → AllBare s'.gens →
        Seg (model X.prog X.w) X.A.in1.in1 (GRn (gx X (gA X.A elt tg iter scope gpos it cenv) { s2 with heap := h3, toks := tk } (upd H2 P (.tbl (ps ++ more))) cenv fp [(h'.objs.size, og)]) e Q)
          (GYp (gx X (gA X.A elt tg iter scope gpos it cenv) { s2 with heap := h3, toks := tk } (upd H2 P (.tbl (ps ++ more))) cenv fp [(h'.objs.size, og)]) e Q) (m0 + 1) s'
          (.compStart (.GeneratorExp elt [⟨tg, iter, [], 0⟩] scope gpos) 0 (.ref it) .none cenv) ((model X.prog X.w).den (.compStart (.GeneratorExp elt [⟨tg, iter, [], 0⟩] scope gpos) 0 (.ref it) .none cenv)) [] s' := fun s' hh ho hg => by
      have I6 := inv_same (s' := s') I5 hh ho hg
      have st6 : tn 0 s'.heap := by
        rw [hh]
        exact T.keep _ _ _ st4 fun b _ o e => Heap.get?_push_of_some _ (keep' b o e)
      refine seg_start (Y := gx X (gA X.A elt tg iter scope gpos it cenv) { s2 with heap := h3, toks := tk } (upd H2 P (.tbl (ps ++ more))) cenv fp [(h'.objs.size, og)]) T st6
        (seg_loop rfl rfl rfl rfl (fun b hb p hp z => ?_) hcoE T pg pe gw m0 0 (m0 + 1) s' s' _ (Nat.lt_succ_self _) I6 st6 mI5 w0)
      have hp : p ∈ [(h'.objs.size, og)] := hp
      rw [List.mem_singleton.mp hp] at z
      have z : h'.objs.size = b := z
      have h9 := (f4 b hb).2
      rw [← z, hsz'] at h9
      exact absurd h9 (Nat.not_lt.mpr (Nat.le_succ _))
    have ee : genEnv scope (cloFrom X.env.cells scope.names []) h3.objs.size code builtinsNs X.env = cenv := hcenv
    have fin := hQ h'.objs.size { s2 with heap := h'.push og, gens := s2.gens.push (.fresh (.compStart (.GeneratorExp elt [⟨tg, iter, [], 0⟩] scope gpos) 0 (.ref it) .none cenv)), toks := tk + 1 + 1 + 1 }
      ⟨gA X.A elt tg iter scope gpos it cenv, { s2 with heap := h3, toks := tk }, upd H2 P (.tbl (ps ++ more)), cenv, fp, [(h'.objs.size, og)], og, s2.gens.size, .fresh (.compStart (.GeneratorExp elt [⟨tg, iter, [], 0⟩] scope gpos) 0 (.ref it) .none cenv), wipe σ (own.map (·.2)), upd H2 P (.tbl (ps ++ more)), m0 + 1,
        List.mem_singleton.mpr rfl, hig, I5, Array.getElem?_push_size .., fun s' hh ho hg => ⟨rfl, goes s' hh ho hg⟩, back⟩
    rw [← ee] at fin
    exact fin
  cases hf : codeAmong gpos ps.toList with
  | none =>
    refine ⟨I2.nolimit, ?_⟩
    refine wpAny_genexprCodeX hcode (cd.code hPs ht) (cd.tab hPs) hf fun c' h' tk hx hge hlt hco' _ htab' _ => ?_
    obtain ⟨o1, vs, f1, tf, fl, tg, inF, tx, tt, op, _, _, _, _, _, _, _, _, _, htr, _⟩ := hco'
    exact cont _ h' tk _ hx (Nat.le_trans hge (Nat.le_of_lt hlt)) htab'.2 ⟨_, rfl⟩ htr
  | some cv =>
    refine ⟨I2.nolimit, ?_⟩
    refine wpAny_genexprCode_hit hcode (cd.code hPs ht) hf ?_
    exact cont cv s2.heap s2.toks ps (Heap.ExtBut.refl _ _) (Nat.le_refl _) hPs ⟨#[], by simp⟩ ht

theorem pe_all {c P : Addr} {elt tg iter : Expr} {p pos gpos : Pos} {scope : Scope} {own : List (Str × Nat)} {wi : TI} {g : TG} {te : TE} {k : Nat}
    (hr : Room (k + 1) X.A) (hg : Gl X "all") (hm : X.mg "all" = none) (TB : TabB X.base X.mg c P) (hcode : X.env.code = .ref c) (hN : X.N.Nodup) (ok : BlkOk X.N X.env.scope scope own) (hcell : ∀ y ∈ scope.names, y.2 ≠ .cell) (hco : scope.isCoroutine = false) (h0 : scope.names.lookup (".0" : Str) = some NameKind.local)
    (hi : PI X tg iter wi)
    (hpg : ∀ (A1 : Around) (s : Shared) (H : Hp) (C : Addr) (code : Value) (fp : List Addr) (pn : List (Addr × Obj)), PG (gx X A1 s H (genv X scope C code) fp pn) tg g)
    (hpe : ∀ (A1 : Around) (s : Shared) (H : Hp) (C : Addr) (code : Value) (fp : List Addr) (pn : List (Addr × Obj)), Room k A1 → PE (gx X A1 s H (genv X scope C code) fp pn) elt te)
    (hs : ∀ v, genFold iter X.env v = pure v := by intro _; rfl)
    (he : starEach [.GeneratorExp elt [⟨tg, iter, [], 0⟩] scope gpos] X.env = (false, eval (.GeneratorExp elt [⟨tg, iter, [], 0⟩] scope gpos) X.env) :: starEach [] X.env := by rfl) :
    PE X (.Call (.Name "all" p) [.GeneratorExp elt [⟨tg, iter, [], 0⟩] scope gpos] [] pos) (tGen true P wi g te (own.map (·.2))) := by
  refine ⟨fun pins s σ H Q I h => ?_⟩
  refine wpAny_Call_Name_kw (ld_blt I hg hm boot_all ?_)
  refine PyProof.Rows.callWith_builtin1 ?_ he (by rfl)
  rw [he]
  show wpAny _ _ (spliced ((false, eval (.GeneratorExp elt [⟨tg, iter, [], 0⟩] scope gpos) X.env) :: backTo pos (starEach [] X.env))) _ _ s
  refine Calls.spliced_cons (gen_make (e := true) (Q := Q) hr TB hcode hN ok hcell hco h0 hi hpg hpe hs I h fun a s5 hG => ?_)
  obtain ⟨A1, s4, H4, cenv, fp, pn, og, gi, gs, σ', H5, n, hpn, hig, I5, hgs, hgo, back⟩ := hG
  refine Calls.spliced_nil ?_
  refine call_function_tree F.kind_all F.plain_all F.entry_all (F.args_all1 _) ?_
  unfold Builtin.«all»
  refine wpAny_bind (m := oneArg "all" _) (wpAny_pure ?_)
  refine wpAny_bind (wpAny_pyIter_gen (hig _ (I5.pin _ (List.mem_append_left _ hpn)).1) ?_)
  refine wpAny_pure ⟨plainId_quiet F.plain_all_loop _, drv_all (Y := gx X A1 s4 H4 cenv fp pn) (A := X.A) hpn hig hr.hd (by have := hr.dp; show X.A.depth + 0 < _; omega) (fun b σ6 H6 s6 I6 q => ?_) n gs σ' H5 s5 I5 hgs hgo⟩
  exact ⟨.bl b, H6, back σ6 H6 s6 I6, rfl, q⟩
theorem pe_any {c P : Addr} {elt tg iter : Expr} {p pos gpos : Pos} {scope : Scope} {own : List (Str × Nat)} {wi : TI} {g : TG} {te : TE} {k : Nat}
    (hr : Room (k + 1) X.A) (hg : Gl X "any") (hm : X.mg "any" = none) (TB : TabB X.base X.mg c P) (hcode : X.env.code = .ref c) (hN : X.N.Nodup) (ok : BlkOk X.N X.env.scope scope own) (hcell : ∀ y ∈ scope.names, y.2 ≠ .cell) (hco : scope.isCoroutine = false) (h0 : scope.names.lookup (".0" : Str) = some NameKind.local)
    (hi : PI X tg iter wi)
    (hpg : ∀ (A1 : Around) (s : Shared) (H : Hp) (C : Addr) (code : Value) (fp : List Addr) (pn : List (Addr × Obj)), PG (gx X A1 s H (genv X scope C code) fp pn) tg g)
    (hpe : ∀ (A1 : Around) (s : Shared) (H : Hp) (C : Addr) (code : Value) (fp : List Addr) (pn : List (Addr × Obj)), Room k A1 → PE (gx X A1 s H (genv X scope C code) fp pn) elt te)
    (hs : ∀ v, genFold iter X.env v = pure v := by intro _; rfl)
    (he : starEach [.GeneratorExp elt [⟨tg, iter, [], 0⟩] scope gpos] X.env = (false, eval (.GeneratorExp elt [⟨tg, iter, [], 0⟩] scope gpos) X.env) :: starEach [] X.env := by rfl) :
    PE X (.Call (.Name "any" p) [.GeneratorExp elt [⟨tg, iter, [], 0⟩] scope gpos] [] pos) (tGen false P wi g te (own.map (·.2))) := by
  refine ⟨fun pins s σ H Q I h => ?_⟩
  refine wpAny_Call_Name_kw (ld_blt I hg hm boot_any ?_)
  refine PyProof.Rows.callWith_builtin1 ?_ he (by rfl)
  rw [he]
  show wpAny _ _ (spliced ((false, eval (.GeneratorExp elt [⟨tg, iter, [], 0⟩] scope gpos) X.env) :: backTo pos (starEach [] X.env))) _ _ s
  refine Calls.spliced_cons (gen_make (e := false) (Q := Q) hr TB hcode hN ok hcell hco h0 hi hpg hpe hs I h fun a s5 hG => ?_)
  obtain ⟨A1, s4, H4, cenv, fp, pn, og, gi, gs, σ', H5, n, hpn, hig, I5, hgs, hgo, back⟩ := hG
  refine Calls.spliced_nil ?_
  refine call_function_tree F.kind_any F.plain_any F.entry_any (F.args_any1 _) ?_
  unfold Builtin.«any»
  refine wpAny_bind (m := oneArg "any" _) (wpAny_pure ?_)
  refine wpAny_bind (wpAny_pyIter_gen (hig _ (I5.pin _ (List.mem_append_left _ hpn)).1) ?_)
  refine wpAny_pure ⟨plainId_quiet F.plain_any_loop _, drv_any (Y := gx X A1 s4 H4 cenv fp pn) (A := X.A) hpn hig hr.hd (by have := hr.dp; show X.A.depth + 0 < _; omega) (fun b σ6 H6 s6 I6 q => ?_) n gs σ' H5 s5 I5 hgs hgo⟩
  exact ⟨.bl b, H6, back σ6 H6 s6 I6, rfl, q⟩
end
end EwG

set_option Elab.async false
set_option linter.all false
set_option maxRecDepth 100000
set_option maxHeartbeats 4000000
/-! all(.. for .. for ..): two clauses. -/
namespace EwG
open PySem PySem.Spec PyProof.Rows L2 Ew GxR
open Sem (wp)

theorem eval_GE2 (elt t0 i0 t1 i1 : Expr) (scope : Scope) (pos : Pos) (env : Env) (hco : scope.isCoroutine = false) :
    eval (.GeneratorExp elt [⟨t0, i0, [], 0⟩, ⟨t1, i1, [], 0⟩] scope pos) env = (do
      let x ← eval i0 env
      standAt i0.pos
      let x ← genFold i0 env x
      let it ← holding [x] (pyIter x)
      enterFrame
      let cl ← closureFor scope env
      let code ← genexprCode env pos (env.qual ++ "<genexpr>") scope
      let bi ← builtinsFor env.globals env.builtins
      let cenv ← newFunctionEnv scope env.globals cl [(".0", it)] (env.qual ++ "<genexpr>.") none code none bi
      newGenerator (.compStart (.GeneratorExp elt [⟨t0, i0, [], 0⟩, ⟨t1, i1, [], 0⟩] scope pos) 0 it .none cenv) "<genexpr>" (env.qual ++ "<genexpr>")) := by
  rw [arm_eval_GeneratorExp]
  simp only [hco, Bool.false_eq_true, if_false]
  cases i0 <;> rfl

theorem make_GE2 {M : Model} {A : Around} {E : Value → Shared → Prop} {s : Shared} {env : Env} {elt t0 i0 t1 i1 : Expr} {scope : Scope} {cl : List (Str × Addr)} {pos : Pos} {Q : Value → Shared → Prop}
    (hco : scope.isCoroutine = false) (hclos : closureFor scope env = pure cl) (hcell : ∀ y ∈ scope.names, y.2 ≠ .cell) (h0 : scope.names.lookup (".0" : Str) = some NameKind.local) (hkind : scope.kind = .function)
    (hroom : A.depth < recursionLimit)
    (h : wpAny M A (eval i0 env) (fun xv s₁ => wpAny M A (pyIter xv) (fun it s₂ => s₂.heap.NoLimit ∧
      wpAny M A (genexprCode env pos (env.qual ++ "<genexpr>") scope) (fun code s₃ => wpAny M A (builtinsFor env.globals env.builtins) (fun bi s₄ =>
        ∀ h', h'.Ns s₄.heap.objs.size (fun y => if y = ".0" then some it else none) → Heap.SameBut s₄.heap.objs.size (s₄.heap.push { cls := .type "frame", data := .dict #[] }) h' →
          Q (.ref h'.objs.size) { s₄ with
            gens := s₄.gens.push (.fresh (.compStart (.GeneratorExp elt [⟨t0, i0, [], 0⟩, ⟨t1, i1, [], 0⟩] scope pos) 0 it .none (genEnv scope cl s₄.heap.objs.size code bi env))),
            toks := s₄.toks + 1 + 1 + 1,
            heap := h'.push { cls := .type "generator", data := .fields #[.int s₄.gens.size 0, .str "<genexpr>" (s₄.toks + 1), .str (env.qual ++ "<genexpr>") (s₄.toks + 1 + 1)] } }) E s₃) E s₂) E s₁) E s)
    (hs : ∀ x, genFold i0 env x = pure x) :
    wpAny M A (eval (.GeneratorExp elt [⟨t0, i0, [], 0⟩, ⟨t1, i1, [], 0⟩] scope pos) env) Q E s := by
  rw [eval_GE2 _ _ _ _ _ _ _ _ hco, hclos]
  refine wpAny_bind (wpAny_mono h (fun xv s₁ h₁ => ?_) fun _ _ e => e)
  refine wpAny_bind (wpAny_standAt ?_)
  refine wpAny_bind (wpAny_of_eq (hs xv) ?_)
  refine wpAny_bind (wpAny_holding (wpAny_mono h₁ (fun it s₂ h₂ => ?_) fun _ _ e => e))
  refine wpAny_bind (wpAny_enterFrame h₂.1 hroom ?_)
  refine wpAny_bind (wpAny_pure ?_)
  refine wpAny_bind (wpAny_mono h₂.2 (fun code s₃ h₃ => ?_) fun _ _ e => e)
  refine wpAny_bind (wpAny_mono h₃ (fun bi s₄ h₄ => ?_) fun _ _ e => e)
  have hbinds : ∀ y ∈ ([((".0" : Str), it)] : List (Str × Value)), scope.names.lookup y.1 = some NameKind.local := by
    intro y hy
    rcases List.mem_cons.mp hy with rfl | hy
    · exact h0
    · cases hy
  refine wpAny_bind (wpAny_newFunctionEnv hcell hbinds (fun h' hn' hs' => ?_) hkind)
  have e : (fun y : Str => ([((".0" : Str), it)] : List (Str × Value)).reverse.lookup y) = fun y : Str => if y = (".0" : Str) then some it else none := by
    funext y
    by_cases hy : y = ".0"
    · subst hy; simp
    · have : (y == (".0" : Str)) = false := by simpa using hy
      simp [List.lookup, this, hy]
  rw [e] at hn'
  simp only [newGenerator, newFields]
  refine wpAny_bind (wpAny_newGen (wpAny_bind (wpAny_mkText (wpAny_bind (wpAny_mkText (wpAny_newObj_type ?_ (by size_fits)))))))
  exact h₄ h' hn' hs'

theorem turn2_out (elt t0 i0 t1 i1 : Expr) (scope : Scope) (pos : Pos) (it acc : Value) (env : Env) :
    compTurn (.GeneratorExp elt [⟨t0, i0, [], 0⟩, ⟨t1, i1, [], 0⟩] scope pos) 0 it acc env = (do
      standAt i0.pos
      match ← pyNext it with
      | none => pure (.done .next)
      | some v =>
        letOwnedTupleGo t0 it v
        assign t0 env v
        let mut ok := true
        for c in ([] : List Expr) do
          if ok then ok ← isTrue c env (eval c env)
        if ok then
          let x ← eval i1 env
          standAt i1.pos
          let x ← foldedSetIterable i1 env x
          let _ ← runOwn (.compStart (.GeneratorExp elt [⟨t0, i0, [], 0⟩, ⟨t1, i1, [], 0⟩] scope pos) 1 (← holding [x] (pyIter x)) acc env) env
        again (.compLoop (.GeneratorExp elt [⟨t0, i0, [], 0⟩, ⟨t1, i1, [], 0⟩] scope pos) 0 it acc env)) := by rfl
theorem turn2_in (elt t0 i0 t1 i1 : Expr) (scope : Scope) (pos : Pos) (it acc : Value) (env : Env) :
    compTurn (.GeneratorExp elt [⟨t0, i0, [], 0⟩, ⟨t1, i1, [], 0⟩] scope pos) 1 it acc env = (do
      standAt i1.pos
      match ← pyNext it with
      | none => pure (.done .next)
      | some v =>
        letOwnedTupleGo t1 it v
        assign t1 env v
        let mut ok := true
        for c in ([] : List Expr) do
          if ok then ok ← isTrue c env (eval c env)
        if ok then
          (do let v ← eval elt env; standAt elt.pos; let _ ← yieldOut env v)
        again (.compLoop (.GeneratorExp elt [⟨t0, i0, [], 0⟩, ⟨t1, i1, [], 0⟩] scope pos) 1 it acc env)) := by rfl

def GW2 (J : It) (g : TG) (wi1 : TI) (g1 : TG) (te : TE) (vs vs1 : List Nat) (σ : L2.St) (e : Bool) (Q : VK) (W : Nat → Nat → Hp → Prop) : Prop := ∀ i m H, W i m H →
  (J.stop i H ∧ Q (.bl e) H) ∨ (J.go i H ∧ ∀ x H', J.yld i H x H' → g x (wipe σ vs) H' fun σ2 H2 => wipe σ2 vs = wipe σ vs ∧ wi1 σ2 H2 fun J1 H3 => ∃ W1 : Nat → Nat → Hp → Prop, (∃ k, k < m ∧ W1 0 k H3) ∧ ∀ j k H, W1 j k H →
    (J1.stop j H ∧ ∃ m', m' ≤ k ∧ m' < m ∧ W (i + 1) m' H) ∨ (J1.go j H ∧ ∀ x H', J1.yld j H x H' → g1 x (wipe σ2 vs1) H' fun σ3 H5 => wipe σ3 vs1 = wipe σ2 vs1 ∧ te σ3 H5 fun y H6 => ∃ b, y = .bl b ∧ (b = e → ∃ k', k' < k ∧ W1 (j + 1) k' H6) ∧ (b ≠ e → Q (.bl b) H6)))

section
variable {X : Cx} {pins : List (Addr × Obj)} {σ : L2.St} {H : Hp} {s : Shared}
theorem seg_in {Y : Cx} {A2 : Around} {elt t0 i0 t1 i1 : Expr} {scope : Scope} {pos : Pos} {it1 : Addr} {fp1 : List Addr} {tn1 : Nat → Heap → Prop} {J1 : It} {g1 : TG} {te : TE} {vs1 : List Nat} {σ8 : L2.St} {e : Bool} {Q : VK} {W1 : Nat → Nat → Hp → Prop} {Nx : Nat → Hp → Prop} {fs : List Frame} {pins : List (Addr × Obj)}
    (hA : Y.A = A2.over (.compLoop (.GeneratorExp elt [⟨t0, i0, [], 0⟩, ⟨t1, i1, [], 0⟩] scope pos) 1 (.ref it1) .none Y.env) fs) (hsp : splitAtGen fs = none) (hgd : fs.any Frame.guarded = false) (hc : Y.calm = true) (hx : Y.xe = fun _ _ => False) (hco : Y.env.scope.isCoroutine = false)
    (T1 : Turn Y.prog Y.w Y.K t1 J1 fp1 it1 tn1) (stat1 : ∀ {H' : Hp}, (∀ b ∈ fp1, H' b = none) → ∀ b ∈ fp1, FpOk Y pins H' b) (pg1 : PG Y t1 g1) (pe : PE Y elt te)
    (hW1 : ∀ j k H, W1 j k H → (J1.stop j H ∧ Nx k H) ∨ (J1.go j H ∧ ∀ x H', J1.yld j H x H' → g1 x (wipe σ8 vs1) H' fun σ3 H5 => wipe σ3 vs1 = wipe σ8 vs1 ∧ te σ3 H5 fun y H6 => ∃ b, y = .bl b ∧ (b = e → ∃ k', k' < k ∧ W1 (j + 1) k' H6) ∧ (b ≠ e → Q (.bl b) H6)))
    (leave : ∀ (k n : Nat) (s₀ s : Shared) (H : Hp), k < n → Inv Y pins (wipe σ8 vs1) H s → Nx k H → Seg (model Y.prog Y.w) A2 (GRn Y e Q) (GYp Y e Q) n s₀ (.compLoop (.GeneratorExp elt [⟨t0, i0, [], 0⟩, ⟨t1, i1, [], 0⟩] scope pos) 1 (.ref it1) .none Y.env) (leafOf (.ok .next)) fs s) :
    ∀ (k j n : Nat) (s₀ s : Shared) (H : Hp), k < n → Inv Y pins (wipe σ8 vs1) H s → tn1 j s.heap → (∀ b ∈ fp1, H b = none) → W1 j k H →
      Seg (model Y.prog Y.w) A2 (GRn Y e Q) (GYp Y e Q) n s₀ (.compLoop (.GeneratorExp elt [⟨t0, i0, [], 0⟩, ⟨t1, i1, [], 0⟩] scope pos) 1 (.ref it1) .none Y.env)
        ((model Y.prog Y.w).den (.compLoop (.GeneratorExp elt [⟨t0, i0, [], 0⟩, ⟨t1, i1, [], 0⟩] scope pos) 1 (.ref it1) .none Y.env)) fs s := by
  intro k
  induction k using Nat.strongRecOn with
  | ind k ih =>
    intro j n s₀ s H hkn I st hn w
    show Seg _ A2 _ _ _ s₀ _ ((compTurn (.GeneratorExp elt [⟨t0, i0, [], 0⟩, ⟨t1, i1, [], 0⟩] scope pos) 1 (.ref it1) .none Y.env).onRaise (fun x => do noteFrame x Y.env; theTreesLotGoes x)) fs s
    rw [turn2_in, Sem.onRaise_eq_wrap]
    refine seg_bind_wrap (wpAny_standAt ?_)
    rcases hW1 j k H w with ⟨stop, q⟩ | ⟨go, step⟩
    · refine seg_bind_wrap ?_
      rw [← hA]
      refine thnF (T1.done Y rfl rfl rfl hc j pins s _ H (fun _ _ => False) I (stat1 hn) st stop) fun r s6 ⟨hr, I6⟩ => ?_
      subst hr
      exact leave k n s₀ s6 H hkn I6 q
    · refine seg_bind_wrap ?_
      rw [← hA]
      refine thnF (T1.item Y rfl rfl rfl hc j pins s _ H (fun _ _ => False) I (stat1 hn) st go) fun r s6 ⟨u, hr, h6⟩ => ?_
      subst hr
      refine seg_bind_wrap ?_
      rw [← hA]
      refine thnF h6 fun _ s7 ⟨x, H7, I7, r7, y7, st7, n7⟩ => ?_
      have I7' := I7.pinned (stat1 n7) (T1.obj _ _ st7)
      refine seg_bind_wrap ?_
      rw [← hA]
      have hpg := pg1.run _ s7 _ H7 x u _ I7' r7 (step x H7 y7)
      rw [hx] at hpg
      refine thnF hpg fun _ s8 ⟨σ15, H8, I8, hw8, q8⟩ => ?_
      refine seg_bind_wrap ?_
      rw [← hA]
      refine wpAny_tests_nil ?_
      simp only [if_true]
      have hy : ∀ v, yieldOut Y.env v = yieldValue v := fun v => by simp only [yieldOut, hco, Bool.false_eq_true, if_false]
      simp only [hy]
      rw [Sem.bind_eq_wrap', Sem.bind_eq_wrap', Sem.wrap_wrap, Sem.wrap_wrap]
      refine seg_wrap ?_
      rw [← hA]
      have hpe := pe.run _ s8 σ15 H8 _ I8 q8
      rw [hx] at hpe
      refine thnF hpe fun z s9 ⟨y, H9, I9, r9, b, hyb, q9⟩ => ?_
      subst hyb
      have hz : z = .bool b := r9
      subst hz
      have pin' : ∀ c ∈ fp1, ∀ o, s7.heap.get? c = some o → s9.heap.get? c = some o ∧ H9 c = none := fun c hb o e =>
        let z := I9.pin (c, o) (List.mem_append_right _ (List.mem_append_right _ (mem_pinsAt hb e)))
        ⟨z.1, z.2.1⟩
      have hl : (wipe σ8 vs1).length = σ15.length := by rw [← hw8, wipe_length]
      have I10 : Inv Y pins (wipe σ8 vs1) H9 s9 := (I9.unpinned (pins := pins)).weak hl fun j v e => by
        rw [← hw8] at e
        exact (wipe_some e).1
      obtain ⟨n', rfl⟩ : ∃ n', n = n' + 1 := ⟨n - 1, by omega⟩
      refine seg_at (seg_yield hsp rfl hgd ⟨b, _, H9, rfl, I10.pins_of (pins' := []) (fun p hp => absurd hp (by simp)), q9.2, fun hb s' hh ho hg => ?_⟩)
      obtain ⟨k', hk, w'⟩ := q9.1 hb
      refine seg_again rfl (ih k' hk (j + 1) n' s' s' H9 (by omega) (inv_same I10 hh ho hg) ?_ (fun c hc => ?_) w')
      · rw [hh]
        exact T1.keep _ _ _ st7 fun c hb o e => (pin' c hb o e).1
      · obtain ⟨o, e, _⟩ := T1.obj _ _ st7 c hc
        exact (pin' c hc o e).2

theorem seg_loop2 {Y : Cx} {A2 : Around} {elt t0 i0 t1 i1 : Expr} {scope : Scope} {pos : Pos} {it : Addr} {fp : List Addr} {tn : Nat → Heap → Prop} {J : It} {g g1 : TG} {wi1 : TI} {te : TE} {vs vs1 : List Nat} {σ : L2.St} {e : Bool} {Q : VK} {W : Nat → Nat → Hp → Prop}
    (hA : Y.A = A2.over (.compLoop (.GeneratorExp elt [⟨t0, i0, [], 0⟩, ⟨t1, i1, [], 0⟩] scope pos) 0 (.ref it) .none Y.env) []) (hex : Y.ex = fp) (hc : Y.calm = true) (hx : Y.xe = fun _ _ => False) (hpn : ∀ b ∈ fp, ∀ p ∈ Y.pn, p.1 ≠ b) (hco : Y.env.scope.isCoroutine = false)
    (T : Turn Y.prog Y.w Y.K t0 J fp it tn) (pg : PG Y t0 g) (pi1 : PI Y t1 i1 wi1) (pg1 : PG Y t1 g1) (pe : PE Y elt te) (hs1 : ∀ x, foldedSetIterable i1 Y.env x = pure x) (hv : ∀ i ∈ vs1, i ∈ vs) (hW : GW2 J g wi1 g1 te vs vs1 σ e Q W) :
    ∀ (m i n : Nat) (s₀ s : Shared) (H : Hp), m < n → Inv Y [] (wipe σ vs) H s → tn i s.heap → (∀ b ∈ fp, H b = none) → W i m H →
      Seg (model Y.prog Y.w) A2 (GRn Y e Q) (GYp Y e Q) n s₀ (.compLoop (.GeneratorExp elt [⟨t0, i0, [], 0⟩, ⟨t1, i1, [], 0⟩] scope pos) 0 (.ref it) .none Y.env)
        ((model Y.prog Y.w).den (.compLoop (.GeneratorExp elt [⟨t0, i0, [], 0⟩, ⟨t1, i1, [], 0⟩] scope pos) 0 (.ref it) .none Y.env)) [] s := by
  have stat : ∀ {σ' : L2.St} {H' : Hp} {s' : Shared}, Inv Y [] σ' H' s' → (∀ b ∈ fp, H' b = none) → ∀ b ∈ fp, FpOk Y [] H' b := fun {σ' H' s'} I' hn b hb =>
    have hb' : b ∈ Y.ex := by rw [hex]; exact hb
    ⟨hn b hb, (I'.ok.exf b hb').1, I'.ok.exfs b hb', .inl hb', fun x c e => (I'.ok.exf b hb').2 x c e, fun p hp => hpn b hb p (by simpa using hp)⟩
  intro m
  induction m using Nat.strongRecOn with
  | ind m ih =>
    intro i n s₀ s H hmn I st hn w
    show Seg _ A2 _ _ _ s₀ _ ((compTurn (.GeneratorExp elt [⟨t0, i0, [], 0⟩, ⟨t1, i1, [], 0⟩] scope pos) 0 (.ref it) .none Y.env).onRaise (leaving Y.env)) [] s
    rw [turn2_out, Sem.onRaise_eq_wrap]
    refine seg_bind_wrap (wpAny_standAt ?_)
    rcases hW i m H w with ⟨stop, q⟩ | ⟨go, step⟩
    · refine seg_bind_wrap ?_
      rw [← hA]
      refine thnF (T.done Y rfl rfl rfl hc i [] s _ H (fun _ _ => False) I (stat I hn) st stop) fun r s6 ⟨hr, I6⟩ => ?_
      subst hr
      exact seg_end (.ok .next) ⟨rfl, _, H, I6, q⟩
    · refine seg_bind_wrap ?_
      rw [← hA]
      refine thnF (T.item Y rfl rfl rfl hc i [] s _ H (fun _ _ => False) I (stat I hn) st go) fun r s6 ⟨u, hr, h6⟩ => ?_
      subst hr
      refine seg_bind_wrap ?_
      rw [← hA]
      refine thnF h6 fun _ s7 ⟨x, H7, I7, r7, y7, st7, n7⟩ => ?_
      have I7' := I7.pinned (stat I7 n7) (T.obj _ _ st7)
      refine seg_bind_wrap ?_
      rw [← hA]
      have hpg := pg.run _ s7 _ H7 x u _ I7' r7 (step x H7 y7)
      rw [hx] at hpg
      refine thnF hpg fun _ s8 ⟨σ8, H8, I8, hw8, q8⟩ => ?_
      refine seg_bind_wrap ?_
      rw [← hA]
      refine wpAny_tests_nil ?_
      simp only [if_true]
      refine seg_bind_wrap ?_
      rw [← hA]
      have hpi := pi1.run _ s8 σ8 H8 _ I8 q8
      rw [hx] at hpi
      refine thnF hpi fun xv s9 h9 => ?_
      refine seg_bind_wrap (wpAny_standAt ?_)
      refine seg_bind_wrap (wpAny_of_eq (hs1 xv) ?_)
      refine seg_bind_wrap ?_
      rw [← hA]
      refine wpAny_holding (thnF h9 fun itv s11 h11 => ?_)
      obtain ⟨it1, fp1, tn1, J1, H11, e1, I11, T1, st11, f11, W1, ⟨k1, hk1, w1⟩, turn1⟩ := h11
      subst e1
      rw [Sem.bind_eq_wrap', Sem.wrap_wrap]
      unfold runOwn
      rw [Sem.onRaise_eq_wrap, Sem.wrap_wrap]
      have pin' : ∀ {σ' : L2.St} {H' : Hp} {s' : Shared}, Inv Y ([] ++ pinsAt fp s7.heap) σ' H' s' → ∀ c ∈ fp, ∀ o, s7.heap.get? c = some o → s'.heap.get? c = some o ∧ H' c = none := fun I' c hb o e =>
        let z := I'.pin (c, o) (List.mem_append_right _ (List.mem_append_right _ (mem_pinsAt hb e)))
        ⟨z.1, z.2.1⟩
      have hl : (wipe σ vs).length = (wipe σ8 vs1).length := by rw [← hw8, wipe_length, wipe_length]
      refine seg_call fun pc => ?_
      have hA1 : Y.A = A2.over (.compLoop (.GeneratorExp elt [⟨t0, i0, [], 0⟩, ⟨t1, i1, [], 0⟩] scope pos) 0 (.ref it) .none Y.env) [] := hA
      generalize hK : (fun r : Result => _) = kk
      have loop1 := seg_in (e := e) (Q := Q) (Nx := fun k H => ∃ m', m' ≤ k ∧ m' < m ∧ W (i + 1) m' H) (A2 := A2) (t0 := t0) (i0 := i0) (i1 := i1) (scope := scope) (pos := pos) (fs := [.ret kk none (id false) (id []) (.compLoop (.GeneratorExp elt [⟨t0, i0, [], 0⟩, ⟨t1, i1, [], 0⟩] scope pos) 0 (.ref it) .none Y.env) pc []])
        (hA.trans (GenW.over_loop (c := .compLoop (.GeneratorExp elt [⟨t0, i0, [], 0⟩, ⟨t1, i1, [], 0⟩] scope pos) 0 (.ref it) .none Y.env) rfl rfl).symm) rfl rfl hc hx hco T1 (fun hn b hb => ⟨hn b hb, (f11 b hb).2⟩) pg1 pe turn1 (fun k n s₀ s' H' hkn I' ⟨m', hm1, hm2, w'⟩ => ?_) k1 0 n s₀ s11 H11 (by omega) (I11.weak (wipe_length _ _) fun j v e => (wipe_some e).1) st11 (fun b hb => (f11 b hb).1) w1
      · show Seg _ A2 _ _ _ s₀ _ ((compStart (.GeneratorExp elt [⟨t0, i0, [], 0⟩, ⟨t1, i1, [], 0⟩] scope pos) 1 (.ref it1) .none Y.env).onRaise (fun x => do noteFrame x Y.env; standAt theWindowsPlace)) _ s11
        unfold compStart
        rw [Sem.onRaise_eq_wrap]
        show Seg _ A2 _ _ _ s₀ _ ((ask >>= _).wrap _ _ _ _) _ s11
        refine seg_bind_wrap (wpAny_askSetting ?_)
        split
        · exact seg_again rfl loop1
        · first
            | exact seg_bind_wrap (wpAny_rule (seg_bind_wrap (wpAny_standAt (seg_bind_wrap (T1.self _ 0 s11 _ _ st11 (seg_again rfl loop1))))))
            | (refine seg_bind_wrap (wpAny_rule ?_); show Seg _ A2 _ _ _ s₀ _ ((standAt i1.pos >>= _).wrap _ _ _ _) _ s11; exact seg_bind_wrap (wpAny_standAt (seg_bind_wrap (T1.self _ 0 s11 _ _ st11 (seg_again rfl loop1)))))
      · subst hK
        refine seg_leaf (.ok .next) ?_
        refine seg_again rfl (ih m' hm2 (i + 1) n s₀ s' H' (by omega) ((I'.unpinned (pins := [])).weak hl fun j v e => ?_) (T.keep _ _ _ st7 fun c hb o e => (pin' I' c hb o e).1) (fun c hc => ?_) w')
        · rw [← hw8] at e
          obtain ⟨e1, e2⟩ := wipe_some e
          rw [wipe_out fun z => e2 (hv j z)]
          exact e1
        · obtain ⟨o, e, _⟩ := T.obj _ _ st7 c hc
          exact (pin' I' c hc o e).2
theorem seg_start2 {Y : Cx} {A2 : Around} {elt t0 i0 t1 i1 : Expr} {scope : Scope} {pos : Pos} {it : Addr} {fp : List Addr} {tn : Nat → Heap → Prop} {J : It} {e : Bool} {Q : VK} {n : Nat} {s₀ s : Shared}
    (T : Turn Y.prog Y.w Y.K t0 J fp it tn) (st : tn 0 s.heap)
    (loop : Seg (model Y.prog Y.w) A2 (GRn Y e Q) (GYp Y e Q) n s₀ (.compLoop (.GeneratorExp elt [⟨t0, i0, [], 0⟩, ⟨t1, i1, [], 0⟩] scope pos) 0 (.ref it) .none Y.env)
        ((model Y.prog Y.w).den (.compLoop (.GeneratorExp elt [⟨t0, i0, [], 0⟩, ⟨t1, i1, [], 0⟩] scope pos) 0 (.ref it) .none Y.env)) [] s) :
    Seg (model Y.prog Y.w) A2 (GRn Y e Q) (GYp Y e Q) n s₀ (.compStart (.GeneratorExp elt [⟨t0, i0, [], 0⟩, ⟨t1, i1, [], 0⟩] scope pos) 0 (.ref it) .none Y.env)
        ((model Y.prog Y.w).den (.compStart (.GeneratorExp elt [⟨t0, i0, [], 0⟩, ⟨t1, i1, [], 0⟩] scope pos) 0 (.ref it) .none Y.env)) [] s := by
  show Seg _ A2 _ _ _ s₀ _ ((compStart (.GeneratorExp elt [⟨t0, i0, [], 0⟩, ⟨t1, i1, [], 0⟩] scope pos) 0 (.ref it) .none Y.env).onRaise (leaving Y.env)) [] s
  unfold compStart
  rw [Sem.onRaise_eq_wrap]
  show Seg _ A2 _ _ _ s₀ _ ((ask >>= _).wrap _ _ _ _) [] s
  refine seg_bind_wrap (wpAny_askSetting ?_)
  split
  · exact seg_again rfl loop
  · first
      | exact seg_bind_wrap (wpAny_rule (seg_bind_wrap (wpAny_standAt (seg_bind_wrap (T.self _ 0 s _ _ st (seg_again rfl loop))))))
      | (refine seg_bind_wrap (wpAny_rule ?_); show Seg _ A2 _ _ _ s₀ _ ((standAt i0.pos >>= _).wrap _ _ _ _) [] s; exact seg_bind_wrap (wpAny_standAt (seg_bind_wrap (T.self _ 0 s _ _ st (seg_again rfl loop)))))

/-- the around of the generator's body, of a consumer that is called at A -/
abbrev gB (A : Around) (elt t0 i0 t1 i1 : Expr) (scope : Scope) (pos : Pos) (it : Addr) (cenv : Env) : Around := A.in1.in1.over (.compLoop (.GeneratorExp elt [⟨t0, i0, [], 0⟩, ⟨t1, i1, [], 0⟩] scope pos) 0 (.ref it) .none cenv) []
theorem gB_room {k : Nat} {A : Around} {elt t0 i0 t1 i1 : Expr} {scope : Scope} {pos : Pos} {it : Addr} {cenv : Env} (r : Room (k + 1) A) : Room k (gB A elt t0 i0 t1 i1 scope pos it cenv) :=
  ⟨r.hd, by have := r.dp; show A.depth + 0 + 1 + 3 * k + 5 < _; omega, by have := r.un; show A.units + 1 + 1 + 0 + 3 + 16 * k + 200 < _; omega⟩
theorem gB_frames {A : Around} {elt t0 i0 t1 i1 : Expr} {scope : Scope} {pos : Pos} {it : Addr} {cenv : Env} {l : List Env} (h : A.frames = some l) : (gB A elt t0 i0 t1 i1 scope pos it cenv).frames = some (cenv :: l) := by
  show pushEnvs [cenv] (pushEnvs [] A.frames) = _
  rw [h]
  rfl

def tGen2 (e : Bool) (P : Addr) (wi : TI) (g : TG) (wi1 : TI) (g1 : TG) (te : TE) (vs vs1 : List Nat) : TE := fun σ H Q => wi σ H fun J H1 => TabG H1 P ∧ ∀ H2, Tabbed P H1 H2 → ∃ W : Nat → Nat → Hp → Prop, (∃ m, W 0 m H2) ∧ GW2 J g wi1 g1 te vs vs1 σ e Q W

theorem gen_make2 {c P : Addr} {elt t0 i0 t1 i1 : Expr} {gpos : Pos} {scope : Scope} {own : List (Str × Nat)} {wi wi1 : TI} {g g1 : TG} {vs1 : List Nat} {te : TE} {k : Nat} {e : Bool} {Q : VK} {Q' : Value → Shared → Prop}
    (hr : Room (k + 1) X.A) (TB : TabB X.base X.mg c P) (hcode : X.env.code = .ref c) (hN : X.N.Nodup) (ok : BlkOk X.N X.env.scope scope own) (hcell : ∀ y ∈ scope.names, y.2 ≠ .cell) (hco : scope.isCoroutine = false) (h0 : scope.names.lookup (".0" : Str) = some NameKind.local)
    (hi : PI X t0 i0 wi) (hv : ∀ i ∈ vs1, i ∈ own.map (·.2))
    (hpg : ∀ (A1 : Around) (s : Shared) (H : Hp) (C : Addr) (code : Value) (fp : List Addr) (pn : List (Addr × Obj)), PG (gx X A1 s H (genv X scope C code) fp pn) t0 g)
    (hpi1 : ∀ (A1 : Around) (s : Shared) (H : Hp) (C : Addr) (code : Value) (fp : List Addr) (pn : List (Addr × Obj)), Room k A1 → PI (gx X A1 s H (genv X scope C code) fp pn) t1 i1 wi1)
    (hpg1 : ∀ (A1 : Around) (s : Shared) (H : Hp) (C : Addr) (code : Value) (fp : List Addr) (pn : List (Addr × Obj)), PG (gx X A1 s H (genv X scope C code) fp pn) t1 g1)
    (hpe : ∀ (A1 : Around) (s : Shared) (H : Hp) (C : Addr) (code : Value) (fp : List Addr) (pn : List (Addr × Obj)), Room k A1 → PE (gx X A1 s H (genv X scope C code) fp pn) elt te)
    (hs : ∀ v, genFold i0 X.env v = pure v) (hs1 : ∀ env x, foldedSetIterable i1 env x = pure x) (I : Inv X pins σ H s) (h : tGen2 e P wi g wi1 g1 te (own.map (·.2)) vs1 σ H Q)
    (hQ : ∀ a s5, Ready2 X pins σ e Q a s5 → Q' (.ref a) s5) :
    wpAny (model X.prog X.w) X.A (eval (.GeneratorExp elt [⟨t0, i0, [], 0⟩, ⟨t1, i1, [], 0⟩] scope gpos) X.env) Q' X.xe s := by
  have hfree : ∀ y ∈ scope.names, y.2 = .free → ∃ c, X.env.cells.lookup y.1 = some c := fun y hy e => by
    rcases ok.free y hy e with k | k
    · exact I.ok.has _ (.inl k)
    · exact I.ok.has _ (.inr k)
  refine make_GE2 hco (closure_ok hfree) hcell h0 ok.kind (by have := hr.dp; omega) ?_ hs
  refine thn (hi.run pins s σ H _ I h) fun xv s1 hx => thn hx fun itv s2 h2 => ?_
  obtain ⟨it, fp, tn, J, H2, e2, I2, T, st2, f2, ⟨ps, hP, ht⟩, q⟩ := h2
  subst e2
  have hPs : s2.heap.get? P = some { cls := .none, data := .fields ps } := I2.hok P _ hP
  have cd : PySem.W.CodeHd s2.heap c P := TB.code.keeps fun b u e => I2.bk b u e
  have sz : ∀ b ∈ fp, b < s2.heap.objs.size := fun b hb => by
    obtain ⟨o, e, _⟩ := T.obj _ _ st2 b hb
    exact Heap.lt_size e
  have cont : ∀ (code : Value) (h3 : Heap) (tk : Nat) (ps' : Array Value), Heap.ExtBut P s2.heap h3 → s2.heap.objs.size ≤ h3.objs.size → h3.get? P = some { cls := .none, data := .fields ps' } → (∃ more, ps' = ps ++ more) → TriplesOk ps'.toList →
      wpAny (model X.prog X.w) X.A (builtinsFor X.env.globals X.env.builtins) (fun bi s₄ =>
        ∀ h', h'.Ns s₄.heap.objs.size (fun y => if y = ".0" then some (.ref it) else none) → Heap.SameBut s₄.heap.objs.size (s₄.heap.push { cls := .type "frame", data := .dict #[] }) h' →
          Q' (.ref h'.objs.size) { s₄ with
            gens := s₄.gens.push (.fresh (.compStart (.GeneratorExp elt [⟨t0, i0, [], 0⟩, ⟨t1, i1, [], 0⟩] scope gpos) 0 (.ref it) .none (genEnv scope (cloFrom X.env.cells scope.names []) s₄.heap.objs.size code bi X.env))),
            toks := s₄.toks + 1 + 1 + 1,
            heap := h'.push { cls := .type "generator", data := .fields #[.int s₄.gens.size 0, .str "<genexpr>" (s₄.toks + 1), .str (X.env.qual ++ "<genexpr>") (s₄.toks + 1 + 1)] } }) X.xe { s2 with heap := h3, toks := tk } := by
    intro code h3 tk ps' hx hsz hP3 hmore ht3
    obtain ⟨bm, ob, e1, e2, e3, e4, e5, e6, e7, e8⟩ := TB.bm
    have keep3 : ∀ b u, b ≠ P → s2.heap.get? b = some u → h3.get? b = some u := fun b u hb e => hx b u hb e
    refine wpAny_builtinsFor (m := X.mg) (by rw [I2.ok.glob]; exact (I2.mod.glob.keeps I2.bk).extBut hx TB.gP) e1 e2 (keep3 _ _ e4 (I2.bk _ _ e5)) e6 e7 e8 ?_
    obtain ⟨more, em⟩ := hmore
    have I4 : Inv X pins σ (upd H2 P (.tbl (ps ++ more))) { s2 with heap := h3, toks := tk } :=
      inv_tab (more := more) (h' := h3) (g' := s2.gens) (d' := s2.drawn) (t' := tk) I2 hP keep3 (by rw [← em]; exact hP3) I2.bare
    have nP : ∀ b ∈ fp, b ≠ P := fun b hb z => by
      have := (f2 b hb).1
      rw [z, hP] at this
      cases this
    have f4 : ∀ b ∈ fp, FpOk X pins (upd H2 P (.tbl (ps ++ more))) b ∧ b < h3.objs.size := fun b hb =>
      ⟨⟨by rw [upd_ne (nP b hb)]; exact (f2 b hb).1, (f2 b hb).2⟩, Nat.lt_of_lt_of_le (sz b hb) hsz⟩
    have st4 : tn 0 h3 := T.keep _ _ _ st2 fun b hb o e => keep3 b o (nP b hb) e
    obtain ⟨W, ⟨m0, w0⟩, gw⟩ := q _ ⟨⟨ps ++ more, upd_same, by rw [← em]; exact ht3⟩, fun b hb => upd_ne hb⟩
    intro h' hn' hs'
    have hn' : h'.Ns h3.objs.size (fun y => if y = ".0" then some (.ref it) else none) := hn'
    have hs' : Heap.SameBut h3.objs.size (h3.push { cls := .type "frame", data := .dict #[] }) h' := hs'
    have hsz' : h'.objs.size = h3.objs.size + 1 := by rw [hs'.1, Heap.size_push]
    have keep' : ∀ b o, h3.get? b = some o → h'.get? b = some o := fun b o e => hs'.extBut b o (Nat.ne_of_lt (Heap.lt_size e)) (Heap.get?_push_of_some _ e)
    generalize hcenv : genv X scope h3.objs.size code = cenv
    have I5 := gen_start (A1 := gB X.A elt t0 i0 t1 i1 scope gpos it cenv) (code := code) (t' := tk + 1 + 1 + 1)
      (obj := { cls := .type "generator", data := .fields #[.int s2.gens.size 0, .str "<genexpr>" (tk + 1), .str (X.env.qual ++ "<genexpr>") (tk + 1 + 1)] })
      (g' := s2.gens.push (.fresh (.compStart (.GeneratorExp elt [⟨t0, i0, [], 0⟩, ⟨t1, i1, [], 0⟩] scope gpos) 0 (.ref it) .none cenv)))
      I4 ok hcell hN f4 hr.hd (by rw [hcenv]; exact gB_frames I.ok.frames) hn' keep' hsz' (Heap.get?_push_size _ rfl) (fun v z => by cases z) (I2.bare.push rfl)
    have pg := hpg (gB X.A elt t0 i0 t1 i1 scope gpos it cenv) { s2 with heap := h3, toks := tk } (upd H2 P (.tbl (ps ++ more))) h3.objs.size code fp [(h'.objs.size, { cls := .type "generator", data := .fields #[.int s2.gens.size 0, .str "<genexpr>" (tk + 1), .str (X.env.qual ++ "<genexpr>") (tk + 1 + 1)] })]
    have pi1 := hpi1 (gB X.A elt t0 i0 t1 i1 scope gpos it cenv) { s2 with heap := h3, toks := tk } (upd H2 P (.tbl (ps ++ more))) h3.objs.size code fp [(h'.objs.size, { cls := .type "generator", data := .fields #[.int s2.gens.size 0, .str "<genexpr>" (tk + 1), .str (X.env.qual ++ "<genexpr>") (tk + 1 + 1)] })] (gB_room hr)
    have pg1 := hpg1 (gB X.A elt t0 i0 t1 i1 scope gpos it cenv) { s2 with heap := h3, toks := tk } (upd H2 P (.tbl (ps ++ more))) h3.objs.size code fp [(h'.objs.size, { cls := .type "generator", data := .fields #[.int s2.gens.size 0, .str "<genexpr>" (tk + 1), .str (X.env.qual ++ "<genexpr>") (tk + 1 + 1)] })]
    have pe := hpe (gB X.A elt t0 i0 t1 i1 scope gpos it cenv) { s2 with heap := h3, toks := tk } (upd H2 P (.tbl (ps ++ more))) h3.objs.size code fp [(h'.objs.size, { cls := .type "generator", data := .fields #[.int s2.gens.size 0, .str "<genexpr>" (tk + 1), .str (X.env.qual ++ "<genexpr>") (tk + 1 + 1)] })] (gB_room hr)
    have I5 : Inv (gx X (gB X.A elt t0 i0 t1 i1 scope gpos it cenv) { s2 with heap := h3, toks := tk } (upd H2 P (.tbl (ps ++ more))) (genv X scope h3.objs.size code) fp [(h'.objs.size, _)]) [] (wipe σ (own.map (·.2))) _ _ := I5
    rw [hcenv] at I5 pg pi1 pg1 pe
    have hcoE : cenv.scope.isCoroutine = false := by rw [← hcenv]; exact hco
    generalize hog : ({ cls := .type "generator", data := .fields #[.int s2.gens.size 0, .str "<genexpr>" (tk + 1), .str (X.env.qual ++ "<genexpr>") (tk + 1 + 1)] } : Obj) = og at I5 pg pi1 pg1 pe
    have hig : ∀ h : Heap, h.get? h'.objs.size = some og → h.IsGen h'.objs.size s2.gens.size := fun hh e => ⟨og, _, _, e, by rw [← hog], by rw [← hog], by rw [← hog]⟩
    have mI5 : ∀ b ∈ fp, (upd H2 P (.tbl (ps ++ more))) b = none := fun b hb => (f4 b hb).1.1
    have back : ∀ σ' H' s', Inv (gx X (gB X.A elt t0 i0 t1 i1 scope gpos it cenv) { s2 with heap := h3, toks := tk } (upd H2 P (.tbl (ps ++ more))) cenv fp [(h'.objs.size, og)]) [] σ' H' s' → Inv X pins σ H' s' := fun σ' H' s' I6 =>
      I4.call' (ch := fp) I6.os I6.base I6.hok I6.bare fun b hb => ⟨(f4 b hb).1.2.2.2.1, (f4 b hb).1.2.1, (f4 b hb).1.2.2.2.2.1, (f4 b hb).1.2.2.2.2.2⟩
    have goes : ∀ s' : Shared, s'.heap = h'.push og → s'.os = s2.os → AllBare s'.gens →
        Seg (model X.prog X.w) X.A.in1.in1 (GRn (gx X (gB X.A elt t0 i0 t1 i1 scope gpos it cenv) { s2 with heap := h3, toks := tk } (upd H2 P (.tbl (ps ++ more))) cenv fp [(h'.objs.size, og)]) e Q)
          (GYp (gx X (gB X.A elt t0 i0 t1 i1 scope gpos it cenv) { s2 with heap := h3, toks := tk } (upd H2 P (.tbl (ps ++ more))) cenv fp [(h'.objs.size, og)]) e Q) (m0 + 1) s'
          (.compStart (.GeneratorExp elt [⟨t0, i0, [], 0⟩, ⟨t1, i1, [], 0⟩] scope gpos) 0 (.ref it) .none cenv) ((model X.prog X.w).den (.compStart (.GeneratorExp elt [⟨t0, i0, [], 0⟩, ⟨t1, i1, [], 0⟩] scope gpos) 0 (.ref it) .none cenv)) [] s' := fun s' hh ho hg => by
      have I6 := inv_same (s' := s') I5 hh ho hg
      have st6 : tn 0 s'.heap := by
        rw [hh]
        exact T.keep _ _ _ st4 fun b _ o e => Heap.get?_push_of_some _ (keep' b o e)
      refine seg_start2 (Y := gx X (gB X.A elt t0 i0 t1 i1 scope gpos it cenv) { s2 with heap := h3, toks := tk } (upd H2 P (.tbl (ps ++ more))) cenv fp [(h'.objs.size, og)]) T st6
        (seg_loop2 rfl rfl rfl rfl (fun b hb p hp z => ?_) hcoE T pg pi1 pg1 pe (hs1 _) hv gw m0 0 (m0 + 1) s' s' _ (Nat.lt_succ_self _) I6 st6 mI5 w0)
      have hp : p ∈ [(h'.objs.size, og)] := hp
      rw [List.mem_singleton.mp hp] at z
      have z : h'.objs.size = b := z
      have h9 := (f4 b hb).2
      rw [← z, hsz'] at h9
      exact absurd h9 (Nat.not_lt.mpr (Nat.le_succ _))
    have ee : genEnv scope (cloFrom X.env.cells scope.names []) h3.objs.size code builtinsNs X.env = cenv := hcenv
    have fin := hQ h'.objs.size { s2 with heap := h'.push og, gens := s2.gens.push (.fresh (.compStart (.GeneratorExp elt [⟨t0, i0, [], 0⟩, ⟨t1, i1, [], 0⟩] scope gpos) 0 (.ref it) .none cenv)), toks := tk + 1 + 1 + 1 }
      ⟨gB X.A elt t0 i0 t1 i1 scope gpos it cenv, { s2 with heap := h3, toks := tk }, upd H2 P (.tbl (ps ++ more)), cenv, fp, [(h'.objs.size, og)], og, s2.gens.size, .fresh (.compStart (.GeneratorExp elt [⟨t0, i0, [], 0⟩, ⟨t1, i1, [], 0⟩] scope gpos) 0 (.ref it) .none cenv), wipe σ (own.map (·.2)), upd H2 P (.tbl (ps ++ more)), m0 + 1,
        List.mem_singleton.mpr rfl, hig, I5, Array.getElem?_push_size .., fun s' hh ho hg => ⟨rfl, goes s' hh ho hg⟩, back⟩
    rw [← ee] at fin
    exact fin
  cases hf : codeAmong gpos ps.toList with
  | none =>
    refine ⟨I2.nolimit, ?_⟩
    refine wpAny_genexprCodeX hcode (cd.code hPs ht) (cd.tab hPs) hf fun c' h' tk hx hge hlt hco' _ htab' _ => ?_
    obtain ⟨o1, vs, f1, tf, fl, tg, inF, tx, tt, op, _, _, _, _, _, _, _, _, _, htr, _⟩ := hco'
    exact cont _ h' tk _ hx (Nat.le_trans hge (Nat.le_of_lt hlt)) htab'.2 ⟨_, rfl⟩ htr
  | some cv =>
    refine ⟨I2.nolimit, ?_⟩
    refine wpAny_genexprCode_hit hcode (cd.code hPs ht) hf ?_
    exact cont cv s2.heap s2.toks ps (Heap.ExtBut.refl _ _) (Nat.le_refl _) hPs ⟨#[], by simp⟩ ht

theorem pe_all2 {c P : Addr} {elt t0 i0 t1 i1 : Expr} {p pos gpos : Pos} {scope : Scope} {own : List (Str × Nat)} {wi wi1 : TI} {g g1 : TG} {vs1 : List Nat} {te : TE} {k : Nat}
    (hr : Room (k + 1) X.A) (hg : Gl X "all") (hm : X.mg "all" = none) (TB : TabB X.base X.mg c P) (hcode : X.env.code = .ref c) (hN : X.N.Nodup) (ok : BlkOk X.N X.env.scope scope own) (hcell : ∀ y ∈ scope.names, y.2 ≠ .cell) (hco : scope.isCoroutine = false) (h0 : scope.names.lookup (".0" : Str) = some NameKind.local)
    (hi : PI X t0 i0 wi) (hv : ∀ i ∈ vs1, i ∈ own.map (·.2))
    (hpg : ∀ (A1 : Around) (s : Shared) (H : Hp) (C : Addr) (code : Value) (fp : List Addr) (pn : List (Addr × Obj)), PG (gx X A1 s H (genv X scope C code) fp pn) t0 g)
    (hpi1 : ∀ (A1 : Around) (s : Shared) (H : Hp) (C : Addr) (code : Value) (fp : List Addr) (pn : List (Addr × Obj)), Room k A1 → PI (gx X A1 s H (genv X scope C code) fp pn) t1 i1 wi1)
    (hpg1 : ∀ (A1 : Around) (s : Shared) (H : Hp) (C : Addr) (code : Value) (fp : List Addr) (pn : List (Addr × Obj)), PG (gx X A1 s H (genv X scope C code) fp pn) t1 g1)
    (hpe : ∀ (A1 : Around) (s : Shared) (H : Hp) (C : Addr) (code : Value) (fp : List Addr) (pn : List (Addr × Obj)), Room k A1 → PE (gx X A1 s H (genv X scope C code) fp pn) elt te)
    (hs : ∀ v, genFold i0 X.env v = pure v := by intro _; rfl)
    (hs1 : ∀ env x, foldedSetIterable i1 env x = pure x := by intro _ _; rfl)
    (he : starEach [.GeneratorExp elt [⟨t0, i0, [], 0⟩, ⟨t1, i1, [], 0⟩] scope gpos] X.env = (false, eval (.GeneratorExp elt [⟨t0, i0, [], 0⟩, ⟨t1, i1, [], 0⟩] scope gpos) X.env) :: starEach [] X.env := by rfl) :
    PE X (.Call (.Name "all" p) [.GeneratorExp elt [⟨t0, i0, [], 0⟩, ⟨t1, i1, [], 0⟩] scope gpos] [] pos) (tGen2 true P wi g wi1 g1 te (own.map (·.2)) vs1) := by
  refine ⟨fun pins s σ H Q I h => ?_⟩
  refine wpAny_Call_Name_kw (ld_blt I hg hm boot_all ?_)
  refine PyProof.Rows.callWith_builtin1 ?_ he (by rfl)
  rw [he]
  show wpAny _ _ (spliced ((false, eval (.GeneratorExp elt [⟨t0, i0, [], 0⟩, ⟨t1, i1, [], 0⟩] scope gpos) X.env) :: backTo pos (starEach [] X.env))) _ _ s
  refine Calls.spliced_cons (gen_make2 (e := true) (Q := Q) hr TB hcode hN ok hcell hco h0 hi hv hpg hpi1 hpg1 hpe hs hs1 I h fun a s5 hG => ?_)
  obtain ⟨A1, s4, H4, cenv, fp, pn, og, gi, gs, σ', H5, n, hpn, hig, I5, hgs, hgo, back⟩ := hG
  refine Calls.spliced_nil ?_
  refine call_function_tree F.kind_all F.plain_all F.entry_all (F.args_all1 _) ?_
  unfold Builtin.«all»
  refine wpAny_bind (m := oneArg "all" _) (wpAny_pure ?_)
  refine wpAny_bind (wpAny_pyIter_gen (hig _ (I5.pin _ (List.mem_append_left _ hpn)).1) ?_)
  refine wpAny_pure ⟨plainId_quiet F.plain_all_loop _, drv_all (Y := gx X A1 s4 H4 cenv fp pn) (A := X.A) hpn hig hr.hd (by have := hr.dp; show X.A.depth + 0 < _; omega) (fun b σ6 H6 s6 I6 q => ?_) n gs σ' H5 s5 I5 hgs hgo⟩
  exact ⟨.bl b, H6, back σ6 H6 s6 I6, rfl, q⟩
end
end EwG

set_option Elab.async false
set_option linter.all false
set_option maxRecDepth 100000
set_option maxHeartbeats 4000000
/-! Finite commutative semirings given by tables. -/
namespace SRm
structure SR (n : Nat) (p t : Nat → Nat → Nat) (o : Nat) : Prop where
  pos : 0 < n
  oo : o < n
  pc : ∀ a, a < n → ∀ b, b < n → p a b < n
  tc : ∀ a, a < n → ∀ b, b < n → t a b < n
  p0 : ∀ a, a < n → p 0 a = a
  ps : ∀ a, a < n → ∀ b, b < n → p a b = p b a
  pa : ∀ a, a < n → ∀ b, b < n → ∀ c, c < n → p a (p b c) = p (p a b) c
  t1 : ∀ a, a < n → t o a = a
  t0 : ∀ a, a < n → t 0 a = 0
  ts : ∀ a, a < n → ∀ b, b < n → t a b = t b a
  ta : ∀ a, a < n → ∀ b, b < n → ∀ c, c < n → t a (t b c) = t (t a b) c
  ds : ∀ a, a < n → ∀ b, b < n → ∀ c, c < n → t a (p b c) = p (t a b) (t a c)
abbrev SRp (n : Nat) (p t : Nat → Nat → Nat) (o : Nat) : Prop :=
  0 < n ∧ o < n ∧ (∀ a, a < n → p 0 a = a ∧ t o a = a ∧ t 0 a = 0 ∧ ∀ b, b < n → p a b < n ∧ t a b < n ∧ p a b = p b a ∧ t a b = t b a ∧ ∀ c, c < n → p a (p b c) = p (p a b) c ∧ t a (t b c) = t (t a b) c ∧ t a (p b c) = p (t a b) (t a c))
theorem SR.of {n : Nat} {p t : Nat → Nat → Nat} {o : Nat} (h : SRp n p t o) : SR n p t o where
  pos := h.1
  oo := h.2.1
  pc := fun a ha b hb => ((h.2.2 a ha).2.2.2 b hb).1
  tc := fun a ha b hb => ((h.2.2 a ha).2.2.2 b hb).2.1
  p0 := fun a ha => (h.2.2 a ha).1
  ps := fun a ha b hb => ((h.2.2 a ha).2.2.2 b hb).2.2.1
  pa := fun a ha b hb c hc => (((h.2.2 a ha).2.2.2 b hb).2.2.2.2 c hc).1
  t1 := fun a ha => (h.2.2 a ha).2.1
  t0 := fun a ha => (h.2.2 a ha).2.2.1
  ts := fun a ha b hb => ((h.2.2 a ha).2.2.2 b hb).2.2.2.1
  ta := fun a ha b hb c hc => (((h.2.2 a ha).2.2.2 b hb).2.2.2.2 c hc).2.1
  ds := fun a ha b hb c hc => (((h.2.2 a ha).2.2.2 b hb).2.2.2.2 c hc).2.2
/-- equal within the range -/
theorem SR.congr {n : Nat} {p t p' t' : Nat → Nat → Nat} {o : Nat} (h : SR n p t o) (hp : ∀ a, a < n → ∀ b, b < n → p' a b = p a b) (ht : ∀ a, a < n → ∀ b, b < n → t' a b = t a b) : SR n p' t' o := by
  refine SR.of ⟨h.pos, h.oo, fun a ha => ⟨by rw [hp _ h.pos _ ha]; exact h.p0 a ha, by rw [ht _ h.oo _ ha]; exact h.t1 a ha, by rw [ht _ h.pos _ ha]; exact h.t0 a ha, fun b hb => ?_⟩⟩
  have e1 := hp _ ha _ hb
  have e2 := hp _ hb _ ha
  have e3 := ht _ ha _ hb
  have e4 := ht _ hb _ ha
  refine ⟨by rw [e1]; exact h.pc a ha b hb, by rw [e3]; exact h.tc a ha b hb, by rw [e1, e2]; exact h.ps a ha b hb, by rw [e3, e4]; exact h.ts a ha b hb, fun c hc => ?_⟩
  have pbc := h.pc b hb c hc
  have pab := h.pc a ha b hb
  have tbc := h.tc b hb c hc
  have tab := h.tc a ha b hb
  have tac := h.tc a ha c hc
  refine ⟨?_, ?_, ?_⟩
  · rw [hp _ hb _ hc, e1, hp _ ha _ pbc, hp _ pab _ hc]; exact h.pa a ha b hb c hc
  · rw [ht _ hb _ hc, e3, ht _ ha _ tbc, ht _ tab _ hc]; exact h.ta a ha b hb c hc
  · rw [hp _ hb _ hc, e3, ht _ ha _ pbc, ht _ ha _ hc, hp _ tab _ tac]; exact h.ds a ha b hb c hc
/-- the drawn families -/
def fP (kind n : Nat) : Nat → Nat → Nat := fun a b => match kind with
  | 0 => (a + b) % n
  | 1 => min (a + b) (n - 1)
  | 2 => max a b
  | 3 => a ||| b
  | 4 => a ^^^ b
  | _ => if a * b = 0 then max a b else min a b
def fT (kind n : Nat) : Nat → Nat → Nat := fun a b => match kind with
  | 0 => (a * b) % n
  | 1 => min (a * b) (n - 1)
  | 2 => min a b
  | 3 => a &&& b
  | 4 => a &&& b
  | _ => if a * b = 0 then 0 else min (a + b - 1) (n - 1)
def fO (kind n : Nat) : Nat := match kind with
  | 0 => 1 % n
  | 1 => min 1 (n - 1)
  | 2 => n - 1
  | 3 => n - 1
  | 4 => n - 1
  | _ => 1
def SRb (n : Nat) (p t : Nat → Nat → Nat) (o : Nat) : Bool :=
  Nat.blt 0 n && Nat.blt o n && (List.range n).all fun a => p 0 a == a && t o a == a && t 0 a == 0 && (List.range n).all fun b => Nat.blt (p a b) n && Nat.blt (t a b) n && p a b == p b a && t a b == t b a &&
    (List.range n).all fun c => p a (p b c) == p (p a b) c && t a (t b c) == t (t a b) c && t a (p b c) == p (t a b) (t a c)
theorem SR.ofb {n : Nat} {p t : Nat → Nat → Nat} {o : Nat} (h : SRb n p t o = true) : SR n p t o := by
  unfold SRb at h
  simp only [Bool.and_eq_true, List.all_eq_true, List.mem_range, beq_iff_eq, Nat.blt_eq] at h
  obtain ⟨⟨h1, h2⟩, h3⟩ := h
  refine SR.of ⟨h1, h2, fun a ha => ?_⟩
  obtain ⟨⟨⟨a1, a2⟩, a3⟩, a4⟩ := h3 a ha
  refine ⟨a1, a2, a3, fun b hb => ?_⟩
  obtain ⟨⟨⟨⟨b1, b2⟩, b3⟩, b4⟩, b5⟩ := a4 b hb
  refine ⟨b1, b2, b3, b4, fun c hc => ?_⟩
  obtain ⟨⟨c1, c2⟩, c3⟩ := b5 c hc
  exact ⟨c1, c2, c3⟩
theorem sr_smallb : ((List.range 3).all fun k => (List.range 6).all fun n => SRb (n + 1) (fP k (n + 1)) (fT k (n + 1)) (fO k (n + 1))) = true := by decide +kernel
theorem sr_bitsb : ((List.range 3).all fun k => (List.range 3).all fun m => SRb (2 ^ (m + 1)) (fP (k + 3) (2 ^ (m + 1))) (fT (k + 3) (2 ^ (m + 1))) (fO (k + 3) (2 ^ (m + 1)))) = true := by decide +kernel
theorem sr_small {k n : Nat} (hk : k < 3) (h0 : 0 < n) (hn : n < 7) : SR n (fP k n) (fT k n) (fO k n) := by
  have h := sr_smallb
  simp only [List.all_eq_true, List.mem_range] at h
  have q := h k hk (n - 1) (by omega)
  rw [show n - 1 + 1 = n by omega] at q
  exact SR.ofb q
theorem sr_bits {k m : Nat} (hk : k < 3) (hm : m < 3) : SR (2 ^ (m + 1)) (fP (k + 3) (2 ^ (m + 1))) (fT (k + 3) (2 ^ (m + 1))) (fO (k + 3) (2 ^ (m + 1))) := by
  have h := sr_bitsb
  simp only [List.all_eq_true, List.mem_range] at h
  exact SR.ofb (h k hk m hm)

theorem dm {m x y : Nat} (h : y < m) : (x * m + y) / m = x ∧ (x * m + y) % m = y := by
  have hm : 0 < m := Nat.lt_of_le_of_lt (Nat.zero_le _) h
  refine ⟨?_, ?_⟩
  · rw [Nat.mul_comm, Nat.mul_add_div hm, Nat.div_eq_of_lt h]; rfl
  · rw [Nat.mul_comm, Nat.mul_add_mod, Nat.mod_eq_of_lt h]
theorem lt_mul {n m x y : Nat} (hx : x < n) (hy : y < m) : x * m + y < n * m := by
  have : (x + 1) * m ≤ n * m := Nat.mul_le_mul_right m hx
  rw [Nat.succ_mul] at this
  omega
/-- both at once -/
def pr2 (m : Nat) (f g : Nat → Nat → Nat) : Nat → Nat → Nat := fun a b => f (a / m) (b / m) * m + g (a % m) (b % m)
theorem sr_pair {n m o o' : Nat} {p t p' t' : Nat → Nat → Nat} (x : SR n p t o) (y : SR m p' t' o') : SR (n * m) (pr2 m p p') (pr2 m t t') (o * m + o') := by
  have hm := y.pos
  have dl : ∀ {a}, a < n * m → a / m < n := fun h => Nat.div_lt_of_lt_mul (by rw [Nat.mul_comm]; exact h)
  have ml : ∀ a, a % m < m := fun a => Nat.mod_lt _ hm
  have eq : ∀ a, a / m * m + a % m = a := fun a => by rw [Nat.mul_comm]; exact Nat.div_add_mod a m
  have z : 0 / m = 0 ∧ 0 % m = 0 := ⟨Nat.zero_div _, Nat.zero_mod _⟩
  refine SR.of ⟨Nat.mul_pos x.pos hm, lt_mul x.oo y.oo, fun a ha => ⟨?_, ?_, ?_, fun b hb => ⟨?_, ?_, ?_, ?_, fun c hc => ⟨?_, ?_, ?_⟩⟩⟩⟩
  · unfold pr2; rw [z.1, z.2, x.p0 _ (dl ha), y.p0 _ (ml a), eq]
  · unfold pr2; rw [(dm y.oo).1, (dm y.oo).2, x.t1 _ (dl ha), y.t1 _ (ml a), eq]
  · unfold pr2; rw [z.1, z.2, x.t0 _ (dl ha), y.t0 _ (ml a)]; simp
  · exact lt_mul (x.pc _ (dl ha) _ (dl hb)) (y.pc _ (ml a) _ (ml b))
  · exact lt_mul (x.tc _ (dl ha) _ (dl hb)) (y.tc _ (ml a) _ (ml b))
  · unfold pr2; rw [x.ps _ (dl ha) _ (dl hb), y.ps _ (ml a) _ (ml b)]
  · unfold pr2; rw [x.ts _ (dl ha) _ (dl hb), y.ts _ (ml a) _ (ml b)]
  · unfold pr2
    rw [(dm (y.pc _ (ml b) _ (ml c))).1, (dm (y.pc _ (ml b) _ (ml c))).2, (dm (y.pc _ (ml a) _ (ml b))).1, (dm (y.pc _ (ml a) _ (ml b))).2, x.pa _ (dl ha) _ (dl hb) _ (dl hc), y.pa _ (ml a) _ (ml b) _ (ml c)]
  · unfold pr2
    rw [(dm (y.tc _ (ml b) _ (ml c))).1, (dm (y.tc _ (ml b) _ (ml c))).2, (dm (y.tc _ (ml a) _ (ml b))).1, (dm (y.tc _ (ml a) _ (ml b))).2, x.ta _ (dl ha) _ (dl hb) _ (dl hc), y.ta _ (ml a) _ (ml b) _ (ml c)]
  · unfold pr2
    rw [(dm (y.pc _ (ml b) _ (ml c))).1, (dm (y.pc _ (ml b) _ (ml c))).2, (dm (y.tc _ (ml a) _ (ml b))).1, (dm (y.tc _ (ml a) _ (ml b))).2, (dm (y.tc _ (ml a) _ (ml c))).1, (dm (y.tc _ (ml a) _ (ml c))).2, x.ds _ (dl ha) _ (dl hb) _ (dl hc), y.ds _ (ml a) _ (ml b) _ (ml c)]
/-- renamed by s, back by b -/
theorem sr_ren {n o : Nat} {p t : Nat → Nat → Nat} {s b : Nat → Nat} (x : SR n p t o) (hs : ∀ i, i < n → s i < n) (hb : ∀ i, i < n → b i < n) (sb : ∀ i, i < n → s (b i) = i) (bs : ∀ i, i < n → b (s i) = i) (s0 : s 0 = 0) :
    SR n (fun i j => s (p (b i) (b j))) (fun i j => s (t (b i) (b j))) (s o) := by
  have b0 : b 0 = 0 := by have := bs 0 x.pos; rw [s0] at this; exact this
  refine SR.of ⟨x.pos, hs _ x.oo, fun i hi => ⟨?_, ?_, ?_, fun j hj => ⟨?_, ?_, ?_, ?_, fun k hk => ⟨?_, ?_, ?_⟩⟩⟩⟩
  · show s (p (b 0) (b i)) = i
    rw [b0, x.p0 _ (hb i hi), sb i hi]
  · show s (t (b (s o)) (b i)) = i
    rw [bs _ x.oo, x.t1 _ (hb i hi), sb i hi]
  · show s (t (b 0) (b i)) = 0
    rw [b0, x.t0 _ (hb i hi), s0]
  · exact hs _ (x.pc _ (hb i hi) _ (hb j hj))
  · exact hs _ (x.tc _ (hb i hi) _ (hb j hj))
  · show s (p (b i) (b j)) = s (p (b j) (b i))
    rw [x.ps _ (hb i hi) _ (hb j hj)]
  · show s (t (b i) (b j)) = s (t (b j) (b i))
    rw [x.ts _ (hb i hi) _ (hb j hj)]
  · show s (p (b i) (b (s (p (b j) (b k))))) = s (p (b (s (p (b i) (b j)))) (b k))
    rw [bs _ (x.pc _ (hb j hj) _ (hb k hk)), bs _ (x.pc _ (hb i hi) _ (hb j hj)), x.pa _ (hb i hi) _ (hb j hj) _ (hb k hk)]
  · show s (t (b i) (b (s (t (b j) (b k))))) = s (t (b (s (t (b i) (b j)))) (b k))
    rw [bs _ (x.tc _ (hb j hj) _ (hb k hk)), bs _ (x.tc _ (hb i hi) _ (hb j hj)), x.ta _ (hb i hi) _ (hb j hj) _ (hb k hk)]
  · show s (t (b i) (b (s (p (b j) (b k))))) = s (p (b (s (t (b i) (b j)))) (b (s (t (b i) (b k)))))
    rw [bs _ (x.pc _ (hb j hj) _ (hb k hk)), bs _ (x.tc _ (hb i hi) _ (hb j hj)), bs _ (x.tc _ (hb i hi) _ (hb k hk)), x.ds _ (hb i hi) _ (hb j hj) _ (hb k hk)]
end SRm

set_option Elab.async false
set_option linter.all false
set_option maxRecDepth 100000
set_option maxHeartbeats 4000000
/-! Readings of comprehensions and loops over tables. -/
namespace Tb
open PySem PySem.Spec PyProof.Rows L2 Ew EwG GxR

theorem yes_then {σ : L2.St} {H : Hp} {Q : Bool → Hp → Prop} (q : Q true H) : tYes σ H Q := q
/-- all but what stands at a is as it was -/
def But (a : Addr) (H H' : Hp) : Prop := ∀ b o, b ≠ a → H b = some o → H' b = some o
theorem but_app {D : Addr} {H : Hp} {o : HO} : But D H (upd H D o) := fun b u n e => by rw [upd_ne n]; exact e
theorem But.of {D : Addr} {H H' : Hp} (s : Same H H') : But D H H' := fun b o _ e => s b o e
theorem But.trans {D : Addr} {H H' H'' : Hp} (x : But D H H') (y : But D H' H'') : But D H H'' := fun b o n e => y b o n (x b o n e)
theorem same_but {D : Addr} {H1 H H' : Hp} (hD : H1 D = none) (s : Same H1 H) (b : But D H H') : Same H1 H' := fun c o e => b c o (ne_of_none e hD) (s c o e)
theorem same_new {p : Addr} {H H1 : Hp} {o : HO} (x : Same H H1) (h : H p = none) : Same H (L2.upd H1 p o) := fun b u e => by rw [upd_ne (ne_of_none e h)]; exact x b u e
theorem ext_of {xs : List V} {n : Nat} {f : Nat → V} (hl : xs.length = n) (h : ∀ (i : Nat) v, xs[i]? = some v → v = f i) : xs = (List.range n).map f := by
  refine List.ext_getElem? fun i => ?_
  rw [List.getElem?_map]
  by_cases c : i < n
  · have e : (List.range n)[i]? = some i := by rw [List.getElem?_eq_getElem (by simpa using c), List.getElem_range]
    rw [e]
    obtain ⟨v, hv⟩ : ∃ v, xs[i]? = some v := ⟨_, List.getElem?_eq_getElem (by omega)⟩
    rw [hv, h i v hv]
    rfl
  · rw [List.getElem?_eq_none (by omega), List.getElem?_eq_none (by simpa using c)]
    rfl
theorem at_map {n i : Nat} {f : Nat → V} (h : i < n) : ((List.range n).map f)[i]? = some (f i) := by
  rw [List.getElem?_map, List.getElem?_eq_getElem (by simpa using h), List.getElem_range]
  rfl

/-- [e for x in range(lo, lo + n)]: the heap grows; each element satisfies R -/
theorem lc_rng {lo : Int} {n k : Nat} {te : TE} {vs : List Nat} {σ : L2.St} {H1 : Hp} {D : Addr} {Qd : Hp → Prop} (R : Nat → V → Hp → Prop) (hD : H1 D = none)
    (NR : ∀ i v H H', But D H H' → R i v H → R i v H') (hn : n ≤ 100000) (hw : ∀ x, wipe ((wipe σ vs).set k (some x)) vs = wipe σ vs)
    (hs : ∀ (i : Nat) (H : Hp) (acc : List V) (Kt : VK), i < n → Same H1 H → H D = some (.lst acc) → (∀ y H4, Same H H4 → R i y H4 → Kt y H4) → te ((wipe σ vs).set k (some (.int (lo + i)))) H Kt)
    (hd : ∀ H rows, Same H1 H → H D = some (.lst rows) → rows.length = n → (∀ (i : Nat) v, rows[i]? = some v → R i v H) → Qd H) :
    ∃ W : Nat → Nat → Hp → Prop, (∃ m, W 0 m (upd H1 D (.lst []))) ∧ ∀ i m H, W i m H →
      ((Itr lo n).stop i H ∧ Qd H) ∨ ((Itr lo n).go i H ∧ ∃ Nx : Hp → Prop, (∀ H', Nx H' → ∃ m', m' < m ∧ W (i + 1) m' H') ∧ ∀ x H', (Itr lo n).yld i H x H' → gName k x (wipe σ vs) H' fun σ2 H2 => wipe σ2 vs = wipe σ vs ∧ tYes σ2 H2 fun b H3 =>
        if b = true then te σ2 H3 fun y H4 => ∃ acc, H4 D = some (.lst acc) ∧ acc.length < sizeLine ∧ Nx (upd H4 D (.lst (acc ++ [y]))) else Nx H3) := by
  refine lc_range (fun i H => Same H1 H ∧ ∃ rows, H D = some (.lst rows) ∧ rows.length = i ∧ ∀ (j : Nat) v, rows[j]? = some v → R j v H) ⟨same_new (Same.refl _) hD, [], upd_same, rfl, fun j v e => by simp at e⟩ (fun i H hi ⟨s1, rows, e1, e2, e3⟩ => ?_) (fun H ⟨s1, rows, e1, e2, e3⟩ => hd H rows s1 e1 e2 e3)
  refine ⟨hw _, ?_⟩
  refine yes_then ?_
  refine iteT ?_
  refine hs i H rows _ hi s1 e1 fun y H4 s4 r4 => ⟨rows, s4 _ _ e1, ?_, same_but hD (fun b o e => s4 b o (s1 b o e)) but_app, rows ++ [y], upd_same, by rw [List.length_append, e2]; rfl, fun j v e => ?_⟩
  · rw [e2]
    exact Nat.lt_of_lt_of_le hi (Nat.le_trans hn (by decide))
  · by_cases c : j < rows.length
    · rw [List.getElem?_append_left c] at e
      exact NR _ _ _ _ (But.trans (But.of s4) but_app) (e3 j v e)
    · rw [List.getElem?_append_right (by omega)] at e
      have hj : j = i := by
        have : j - rows.length < [y].length := by
          rcases Nat.lt_or_ge (j - rows.length) [y].length with h | h
          · exact h
          · rw [List.getElem?_eq_none h] at e; cases e
        have h1 : [y].length = 1 := rfl
        omega
      subst hj
      rw [e2, Nat.sub_self] at e
      have : y = v := by simpa using e
      subst this
      exact NR _ _ _ _ but_app r4
/-- .. whose elements are plain values -/
theorem lc_vals {lo : Int} {n k : Nat} {te : TE} {vs : List Nat} {σ : L2.St} {H1 : Hp} {D : Addr} {Qd : Hp → Prop} (f : Nat → V) (hD : H1 D = none)
    (hn : n ≤ 100000) (hw : ∀ x, wipe ((wipe σ vs).set k (some x)) vs = wipe σ vs)
    (hs : ∀ (i : Nat) (H : Hp) (Kt : VK), i < n → Same H1 H → (∀ H4, Same H H4 → Kt (f i) H4) → te ((wipe σ vs).set k (some (.int (lo + i)))) H Kt)
    (hd : ∀ H, Same H1 H → H D = some (.lst ((List.range n).map f)) → Qd H) :
    ∃ W : Nat → Nat → Hp → Prop, (∃ m, W 0 m (upd H1 D (.lst []))) ∧ ∀ i m H, W i m H →
      ((Itr lo n).stop i H ∧ Qd H) ∨ ((Itr lo n).go i H ∧ ∃ Nx : Hp → Prop, (∀ H', Nx H' → ∃ m', m' < m ∧ W (i + 1) m' H') ∧ ∀ x H', (Itr lo n).yld i H x H' → gName k x (wipe σ vs) H' fun σ2 H2 => wipe σ2 vs = wipe σ vs ∧ tYes σ2 H2 fun b H3 =>
        if b = true then te σ2 H3 fun y H4 => ∃ acc, H4 D = some (.lst acc) ∧ acc.length < sizeLine ∧ Nx (upd H4 D (.lst (acc ++ [y]))) else Nx H3) :=
  lc_rng (fun i v _ => v = f i) hD (fun _ _ _ _ _ h => h) hn hw (fun i H _ Kt hi s _ k => hs i H Kt hi s fun H4 s4 => k _ H4 s4 rfl) fun H rows s e l h => hd H s (by rw [e, ext_of l h])

/-- a list (at D) of n lists of n ints; none of them at a -/
def LL (a : Addr) (H : Hp) (D : Addr) (n : Nat) (F : Nat → Nat → Int) : Prop :=
  ∃ rows : List V, D ≠ a ∧ H D = some (.lst rows) ∧ rows.length = n ∧ ∀ i, i < n → ∃ r, rows[i]? = some (.ref r) ∧ r ≠ a ∧ H r = some (.lst ((List.range n).map fun j => V.int (F i j)))
theorem LL.but {a D : Addr} {H H' : Hp} {n : Nat} {F : Nat → Nat → Int} (x : LL a H D n F) (b : But a H H') : LL a H' D n F := by
  obtain ⟨rows, h1, h2, h3, h4⟩ := x
  exact ⟨rows, h1, b _ _ h1 h2, h3, fun i hi => let ⟨r, e1, e2, e3⟩ := h4 i hi; ⟨r, e1, e2, b _ _ e2 e3⟩⟩
theorem LL.congr {a D : Addr} {H : Hp} {n : Nat} {F G : Nat → Nat → Int} (x : LL a H D n F) (e : ∀ i, i < n → ∀ j, j < n → F i j = G i j) : LL a H D n G := by
  obtain ⟨rows, h1, h2, h3, h4⟩ := x
  refine ⟨rows, h1, h2, h3, fun i hi => ?_⟩
  obtain ⟨r, e1, e2, e3⟩ := h4 i hi
  refine ⟨r, e1, e2, ?_⟩
  rw [e3]
  refine congrArg (fun z => some (HO.lst z)) (List.map_congr_left fun j hj => ?_)
  rw [e i hi j (List.mem_range.mp hj)]
/-- a tuple of n tuples of n ints -/
def TT (H : Hp) (D : Addr) (n : Nat) (F : Nat → Nat → Int) : Prop :=
  ∃ rows : List V, H D = some (.tup rows) ∧ rows.length = n ∧ ∀ i, i < n → ∃ r, rows[i]? = some (.ref r) ∧ H r = some (.tup ((List.range n).map fun j => V.int (F i j)))
theorem TT.same {D : Addr} {H H' : Hp} {n : Nat} {F : Nat → Nat → Int} (x : TT H D n F) (b : ∀ c xs, H c = some (.tup xs) → H' c = some (.tup xs)) : TT H' D n F := by
  obtain ⟨rows, h2, h3, h4⟩ := x
  exact ⟨rows, b _ _ h2, h3, fun i hi => let ⟨r, e1, e3⟩ := h4 i hi; ⟨r, e1, b _ _ e3⟩⟩
/-- [[e for b in range(n)] for a in range(n)] : the outer one -/
theorem lc_LL {a : Addr} {ao : HO} {n k : Nat} {te : TE} {vs : List Nat} {σ : L2.St} {H1 : Hp} {D : Addr} {Qd : Hp → Prop} (F : Nat → Nat → Int) (hD : H1 D = none) (ha : H1 a = some ao)
    (hn : n ≤ 100000) (hw : ∀ x, wipe ((wipe σ vs).set k (some x)) vs = wipe σ vs)
    (hs : ∀ (i : Nat) (H : Hp) (Kt : VK), i < n → Same H1 H → (∀ r H4, Same H H4 → H r = none → H4 r = some (.lst ((List.range n).map fun j => V.int (F i j))) → Kt (.ref r) H4) → te ((wipe σ vs).set k (some (.int (0 + i)))) H Kt)
    (hd : ∀ H, Same H1 H → LL a H D n F → Qd H) :
    ∃ W : Nat → Nat → Hp → Prop, (∃ m, W 0 m (upd H1 D (.lst []))) ∧ ∀ i m H, W i m H →
      ((Itr 0 n).stop i H ∧ Qd H) ∨ ((Itr 0 n).go i H ∧ ∃ Nx : Hp → Prop, (∀ H', Nx H' → ∃ m', m' < m ∧ W (i + 1) m' H') ∧ ∀ x H', (Itr 0 n).yld i H x H' → gName k x (wipe σ vs) H' fun σ2 H2 => wipe σ2 vs = wipe σ vs ∧ tYes σ2 H2 fun b H3 =>
        if b = true then te σ2 H3 fun y H4 => ∃ acc, H4 D = some (.lst acc) ∧ acc.length < sizeLine ∧ Nx (upd H4 D (.lst (acc ++ [y]))) else Nx H3) := by
  refine lc_rng (fun i v H => ∃ r, v = .ref r ∧ r ≠ D ∧ r ≠ a ∧ H r = some (.lst ((List.range n).map fun j => V.int (F i j)))) hD (fun i v H H' b ⟨r, e1, e2, e3, e4⟩ => ⟨r, e1, e2, e3, b _ _ e2 e4⟩) hn hw
    (fun i H acc Kt hi s e k => hs i H Kt hi s fun r H4 s4 hr h4 => k _ H4 s4 ⟨r, rfl, (fun z => by rw [z, e] at hr; cases hr), (fun z => by rw [z, s _ _ ha] at hr; cases hr), h4⟩) fun H rows s e l h => hd H s ⟨rows, (fun z => by rw [z, ha] at hD; cases hD), e, l, fun i hi => ?_⟩
  obtain ⟨v, hv⟩ : ∃ v, rows[i]? = some v := ⟨_, List.getElem?_eq_getElem (by omega)⟩
  obtain ⟨r, rfl, _, h1, h2⟩ := h i v hv
  exact ⟨r, hv, h1, h2⟩

/-- [[e for b in range(n)] for a in range(n)] as a reading -/
theorem tab_lc {a : Addr} {ao : HO} {n ns ka kb : Nat} {te : TE} {σ : L2.St} {H : Hp} {Q : VK} (F : Nat → Nat → Int) (ha : H a = some ao) (hn : n ≤ 100000)
    (hs : ∀ (i j : Nat) (H' : Hp) (Kt : VK), i < n → j < n → Same H H' → (∀ H4, Same H' H4 → Kt (.int (F i j)) H4) → te ((wipe ((wipe σ [ka]).set ka (some (.int (i : Int)))) [kb]).set kb (some (.int (j : Int)))) H' Kt)
    (hd : ∀ H' D, Same H H' → H D = none → LL a H' D n F → Q (.ref D) H')
    (h1 : σ[ns]? = some (some (.int (n : Int))) := by rfl) (h2 : ∀ x, ((wipe σ [ka]).set ka (some x))[ns]? = some (some (.int (n : Int))) := by intro _; rfl)
    (w1 : ∀ x, wipe ((wipe σ [ka]).set ka (some x)) [ka] = wipe σ [ka] := by intro _; rfl) (w2 : ∀ y x, wipe ((wipe ((wipe σ [ka]).set ka (some y)) [kb]).set kb (some x)) [kb] = wipe ((wipe σ [ka]).set ka (some y)) [kb] := by intro _ _; rfl) :
    tLc (iRng1 (tCons (tVar ns) tNil)) (gName ka) tYes (tLc (iRng1 (tCons (tVar ns) tNil)) (gName kb) tYes te [kb]) [ka] σ H Q := by
  refine ⟨_, h1, _, rfl, by omega, by omega, fun D hD => ?_⟩
  refine lc_LL (a := a) F hD ha hn w1 (fun i H' Kt hi s k => ?_) (fun H' s l => hd H' D s hD l)
  refine ⟨_, h2 _, _, rfl, by omega, by omega, fun D' hD' => ?_⟩
  refine lc_vals (fun j => V.int (F i j)) hD' hn (w2 _) (fun j H4 Kt4 hj s4 k4 => ?_) (fun H4 s4 e4 => k D' H4 s4 hD' e4)
  rw [Int.zero_add, Int.zero_add]
  exact hs i j H4 Kt4 hi hj (fun b o e => s4 b o (s b o e)) k4

/-- [e for x in l], l a list that the turns leave as it is -/
theorem lc_lst {K : PySem.W.Frag} {L : Addr} {xs : List V} {k : Nat} {te : TE} {vs : List Nat} {σ : L2.St} {H1 : Hp} {D : Addr} {Qd : Hp → Prop} (R : Nat → V → Hp → Prop) (hD : H1 D = none) (hL : SqL K H1 L xs) (hLs : ∀ H, Same H1 H → SqL K H L xs)
    (NR : ∀ i v H H', But D H H' → R i v H → R i v H') (hn : xs.length ≤ 100000) (hw : ∀ x, wipe ((wipe σ vs).set k (some x)) vs = wipe σ vs)
    (hs : ∀ (i : Nat) (x : V) (H : Hp) (acc : List V) (Kt : VK), xs[i]? = some x → Same H1 H → H D = some (.lst acc) → (∀ y H4, Same H H4 → R i y H4 → Kt y H4) → te ((wipe σ vs).set k (some x)) H Kt)
    (hd : ∀ H rows, Same H1 H → H D = some (.lst rows) → rows.length = xs.length → (∀ (i : Nat) v, rows[i]? = some v → R i v H) → Qd H) :
    ∃ W : Nat → Nat → Hp → Prop, (∃ m, W 0 m (upd H1 D (.lst []))) ∧ ∀ i m H, W i m H →
      ((Itl K L).stop i H ∧ Qd H) ∨ ((Itl K L).go i H ∧ ∃ Nx : Hp → Prop, (∀ H', Nx H' → ∃ m', m' < m ∧ W (i + 1) m' H') ∧ ∀ x H', (Itl K L).yld i H x H' → gName k x (wipe σ vs) H' fun σ2 H2 => wipe σ2 vs = wipe σ vs ∧ tYes σ2 H2 fun b H3 =>
        if b = true then te σ2 H3 fun y H4 => ∃ acc, H4 D = some (.lst acc) ∧ acc.length < sizeLine ∧ Nx (upd H4 D (.lst (acc ++ [y]))) else Nx H3) := by
  refine lc_list (fun i H => Same H1 H ∧ ∃ rows, H D = some (.lst rows) ∧ rows.length = i ∧ ∀ (j : Nat) v, rows[j]? = some v → R j v H) ⟨same_new (Same.refl _) hD, [], upd_same, rfl, fun j v e => by simp at e⟩ (fun i H _ ⟨s1, _⟩ => hLs H s1) (fun i x H hx ⟨s1, rows, e1, e2, e3⟩ => ?_) (fun H ⟨s1, rows, e1, e2, e3⟩ => hd H rows s1 e1 e2 e3)
  refine ⟨hw _, ?_⟩
  refine yes_then ?_
  refine iteT ?_
  have hi : i < xs.length := by
    rcases Nat.lt_or_ge i xs.length with h | h
    · exact h
    · rw [List.getElem?_eq_none h] at hx; cases hx
  refine hs i x H rows _ hx s1 e1 fun y H4 s4 r4 => ⟨rows, s4 _ _ e1, ?_, same_but hD (fun b o e => s4 b o (s1 b o e)) but_app, rows ++ [y], upd_same, by rw [List.length_append, e2]; rfl, fun j v e => ?_⟩
  · rw [e2]
    exact Nat.lt_of_lt_of_le hi (Nat.le_trans hn (by decide))
  · by_cases c : j < rows.length
    · rw [List.getElem?_append_left c] at e
      exact NR _ _ _ _ (But.trans (But.of s4) but_app) (e3 j v e)
    · rw [List.getElem?_append_right (by omega)] at e
      have hj : j = i := by
        have : j - rows.length < [y].length := by
          rcases Nat.lt_or_ge (j - rows.length) [y].length with h | h
          · exact h
          · rw [List.getElem?_eq_none h] at e; cases e
        have h1 : [y].length = 1 := rfl
        omega
      subst hj
      rw [e2, Nat.sub_self] at e
      have : y = v := by simpa using e
      subst this
      exact NR _ _ _ _ but_app r4
/-- [[e for b in l] for a in l], l a list of n things, as a reading: a list of n lists of n ints -/
theorem tab_lst {K : PySem.W.Frag} {a L : Addr} {ao : HO} {xs : List V} {n ns ka kb : Nat} {te : TE} {σ : L2.St} {H : Hp} {Q : VK} (F : Nat → Nat → Int) (ha : H a = some ao) (hL : H L = some (.lst xs)) (hxl : xs.length = n) (hn : n ≤ 100000)
    (hs : ∀ (i j : Nat) (x y : V) (H' : Hp) (Kt : VK), i < n → j < n → xs[i]? = some x → xs[j]? = some y → Same H H' → (∀ H4, Same H' H4 → Kt (.int (F i j)) H4) → te ((wipe ((wipe σ [ka]).set ka (some x)) [kb]).set kb (some y)) H' Kt)
    (hd : ∀ H' D, Same H H' → H D = none → LL a H' D n F → Q (.ref D) H')
    (h1 : σ[ns]? = some (some (.ref L)) := by rfl) (h2 : ∀ x, ((wipe σ [ka]).set ka (some x))[ns]? = some (some (.ref L)) := by intro _; rfl)
    (w1 : ∀ x, wipe ((wipe σ [ka]).set ka (some x)) [ka] = wipe σ [ka] := by intro _; rfl) (w2 : ∀ y x, wipe ((wipe ((wipe σ [ka]).set ka (some y)) [kb]).set kb (some x)) [kb] = wipe ((wipe σ [ka]).set ka (some y)) [kb] := by intro _ _; rfl) :
    tLc (iList K (tVar ns)) (gName ka) tYes (tLc (iList K (tVar ns)) (gName kb) tYes te [kb]) [ka] σ H Q := by
  have at_ : ∀ {i : Nat} {x : V}, xs[i]? = some x → i < n := fun {i x} h => by
    rcases Nat.lt_or_ge i xs.length with h' | h'
    · omega
    · rw [List.getElem?_eq_none h'] at h; cases h
  refine ⟨_, h1, L, rfl, ⟨xs, SqL.of hL⟩, fun D hD => ?_⟩
  refine lc_lst (K := K) (xs := xs) (fun i v H => ∃ r, v = .ref r ∧ r ≠ D ∧ r ≠ a ∧ H r = some (.lst ((List.range n).map fun j => V.int (F i j)))) hD (SqL.of hL) (fun H' s => SqL.of (s _ _ hL)) (fun i v H H' b ⟨r, e1, e2, e3, e4⟩ => ⟨r, e1, e2, e3, b _ _ e2 e4⟩) (by omega) w1 (fun i x H' acc Kt hx s e k => ?_) (fun H' rows s e l h => ?_)
  · refine ⟨_, h2 _, L, rfl, ⟨xs, SqL.of (s _ _ hL)⟩, fun D' hD' => ?_⟩
    refine lc_lst (K := K) (xs := xs) (fun j v _ => v = V.int (F i j)) hD' (SqL.of (s _ _ hL)) (fun H4 s4 => SqL.of (s4 _ _ (s _ _ hL))) (fun _ _ _ _ _ h => h) (by omega) (w2 _) (fun j y H4 acc' Kt4 hy s4 e4 k4 => ?_) (fun H4 rows s4 e4 l4 h4 => ?_)
    · exact hs i j x y H4 Kt4 (at_ hx) (at_ hy) hx hy (fun b o e => s4 b o (s b o e)) fun H5 s5 => k4 _ H5 s5 rfl
    · refine k _ H4 s4 ⟨D', rfl, (fun z => by rw [z, e] at hD'; cases hD'), (fun z => by rw [z, s _ _ ha] at hD'; cases hD'), ?_⟩
      rw [e4, ext_of (l4.trans hxl) h4]
  · refine hd H' D s hD ⟨rows, (fun z => by rw [z, ha] at hD; cases hD), e, l.trans hxl, fun i hi => ?_⟩
    obtain ⟨v, hv⟩ : ∃ v, rows[i]? = some v := ⟨_, List.getElem?_eq_getElem (by omega)⟩
    obtain ⟨r, rfl, _, h1, h2⟩ := h i v hv
    exact ⟨r, hv, h1, h2⟩
abbrev rTupOf (K : PySem.W.Frag) : List V → Hp → VK → Prop := fun xs H Q => ∃ p ys, xs = [.ref p] ∧ ((SqL K H p ys ∧ ∀ l, H l = none → Q (.ref l) (upd H l (.tup ys))) ∨ (SqT K H p ys ∧ Q (.ref p) H))
/-- tuple([tuple([e for b in range(n)]) for a in range(n)]) as a reading -/
theorem tab_tt {K : PySem.W.Frag} {n ns ka kb : Nat} {te : TE} {σ : L2.St} {H : Hp} {Q : VK} (F : Nat → Nat → Int) (hn : n ≤ 100000)
    (hs : ∀ (i j : Nat) (H' : Hp) (Kt : VK), i < n → j < n → Same H H' → (∀ H4, Same H' H4 → Kt (.int (F i j)) H4) → te ((wipe ((wipe σ [ka]).set ka (some (.int (i : Int)))) [kb]).set kb (some (.int (j : Int)))) H' Kt)
    (hd : ∀ H' D, Same H H' → TT H' D n F → Q (.ref D) H')
    (h1 : σ[ns]? = some (some (.int (n : Int))) := by rfl) (h2 : ∀ x, ((wipe σ [ka]).set ka (some x))[ns]? = some (some (.int (n : Int))) := by intro _; rfl)
    (w1 : ∀ x, wipe ((wipe σ [ka]).set ka (some x)) [ka] = wipe σ [ka] := by intro _; rfl) (w2 : ∀ y x, wipe ((wipe ((wipe σ [ka]).set ka (some y)) [kb]).set kb (some x)) [kb] = wipe ((wipe σ [ka]).set ka (some y)) [kb] := by intro _ _; rfl) :
    tCB (rTupOf K) (tCons (tLc (iRng1 (tCons (tVar ns) tNil)) (gName ka) tYes (tCB (rTupOf K) (tCons (tLc (iRng1 (tCons (tVar ns) tNil)) (gName kb) tYes te [kb]) tNil)) [ka]) tNil) σ H Q := by
  refine ⟨_, h1, _, rfl, by omega, by omega, fun D hD => ?_⟩
  rw [Int.toNat_natCast]
  refine lc_rng (lo := 0) (n := n) (fun i v H => ∃ r, v = .ref r ∧ r ≠ D ∧ H r = some (.tup ((List.range n).map fun j => V.int (F i j)))) hD (fun i v H H' b ⟨r, e1, e2, e3⟩ => ⟨r, e1, e2, b _ _ e2 e3⟩) hn w1 (fun i H' acc Kt hi s e k => ?_) (fun H' rows s e l h => ?_)
  · rw [Int.zero_add]
    refine ⟨_, h2 _, _, rfl, by omega, by omega, fun D' hD' => ?_⟩
    rw [Int.toNat_natCast]
    refine lc_vals (lo := 0) (n := n) (fun j => V.int (F i j)) hD' hn (w2 _) (fun j H4 Kt4 hj s4 k4 => ?_) (fun H4 s4 e4 => ?_)
    · rw [Int.zero_add]
      exact hs i j H4 Kt4 hi hj (fun b o e => s4 b o (s b o e)) k4
    · refine ⟨D', _, rfl, .inl ⟨SqL.of e4, fun r hr => ?_⟩⟩
      exact k _ _ (fun b o e => same_new (Same.refl _) hr b o (s4 b o e)) ⟨r, rfl, (fun z => by rw [z, s4 _ _ e] at hr; cases hr), upd_same⟩
  · refine ⟨D, rows, rfl, .inl ⟨SqL.of e, fun q hq => ?_⟩⟩
    have sq : Same H' (upd H' q (.tup rows)) := same_new (Same.refl _) hq
    refine hd _ q (fun b o e => sq b o (s b o e)) ⟨rows, upd_same, l, fun i hi => ?_⟩
    obtain ⟨v, hv⟩ : ∃ v, rows[i]? = some v := ⟨_, List.getElem?_eq_getElem (by omega)⟩
    obtain ⟨r, rfl, _, h2⟩ := h i v hv
    exact ⟨r, hv, sq _ _ h2⟩
section
variable {X : Cx} {o e : Expr} {es : List Expr} {to : TE} {t : TA} {name : Str} {apos cpos : Pos} {T id : String} {r : V → List V → Hp → VK → Prop}
theorem kpe_bm {K : PySem.W.Frag} (pa : PlainAttrs T) (slot : Slot T name id) (hty : typeOf (.builtin id) = pure (.type "method_descriptor")) (hm : MtR X id r) (ho : PE X o to) (ha : PA X (e :: es) t) (hK : X.K = K := by rfl)
    (hbase : attributeBase o name X.env (eval o X.env) = eval o X.env := by rfl)
    (hfew : ((backTo cpos (starEach (e :: es) X.env)).all (fun x => !x.1) && (backToKw cpos (keywordEach [] X.env)).all (fun x => x.1.isSome)
      && decide ((e :: es).length + ([] : List Keyword).length + (if ([] : List Keyword).isEmpty then 0 else 1) < 30)) = true := by rfl)
    (hline : (apos.endLine == cpos.line) = true := by rfl) (hs : starEach (e :: es) X.env = (false, eval e X.env) :: starEach es X.env := by rfl) (hplain : (backTo cpos (starEach es X.env)).any (·.1) = false := by rfl) :
    PE X (.Call (.Attribute o name apos) (e :: es) [] cpos) (tBM K T r to t) := hK ▸ pe_bm pa slot hty hm ho ha hbase hfew hline hs hplain
theorem kmt_index {K : PySem.W.Frag} (hK : X.K = K := by rfl) : MtR X "list.index" (rIndex K) := hK ▸ mt_index
theorem kcall_tuple_of {K : PySem.W.Frag} (hK : X.K = K := by rfl) : CallR X (.type "tuple") (rTupOf K) := hK ▸ call_tuple_of
end
theorem erase_perm {α : Type} : ∀ (l : List α) (i : Nat) (y : α), l[i]? = some y → (y :: l.eraseIdx i).Perm l
  | [], i, y, e => by simp at e
  | a :: l, 0, y, e => by
    have q : a = y := by simpa using e
    subst q
    exact List.Perm.refl _
  | a :: l, i + 1, y, e => by
    have q := erase_perm l i y (by simpa using e)
    show (y :: a :: l.eraseIdx i).Perm (a :: l)
    exact (List.Perm.swap a y _).trans (q.cons a)
/-- names: a renaming of 0 .. n - 1 that keeps 0, and its inverse -/
theorem ren_of {n : Nat} {ns : List Nat} (p : ns.Perm (List.range n)) (h0 : ns[0]? = some 0) :
    (∀ i, i < n → ns[i]? = some (ns.getD i 0)) ∧ (∀ i, i < n → ns.getD i 0 < n) ∧ (∀ k, k < n → ns.idxOf k < n) ∧ (∀ k, k < n → ns.getD (ns.idxOf k) 0 = k) ∧ (∀ i, i < n → ns.idxOf (ns.getD i 0) = i) ∧ ns.getD 0 0 = 0 := by
  have hl : ns.length = n := by rw [p.length_eq, List.length_range]
  have nd : ns.Nodup := p.nodup_iff.mpr List.nodup_range
  have at_ : ∀ i, i < n → ns[i]? = some (ns.getD i 0) := fun i hi => by
    rw [List.getD_eq_getElem?_getD, List.getElem?_eq_getElem (by omega)]
    rfl
  have mem : ∀ k, k < n → k ∈ ns := fun k hk => p.mem_iff.mpr (List.mem_range.mpr hk)
  have ix : ∀ k, k < n → ns.idxOf k < n := fun k hk => by
    have := List.idxOf_lt_length_iff.mpr (mem k hk)
    omega
  refine ⟨at_, fun i hi => List.mem_range.mp (p.mem_iff.mp (List.mem_of_getElem? (at_ i hi))), ix, fun k hk => ?_, fun i hi => ?_, ?_⟩
  · have h := ix k hk
    rw [← hl] at h
    rw [List.getD_eq_getElem?_getD, List.getElem?_eq_getElem h, List.getElem_idxOf h]
    rfl
  · have h : i < ns.length := by omega
    rw [List.getD_eq_getElem?_getD, List.getElem?_eq_getElem h]
    exact nd.idxOf_getElem i h
  · rw [List.getD_eq_getElem?_getD, h0]
    rfl
theorem idx_first {n : Nat} {ns : List Nat} (p : ns.Perm (List.range n)) {k m z : Nat} (h : m < ns.idxOf k) (e : ns[m]? = some z) : z ≠ k := fun q => by
  have nd : ns.Nodup := p.nodup_iff.mpr List.nodup_range
  obtain ⟨hm, e⟩ := List.getElem?_eq_some_iff.mp e
  have := nd.idxOf_getElem m hm
  rw [e, q] at this
  omega
theorem go_seq {te : TE} {g : TG} {u : TS} {D : Ends} {σ : L2.St} {H : Hp} (h : te σ H fun x H1 => g x σ H1 fun σ' H' => u D σ' H') : tSeq (tAsg te g) u D σ H := h
theorem go_next {f : L2.St → Hp → Prop} {rt : VK} {bk ct : L2.St → Hp → Prop} {σ : L2.St} {H : Hp} (h : f σ H) : tNext ⟨f, rt, bk, ct⟩ σ H := h
theorem go_nx {f : L2.St → Hp → Prop} {rt : VK} {bk ct : L2.St → Hp → Prop} {σ : L2.St} {H : Hp} (h : f σ H) : (Ends.mk f rt bk ct).nx σ H := h
theorem go_ret {te : TE} {D : Ends} {σ : L2.St} {H : Hp} (h : te σ H D.rt) : tRet te D σ H := h
theorem go_tup {t : TA} {σ : L2.St} {H : Hp} {Q : VK} (h : t σ H fun xs H1 => xs.length ≤ sizeLine ∧ ∀ p, H1 p = none → Q (.ref p) (upd H1 p (.tup xs))) : tTup t σ H Q := h
theorem go_lst {t : TA} {σ : L2.St} {H : Hp} {Q : VK} (h : t σ H fun xs H1 => xs.length ≤ sizeLine ∧ ∀ p, H1 p = none → Q (.ref p) (upd H1 p (.lst xs))) : tLst t σ H Q := h
theorem go_cons {t : TE} {u : TA} {σ : L2.St} {H : Hp} {Q : List V → Hp → Prop} (h : t σ H fun x H1 => u σ H1 fun xs H2 => Q (x :: xs) H2) : tCons t u σ H Q := h
theorem go_nil {σ : L2.St} {H : Hp} {Q : List V → Hp → Prop} (h : Q [] H) : tNil σ H Q := h
theorem go_var {i : Nat} {v : V} {σ : L2.St} {H : Hp} {Q : VK} (e : σ[i]? = some (some v)) (h : Q v H) : tVar i σ H Q := ⟨v, e, h⟩
theorem go_name {i : Nat} {v v' : V} {σ : L2.St} {H : Hp} {Q : L2.St → Hp → Prop} (e : v = v') (h : Q (σ.set i (some v')) H) : gName i v σ H Q := e ▸ h
end Tb

set_option Elab.async false
set_option linter.all false
set_option maxRecDepth 100000
set_option maxHeartbeats 4000000
/-! Defs that hold a generator expression; readings of all(..), any(..) where every turn goes on. -/
namespace Tb
open PySem PySem.Spec PyProof.Rows L2 Ew EwG GxR

/-- a def whose code object stands at c -/
structure FunC (K : PySem.W.Frag) (x qual : Str) (st : Stmt) (f : Addr) (fd : FuncData) (c : Addr) : Prop where
  ex : ∃ (oc : Value) (od : Option Addr) (kV doc pm : Value) (an : Option Addr) (ct : Value) (osl : Array (Option Value)),
    fd = PySem.W.fnOf x qual (defArgs st) (defBody st) (defScope st) .none kV doc pm an (.ref c) ct ∧ K.lookup f = some ⟨oc, od, .func fd, osl⟩ ∧ PySem.W.codeIn K (.ref c) qual = true
  kp : PySem.W.keepIn K (.ref f) = true
section
variable {P : Program} {w : World} {K : PySem.W.Frag} {mg : Str → Option Value} {base : Heap}
theorem FunC.okX {x qual : Str} {st : Stmt} {f c : Addr} {fd : FuncData} {N ps : List Str} {k : Nat} {sp : Sp} (F : FunC K x qual st f fd c) (S : FnScope N ps (defScope st)) (len : ∀ vs H Q E, sp vs H Q E → vs.length = ps.length)
    (hbody : ∀ (A : Around) (outer : List Env) (s : Shared) (H : Hp) (vs : List V) (Q : VK) (E : XK), Room k (A.deeper (envOfC qual (defScope st) s.heap.objs.size f (.ref c))) → sp vs H Q E →
      ∃ t, PSs (cxOf (L2.CX P w) P w K mg base N qual (defScope st) f (.ref c) A outer s H E) (defBody st) t ∧ t { nx := fun _ H' => Q .non H', rt := Q } (start N vs) H) : FnOk P w K mg base (L2.CX P w) (k + 1) f fd ps sp := by
  obtain ⟨oc, od, kV, doc, pm, an, ct, osl, rfl, lk, hcd⟩ := F.ex
  exact fn_of lk hcd S len fun A outer s H vs Q E hr hsp => hbody A outer s H vs Q E hr hsp
theorem FunC.fun_ {x qual : Str} {st : Stmt} {f c : Addr} {fd : FuncData} (F : FunC K x qual st f fd c) : Fun K x qual st f fd := by
  obtain ⟨oc, od, kV, doc, pm, an, ct, osl, rfl, lk, hcd⟩ := F.ex
  exact ⟨⟨oc, od, kV, doc, pm, an, .ref c, ct, osl, rfl, lk, hcd⟩, F.kp⟩
theorem func_mk {x qual : Str} {st : Stmt} {f c : Addr} {oc : Value} {od an : Option Addr} {osl : Array (Option Value)} {kV doc pm ct : Value} (l : K.lookup f = some ⟨oc, od, .func (PySem.W.fnOf x qual (defArgs st) (defBody st) (defScope st) .none kV doc pm an (.ref c) ct), osl⟩)
    (cc : PySem.W.codeIn K (.ref c) qual = true) (k : PySem.W.keepIn K (.ref f) = true) : FunC K x qual st f (PySem.W.fnOf x qual (defArgs st) (defBody st) (defScope st) .none kV doc pm an (.ref c) ct) c := ⟨⟨oc, od, kV, doc, pm, an, ct, osl, rfl, l, cc⟩, k⟩
end
def rAnyT (K : PySem.W.Frag) : List V → Hp → VK → Prop := fun vs H Q => ∃ (a : Addr) (ns : List Int), vs = [V.ref a] ∧ SqT K H a (ns.map V.int) ∧ Q (.bl (ns.any fun i => i != 0)) H
theorem cr_anyT {X : Cx} (hc : X.calm = true) : CallR X (.builtin "any") (rAnyT X.K) := by
  intro pins s σ H vs us Q I r h
  obtain ⟨a, ns, rfl, hs, q⟩ := h
  obtain ⟨its, rv, hl, _⟩ := I.tuple hs
  rw [Vals.ref1 r]
  have hlt : a < s.heap.objs.size := hl.lt
  refine call_any_walk ?_
  refine wpAny_pyIter_tuple (show s.heap.IsTuple a its.toArray from hl) ?_
  refine ⟨_, _, _, _, _, _, fun i => (ns.getD i 0) != 0, rfl, Walks.tuple (A := X.A.in1) (I.ok.hd hc) _ a (Nat.ne_of_lt hlt) its.toArray, ⟨⟨_, Heap.get?_push_size _ rfl, rfl, rfl⟩, (show s.heap.IsTuple a its.toArray from hl).push _⟩, fun i v s' Q' E' hv hq => ?_, fun h' tk hk => ?_⟩
  · have hv' : its[i]? = some v := by simpa using hv
    obtain ⟨n, hn⟩ : ∃ n, ns[i]? = some n := by
      have l := rv.length
      rw [List.length_map] at l
      have : i < its.length := by
        rcases Nat.lt_or_ge i its.length with h | h
        · exact h
        · rw [List.getElem?_eq_none h] at hv'; cases hv'
      exact ⟨_, List.getElem?_eq_getElem (by omega)⟩
    obtain ⟨u, e1, e2⟩ := rv.get (x := V.int n) (i := i) (by rw [List.getElem?_map, hn]; rfl)
    rw [hv'] at e1
    cases e1
    obtain ⟨t, rfl⟩ := e2
    have hq' : Q' ((ns.getD i 0) != 0) s' := hq
    rw [List.getD_eq_getElem?_getD, hn] at hq'
    first | exact PySem.truthy_int hq' | exact PySem.P.truthy_int hq' | exact truthy_int hq'
  · refine ⟨.bl _, H, I.kept fun b o eo => hk b o (fun hmem => ?_) (Heap.get?_push_of_some _ eo), ?_, q⟩
    · rcases List.mem_cons.mp hmem with e1 | hmem
      · exact absurd (e1 ▸ Heap.lt_size eo) (Nat.lt_irrefl _)
      · cases hmem
    · show Value.bool _ = Value.bool _
      have l := rv.length
      rw [List.length_map] at l
      rw [List.size_toArray, ← l]
      have key : ∀ ns : List Int, (List.range ns.length).any (fun i => ns.getD i 0 != 0) = ns.any fun i => i != 0 := fun ns => by
        induction ns with
        | nil => rfl
        | cons b bs ih =>
          rw [List.length_cons, List.range_succ_eq_map, List.any_cons, List.any_map, List.any_cons, ← ih]
          rfl
      rw [key]
/-- a statement that is never reached -/
def tNever : TS := fun _ _ _ => False
theorem ps_never {X : Cx} {st : Stmt} : PS X st tNever := ⟨fun _ _ _ _ _ _ h => h.elim⟩

/-- the heap has grown; tables too -/
structure FrT (H H' : Hp) : Prop where
  keep : ∀ b o, H b = some o → (∀ ps, o ≠ .tbl ps) → H' b = some o
  tabs : ∀ P, TabG H P → TabG H' P
theorem FrT.refl (H : Hp) : FrT H H := ⟨fun _ _ h _ => h, fun _ h => h⟩
theorem FrT.trans {H H' H'' : Hp} (x : FrT H H') (y : FrT H' H'') : FrT H H'' := ⟨fun b o h n => y.keep b o (x.keep b o h n) n, fun P h => y.tabs P (x.tabs P h)⟩
theorem FrT.of {H H' : Hp} (s : Same H H') : FrT H H' := ⟨fun b o h _ => s b o h, fun P h => let ⟨ps, e, t⟩ := h; ⟨ps, s _ _ e, t⟩⟩
theorem FrT.tab {P : Addr} {H H' : Hp} (t : TabG H P) (x : Tabbed P H H') : FrT H H' := by
  refine ⟨fun b o h n => ?_, fun P' h => ?_⟩
  · by_cases e : b = P
    · obtain ⟨ps, e2, _⟩ := t
      rw [e, e2] at h
      cases h
      exact absurd rfl (n ps)
    · rw [x.2 b e]; exact h
  · by_cases e : P' = P
    · rw [e]; exact x.1
    · obtain ⟨ps, e2, e3⟩ := h
      exact ⟨ps, by rw [x.2 P' e]; exact e2, e3⟩
theorem FrT.tup {H H' : Hp} (x : FrT H H') {b : Addr} {xs : List V} (h : H b = some (.tup xs)) : H' b = some (.tup xs) := x.keep b _ h fun ps z => by cases z
theorem FrT.lst {H H' : Hp} (x : FrT H H') {b : Addr} {xs : List V} (h : H b = some (.lst xs)) : H' b = some (.lst xs) := x.keep b _ h fun ps z => by cases z
theorem FrT.ins {H H' : Hp} (x : FrT H H') {b C d : Addr} {fs : List (Str × V)} (h : H b = some (.ins C d fs)) : H' b = some (.ins C d fs) := x.keep b _ h fun ps z => by cases z

theorem gw_rng {n k : Nat} {te : TE} {vs : List Nat} {σ : L2.St} {e : Bool} {Q : VK} {H2 : Hp} (hw : ∀ x, wipe ((wipe σ vs).set k (some x)) vs = wipe σ vs)
    (hs : ∀ (i : Nat) (Kt : VK), i < n → Kt (.bl e) H2 → te ((wipe σ vs).set k (some (.int (i : Int)))) H2 Kt) (hd : Q (.bl e) H2) :
    ∃ W : Nat → Nat → Hp → Prop, (∃ m, W 0 m H2) ∧ GW (Itr 0 n) (gName k) te vs σ e Q W := by
  refine ⟨fun i m H => m = n - i ∧ i ≤ n ∧ H = H2, ⟨n, by simp, Nat.zero_le _, rfl⟩, ?_⟩
  rintro i m H ⟨rfl, hi, rfl⟩
  by_cases hlt : i < n
  · refine .inr ⟨hlt, fun x H' y => ?_⟩
    obtain ⟨e1, y⟩ := y
    subst e1 y
    refine ⟨hw _, ?_⟩
    rw [Int.zero_add]
    exact hs i _ hlt ⟨e, rfl, fun _ => ⟨n - (i + 1), by omega, rfl, hlt, rfl⟩, fun z => absurd rfl z⟩
  · have e1 : i = n := by omega
    subst e1
    exact .inl ⟨Nat.le_refl _, hd⟩
theorem gw_lst {K : PySem.W.Frag} {L : Addr} {xs : List V} {k : Nat} {te : TE} {vs : List Nat} {σ : L2.St} {e : Bool} {Q : VK} {H2 : Hp} (hL : SqL K H2 L xs) (hw : ∀ x, wipe ((wipe σ vs).set k (some x)) vs = wipe σ vs)
    (hs : ∀ (i : Nat) (x : V) (Kt : VK), xs[i]? = some x → Kt (.bl e) H2 → te ((wipe σ vs).set k (some x)) H2 Kt) (hd : Q (.bl e) H2) :
    ∃ W : Nat → Nat → Hp → Prop, (∃ m, W 0 m H2) ∧ GW (Itl K L) (gName k) te vs σ e Q W := by
  refine ⟨fun i m H => m = xs.length - i ∧ i ≤ xs.length ∧ H = H2, ⟨xs.length, by simp, Nat.zero_le _, rfl⟩, ?_⟩
  rintro i m H ⟨rfl, hi, rfl⟩
  by_cases hlt : i < xs.length
  · refine .inr ⟨⟨xs, xs[i], hL, by simp [hlt]⟩, fun x H' y => ?_⟩
    obtain ⟨e1, y⟩ := y
    subst e1
    refine ⟨hw _, ?_⟩
    exact hs i x _ (y xs hL) ⟨e, rfl, fun _ => ⟨xs.length - (i + 1), by omega, rfl, hlt, rfl⟩, fun z => absurd rfl z⟩
  · have e1 : i = xs.length := by omega
    subst e1
    exact .inl ⟨⟨xs, hL, Nat.le_refl _⟩, hd⟩
theorem gw_tup {K : PySem.W.Frag} {L : Addr} {xs : List V} {k : Nat} {te : TE} {vs : List Nat} {σ : L2.St} {e : Bool} {Q : VK} {H2 : Hp} (hL : SqT K H2 L xs) (hw : ∀ x, wipe ((wipe σ vs).set k (some x)) vs = wipe σ vs)
    (hs : ∀ (i : Nat) (x : V) (Kt : VK), xs[i]? = some x → Kt (.bl e) H2 → te ((wipe σ vs).set k (some x)) H2 Kt) (hd : Q (.bl e) H2) :
    ∃ W : Nat → Nat → Hp → Prop, (∃ m, W 0 m H2) ∧ GW (Itt K L) (gName k) te vs σ e Q W := by
  refine ⟨fun i m H => m = xs.length - i ∧ i ≤ xs.length ∧ H = H2, ⟨xs.length, by simp, Nat.zero_le _, rfl⟩, ?_⟩
  rintro i m H ⟨rfl, hi, rfl⟩
  by_cases hlt : i < xs.length
  · refine .inr ⟨⟨xs, xs[i], hL, by simp [hlt]⟩, fun x H' y => ?_⟩
    obtain ⟨e1, y⟩ := y
    subst e1
    refine ⟨hw _, ?_⟩
    exact hs i x _ (y xs hL) ⟨e, rfl, fun _ => ⟨xs.length - (i + 1), by omega, rfl, hlt, rfl⟩, fun z => absurd rfl z⟩
  · have e1 : i = xs.length := by omega
    subst e1
    exact .inl ⟨⟨xs, hL, Nat.le_refl _⟩, hd⟩
/-- .. for a in range(n) for b in range(a) -/
theorem gw2_rng {n ka kb : Nat} {te : TE} {vs : List Nat} {σ : L2.St} {e : Bool} {Q : VK} {H2 : Hp} (hn : n ≤ 100000) (h2 : ∀ x, ((wipe σ vs).set ka (some x))[ka]? = some (some x)) (w1 : ∀ x, wipe ((wipe σ vs).set ka (some x)) vs = wipe σ vs)
    (w2 : ∀ y x, wipe ((wipe ((wipe σ vs).set ka (some y)) [kb]).set kb (some x)) [kb] = wipe ((wipe σ vs).set ka (some y)) [kb])
    (hs : ∀ (i j : Nat) (Kt : VK), i < n → j < i → Kt (.bl e) H2 → te ((wipe ((wipe σ vs).set ka (some (.int (i : Int)))) [kb]).set kb (some (.int (j : Int)))) H2 Kt) (hd : Q (.bl e) H2) :
    ∃ W : Nat → Nat → Hp → Prop, (∃ m, W 0 m H2) ∧ GW2 (Itr 0 n) (gName ka) (iRng1 (tCons (tVar ka) tNil)) (gName kb) te vs [kb] σ e Q W := by
  have step : ∀ i, i < n → (n - i) * (n + 1) = (n - (i + 1)) * (n + 1) + n + 1 := fun i hi => by
    have : n - i = (n - (i + 1)) + 1 := by omega
    rw [this, Nat.succ_mul]
    omega
  refine ⟨fun i m H => m = (n - i) * (n + 1) ∧ i ≤ n ∧ H = H2, ⟨_, rfl, Nat.zero_le _, rfl⟩, ?_⟩
  rintro i m H ⟨rfl, hi, rfl⟩
  by_cases hlt : i < n
  · have st := step i hlt
    refine .inr ⟨hlt, fun x HH y => ?_⟩
    obtain ⟨e1, y⟩ := y
    subst e1 y
    refine ⟨w1 _, ?_⟩
    rw [Int.zero_add]
    refine ⟨_, h2 _, _, rfl, by omega, by omega, ?_⟩
    rw [Int.toNat_natCast]
    refine ⟨fun j k H' => k = (n - i) * (n + 1) - 1 - j ∧ j ≤ i ∧ H' = HH, ⟨_, ?_, rfl, Nat.zero_le _, rfl⟩, ?_⟩
    · omega
    rintro j k H' ⟨rfl, hj, rfl⟩
    by_cases hlj : j < i
    · refine .inr ⟨hlj, fun x H4 y => ?_⟩
      obtain ⟨e1, y⟩ := y
      subst e1 y
      refine ⟨w2 _ _, ?_⟩
      rw [Int.zero_add]
      exact hs i j _ hlt hlj ⟨e, rfl, fun _ => ⟨(n - i) * (n + 1) - 1 - (j + 1), by omega, rfl, hlj, rfl⟩, fun z => absurd rfl z⟩
    · have e1 : j = i := by omega
      subst e1
      exact .inl ⟨Nat.le_refl _, (n - (j + 1)) * (n + 1), by omega, by omega, rfl, hlt, rfl⟩
  · have e1 : i = n := by omega
    subst e1
    exact .inl ⟨Nat.le_refl _, hd⟩
/-- [e for x in l], l a list that the turns leave as it is -/
theorem lc_tupR {K : PySem.W.Frag} {L : Addr} {xs : List V} {k : Nat} {te : TE} {vs : List Nat} {σ : L2.St} {H1 : Hp} {D : Addr} {Qd : Hp → Prop} (R : Nat → V → Hp → Prop) (hD : H1 D = none) (hL : SqT K H1 L xs) (hLs : ∀ H, Same H1 H → SqT K H L xs)
    (NR : ∀ i v H H', But D H H' → R i v H → R i v H') (hn : xs.length ≤ 100000) (hw : ∀ x, wipe ((wipe σ vs).set k (some x)) vs = wipe σ vs)
    (hs : ∀ (i : Nat) (x : V) (H : Hp) (acc : List V) (Kt : VK), xs[i]? = some x → Same H1 H → H D = some (.lst acc) → (∀ y H4, Same H H4 → R i y H4 → Kt y H4) → te ((wipe σ vs).set k (some x)) H Kt)
    (hd : ∀ H rows, Same H1 H → H D = some (.lst rows) → rows.length = xs.length → (∀ (i : Nat) v, rows[i]? = some v → R i v H) → Qd H) :
    ∃ W : Nat → Nat → Hp → Prop, (∃ m, W 0 m (upd H1 D (.lst []))) ∧ ∀ i m H, W i m H →
      ((Itt K L).stop i H ∧ Qd H) ∨ ((Itt K L).go i H ∧ ∃ Nx : Hp → Prop, (∀ H', Nx H' → ∃ m', m' < m ∧ W (i + 1) m' H') ∧ ∀ x H', (Itt K L).yld i H x H' → gName k x (wipe σ vs) H' fun σ2 H2 => wipe σ2 vs = wipe σ vs ∧ tYes σ2 H2 fun b H3 =>
        if b = true then te σ2 H3 fun y H4 => ∃ acc, H4 D = some (.lst acc) ∧ acc.length < sizeLine ∧ Nx (upd H4 D (.lst (acc ++ [y]))) else Nx H3) := by
  refine lc_tup (fun i H => Same H1 H ∧ ∃ rows, H D = some (.lst rows) ∧ rows.length = i ∧ ∀ (j : Nat) v, rows[j]? = some v → R j v H) ⟨same_new (Same.refl _) hD, [], upd_same, rfl, fun j v e => by simp at e⟩ (fun i H _ ⟨s1, _⟩ => hLs H s1) (fun i x H hx ⟨s1, rows, e1, e2, e3⟩ => ?_) (fun H ⟨s1, rows, e1, e2, e3⟩ => hd H rows s1 e1 e2 e3)
  refine ⟨hw _, ?_⟩
  refine yes_then ?_
  refine iteT ?_
  have hi : i < xs.length := by
    rcases Nat.lt_or_ge i xs.length with h | h
    · exact h
    · rw [List.getElem?_eq_none h] at hx; cases hx
  refine hs i x H rows _ hx s1 e1 fun y H4 s4 r4 => ⟨rows, s4 _ _ e1, ?_, same_but hD (fun b o e => s4 b o (s1 b o e)) but_app, rows ++ [y], upd_same, by rw [List.length_append, e2]; rfl, fun j v e => ?_⟩
  · rw [e2]
    exact Nat.lt_of_lt_of_le hi (Nat.le_trans hn (by decide))
  · by_cases c : j < rows.length
    · rw [List.getElem?_append_left c] at e
      exact NR _ _ _ _ (But.trans (But.of s4) but_app) (e3 j v e)
    · rw [List.getElem?_append_right (by omega)] at e
      have hj : j = i := by
        have : j - rows.length < [y].length := by
          rcases Nat.lt_or_ge (j - rows.length) [y].length with h | h
          · exact h
          · rw [List.getElem?_eq_none h] at e; cases e
        have h1 : [y].length = 1 := rfl
        omega
      subst hj
      rw [e2, Nat.sub_self] at e
      have : y = v := by simpa using e
      subst this
      exact NR _ _ _ _ but_app r4
end Tb

set_option Elab.async false
set_option linter.all false
set_option maxRecDepth 100000
set_option maxHeartbeats 4000000
/-! Dicts whose keys are nested tuples, in the hand layer: the object, and d[k], k in d, k not in d, d[k] = v, d.get(k), {}, displays. -/
namespace ND
open PySem PySem.W L2
open Sem (wp)

/-! ### keys -/
mutual
inductive Ky (H : Hp) : NestedKey → V → Prop
  | non : Ky H .none .non
  | int (i : Int) : Ky H (.num i) (.int i)
  | str (x : Str) : Ky H (.text x) (.str x)
  | tup {a : Addr} {xs : List V} {ks : List NestedKey} : H a = some (.tup xs) → Kys H ks xs → Ky H (.tup ks) (.ref a)
inductive Kys (H : Hp) : List NestedKey → List V → Prop
  | nil : Kys H [] []
  | cons {k : NestedKey} {x : V} {ks : List NestedKey} {xs : List V} : Ky H k x → Kys H ks xs → Kys H (k :: ks) (x :: xs)
end
mutual
theorem Ky.keeps {H H' : Hp} (ht : ∀ b ys, H b = some (.tup ys) → H' b = some (.tup ys)) : ∀ {k : NestedKey} {v : V}, Ky H k v → Ky H' k v
  | _, _, .non => .non
  | _, _, .int i => .int i
  | _, _, .str x => .str x
  | _, _, .tup e r => .tup (ht _ _ e) (Kys.keeps ht r)
theorem Kys.keeps {H H' : Hp} (ht : ∀ b ys, H b = some (.tup ys) → H' b = some (.tup ys)) : ∀ {ks : List NestedKey} {xs : List V}, Kys H ks xs → Kys H' ks xs
  | _, _, .nil => .nil
  | _, _, .cons a r => .cons (Ky.keeps ht a) (Kys.keeps ht r)
end
mutual
theorem Ky.is {P : Program} {w : World} {H : Hp} {h : Heap} (ok : HOk P w H h) : ∀ {k : NestedKey} {v : V} {u : Value}, Ky H k v → RelV v u → NestedIs h k u
  | _, _, _, .non, r => by
    obtain rfl := (show _ = Value.none from r)
    exact .none
  | _, _, _, .int i, r => by
    obtain ⟨t, rfl⟩ := (show ∃ t, _ = Value.int i t from r)
    exact .int i t
  | _, _, _, .str x, r => by
    obtain ⟨t, rfl⟩ := (show ∃ t, _ = Value.str x t from r)
    exact .text x t
  | _, _, _, .tup (a := a) (xs := xs) e q, r => by
    obtain rfl := (show _ = Value.ref a from r)
    obtain ⟨_, its, rv, o, h1, h2, n, h3⟩ := (show ObjOk P w H h a (.tup xs) from ok a _ e)
    exact .tup h1 h2 h3 (by simpa using Kys.is ok q rv)
theorem Kys.is {P : Program} {w : World} {H : Hp} {h : Heap} (ok : HOk P w H h) : ∀ {ks : List NestedKey} {xs : List V} {us : List Value}, Kys H ks xs → Vals xs us → NestedAll h ks us
  | _, _, _, .nil, .nil => .nil
  | _, _, _, .cons a r, .cons b t => .cons (Ky.is ok a b) (Kys.is ok r t)
end
theorem Kys.ints {H : Hp} : ∀ is : List Int, Kys H (is.map .num) (is.map .int)
  | [] => .nil
  | i :: is => .cons (.int i) (Kys.ints is)
mutual
/-- a value is at most one key -/
theorem Ky.inj {H : Hp} : ∀ {k k' : NestedKey} {v : V}, Ky H k v → Ky H k' v → k = k'
  | _, _, _, .non, .non => rfl
  | _, _, _, .int i, .int _ => rfl
  | _, _, _, .str x, .str _ => rfl
  | _, _, _, .tup e q, .tup e' q' => by
    rw [e] at e'
    cases e'
    rw [Kys.inj q q']
theorem Kys.inj {H : Hp} : ∀ {ks ks' : List NestedKey} {xs : List V}, Kys H ks xs → Kys H ks' xs → ks = ks'
  | _, _, _, .nil, .nil => rfl
  | _, _, _, .cons a r, .cons a' r' => by rw [Ky.inj a a', Kys.inj r r']
end

/-! ### the object -/
abbrev RE : List (NestedKey × Addr × V) → List (NestedKey × Addr × Value) → Prop := Paired fun p q => p.1 = q.1 ∧ p.2.1 = q.2.1 ∧ RelV p.2.2 q.2.2
def nD (P : Program) (w : World) (a : Addr) (es : List (NestedKey × Addr × V)) : HO := .ext fun h =>
  es.length ≤ sizeLine ∧ (a == sysModules) = false ∧ ∃ xs, RE es xs ∧ ∃ o ds ep, h.get? a = some o ∧ o.ExactDict ∧ o.data = .dict ds ep ∧ ds.toList = xs.map (entryOfKey (nestedKind P w)) ∧ (xs.map (·.1)).Nodup
def kvOf (es : List (NestedKey × Addr × V)) : List (NestedKey × V) := es.map fun e => (e.1, e.2.2)
def Keyed (H : Hp) (es : List (NestedKey × Addr × V)) : Prop := ∀ e ∈ es, Ky H e.1 (.ref e.2.1) ∧ e.1.depth ≤ 8
/-- a dict with nested keys, readable; changeable -/
def AtR (P : Program) (w : World) (H : Hp) (a : Addr) (kvs : List (NestedKey × V)) : Prop := ∃ es, Rd H a (nD P w a es) ∧ Keyed H es ∧ kvs = kvOf es
def At (P : Program) (w : World) (H : Hp) (a : Addr) (kvs : List (NestedKey × V)) : Prop := ∃ es, H a = some (nD P w a es) ∧ Keyed H es ∧ kvs = kvOf es
section
variable {P : Program} {w : World} {H H' : Hp} {h : Heap} {a : Addr} {kvs : List (NestedKey × V)} {es : List (NestedKey × Addr × V)}
theorem At.rd (x : At P w H a kvs) : AtR P w H a kvs := let ⟨es, e, k, r⟩ := x; ⟨es, .inl e, k, r⟩
theorem At.ext (x : At P w H a kvs) : ∃ φ, H a = some (.ext φ) := let ⟨_, e, _⟩ := x; ⟨_, e⟩
theorem Keyed.keeps (x : Keyed H es) (ht : ∀ b ys, H b = some (.tup ys) → H' b = some (.tup ys)) : Keyed H' es := fun e he => ⟨(x e he).1.keeps ht, (x e he).2⟩
/-- it stays while it and the tuples stay -/
theorem At.keeps (x : At P w H a kvs) (ha : ∀ u, H a = some u → H' a = some u) (ht : ∀ b ys, H b = some (.tup ys) → H' b = some (.tup ys)) : At P w H' a kvs :=
  let ⟨es, e, k, r⟩ := x; ⟨es, ha _ e, k.keeps ht, r⟩
theorem nD_ok {xs : List (NestedKey × Addr × Value)} (hl : es.length ≤ sizeLine) (hd : (a == sysModules) = false) (r : RE es xs) (d : ∃ o ds ep, h.get? a = some o ∧ o.ExactDict ∧ o.data = .dict ds ep ∧ ds.toList = xs.map (entryOfKey (nestedKind P w)) ∧ (xs.map (·.1)).Nodup) :
    ObjOk P w H' h a (nD P w a es) :=
  ⟨⟨hl, hd, xs, r, d⟩, let ⟨o, _, _, e, _⟩ := d; ⟨o, e⟩, fun h1 h2 ⟨z1, z2, xs, r, o, ds, ep, e, q⟩ k => ⟨z1, z2, xs, r, o, ds, ep, k o e, q⟩⟩
theorem keyed_is (ok : HOk P w H h) : ∀ {es : List (NestedKey × Addr × V)} {xs : List (NestedKey × Addr × Value)}, RE es xs → Keyed H es → ∀ x ∈ xs, (nestedKind P w).is h x.1 x.2.1 := by
  intro es xs r
  induction r with
  | nil => intro _ x hx; exact nomatch hx
  | @cons p q ps qs hq t ih =>
    intro k x hx
    rcases List.mem_cons.mp hx with e | hx
    · subst e
      obtain ⟨k1, k2⟩ := k p (List.mem_cons_self ..)
      rw [← hq.1, ← hq.2.1]
      exact ⟨k1.is ok rfl, k2⟩
    · exact ih (fun e he => k e (List.mem_cons_of_mem _ he)) x hx
theorem re_kv : ∀ {es : List (NestedKey × Addr × V)} {xs : List (NestedKey × Addr × Value)}, RE es xs → KV (kvOf es) (pairsH xs)
  | _, _, .nil => .nil
  | _, _, .cons h t => .cons ⟨h.1, h.2.2⟩ (re_kv t)
theorem rd_all (ok : HOk P w H h) (x : AtR P w H a kvs) : kvs.length ≤ sizeLine ∧ (a == sysModules) = false ∧ ∃ vs, KV kvs vs ∧ h.DictKeyed (nestedKind P w) a vs := by
  obtain ⟨es, e, k, rfl⟩ := x
  obtain ⟨⟨z, y, xs, r, o, ds, ep, h1, h2, h3, h4, h5⟩, _, _⟩ := (show ObjOk P w H h a (nD P w a es) from rd_of ok e)
  exact ⟨by unfold kvOf; rw [List.length_map]; exact z, y, pairsH xs, re_kv r, xs, ⟨o, ds, ep, h1, h2, h3, h4, keyed_is ok r k, h5⟩, rfl⟩
end

/-! ### reads -/
/-- what the dict at a holds at the key y -/
def NGet (P : Program) (w : World) (H : Hp) (a : Addr) (y : V) (r : Option V) : Prop := ∃ kvs k b, AtR P w H a kvs ∧ y = .ref b ∧ Ky H k y ∧ k.depth ≤ 8 ∧ r = valV kvs k
section
variable {X : Cx} {pins : List (Addr × Obj)} {σ : L2.St} {H : Hp} {s : Shared} {a : Addr} {y v d : V} {u r : Value} {o : Option V} {A : Around} {E : Value → Shared → Prop}
theorem n_getItem {Q : Value → Shared → Prop} (hu : A.units + 9 < cLine) (I : Inv X pins σ H s) (g : NGet X.prog X.w H a y (some v)) (ry : RelV y u) (h : ∀ w' s', Inv X pins σ H s' → RelV v w' → Q w' s') :
    wpAny (model X.prog X.w) A (getItem (.ref a) u) Q E s := by
  obtain ⟨kvs, k, b, e, rfl, ky, kd, l⟩ := g
  cases (show u = Value.ref b from ry)
  obtain ⟨z, hd, vs, rel, dd⟩ := rd_all I.hok e
  obtain ⟨w', hw, rw'⟩ := RelO.some_of (v := v) (o := valueAt vs k) (by rw [l]; exact rel.val k)
  exact getItem_keyed (knd := nestedKind X.prog X.w) (by show A.units + 1 + 8 < cLine; omega) ⟨ky.is I.hok rfl, kd⟩ dd hw (h w' _ (I.tok _) rw')
theorem n_in {Q : Value → Shared → Prop} (hu : A.units + 9 < cLine) (I : Inv X pins σ H s) (g : NGet X.prog X.w H a y o) (ry : RelV y u) (h : ∀ s', Inv X pins σ H s' → Q (.bool o.isSome) s') :
    wpAny (model X.prog X.w) A (compareOp .In u (.ref a)) Q E s := by
  obtain ⟨kvs, k, b, e, rfl, ky, kd, l⟩ := g
  cases (show u = Value.ref b from ry)
  obtain ⟨z, hd, vs, rel, dd⟩ := rd_all I.hok e
  refine in_keyed (knd := nestedKind X.prog X.w) (by show A.units + 1 + 8 < cLine; omega) ⟨ky.is I.hok rfl, kd⟩ hd dd ?_
  rw [← (rel.val k).isSome_eq, ← l]
  exact h _ (I.tok _)
theorem n_notIn {Q : Value → Shared → Prop} (hu : A.units + 9 < cLine) (I : Inv X pins σ H s) (g : NGet X.prog X.w H a y o) (ry : RelV y u) (h : ∀ s', Inv X pins σ H s' → Q (.bool (!o.isSome)) s') :
    wpAny (model X.prog X.w) A (compareOp .NotIn u (.ref a)) Q E s := by
  obtain ⟨kvs, k, b, e, rfl, ky, kd, l⟩ := g
  cases (show u = Value.ref b from ry)
  obtain ⟨z, hd, vs, rel, dd⟩ := rd_all I.hok e
  refine notIn_keyed (knd := nestedKind X.prog X.w) (by show A.units + 1 + 8 < cLine; omega) ⟨ky.is I.hok rfl, kd⟩ hd dd ?_
  rw [← (rel.val k).isSome_eq, ← l]
  exact h _ (I.tok _)
theorem n_get1 {Q : Value → Shared → Prop} (hu : A.units + 9 < cLine) (I : Inv X pins σ H s) (g : NGet X.prog X.w H a y o) (ry : RelV y u) (h : ∀ w' s', Inv X pins σ H s' → RelV (o.getD .non) w' → Q w' s') :
    wpAny (model X.prog X.w) A (call (.builtin "dict.get") [.ref a, u]) Q E s := by
  obtain ⟨kvs, k, b, e, rfl, ky, kd, l⟩ := g
  cases (show u = Value.ref b from ry)
  obtain ⟨z, hd, vs, rel, dd⟩ := rd_all I.hok e
  refine get_keyed (knd := nestedKind X.prog X.w) (by show A.units + 1 + 8 < cLine; omega) ⟨ky.is I.hok rfl, kd⟩ hd dd (h _ _ (I.tok _) ?_)
  rw [l]
  exact (rel.val k).getD rfl
theorem n_get2 {Q : Value → Shared → Prop} (hu : A.units + 9 < cLine) (I : Inv X pins σ H s) (g : NGet X.prog X.w H a y o) (ry : RelV y u) (rd : RelV d r) (h : ∀ w' s', Inv X pins σ H s' → RelV (o.getD d) w' → Q w' s') :
    wpAny (model X.prog X.w) A (call (.builtin "dict.get") [.ref a, u, r]) Q E s := by
  obtain ⟨kvs, k, b, e, rfl, ky, kd, l⟩ := g
  cases (show u = Value.ref b from ry)
  obtain ⟨z, hd, vs, rel, dd⟩ := rd_all I.hok e
  refine getOr_keyed (knd := nestedKind X.prog X.w) (by show A.units + 1 + 8 < cLine; omega) ⟨ky.is I.hok rfl, kd⟩ hd dd (h _ _ (I.tok _) ?_)
  rw [l]
  exact (rel.val k).getD rd
end

/-! ### d[k] = v -/
def putE (es : List (NestedKey × Addr × V)) (k : NestedKey) (b : Addr) (v : V) : List (NestedKey × Addr × V) :=
  if (es.any fun e => decide (e.1 = k)) = true then es.map fun e => if e.1 = k then (e.1, e.2.1, v) else e else es ++ [(k, b, v)]
theorem kv_any (es : List (NestedKey × Addr × V)) (k : NestedKey) : ((kvOf es).any fun kv => decide (kv.1 = k)) = es.any fun e => decide (e.1 = k) := by
  unfold kvOf
  rw [List.any_map]
  rfl
theorem kv_put (es : List (NestedKey × Addr × V)) (k : NestedKey) (b : Addr) (v : V) : kvOf (putE es k b v) = putK (kvOf es) k v := by
  unfold putE putK
  rw [kv_any]
  by_cases c : (es.any fun e => decide (e.1 = k)) = true
  · rw [if_pos c, if_pos c]
    unfold kvOf
    rw [List.map_map, List.map_map]
    refine List.map_congr_left fun e _ => ?_
    show (fun e : NestedKey × Addr × V => (e.1, e.2.2)) (if e.1 = k then (e.1, e.2.1, v) else e) = if e.1 = k then (e.1, v) else (e.1, e.2.2)
    by_cases q : e.1 = k
    · rw [if_pos q, if_pos q]
    · rw [if_neg q, if_neg q]
  · rw [if_neg c, if_neg c]
    unfold kvOf
    rw [List.map_append]
    rfl
theorem putE_len (es : List (NestedKey × Addr × V)) (k : NestedKey) (b : Addr) (v : V) : (putE es k b v).length ≤ es.length + 1 := by
  unfold putE
  split
  · rw [List.length_map]; omega
  · rw [List.length_append]; exact Nat.le_refl _
theorem re_any {k : NestedKey} : ∀ {es : List (NestedKey × Addr × V)} {xs : List (NestedKey × Addr × Value)}, RE es xs → (es.any fun e => decide (e.1 = k)) = (atKey xs k).isSome
  | _, _, .nil => rfl
  | _, _, .cons (a := p) (b := q) (l₁ := ps) (l₂ := qs) h t => by
    have ih := re_any (k := k) t
    rw [List.any_cons, ih, h.1]
    by_cases e : q.1 = k
    · rw [decide_eq_true e, Bool.true_or]
      simp [atKey, List.find?_cons, e]
    · rw [decide_eq_false e, Bool.false_or]
      simp [atKey, List.find?_cons, e]
theorem re_repl {k : NestedKey} {v : V} {u : Value} (rv : RelV v u) : ∀ {es : List (NestedKey × Addr × V)} {xs : List (NestedKey × Addr × Value)}, RE es xs → RE (es.map fun e => if e.1 = k then (e.1, e.2.1, v) else e) (xs.map (putAt k u))
  | _, _, .nil => .nil
  | _, _, .cons (a := p) (b := q) h t => by
    rw [List.map_cons, List.map_cons]
    refine .cons ?_ (re_repl rv t)
    unfold putAt
    obtain ⟨h1, h2, h3⟩ := h
    by_cases e : p.1 = k
    · rw [if_pos e, if_pos (h1.symm.trans e)]
      exact ⟨h1, h2, rv⟩
    · rw [if_neg e, if_neg (fun z => e (h1.trans z))]
      exact ⟨h1, h2, h3⟩
theorem re_put {k : NestedKey} {b : Addr} {v : V} {u : Value} (rv : RelV v u) {es : List (NestedKey × Addr × V)} {xs : List (NestedKey × Addr × Value)} (r : RE es xs) : RE (putE es k b v) (storedH xs k b u) := by
  unfold putE storedH
  rw [re_any r]
  by_cases q : (atKey xs k).isSome = true
  · rw [if_pos q, if_pos q]
    exact re_repl rv r
  · rw [if_neg q, if_neg q]
    exact Paired.snoc r ⟨rfl, rfl, rv⟩
theorem keyed_put {H : Hp} {k : NestedKey} {b : Addr} {v : V} {es : List (NestedKey × Addr × V)} (x : Keyed H es) (ky : Ky H k (.ref b)) (kd : k.depth ≤ 8) : Keyed H (putE es k b v) := by
  unfold putE
  split
  · intro e he
    obtain ⟨e0, h0, rfl⟩ := List.mem_map.mp he
    have := x e0 h0
    by_cases q : e0.1 = k
    · rw [if_pos q]; exact this
    · rw [if_neg q]; exact this
  · intro e he
    rcases List.mem_append.mp he with h | h
    · exact x e h
    · rw [List.mem_singleton.mp h]
      exact ⟨ky, kd⟩
/-- the heap behind a[y] = v: any that holds the changed dict at a, and else what was -/
def NPut (P : Program) (w : World) (H : Hp) (a : Addr) (y v : V) (Q : Hp → Prop) : Prop :=
  ∃ kvs k b, At P w H a kvs ∧ y = .ref b ∧ Ky H k y ∧ k.depth ≤ 8 ∧ kvs.length < sizeLine ∧ ∀ φ, At P w (upd H a (.ext φ)) a (putK kvs k v) → Q (upd H a (.ext φ))
theorem upd_tup {H : Hp} {a : Addr} {u : HO} {φ : Heap → Prop} (e : H a = some (.ext φ)) : ∀ b ys, H b = some (.tup ys) → upd H a u b = some (.tup ys) := fun b ys eb => by
  rw [upd_ne (ne_of eb e (fun z => nomatch z))]
  exact eb
section
variable {X : Cx} {pins : List (Addr × Obj)} {σ : L2.St} {H : Hp} {s : Shared} {a : Addr} {y v d : V} {u r : Value} {A : Around} {E : Value → Shared → Prop}
theorem n_setItem {Qh : Hp → Prop} {Q : Unit → Shared → Prop} (hu : A.units + 9 < cLine) (I : Inv X pins σ H s) (g : NPut X.prog X.w H a y v Qh) (ry : RelV y u) (rv : RelV v r) (h : ∀ H' s', Inv X pins σ H' s' → Qh H' → Q () s') :
    wpAny (model X.prog X.w) A (setItem (.ref a) u r) Q E s := by
  obtain ⟨kvs, k, b, ⟨es, e, ke, rfl⟩, rfl, ky, kd, hl, q⟩ := g
  cases (show u = Value.ref b from ry)
  obtain ⟨⟨z, hd, xs, re, o, ds, ep, h1, h2, h3, h4, h5⟩, _, _⟩ := (show ObjOk X.prog X.w H s.heap a (nD X.prog X.w a es) from I.hok a _ e)
  have dd : s.heap.DictOfH (nestedKind X.prog X.w) a xs := ⟨o, ds, ep, h1, h2, h3, h4, keyed_is I.hok re ke, h5⟩
  have hel : (kvOf es).length = es.length := List.length_map ..
  have hz : xs.length ≤ sizeLine := by rw [← Paired.length re]; exact z
  refine wpAny_setItem_heap (knd := nestedKind X.prog X.w) (hsz := hz) (by show A.units + 1 + 8 < cLine; omega) ⟨ky.is I.hok rfl, kd⟩ dd fun h' dd' hs => ?_
  obtain ⟨o', ds', ep', g1, g2, g3, g4, _, g5⟩ := dd'
  have hzl : (putE es k b v).length ≤ sizeLine := by
    have := putE_len es k b v
    omega
  refine h _ _ (d_write (ob := nD X.prog X.w a (putE es k b v)) I (by rw [e]; exact True.intro) hs ⟨o', g1⟩ (nD_ok hzl hd (re_put rv re) ⟨o', ds', ep', g1, g2, g3, g4, g5⟩)) (q _ ⟨putE es k b v, upd_same, ?_, (kv_put es k b v).symm⟩)
  exact (keyed_put ke ky kd).keeps (upd_tup e)
end

/-! ### readings -/
section
variable (P : Program) (w : World)
def tNGet (td ty : TE) : TE := fun σ H Q => td σ H fun x H1 => ty σ H1 fun y H2 => ∃ a v, x = .ref a ∧ NGet P w H2 a y (some v) ∧ Q v H2
def tNIn (ty td : TE) : TE := fun σ H Q => ty σ H fun y H1 => td σ H1 fun x H2 => ∃ a o, x = .ref a ∧ NGet P w H2 a y o ∧ Q (.bl o.isSome) H2
def tNNotIn (ty td : TE) : TE := fun σ H Q => ty σ H fun y H1 => td σ H1 fun x H2 => ∃ a o, x = .ref a ∧ NGet P w H2 a y o ∧ Q (.bl (!o.isSome)) H2
def sNPut (td ty tv : TE) : TS := fun D σ H => tv σ H fun v H1 => td σ H1 fun x H2 => ty σ H2 fun y H3 => ∃ a, x = .ref a ∧ NPut P w H3 a y v (D.nx σ)
def tNGet1 (td ty : TE) : TE := fun σ H Q => td σ H fun x H1 => ∃ a kvs, x = .ref a ∧ AtR P w H1 a kvs ∧ ty σ H1 fun y H2 => ∃ o, NGet P w H2 a y o ∧ Q (o.getD .non) H2
def tNGet2 (td ty tx : TE) : TE := fun σ H Q => td σ H fun x H1 => ∃ a kvs, x = .ref a ∧ AtR P w H1 a kvs ∧ ty σ H1 fun y H2 => tx σ H2 fun z H3 => ∃ o, NGet P w H3 a y o ∧ Q (o.getD z) H3
def tNNew : TE := fun _ H Q => ∀ p φ, H p = none → At P w (upd H p (.ext φ)) p [] → Q (.ref p) (upd H p (.ext φ))
end
section
variable {X : Cx} {o i e f value : Expr} {pos pos' tpos apos cpos : Pos} {td ty tv tx : TE}
theorem typeIs_of {pins : List (Addr × Obj)} {σ : L2.St} {H : Hp} {s : Shared} {a : Addr} {kvs : List (NestedKey × V)} (I : Inv X pins σ H s) (g : AtR X.prog X.w H a kvs) : s.TypeIs (.ref a) "dict" := by
  obtain ⟨_, _, vs, _, dd⟩ := rd_all I.hok g
  exact dd.typeIs
theorem noDict_of {pins : List (Addr × Obj)} {σ : L2.St} {H : Hp} {s : Shared} {a : Addr} {kvs : List (NestedKey × V)} (I : Inv X pins σ H s) (g : AtR X.prog X.w H a kvs) :
    ∀ b, Value.ref a = .ref b → ∃ ob, s.heap.get? b = some ob ∧ ob.dict = none := fun b q => by
  cases q
  obtain ⟨_, _, vs, _, xs, ⟨ob, _, _, h1, h2, _⟩, _⟩ := rd_all I.hok g
  exact ⟨ob, h1, h2.2.1⟩
theorem pe_nget (hu : X.A.units + 9 < cLine) (ho : PE X o td) (hi : PE X i ty) (hs : NoSl i) : PE X (.Subscript o i pos) (tNGet X.prog X.w td ty) := by
  refine ⟨fun pins s σ H Q I h => ?_⟩
  refine subD_of PySem.F.slot_dict_getitem.lookup hs (thn (ho.run pins s σ H _ I h) fun u s1 ⟨x, H1, I1, rx, q1⟩ => thn (hi.run pins s1 σ H1 _ I1 q1) fun iv s2 ⟨y, H2, I2, ry, a, v, ex, g, q2⟩ => ?_)
  subst ex
  obtain rfl : u = Value.ref a := rx
  refine ⟨?_, n_getItem hu I2 g ry fun w' s3 I3 rw' => ⟨v, H2, I3, rw', q2⟩⟩
  obtain ⟨kvs, k, b, e, _⟩ := g
  exact typeIs_of I2 e
theorem pc_nin (hu : X.A.units + 9 < cLine) (hi : PE X i ty) (ho : PE X o td) : PC X .In i o (tNIn X.prog X.w ty td) := by
  refine ⟨fun pins s σ H Q I h => ?_⟩
  refine thn (hi.run pins s σ H _ I h) fun iv s1 ⟨y, H1, I1, ry, q1⟩ => thn (ho.run pins s1 σ H1 _ I1 q1) fun u s2 ⟨x, H2, I2, rx, a, ov, ex, g, q2⟩ => ?_
  subst ex
  obtain rfl : u = Value.ref a := rx
  exact n_in hu I2 g ry fun s3 I3 => ⟨.bl ov.isSome, H2, I3, rfl, q2⟩
theorem pc_nnotin (hu : X.A.units + 9 < cLine) (hi : PE X i ty) (ho : PE X o td) : PC X .NotIn i o (tNNotIn X.prog X.w ty td) := by
  refine ⟨fun pins s σ H Q I h => ?_⟩
  refine thn (hi.run pins s σ H _ I h) fun iv s1 ⟨y, H1, I1, ry, q1⟩ => thn (ho.run pins s1 σ H1 _ I1 q1) fun u s2 ⟨x, H2, I2, rx, a, ov, ex, g, q2⟩ => ?_
  subst ex
  obtain rfl : u = Value.ref a := rx
  exact n_notIn hu I2 g ry fun s3 I3 => ⟨.bl (!ov.isSome), H2, I3, rfl, q2⟩
theorem ps_nput (hu : X.A.units + 9 < cLine) (ho : PE X o td) (hi : PE X i ty) (hv : PE X value tv) (hs : swapsWith value (some (.Subscript o i pos')) pos.line X.env = pure false) :
    PS X (.Assign [.Subscript o i pos'] value pos) (sNPut X.prog X.w td ty tv) := by
  refine ⟨fun pins s σ H D I h => ?_⟩
  refine wpAny_Assign_Subscript (thn (hv.run pins s σ H _ I h) fun r s1 ⟨v, H1, I1, rv, q1⟩ => thn (ho.run pins s1 σ H1 _ I1 q1) fun u s2 ⟨x, H2, I2, rx, q2⟩ => thn (hi.run pins s2 σ H2 _ I2 q2) fun iv s3 ⟨y, H3, I3, ry, a, ex, g⟩ => ?_) hs
  subst ex
  obtain rfl : u = Value.ref a := rx
  exact n_setItem hu I3 g ry rv fun H4 s4 I4 q3 => ⟨σ, H4, I4, q3⟩
theorem pe_nget1 (hu : X.A.units + 9 < cLine) (ho : PE X o td) (he : PE X e ty) (m : M1 X o "get" apos e cpos) : PE X (.Call (.Attribute o "get" apos) [e] [] cpos) (tNGet1 X.prog X.w td ty) := by
  refine ⟨fun pins s σ H Q I h => ?_⟩
  refine wpAny_Call_method m.base m.few m.line PySem.F.plainAttrs_dict PySem.F.slot_dict_get PySem.F.type_dict_get (thn (ho.run pins s σ H _ I h) fun u s1 ⟨x, H1, I1, rx, a, kvs, ex, d, q1⟩ => ?_)
  subst ex
  obtain rfl : u = Value.ref a := rx
  refine ⟨typeIs_of I1 d, noDict_of I1 d, ?_⟩
  rw [m.trees]
  refine Calls.callWith_builtin rfl (Calls.evalArgs_plain (Calls.spliced_cons (thn (he.run pins s1 σ H1 _ I1 q1) fun iv s2 ⟨y, H2, I2, ry, ov, g, q2⟩ => Calls.spliced_nil ?_)))
  exact n_get1 hu I2 g ry fun w' s3 I3 rw' => ⟨_, H2, I3, rw', q2⟩
theorem pe_nget2 (hu : X.A.units + 9 < cLine) (ho : PE X o td) (he : PE X e ty) (hf : PE X f tx) (m : M2 X o "get" apos e f cpos) : PE X (.Call (.Attribute o "get" apos) [e, f] [] cpos) (tNGet2 X.prog X.w td ty tx) := by
  refine ⟨fun pins s σ H Q I h => ?_⟩
  refine wpAny_Call_method m.base m.few m.line PySem.F.plainAttrs_dict PySem.F.slot_dict_get PySem.F.type_dict_get (thn (ho.run pins s σ H _ I h) fun u s1 ⟨x, H1, I1, rx, a, kvs, ex, d, q1⟩ => ?_)
  subst ex
  obtain rfl : u = Value.ref a := rx
  refine ⟨typeIs_of I1 d, noDict_of I1 d, ?_⟩
  rw [m.trees]
  refine Calls.callWith_builtin rfl (Calls.evalArgs_plain (Calls.spliced_cons (thn (he.run pins s1 σ H1 _ I1 q1) fun iv s2 ⟨y, H2, I2, ry, q2⟩ =>
    Calls.spliced_cons (thn (hf.run pins s2 σ H2 _ I2 q2) fun fv s3 ⟨z, H3, I3, rz, ov, g, q3⟩ => Calls.spliced_nil ?_))))
  exact n_get2 hu I3 g ry rz fun w' s4 I4 rw' => ⟨_, H3, I4, rw', q3⟩
theorem n_empty {P : Program} {w : World} {H : Hp} (h : Heap) (hb : sysModules < h.objs.size) : ObjOk P w H (h.push { cls := .type "dict", data := .dict #[] }) h.objs.size (nD P w h.objs.size []) :=
  nD_ok (xs := []) (Nat.zero_le _) (beq_eq_false_iff_ne.mpr (Ne.symm (Nat.ne_of_lt hb))) .nil ⟨_, #[], 0, Heap.get?_push_size _ rfl, ⟨rfl, rfl, rfl⟩, rfl, rfl, List.nodup_nil⟩
theorem pe_nnew : PE X (.Dict [] [] pos) (tNNew X.prog X.w) := ⟨fun pins s σ H Q I h =>
  wpAny_Dict_empty ⟨.ref s.heap.objs.size, _, I.laid (a := s.heap.objs.size) (o := nD X.prog X.w s.heap.objs.size []) (t' := s.toks) (fun _ _ q => Heap.get?_push_of_some _ q) (Nat.le_refl _) (n_empty s.heap I.big), rfl,
    h _ _ (I.hok.fresh (Nat.le_refl _)) ⟨[], upd_same, (fun _ h => nomatch h), rfl⟩⟩⟩
end

/-! ### displays -/
inductive CK (H : Hp) : List (V × V) → List (NestedKey × Addr × V) → Prop
  | nil : CK H [] []
  | cons {k : NestedKey} {b : Addr} {v : V} {ps : List (V × V)} {es : List (NestedKey × Addr × V)} : Ky H k (.ref b) → k.depth ≤ 8 → CK H ps es → CK H ((.ref b, v) :: ps) ((k, b, v) :: es)
def mergeE (acc more : List (NestedKey × Addr × V)) : List (NestedKey × Addr × V) := more.foldl (fun acc e => putE acc e.1 e.2.1 e.2.2) acc
theorem mergeE_len : ∀ (more acc : List (NestedKey × Addr × V)), (mergeE acc more).length ≤ acc.length + more.length
  | [], acc => Nat.le_refl _
  | p :: r, acc => by
    have h1 := mergeE_len r (putE acc p.1 p.2.1 p.2.2)
    have h2 := putE_len acc p.1 p.2.1 p.2.2
    show (mergeE (putE acc p.1 p.2.1 p.2.2) r).length ≤ _
    rw [List.length_cons]; omega
theorem ck_carries {P : Program} {w : World} {H : Hp} {h : Heap} (ok : HOk P w H h) {ps : List (V × V)} {es : List (NestedKey × Addr × V)} (c : CK H ps es) :
    ∀ {ws : List (Value × Value)}, VV ps ws → ∃ xs, CarriesH (nestedKind P w) h ws xs ∧ RE es xs := by
  induction c with
  | nil => intro ws r; cases r; exact ⟨[], True.intro, .nil⟩
  | @cons k b v ps es ky kd c ih =>
    intro ws r
    cases r with
    | @cons _ q _ qs h1 t =>
      obtain ⟨xs, c', r'⟩ := ih t
      obtain ⟨q1, q2⟩ := q
      obtain rfl : q1 = Value.ref b := h1.1
      exact ⟨(k, b, q2) :: xs, ⟨rfl, rfl, ⟨ky.is ok rfl, kd⟩, c'⟩, .cons ⟨rfl, rfl, h1.2⟩ r'⟩
theorem re_merge {es : List (NestedKey × Addr × V)} {xs : List (NestedKey × Addr × Value)} (r : RE es xs) : ∀ {acc : List (NestedKey × Addr × V)} {acc' : List (NestedKey × Addr × Value)}, RE acc acc' → RE (mergeE acc es) (storedAllH acc' xs) := by
  induction r with
  | nil => intro _ _ r; exact r
  | @cons p q ps qs h t ih =>
    intro acc acc' r
    obtain ⟨h1, h2, h3⟩ := h
    have := ih (re_put (k := p.1) (b := p.2.1) h3 r)
    rw [show mergeE acc (p :: ps) = mergeE (putE acc p.1 p.2.1 p.2.2) ps from rfl, show storedAllH acc' (q :: qs) = storedAllH (storedH acc' q.1 q.2.1 q.2.2) qs from rfl, ← h1, ← h2]
    exact this
theorem keyed_merge {H : Hp} : ∀ {es acc : List (NestedKey × Addr × V)}, Keyed H es → Keyed H acc → Keyed H (mergeE acc es)
  | [], _, _, r => r
  | (k, b, v) :: es, acc, q, r => by
    have h1 := q (k, b, v) (List.mem_cons_self ..)
    exact keyed_merge (es := es) (fun e he => q e (List.mem_cons_of_mem _ he)) (keyed_put r h1.1 h1.2)
theorem CK.keyed {H : Hp} {ps : List (V × V)} {es : List (NestedKey × Addr × V)} (c : CK H ps es) : Keyed H es := by
  induction c with
  | nil => exact fun _ h => nomatch h
  | cons ky kd _ ih =>
    intro e he
    rcases List.mem_cons.mp he with h | h
    · rw [h]; exact ⟨ky, kd⟩
    · exact ih e h
theorem kv_merge : ∀ (es acc : List (NestedKey × Addr × V)), kvOf (mergeE acc es) = es.foldl (fun acc e => putK acc e.1 e.2.2) (kvOf acc)
  | [], _ => rfl
  | (k, b, v) :: es, acc => by
    show kvOf (mergeE (putE acc k b v) es) = List.foldl (fun acc (e : NestedKey × Addr × V) => putK acc e.1 e.2.2) (putK (kvOf acc) k v) es
    rw [kv_merge es, kv_put]
def tNDisp (P : Program) (w : World) (trs : List (TE × TE)) : TE := fun σ H Q => ∀ p φ, H p = none → At P w (upd H p (.ext φ)) p [] → tPairs trs σ (upd H p (.ext φ)) fun ps H2 => H2 p = some (.ext φ) ∧ ∃ es, CK H2 ps es ∧ es.length ≤ 15 ∧
  ∀ φ', At P w (upd H2 p (.ext φ')) p (kvOf (mergeE [] es)) → Q (.ref p) (upd H2 p (.ext φ'))
theorem pe_ndisp {X : Cx} {pos : Pos} {keys : List (Option Expr)} {values : List Expr} {trs : List (TE × TE)} (hu : X.A.units + 9 < cLine) (h : PPs X pos keys values trs) (hall : keys.all (·.isSome) = true) (hl : keys.length = values.length) (h0 : keys ≠ [])
    (h15 : keys.length ≤ 15) : PE X (.Dict keys values pos) (tNDisp X.prog X.w trs) := by
  refine ⟨fun pins s σ H Q I q => ?_⟩
  have hn := I.hok.fresh (Nat.le_refl s.heap.objs.size)
  have I1 := I.laid (a := s.heap.objs.size) (o := nD X.prog X.w s.heap.objs.size []) (h' := s.heap.push { cls := .type "dict", data := .dict #[] }) (t' := s.toks) (fun _ _ q => Heap.get?_push_of_some _ q) (Nat.le_refl _) (n_empty s.heap I.big)
  have hlen := pairTrees_length keys values X.env pos hall hl
  have hne : pairTrees keys values X.env pos ≠ [] := fun e => by
    rw [e] at hlen
    exact h0 (List.length_eq_zero_iff.mp hlen.symm)
  rw [arm_eval_Dict, zip_pairTrees keys values X.env pos hall hl, dictDisplay_pairs _ hne (by omega)]
  refine wpAny_bind (wpAny_standAt (wpAny_bind (wpAny_subDictH (knd := nestedKind X.prog X.w) (by show X.A.units + 8 < cLine; omega) (by rw [hlen]; exact h15) ?_)))
  refine thn (h.run pins _ σ _ _ I1 (q _ _ hn ⟨[], upd_same, (fun _ h => nomatch h), rfl⟩)) fun ws s2 ⟨ps, H2, I2, rel, e, es, ck, lk, q2⟩ => ?_
  obtain ⟨xs, c, rk⟩ := ck_carries (P := X.prog) (w := X.w) I2.hok ck rel
  obtain ⟨⟨z, hd, xs0, re0, o, ds, ep, h1, h2, h3, h4, h5⟩, _, _⟩ := (show ObjOk X.prog X.w H2 s2.heap s.heap.objs.size (nD X.prog X.w s.heap.objs.size []) from I2.hok _ _ e)
  cases re0
  refine ⟨xs, c, ⟨o, ds, ep, h1, h2, h3, h4, (fun _ h => nomatch h), h5⟩, fun h' tk dd' hs => wpAny_pure ⟨.ref s.heap.objs.size, _, ?_, rfl, q2 _ ⟨mergeE [] es, upd_same, (keyed_merge (acc := []) ck.keyed (fun _ h => nomatch h)).keeps (upd_tup e), rfl⟩⟩⟩
  obtain ⟨o', ds', ep', g1, g2, g3, g4, _, g5⟩ := dd'
  have hz : (mergeE [] es).length ≤ sizeLine := by
    have h1 := mergeE_len es []
    rw [List.length_nil] at h1
    rw [sizeLine_eq]; omega
  exact d_write (ob := nD X.prog X.w s.heap.objs.size (mergeE [] es)) I2 (by rw [e]; exact True.intro) hs ⟨o', g1⟩ (nD_ok hz hd (re_merge rk .nil) ⟨o', ds', ep', g1, g2, g3, g4, g5⟩)
end ND

set_option Elab.async false
set_option linter.all false
set_option maxRecDepth 100000
set_option maxHeartbeats 4000000
/-! ==, !=, in, not in, list.index of nested tuples. -/
namespace ND
open PySem PySem.W L2
open Sem (wp)

theorem Kys.depth_le {H : Hp} : ∀ {ks : List NestedKey} {d : Nat}, NestedKey.depthAll ks ≤ d → ∀ k ∈ ks, k.depth ≤ d
  | [], _, _, _, h => nomatch h
  | k :: ks, d, hd, x, hx => by
    rw [NestedKey.depthAll] at hd
    rcases List.mem_cons.mp hx with rfl | h
    · omega
    · exact Kys.depth_le (H := H) (by omega) x h
section
variable {X : Cx}
/-- two tuples that are keys are compared -/
def rEqK : R2 := fun x y H Q => ∃ ks ks', Ky H (.tup ks) x ∧ Ky H (.tup ks') y ∧ NestedKey.depthAll ks ≤ 7 ∧ Q (.bl (decide (ks = ks'))) H
theorem decide_tup (ks ks' : List NestedKey) : decide (ks = ks') = NestedKey.beqAll ks ks' := by
  rw [← (show NestedKey.beq (.tup ks) (.tup ks') = NestedKey.beqAll ks ks' from rfl), ← NestedKey.decide_eq]
  by_cases e : ks = ks'
  · rw [e]; simp
  · rw [decide_eq_false e, decide_eq_false fun z => e (by injection z)]
theorem op_eqK (hu : X.A.units + 9 < cLine) : OpR X (compareOp .Eq) rEqK := by
  intro pins s σ H x y v u Q I rx ry h
  obtain ⟨ks, ks', a, b, hd, q⟩ := h
  have ha := a.is I.hok rx
  have hb := b.is I.hok ry
  cases ha with
  | @tup l o vs n _ h1 h2 h3 h4 =>
    cases hb with
    | @tup l' o' vs' n' _ k1 k2 k3 k4 =>
      have hl : s.heap.IsTuple l vs := ⟨_, h1, h2, _, h3⟩
      have hl' : s.heap.IsTuple l' vs' := ⟨_, k1, k2, _, k3⟩
      have n1 : vs.size = ks.length := by simpa using NestedAll.length _ _ h4
      have n2 : vs'.size = ks'.length := by simpa using NestedAll.length _ _ k4
      refine SeqAt.eq_tupleAt (e := keyEqAt ks ks') hl hl' (by omega) (fun j j1 j2 => ?_) ?_
      · have := eqAt_keys ks ks' X.A.in1 s vs.toList vs'.toList h4 k4 (by show X.A.units + 1 + _ < cLine; omega) j (by simpa using j1) (by simpa using j2)
        simpa using this
      · rw [n1, n2, beqAll_eq, ← decide_tup]
        exact ⟨.bl _, H, I, rfl, q⟩
/-- the item is the key k -/
noncomputable def isK (h : Heap) (k : NestedKey) (v : Value) : Bool := @decide (NestedIs h k v) (Classical.propDecidable _)
theorem isK_of {h : Heap} {k k' : NestedKey} {v : Value} (x : NestedIs h k' v) : isK h k v = decide (k' = k) := by
  unfold isK
  by_cases e : k' = k
  · subst e
    rw [decide_eq_true rfl]
    exact @decide_eq_true _ (Classical.propDecidable _) x
  · rw [decide_eq_false e]
    exact @decide_eq_false _ (Classical.propDecidable _) fun y => e (NestedIs.inj _ _ _ x y)
theorem any_isK {h : Heap} {k : NestedKey} : ∀ {ks : List NestedKey} {vs : List Value}, NestedAll h ks vs → vs.any (isK h k) = decide (k ∈ ks)
  | _, _, .nil => rfl
  | _, _, .cons (k := k') a r => by
    rw [List.any_cons, isK_of a, any_isK r]
    by_cases e : k' = k
    · simp [e]
    · have e' : ¬ k = k' := fun z => e z.symm
      simp [e, e']
theorem all_eq {h : Heap} {A : Around} {s : Shared} {k : NestedKey} {u : Value} (hs : s.heap = h) (hu : A.units + 8 < cLine) (hk : NestedIs h k u) (hd : k.depth ≤ 8) : ∀ {ks : List NestedKey} {vs : List Value}, NestedAll h ks vs → ∀ v ∈ vs, SeqAt.EqAt A s v u (isK h k v)
  | _, _, .nil => fun _ hv => nomatch hv
  | _, _, .cons (k := k') (v := v0) a r => fun v hv => by
    rcases List.mem_cons.mp hv with rfl | hv
    · rw [isK_of a, NestedKey.decide_eq]
      exact eqAt_key k' k A s _ u (by rw [hs]; exact a) (by rw [hs]; exact hk) (by omega)
    · exact all_eq hs hu hk hd r v hv
def rInK (K : PySem.W.Frag) (neg : Bool) : R2 := fun x y H Q => ∃ k p ks xs, y = .ref p ∧ SqL K H p xs ∧ Ky H k x ∧ k.depth ≤ 8 ∧ Kys H ks xs ∧ Q (.bl (if neg then !decide (k ∈ ks) else decide (k ∈ ks))) H
theorem op_inK (hu : X.A.units + 9 < cLine) : OpR X (compareOp .In) (rInK X.K false) := by
  intro pins s σ H x y v u Q I rx ry h
  obtain ⟨k, p, ks, xs, rfl, hq, hk, hd, hks, q⟩ := h
  cases ry
  obtain ⟨its, r, pl, hz⟩ := I.list hq
  have hv := hk.is I.hok rx
  have hi := hks.is I.hok r
  refine SeqAt.in_listAt (isK s.heap k) pl.isList (fun w hw => all_eq rfl (by show X.A.units + 1 + 8 < cLine; omega) hv hd hi w (by simpa using hw)) ⟨.bl _, H, I, rfl, ?_⟩
  rw [show its.toArray.any (isK s.heap k) = its.any (isK s.heap k) by simp, any_isK hi]
  exact q
theorem op_notInK (hu : X.A.units + 9 < cLine) : OpR X (compareOp .NotIn) (rInK X.K true) := by
  intro pins s σ H x y v u Q I rx ry h
  obtain ⟨k, p, ks, xs, rfl, hq, hk, hd, hks, q⟩ := h
  cases ry
  obtain ⟨its, r, pl, hz⟩ := I.list hq
  have hv := hk.is I.hok rx
  have hi := hks.is I.hok r
  refine SeqAt.notIn_listAt (isK s.heap k) pl.isList (fun w hw => all_eq rfl (by show X.A.units + 1 + 8 < cLine; omega) hv hd hi w (by simpa using hw)) ⟨.bl _, H, I, rfl, ?_⟩
  rw [show its.toArray.any (isK s.heap k) = its.any (isK s.heap k) by simp, any_isK hi]
  exact q
def rIndexK (K : PySem.W.Frag) : V → List V → Hp → VK → Prop := fun x ys H Q => ∃ p k y ks xs, x = .ref p ∧ ys = [y] ∧ SqL K H p xs ∧ Ky H k y ∧ k.depth ≤ 8 ∧ Kys H ks xs ∧ k ∈ ks ∧ Q (.int (ks.idxOf k : Nat)) H
theorem mt_indexK (hu : X.A.units + 9 < cLine) : MtR X "list.index" (rIndexK X.K) := by
  intro pins s σ H x xs v us Q I rx rxs h
  obtain ⟨p, k, y, ks, ys, rfl, rfl, hq, hk, hd, hks, hm, q⟩ := h
  cases rx
  cases rxs with
  | cons ry rt =>
    rename_i uy ut
    cases rt
    obtain ⟨its, r, pl, hz⟩ := I.list hq
    have hv := hk.is I.hok ry
    have hi := hks.is I.hok r
    have hl := NestedAll.length _ _ hi
    exact SeqAt.call_list_index pl.isList (SeqAt.ItemsEq.nested hi hv (by show X.A.units + 1 + k.depth < cLine; omega)) (by rw [← hl, ← r.length]; exact hz) hm ⟨.int (ks.idxOf k : Nat), H, I.tok _, ⟨_, rfl⟩, q⟩
/-- y in d, y not in d: d a dict with nested keys -/
def rInN (P : Program) (w : World) (neg : Bool) : R2 := fun y x H Q => ∃ a o, x = .ref a ∧ NGet P w H a y o ∧ Q (.bl (if neg then !o.isSome else o.isSome)) H
theorem op_inN (hu : X.A.units + 9 < cLine) : OpR X (compareOp .In) (rInN X.prog X.w false) := by
  intro pins s σ H y x u v Q I ry rx h
  obtain ⟨a, o, rfl, g, q⟩ := h
  cases rx
  exact n_in hu I g ry fun s3 I3 => ⟨.bl o.isSome, H, I3, rfl, q⟩
theorem op_notInN (hu : X.A.units + 9 < cLine) : OpR X (compareOp .NotIn) (rInN X.prog X.w true) := by
  intro pins s σ H y x u v Q I ry rx h
  obtain ⟨a, o, rfl, g, q⟩ := h
  cases rx
  exact n_notIn hu I g ry fun s3 I3 => ⟨.bl (!o.isSome), H, I3, rfl, q⟩
/-- a list or a tuple is walked -/
def iSeq (K : PySem.W.Frag) (tl : TE) : TI := fun σ H R => tl σ H fun x H1 => ∃ a xs, x = .ref a ∧ ((SqL K H1 a xs ∧ R (Itl K a) H1) ∨ (SqT K H1 a xs ∧ R (Itt K a) H1))
theorem pi_seq {tg l : Expr} {tl : TE} (hl : PE X l tl) : PI X tg l (iSeq X.K tl) := by
  refine ⟨fun pins s σ H R I h => ?_⟩
  refine thn (hl.run pins s σ H _ I h) fun v s1 ⟨x, H1, I1, r1, q1⟩ => ?_
  obtain ⟨a, xs, e, q⟩ := q1
  subst e
  cases r1
  rcases q with ⟨hq, q⟩ | ⟨hq, q⟩
  · obtain ⟨its, rv, p, hz⟩ := I1.list hq
    refine wpAny_pyIter_list p.isList ?_
    refine ⟨s1.heap.objs.size, [s1.heap.objs.size], _, _, H1, rfl, I1.kept (t' := s1.toks) fun b o e => Heap.get?_push_of_some _ e, turn_list a _, ⟨_, Heap.get?_push_size _ rfl, rfl, rfl⟩, fun b hb => ?_, q⟩
    have e : b = s1.heap.objs.size := by simpa using hb
    subst e
    exact I1.fpOk (Nat.le_refl _) (I1.hok.fresh (Nat.le_refl _))
  · obtain ⟨its, rv, p, hz⟩ := I1.tuple hq
    refine wpAny_pyIter_tuple (show s1.heap.IsTuple a its.toArray from p) ?_
    refine ⟨s1.heap.objs.size, [s1.heap.objs.size], _, _, H1, rfl, I1.kept (t' := s1.toks) fun b o e => Heap.get?_push_of_some _ e, turn_tuple a _, ⟨_, Heap.get?_push_size _ rfl, rfl, rfl⟩, fun b hb => ?_, q⟩
    have e : b = s1.heap.objs.size := by simpa using hb
    subst e
    exact I1.fpOk (Nat.le_refl _) (I1.hok.fresh (Nat.le_refl _))
theorem hu9 {A : Around} {k : Nat} (hr : Room k A) : A.units + 9 < cLine := by have := hr.un; omega
end
end ND

set_option Elab.async false
set_option linter.all false
set_option maxRecDepth 100000
set_option maxHeartbeats 4000000
/-! name = {k: v for ..}: the block is run with the store. -/
namespace DCx
open PySem PySem.W L2
open Sem (wp)
section
variable {X : Cx}
theorem swd_true {kx vx : Expr} {gs : List Comprehension} {scope : Scope} {pos py : Pos} {y : Str} {l : Nat} {env : Env} (hk : env.scope.kind = .function) (hy : env.scope.names.lookup y = some .local) (hl : (py.line == pos.line) = true)
    (ha : (scope.names.any fun (n, k) => n == y && (k == .local || k == .cell)) = false) : swapsWith (.DictComp kx vx gs scope pos) (some (.Name y py)) l env = pure true := by
  have ky : env.kindOf y = some .local := hy
  have hb : env.blockKind = .function := by unfold Env.blockKind; rw [hk]; rfl
  unfold swapsWith
  simp only [hb, ky, ha, Expr.pos, hl]
  rfl
theorem ps_setDc {i : Nat} {y : Str} {py : Pos} {kx vx tg iter : Expr} {ifs : List Expr} {scope : Scope} {own : List (Str × Nat)} {pos spos : Pos} {wi : TI} {g : TG} {tt : TT} {tk tv : TE} (hc : X.calm = true) (hN : X.N.Nodup) (hy : X.N[i]? = some y) (hyl : X.env.scope.names.lookup y = some .local)
    (hsw : swapsWith (.DictComp kx vx [⟨tg, iter, ifs, 0⟩] scope pos) (some (.Name y py)) spos.line X.env = pure true) (hi : PI X tg iter wi) (ok : BlkOk X.N X.env.scope scope own)
    (hg : ∀ (s : Shared) (H : Hp) (C : Addr) (cl : List (Str × Addr)) (fp : List Addr), PG (X.blk s H scope (compEnvC scope cl C X.env) fp) tg g) (ht : ∀ (s : Shared) (H : Hp) (C : Addr) (cl : List (Str × Addr)) (fp : List Addr), PTs (X.blk s H scope (compEnvC scope cl C X.env) fp) ifs tt)
    (hk : ∀ (s : Shared) (H : Hp) (C : Addr) (cl : List (Str × Addr)) (fp : List Addr), PE (X.blk s H scope (compEnvC scope cl C X.env) fp) kx tk)
    (he : ∀ (s : Shared) (H : Hp) (C : Addr) (cl : List (Str × Addr)) (fp : List Addr), PE (X.blk s H scope (compEnvC scope cl C X.env) fp) vx tv) (hs : ∀ x, foldedSetIterable iter X.env x = pure x := by intro _; rfl) :
    PS X (.Assign [.Name y py] (.DictComp kx vx [⟨tg, iter, ifs, 0⟩] scope pos) spos) (tAsg (tDc wi g tt tk tv (own.map (·.2))) (gName i)) := by
  refine ⟨fun pins s σ H D I h => ?_⟩
  rw [exec_Assign_Name_used _ _ _ _ hsw]
  refine wpAny_bind (wpAny_standAt (wpAny_bind ?_))
  show wpAny _ X.A (do let _ ← comprehension (.DictComp kx vx [⟨tg, iter, ifs, 0⟩] scope pos) scope X.env (firstIterPos [⟨tg, iter, ifs, 0⟩] pos) newDict false (eval iter X.env) (some (assign (.Name y py) X.env))) _ _ s
  have h : tDc wi g tt tk tv (own.map (·.2)) σ H (fun x H1 => gName i x σ H1 D.nx) := h
  refine wpAny_bind (thn (dc_core (Qf := fun _ s' => SP X pins D .next s') hc hN I hi ok hg ht hk he hs h fun L C s' m H' I' q hn f => ?_) fun _ s' hq => wpAny_pure (wpAny_pure hq))
  show wpAny _ _ (assign (.Name y py) X.env (.ref L)) _ _ _
  refine wpAny_assign_Name (store_ok2 (v := V.ref L) I' hN hy (.inl hyl) rfl (fun s2 I2 ⟨a, sb, ha⟩ => ?_) (.inr hyl))
  obtain ⟨f0, f1, f2, f3, f4, f5⟩ := f
  have haC : C ≠ a := by
    rcases ha with z | z
    · rw [z]; exact f1
    · exact fun e => f4 y a z e.symm
  refine ⟨m, hn.sameBut sb haC, fun h3 sb3 => ?_⟩
  exact ⟨_, H', I2.turned (t' := s2.toks) (fun b o hb e => (sb3.2 b hb).trans e) f0 f1 f3 f4 f5, q⟩
end
end DCx

set_option Elab.async false
set_option linter.all false
set_option maxRecDepth 100000
set_option maxHeartbeats 4000000
namespace K14
open PySem L2 Ew Tb ND SRm
def topS (i : Nat) : Stmt := PySem.Challenge.pw_everyworth_k14_putting_nodes_in.main.body.getD i (.Pass ⟨0, 0, 0, 0⟩)
abbrev s_Circuits_init : Stmt := (inClass (topS 11) 0)
theorem sc_Circuits_init : FnScope ["self"] ["self"] (defScope s_Circuits_init) := ⟨rfl, rfl, rfl, by decide +kernel, rfl, by decide +kernel, by decide +kernel⟩
abbrev s_Circuits_fact : Stmt := (inClass (topS 11) 1)
theorem sc_Circuits_fact : FnScope ["self", "k"] ["self", "k"] (defScope s_Circuits_fact) := ⟨rfl, rfl, rfl, by decide +kernel, rfl, by decide +kernel, by decide +kernel⟩
abbrev s_Circuits_plus : Stmt := (inClass (topS 11) 2)
theorem sc_Circuits_plus : FnScope ["self", "nodes", "node"] ["self", "nodes"] (defScope s_Circuits_plus) := ⟨rfl, rfl, rfl, by decide +kernel, rfl, by decide +kernel, by decide +kernel⟩
abbrev s_Circuits_times : Stmt := (inClass (topS 11) 3)
theorem sc_Circuits_times : FnScope ["self", "nodes", "node"] ["self", "nodes"] (defScope s_Circuits_times) := ⟨rfl, rfl, rfl, by decide +kernel, rfl, by decide +kernel, by decide +kernel⟩
abbrev s_Circuits_star : Stmt := (inClass (topS 11) 4)
theorem sc_Circuits_star : FnScope ["self", "node"] ["self", "node"] (defScope s_Circuits_star) := ⟨rfl, rfl, rfl, by decide +kernel, rfl, by decide +kernel, by decide +kernel⟩
abbrev s_Circuits_shown : Stmt := (inClass (topS 11) 5)
theorem sc_Circuits_shown : FnScope ["self", "node"] ["self", "node"] (defScope s_Circuits_shown) := ⟨rfl, rfl, rfl, by decide +kernel, rfl, by decide +kernel, by decide +kernel⟩
abbrev s_Circuits_count : Stmt := (inClass (topS 11) 6)
theorem sc_Circuits_count : FnScope ["self"] ["self"] (defScope s_Circuits_count) := ⟨rfl, rfl, rfl, by decide +kernel, rfl, by decide +kernel, by decide +kernel⟩
abbrev s_Circuits_several : Stmt := (inClass (topS 11) 9)
theorem sc_Circuits_several : FnScope ["self", "word", "nodes", "neutral"] ["self", "word", "nodes", "neutral"] (defScope s_Circuits_several) := ⟨rfl, rfl, rfl, by decide +kernel, rfl, by decide +kernel, by decide +kernel⟩
abbrev s_Circuits_node : Stmt := (inClass (topS 11) 10)
theorem sc_Circuits_node : FnScope ["self", "shown"] ["self", "shown"] (defScope s_Circuits_node) := ⟨rfl, rfl, rfl, by decide +kernel, rfl, by decide +kernel, by decide +kernel⟩
abbrev s_Reckoner_init : Stmt := (inClass (topS 12) 0)
theorem sc_Reckoner_init : FnScope ["self", "semiring", "worths"] ["self", "semiring", "worths"] (defScope s_Reckoner_init) := ⟨rfl, rfl, rfl, by decide +kernel, rfl, by decide +kernel, by decide +kernel⟩
abbrev s_Reckoner_fact : Stmt := (inClass (topS 12) 1)
theorem sc_Reckoner_fact : FnScope ["self", "k"] ["self", "k"] (defScope s_Reckoner_fact) := ⟨rfl, rfl, rfl, by decide +kernel, rfl, by decide +kernel, by decide +kernel⟩
abbrev s_Reckoner_plus : Stmt := (inClass (topS 12) 2)
theorem sc_Reckoner_plus : FnScope ["self", "parts", "total", "part"] ["self", "parts"] (defScope s_Reckoner_plus) := ⟨rfl, rfl, rfl, by decide +kernel, rfl, by decide +kernel, by decide +kernel⟩
abbrev s_Reckoner_times : Stmt := (inClass (topS 12) 3)
theorem sc_Reckoner_times : FnScope ["self", "parts", "total", "part"] ["self", "parts"] (defScope s_Reckoner_times) := ⟨rfl, rfl, rfl, by decide +kernel, rfl, by decide +kernel, by decide +kernel⟩
abbrev s_Reckoner_star : Stmt := (inClass (topS 12) 4)
theorem sc_Reckoner_star : FnScope ["self", "part"] ["self", "part"] (defScope s_Reckoner_star) := ⟨rfl, rfl, rfl, by decide +kernel, rfl, by decide +kernel, by decide +kernel⟩
abbrev s_Exchange_init : Stmt := (inClass (topS 13) 0)
theorem sc_Exchange_init : FnScope ["self", "circuits", "nodes"] ["self", "circuits", "nodes"] (defScope s_Exchange_init) := ⟨rfl, rfl, rfl, by decide +kernel, rfl, by decide +kernel, by decide +kernel⟩
abbrev s_Exchange_fact : Stmt := (inClass (topS 13) 1)
theorem sc_Exchange_fact : FnScope ["self", "k"] ["self", "k"] (defScope s_Exchange_fact) := ⟨rfl, rfl, rfl, by decide +kernel, rfl, by decide +kernel, by decide +kernel⟩
abbrev s_Exchange_plus : Stmt := (inClass (topS 13) 2)
theorem sc_Exchange_plus : FnScope ["self", "parts"] ["self", "parts"] (defScope s_Exchange_plus) := ⟨rfl, rfl, rfl, by decide +kernel, rfl, by decide +kernel, by decide +kernel⟩
abbrev s_Exchange_times : Stmt := (inClass (topS 13) 3)
theorem sc_Exchange_times : FnScope ["self", "parts"] ["self", "parts"] (defScope s_Exchange_times) := ⟨rfl, rfl, rfl, by decide +kernel, rfl, by decide +kernel, by decide +kernel⟩
abbrev s_Exchange_star : Stmt := (inClass (topS 13) 4)
theorem sc_Exchange_star : FnScope ["self", "part"] ["self", "part"] (defScope s_Exchange_star) := ⟨rfl, rfl, rfl, by decide +kernel, rfl, by decide +kernel, by decide +kernel⟩
abbrev s_nodes_within : Stmt := (topS 14)
theorem sc_nodes_within : FnScope ["circuits", "nodes", "found", "waiting", "node", "part"] ["circuits", "nodes"] (defScope s_nodes_within) := ⟨rfl, rfl, rfl, by decide +kernel, rfl, by decide +kernel, by decide +kernel⟩
abbrev s_parts : Stmt := (topS 15)
theorem sc_parts : FnScope ["shown"] ["shown"] (defScope s_parts) := ⟨rfl, rfl, rfl, by decide +kernel, rfl, by decide +kernel, by decide +kernel⟩
abbrev s_all_made : Stmt := (topS 16)
theorem sc_all_made : FnScope ["circuits", "nodes", "maker", "made", "node"] ["circuits", "nodes", "maker"] (defScope s_all_made) := ⟨rfl, rfl, rfl, by decide +kernel, rfl, by decide +kernel, by decide +kernel⟩
abbrev s_made : Stmt := (topS 17)
theorem sc_made : FnScope ["shown", "made", "maker", "word", "parts", "part"] ["shown", "made", "maker"] (defScope s_made) := ⟨rfl, rfl, rfl, by decide +kernel, rfl, by decide +kernel, by decide +kernel⟩
abbrev s_worth : Stmt := (topS 18)
theorem sc_worth : FnScope ["circuits", "node", "semiring", "worths"] ["circuits", "node", "semiring", "worths"] (defScope s_worth) := ⟨rfl, rfl, rfl, by decide +kernel, rfl, by decide +kernel, by decide +kernel⟩
abbrev s_put_in : Stmt := (topS 19)
theorem sc_put_in : FnScope ["circuits", "node", "nodes"] ["circuits", "node", "nodes"] (defScope s_put_in) := ⟨rfl, rfl, rfl, by decide +kernel, rfl, by decide +kernel, by decide +kernel⟩
abbrev s_carried : Stmt := (topS 20)
theorem sc_carried : FnScope ["source", "node", "target", "nodes", "before"] ["source", "node", "target", "nodes"] (defScope s_carried) := ⟨rfl, rfl, rfl, by decide +kernel, rfl, by decide +kernel, by decide +kernel⟩
abbrev s_is_integer : Stmt := (topS 22)
theorem sc_is_integer : FnScope ["thing"] ["thing"] (defScope s_is_integer) := ⟨rfl, rfl, rfl, by decide +kernel, rfl, by decide +kernel, by decide +kernel⟩
abbrev s_is_between : Stmt := (topS 23)
theorem sc_is_between : FnScope ["thing", "low", "high"] ["thing", "low", "high"] (defScope s_is_between) := ⟨rfl, rfl, rfl, by decide +kernel, rfl, by decide +kernel, by decide +kernel⟩
abbrev s_Finite_init : Stmt := (inClass (topS 26) 0)
theorem sc_Finite_init : FnScope ["self", "plus_table", "times_table", "one", "stars", "plus", "times", "told", "code"] ["self", "plus_table", "times_table", "one", "stars"] (defScope s_Finite_init) := ⟨rfl, rfl, rfl, by decide +kernel, rfl, by decide +kernel, by decide +kernel⟩
abbrev s_Finite_zero : Stmt := (inClass (topS 26) 1)
theorem sc_Finite_zero : FnScope ["self"] ["self"] (defScope s_Finite_zero) := ⟨rfl, rfl, rfl, by decide +kernel, rfl, by decide +kernel, by decide +kernel⟩
abbrev s_Finite_one : Stmt := (inClass (topS 26) 2)
theorem sc_Finite_one : FnScope ["self"] ["self"] (defScope s_Finite_one) := ⟨rfl, rfl, rfl, by decide +kernel, rfl, by decide +kernel, by decide +kernel⟩
abbrev s_Finite_plus : Stmt := (inClass (topS 26) 3)
theorem sc_Finite_plus : FnScope ["self", "a", "b"] ["self", "a", "b"] (defScope s_Finite_plus) := ⟨rfl, rfl, rfl, by decide +kernel, rfl, by decide +kernel, by decide +kernel⟩
abbrev s_Finite_times : Stmt := (inClass (topS 26) 4)
theorem sc_Finite_times : FnScope ["self", "a", "b"] ["self", "a", "b"] (defScope s_Finite_times) := ⟨rfl, rfl, rfl, by decide +kernel, rfl, by decide +kernel, by decide +kernel⟩
abbrev s_Finite_star : Stmt := (inClass (topS 26) 5)
theorem sc_Finite_star : FnScope ["self", "a", "star"] ["self", "a"] (defScope s_Finite_star) := ⟨rfl, rfl, rfl, by decide +kernel, rfl, by decide +kernel, by decide +kernel⟩
abbrev s_Finite_size : Stmt := (inClass (topS 26) 7)
theorem sc_Finite_size : FnScope ["self"] ["self"] (defScope s_Finite_size) := ⟨rfl, rfl, rfl, by decide +kernel, rfl, by decide +kernel, by decide +kernel⟩
abbrev s_copied : Stmt := (topS 27)
theorem sc_copied : FnScope ["table", "row"] ["table"] (defScope s_copied) := ⟨rfl, rfl, rfl, by decide +kernel, rfl, by decide +kernel, by decide +kernel⟩
abbrev s_first_failure : Stmt := (topS 28)
theorem sc_first_failure : FnScope ["plus", "times", "one", "stars"] ["plus", "times", "one", "stars"] (defScope s_first_failure) := ⟨rfl, rfl, rfl, by decide +kernel, rfl, by decide +kernel, by decide +kernel⟩
abbrev s_sizes_fit : Stmt := (topS 29)
theorem sc_sizes_fit : FnScope ["plus", "times", "stars", "n", "row"] ["plus", "times", "stars"] (defScope s_sizes_fit) := ⟨rfl, rfl, rfl, by decide +kernel, rfl, by decide +kernel, by decide +kernel⟩
abbrev s_entries_fit : Stmt := (topS 30)
theorem sc_entries_fit : FnScope ["plus", "times", "one", "stars", "top", "entries", "told", "row", "entry", "star"] ["plus", "times", "one", "stars"] (defScope s_entries_fit) := ⟨rfl, rfl, rfl, by decide +kernel, rfl, by decide +kernel, by decide +kernel⟩
abbrev s_is_symmetric : Stmt := (topS 31)
theorem sc_is_symmetric : FnScope ["table", "n", "a", "b"] ["table"] (defScope s_is_symmetric) := ⟨rfl, rfl, rfl, by decide +kernel, rfl, by decide +kernel, by decide +kernel⟩
abbrev s_is_associative : Stmt := (topS 32)
theorem sc_is_associative : FnScope ["table", "n", "a", "b", "left", "c"] ["table"] (defScope s_is_associative) := ⟨rfl, rfl, rfl, by decide +kernel, rfl, by decide +kernel, by decide +kernel⟩
abbrev s_is_neutral : Stmt := (topS 33)
theorem sc_is_neutral : FnScope ["table", "number", "a"] ["table", "number"] (defScope s_is_neutral) := ⟨rfl, rfl, rfl, by decide +kernel, rfl, by decide +kernel, by decide +kernel⟩
abbrev s_is_distributive : Stmt := (topS 34)
theorem sc_is_distributive : FnScope ["plus", "times", "n", "a", "row", "b", "c"] ["plus", "times"] (defScope s_is_distributive) := ⟨rfl, rfl, rfl, by decide +kernel, rfl, by decide +kernel, by decide +kernel⟩
abbrev s_stars_fit : Stmt := (topS 35)
theorem sc_stars_fit : FnScope ["plus", "times", "one", "stars", "a", "star"] ["plus", "times", "one", "stars"] (defScope s_stars_fit) := ⟨rfl, rfl, rfl, by decide +kernel, rfl, by decide +kernel, by decide +kernel⟩
abbrev s_law_pot : Stmt := (topS 37)
theorem sc_law_pot : FnScope ["script", "seed", "cell"] ["script"] (defScope s_law_pot) := ⟨rfl, rfl, rfl, by decide +kernel, rfl, by decide +kernel, by decide +kernel⟩
abbrev s_law_next : Stmt := (topS 38)
theorem sc_law_next : FnScope ["pot", "limit", "cell", "found", "mixed"] ["pot", "limit"] (defScope s_law_next) := ⟨rfl, rfl, rfl, by decide +kernel, rfl, by decide +kernel, by decide +kernel⟩
abbrev s_law_family : Stmt := (topS 39)
theorem sc_law_family : FnScope ["pot", "kind", "small", "size", "plus", "a", "b"] ["pot", "kind", "small"] (defScope s_law_family) := ⟨rfl, rfl, rfl, by decide +kernel, rfl, by decide +kernel, by decide +kernel⟩
abbrev s_law_paired : Stmt := (topS 40)
theorem sc_law_paired : FnScope ["one", "other", "many", "pairs", "a", "plus", "times", "b"] ["one", "other"] (defScope s_law_paired) := ⟨rfl, rfl, rfl, by decide +kernel, rfl, by decide +kernel, by decide +kernel⟩
abbrev s_law_renamed : Stmt := (topS 41)
theorem sc_law_renamed : FnScope ["pot", "told", "size", "left", "names", "k", "back", "plus", "times", "a", "b"] ["pot", "told"] (defScope s_law_renamed) := ⟨rfl, rfl, rfl, by decide +kernel, rfl, by decide +kernel, by decide +kernel⟩
abbrev s_law_stars : Stmt := (topS 42)
theorem sc_law_stars : FnScope ["pot", "told", "plus", "times", "one", "found", "a", "fits", "drawn", "s"] ["pot", "told"] (defScope s_law_stars) := ⟨rfl, rfl, rfl, by decide +kernel, rfl, by decide +kernel, by decide +kernel⟩
abbrev s_law_ring : Stmt := (topS 43)
theorem sc_law_ring : FnScope ["pot", "kind", "told"] ["pot"] (defScope s_law_ring) := ⟨rfl, rfl, rfl, by decide +kernel, rfl, by decide +kernel, by decide +kernel⟩
abbrev s_law_is_ring : Stmt := (topS 44)
theorem sc_law_is_ring : FnScope ["ring", "plus", "times", "one", "stars", "size", "a", "b", "c"] ["ring"] (defScope s_law_is_ring) := ⟨rfl, rfl, rfl, by decide +kernel, rfl, by decide +kernel, by decide +kernel⟩
abbrev s_law_grown : Stmt := (topS 45)
theorem sc_law_grown : FnScope ["pot", "circuits", "facts", "stars", "nodes", "k", "kind", "drawn", "j"] ["pot", "circuits", "facts", "stars"] (defScope s_law_grown) := ⟨rfl, rfl, rfl, by decide +kernel, rfl, by decide +kernel, by decide +kernel⟩
abbrev s_law_found : Stmt := (topS 46)
theorem sc_law_found : FnScope ["circuits", "node", "ring", "worths", "e"] ["circuits", "node", "ring", "worths"] (defScope s_law_found) := ⟨rfl, rfl, rfl, by decide +kernel, rfl, by decide +kernel, by decide +kernel⟩
abbrev s_law : Stmt := (topS 47)
theorem sc_law : FnScope ["script", "pot", "told", "ring", "circuits", "nodes", "worths", "k", "node", "before", "inside", "new", "fact", "found", "due"] ["script"] (defScope s_law) := ⟨rfl, rfl, rfl, by decide +kernel, rfl, by decide +kernel, by decide +kernel⟩
local macro_rules | `(tactic| walk_at "len") => `(tactic| first | (intro h; obtain ⟨_, e, _⟩ := h; rw [e]; rfl) | (intro h; obtain ⟨_, _, e, _⟩ := h; rw [e]; rfl) | (intro h; obtain ⟨_, _, _, e, _⟩ := h; rw [e]; rfl) | (intro h; obtain ⟨_, _, _, _, e, _⟩ := h; rw [e]; rfl) | (intro h; obtain ⟨_, _, _, _, _, e, _⟩ := h; rw [e]; rfl) | (intro h; obtain ⟨_, _, _, _, _, _, e, _⟩ := h; rw [e]; rfl) | (intro h; obtain ⟨_, _, _, _, _, _, _, e, _⟩ := h; rw [e]; rfl) | (intro h; obtain ⟨_, _, _, _, _, _, _, _, e, _⟩ := h; rw [e]; rfl) | (intro h; obtain ⟨_, _, _, _, _, _, _, _, _, e, _⟩ := h; rw [e]; rfl) | (intro h; exact h.elim))
structure Ad where
  WorthError : Addr
  NoStar : Addr
  AxiomError : Addr
  Finite : Addr
  TooLarge : Addr
  Circuits : Addr
  Reckoner : Addr
  Exchange : Addr
structure Txt (K : PySem.W.Frag) (mg : Str → Option Value) (ad : Ad) : Prop where
  z_isinstance : mg "isinstance" = none
  z_int : mg "int" = none
  z_bool : mg "bool" = none
  z_list : mg "list" = none
  z_tuple : mg "tuple" = none
  z_min : mg "min" = none
  z_max : mg "max" = none
  z_abs : mg "abs" = none
  z_len : mg "len" = none
  z_range : mg "range" = none
  z_all : mg "all" = none
  z_any : mg "any" = none
  z_dict : mg "dict" = none
  z_sorted : mg "sorted" = none
  z_sum : mg "sum" = none
  g_MOST_NUMBERS : ∃ t, mg "MOST_NUMBERS" = some (.int 32 t)
  g_MOST_NODES : ∃ t, mg "MOST_NODES" = some (.int 20000 t)
  g_MOST_IN_ONE : ∃ t, mg "MOST_IN_ONE" = some (.int 2000 t)
  g_ZERO : ∃ t, mg "ZERO" = some (.int 0 t)
  g_ONE : ∃ t, mg "ONE" = some (.int 1 t)
  g_TooLarge : mg "TooLarge" = some (.ref ad.TooLarge)
  x_TooLarge : PySem.W.excIn K ad.TooLarge [.type "ValueError", .type "Exception", .type "BaseException", .type "object"] "ValueError.__new__" = true
  k_TooLarge : PySem.W.keepIn K (.ref ad.TooLarge) = true
  b_TooLarge : PySem.W.subIn K (.ref ad.TooLarge) (.type "BaseException") = some true
  t_TooLarge : PySem.W.typeIn K (.ref ad.TooLarge) = some (.type "type")
  g_WorthError : mg "WorthError" = some (.ref ad.WorthError)
  g_NoStar : mg "NoStar" = some (.ref ad.NoStar)
  x_NoStar : PySem.W.excIn K ad.NoStar [.type "ValueError", .type "Exception", .type "BaseException", .type "object"] "ValueError.__new__" = true
  k_NoStar : PySem.W.keepIn K (.ref ad.NoStar) = true
  b_NoStar : PySem.W.subIn K (.ref ad.NoStar) (.type "BaseException") = some true
  t_NoStar : PySem.W.typeIn K (.ref ad.NoStar) = some (.type "type")
  ec_NoStar : ExcC K ad.NoStar
  em_NoStar : PySem.W.exmOne K (.ref ad.NoStar) (.ref ad.WorthError) = some true
  ki_NoStar : PySem.W.kitOne K (.ref ad.NoStar) (.ref ad.NoStar) = some true
  c_Finite : Cls K ad.Finite
  c_Circuits : Cls K ad.Circuits
  c_Reckoner : Cls K ad.Reckoner
  c_Exchange : Cls K ad.Exchange
  n_plus : NoAttr K ad.Finite "_plus"
  n_times : NoAttr K ad.Finite "_times"
  n_one : NoAttr K ad.Finite "_one"
  n_stars : NoAttr K ad.Finite "_stars"
  n_shown : NoAttr K ad.Circuits "_shown"
  n_numbers : NoAttr K ad.Circuits "_numbers"
  n_semiring : NoAttr K ad.Reckoner "_semiring"
  n_worths : NoAttr K ad.Reckoner "_worths"
  n_circuits : NoAttr K ad.Exchange "_circuits"
  n_nodes : NoAttr K ad.Exchange "_nodes"

/-! ### things and numbers -/
def isI : V → Bool
  | .int _ => true
  | _ => false
/-- a thing whose type isinstance tells -/
inductive Thg (H : Hp) : V → Prop where
  | non : Thg H .non
  | bl (b : Bool) : Thg H (.bl b)
  | int (i : Int) : Thg H (.int i)
  | str (x : Str) : Thg H (.str x)
  | lst {a : Addr} {xs : List V} (e : H a = some (.lst xs)) : Thg H (.ref a)
  | tup {a : Addr} {xs : List V} (e : H a = some (.tup xs)) : Thg H (.ref a)
/-- (isinstance(x, int), isinstance(x, bool)) -/
theorem thg_ty {K : PySem.W.Frag} {H : Hp} {x : V} (h : Thg H x) : ∃ t, TyX K H x t ∧ (∃ b1 b2, PySem.W.kitOne K t (.type "int") = some b1 ∧ PySem.W.kitOne K t (.type "bool") = some b2 ∧ (b1 && !b2) = isI x ∧ (b1 = false → isI x = false)) := by
  cases h with
  | non => exact ⟨_, .base .non, false, false, kit_ty (by decide +kernel), kit_ty (by decide +kernel), rfl, fun _ => rfl⟩
  | bl b => exact ⟨_, .base (.bl b), true, true, kit_ty (by decide +kernel), kit_ty (by decide +kernel), rfl, fun _ => rfl⟩
  | int i => exact ⟨_, .base (.int i), true, false, kit_ty (by decide +kernel), kit_ty (by decide +kernel), rfl, fun z => by cases z⟩
  | str b => exact ⟨_, .base (.str b), false, false, kit_ty (by decide +kernel), kit_ty (by decide +kernel), rfl, fun _ => rfl⟩
  | lst e => exact ⟨_, .base (.lst e), false, false, kit_ty (by decide +kernel), kit_ty (by decide +kernel), rfl, fun _ => rfl⟩
  | tup e => exact ⟨_, .base (.tup e), false, false, kit_ty (by decide +kernel), kit_ty (by decide +kernel), rfl, fun _ => rfl⟩
def spIsInt : Sp := fun vs H Q _ => ∃ x, vs = [x] ∧ Thg H x ∧ Q (.bl (isI x)) H
def natV : V → Bool
  | .int i => decide (0 ≤ i)
  | _ => false
def betV (lo hi : Int) : V → Bool
  | .int i => decide (lo ≤ i ∧ i ≤ hi)
  | _ => false
def spIsNat : Sp := fun vs H Q _ => ∃ x, vs = [x] ∧ Thg H x ∧ Q (.bl (natV x)) H
def spIsBet : Sp := fun vs H Q _ => ∃ x lo hi, vs = [x, .int lo, .int hi] ∧ Thg H x ∧ Q (.bl (betV lo hi x)) H
section
variable {P : Program} {w : World} {K : PySem.W.Frag} {mg : Str → Option Value} {base : Heap} {ad : Ad}
theorem ok_is_integer  {f : Addr} {fd : FuncData} (F : Fun K "is_integer" "is_integer" s_is_integer f fd) (T : Txt K mg ad) : FnOk P w K mg base (L2.CX P w) 1 f fd ["thing"] (spIsInt) := by
  refine F.okX sc_is_integer (fun vs H Q E => ?_) (fun cdv A outer s H vs Q E hr h => ?_)
  · walk_at "len"
  ·
    obtain ⟨x, rfl, hx, k⟩ := h
    refine ⟨_, (pss_one (ps_ret (pe_and (pe_callB call_isi (by rfl) T.z_isinstance (by decide +kernel) (pa_cons (pv 0) (pa_cons (pe_bltn (v := .ty "int") (by rfl) T.z_int (by decide +kernel) rfl) pa_nil))) (pe_one (pe_not (pe_callB call_isi (by rfl) T.z_isinstance (by decide +kernel) (pa_cons (pv 0) (pa_cons (pe_bltn (v := .ty "bool") (by rfl) T.z_bool (by decide +kernel) rfl) pa_nil)))))))), ?_⟩
    obtain ⟨t, ty, b1, b2, e1, e2, e3, e4⟩ := thg_ty (K := K) hx
    refine ⟨_, rfl, _, _, _, _, b1, rfl, .ty _, ty, e1, b1, rfl, ?_⟩
    refine ite2 (fun c => ?_) (fun c => ?_)
    · refine ⟨_, rfl, _, _, _, _, b2, rfl, .ty _, ty, e2, b2, rfl, ?_⟩
      subst c
      rw [Bool.true_and] at e3
      rw [e3]
      exact k
    · have c' : b1 = false := by simpa using c
      have := e4 c'
      rw [this] at k
      exact k
theorem ok_is_between (c_is_integer : CalX P w K mg base 1 "is_integer" spIsInt) {f : Addr} {fd : FuncData} (F : Fun K "is_between" "is_between" s_is_between f fd) (T : Txt K mg ad) : FnOk P w K mg base (L2.CX P w) 2 f fd ["thing", "low", "high"] (spIsBet) := by
  refine F.okX sc_is_between (fun vs H Q E => ?_) (fun cdv A outer s H vs Q E hr h => ?_)
  · walk_at "len"
  ·
    obtain ⟨x, lo, hi, rfl, hx, k⟩ := h
    refine ⟨_, (pss_one (ps_ret (pe_and (pc_call c_is_integer hr (by first | decide | omega) (takes_of rfl rfl rfl rfl) (by rfl) (pa_cons (pv 0) pa_nil)) (pe_one (pe_chain op_le op_le (pv 1) (pv 0) (pv 2)))))), ?_⟩
    refine ⟨_, rfl, _, rfl, hx, _, rfl, ?_⟩
    refine ite2 (fun c => ?_) (fun c => ?_)
    · cases x <;> first | exact absurd c Bool.false_ne_true | skip
      rename_i i
      refine ⟨_, rfl, _, rfl, _, _, rfl, rfl, _, rfl, ?_⟩
      refine ite2 (fun c1 => ?_) (fun c1 => ?_)
      · refine ⟨_, rfl, _, _, rfl, rfl, ?_⟩
        have c1' : lo ≤ i := by simpa using c1
        have e : betV lo hi (.int i) = decide (i ≤ hi) := by simp [betV, c1']
        rw [e] at k
        exact k
      · have c1' : ¬ lo ≤ i := by simpa using c1
        have e : betV lo hi (.int i) = false := by simp [betV, c1']
        rw [e] at k
        exact k
    · cases x <;> first | exact k | exact absurd rfl c

/-! ### a semiring object: what its methods promise -/
/-- plus, times: of elements x, y of the object at p (class C, fields fs) -/
def spBin (C : Addr) (fs : List (Str × V)) (el : V → Prop) (f : V → V → V) : Sp := fun vs H Q _ => ∃ p dx x y, vs = [.ref p, x, y] ∧ H p = some (.ins C dx fs) ∧ el x ∧ el y ∧ Q (f x y) H
def spNul (C : Addr) (fs : List (Str × V)) (z : V) : Sp := fun vs H Q _ => ∃ p dx, vs = [.ref p] ∧ H p = some (.ins C dx fs) ∧ Q z H
def spSt (C ns : Addr) (fs : List (Str × V)) (el : V → Prop) (st : V → Option V) : Sp := fun vs H Q E => ∃ p dx x, vs = [.ref p, x] ∧ H p = some (.ins C dx fs) ∧ el x ∧ (∀ s, st x = some s → Q s H) ∧ (st x = none → E (.ref ns) none H)
def spEl (C : Addr) (fs : List (Str × V)) (t : V → Bool) : Sp := fun vs H Q _ => ∃ p dx x, vs = [.ref p, x] ∧ H p = some (.ins C dx fs) ∧ Thg H x ∧ Q (.bl (t x)) H
end
/-! ### draws -/
/-! ### the law's own draws -/
/-- all but what stands at a is as it was -/
def Fr1 (a : Addr) (H H' : Hp) : Prop := ∀ b o, b ≠ a → H b = some o → H' b = some o
theorem Fr1.refl (a : Addr) (H : Hp) : Fr1 a H H := fun _ _ _ h => h
theorem Fr1.trans {a : Addr} {H H1 H2 : Hp} (x : Fr1 a H H1) (y : Fr1 a H1 H2) : Fr1 a H H2 := fun b o n h => y b o n (x b o n h)
theorem Fr1.upd {a : Addr} {H H1 : Hp} {o : HO} (x : Fr1 a H H1) : Fr1 a H (upd H1 a o) := fun b u n h => by rw [upd_ne n]; exact x b u n h
theorem Fr1.of {a : Addr} {H H1 : Hp} (x : Same H H1) : Fr1 a H H1 := fun b o _ h => x b o h
theorem Fr1.new {a p : Addr} {H H1 : Hp} {o : HO} (x : Fr1 a H H1) (h : H p = none) : Fr1 a H (L2.upd H1 p o) := fun b u n e => by rw [upd_ne (ne_of_none e h)]; exact x b u n e
theorem same_new {p : Addr} {H H1 : Hp} {o : HO} (x : Same H H1) (h : H p = none) : Same H (L2.upd H1 p o) := fun b u e => by rw [upd_ne (ne_of_none e h)]; exact x b u e
/-- the pot: what is drawn from -/
def PotAt (H : Hp) (a : Addr) : Prop := ∃ (b : Addr) (ns : List Int) (i c sd : Int), H a = some (.lst [.ref b, .int i, .int c, .int sd]) ∧ H b = some (.lst (ns.map V.int)) ∧ b ≠ a ∧ 0 ≤ i ∧ 0 ≤ c ∧ 0 ≤ sd
theorem PotAt.same {H H' : Hp} {a : Addr} (p : PotAt H a) (s : Same H H') : PotAt H' a := by
  obtain ⟨b, ns, i, c, sd, h1, h2, h3, h4⟩ := p
  exact ⟨b, ns, i, c, sd, s _ _ h1, s _ _ h2, h3, h4⟩
/-- the same, its list at b -/
def PotB (H : Hp) (a b : Addr) : Prop := ∃ (ns : List Int) (i c sd : Int), H a = some (.lst [.ref b, .int i, .int c, .int sd]) ∧ H b = some (.lst (ns.map V.int)) ∧ b ≠ a ∧ 0 ≤ i ∧ 0 ≤ c ∧ 0 ≤ sd
theorem PotB.at_ {H : Hp} {a b : Addr} (p : PotB H a b) : PotAt H a := let ⟨ns, i, c, sd, h⟩ := p; ⟨b, ns, i, c, sd, h⟩
theorem PotAt.b_ {H : Hp} {a : Addr} (p : PotAt H a) : ∃ b, PotB H a b := let ⟨b, ns, i, c, sd, h⟩ := p; ⟨b, ns, i, c, sd, h⟩
theorem PotB.same {H H' : Hp} {a b : Addr} (p : PotB H a b) (s : Same H H') : PotB H' a b := by
  obtain ⟨ns, i, c, sd, h1, h2, h3⟩ := p
  exact ⟨ns, i, c, sd, s _ _ h1, s _ _ h2, h3⟩
theorem PotB.but {H H' : Hp} {a b : Addr} (p : PotB H a b) (h1 : H' a = H a) (h2 : H' b = H b) : PotB H' a b := by
  obtain ⟨ns, i, c, sd, e1, e2, h3⟩ := p
  exact ⟨ns, i, c, sd, h1.trans e1, h2.trans e2, h3⟩
theorem PotAt.some {H : Hp} {a : Addr} (p : PotAt H a) : ∃ o, H a = some o := by
  obtain ⟨b, ns, i, c, sd, h1, _⟩ := p
  exact ⟨_, h1⟩
def spPot (K : PySem.W.Frag) : Sp := fun vs H Q _ => ∃ (a : Addr) (ns : List Int), vs = [.ref a] ∧ SqL K H a (ns.map V.int) ∧ ns.length ≤ 63 ∧ ∀ H' p, Same H H' → H p = none → PotAt H' p → Q (.ref p) H'
def spNext : Sp := fun vs H Q _ => ∃ a lim, vs = [.ref a, .int lim] ∧ PotAt H a ∧ 0 < lim ∧ lim.natAbs < 2 ^ 250 ∧ ∀ H' r, Fr1 a H H' → PotAt H' a → 0 ≤ r → r < lim → (∀ b, PotB H a b → PotB H' a b) → Q (.int r) H'
section
variable {P : Program} {w : World} {K : PySem.W.Frag} {mg : Str → Option Value} {base : Heap} {ad : Ad}
theorem ok_law_pot  {f : Addr} {fd : FuncData} (F : Fun K "_law_pot" "_law_pot" s_law_pot f fd) (T : Txt K mg ad) : FnOk P w K mg base (L2.CX P w) 1 f fd ["script"] (spPot K) := by
  refine F.okX sc_law_pot (fun vs H Q E => ?_) (fun cdv A outer s H vs Q E hr h => ?_)
  · walk_at "len"
  ·
    obtain ⟨a, ns, rfl, hS, hl, k⟩ := h
    refine ⟨_, (pss_cons (ps_set (i := 1) sc_law_pot.nd rfl (by first | exact Or.inl rfl | exact Or.inr rfl) pe_int)
      (pss_cons (ps_for (passes_of rfl) rfl (pi_list (pv 0)) (pg_name (i := 2) sc_law_pot.nd rfl (by first | exact Or.inl rfl | exact Or.inr rfl)) (pss_one (ps_set (i := 1) sc_law_pot.nd rfl (by first | exact Or.inl rfl | exact Or.inr rfl) (pe_op op_mod (pe_callTy call_int1 (by rfl) T.z_int (by decide +kernel) (pa_cons (pe_op op_add (pe_op op_mul (pv 1) pe_int) (pv 2)) pa_nil)) pe_int))))
      (pss_one (ps_ret (pe_lst (pa_cons (pe_callTy call_list_of (by rfl) T.z_list (by decide +kernel) (pa_cons (pv 0) pa_nil)) (pa_cons pe_int (pa_cons pe_int (pa_cons (pv 1) pa_nil))))))))), ?_⟩
    refine ⟨_, rfl, a, rfl, ⟨_, hS⟩, for_list (K := K) (a := a) (xs := ns.map V.int) (fun i σ H2 => ∃ (sd : Int) (v : Option V), σ = [some (.ref a), some (.int sd), v] ∧ 0 ≤ sd ∧ H2 = H)
      ⟨1, none, rfl, by decide, rfl⟩ (fun i σ H2 _ ⟨_, _, _, _, e⟩ => by rw [e]; exact hS) ?_ ?_⟩
    · rintro i y σ H2 hi ⟨sd, v, rfl, hsd, rfl⟩
      obtain ⟨z, rfl⟩ : ∃ z, y = V.int z := by
        rw [List.getElem?_map] at hi
        cases e : ns[i]? with
        | none =>
          rw [e] at hi
          cases hi
        | some z =>
          rw [e] at hi
          exact ⟨z, (Option.some.inj hi).symm⟩
      refine ⟨_, rfl, _, _, rfl, rfl, .inr ⟨by decide, by decide⟩, _, rfl, _, _, rfl, rfl, .inl ⟨_, rfl, _, _, rfl, rfl, (by show (0 : Int) < 2147483647; decide), ?_⟩⟩
      exact ⟨_, _, rfl, Int.emod_nonneg _ (by decide), rfl⟩
    · rintro σ H2 ⟨sd, v, rfl, hsd, rfl⟩
      refine ⟨_, rfl, a, _, rfl, .inl hS, fun l hl1 => ⟨_, rfl, (by show 4 ≤ sizeLine; decide), fun p hp => ?_⟩⟩
      have npl : p ≠ l := by
        intro z
        subst z
        rw [upd_same] at hp
        cases hp
      have hp0 : H2 p = none := by rw [upd_ne npl] at hp; exact hp
      exact k _ p (same_new (same_new (Same.refl _) hl1) hp0) hp0 ⟨l, ns, 0, 0, sd, upd_same, by rw [upd_ne (Ne.symm npl), upd_same], Ne.symm npl, by decide, by decide, hsd⟩
theorem ok_law_next  {f : Addr} {fd : FuncData} (F : Fun K "_law_next" "_law_next" s_law_next f fd) (T : Txt K mg ad) : FnOk P w K mg base (L2.CX P w) 1 f fd ["pot", "limit"] (spNext) := by
  refine F.okX sc_law_next (fun vs H Q E => ?_) (fun cdv A outer s H vs Q E hr h => ?_)
  · walk_at "len"
  ·
    obtain ⟨a, lim, rfl, ⟨b, ns, i, c, sd, h1, h2, h3, h4, h5, h6⟩, hl0, hl1, k⟩ := h
    have k2 : ∀ H' r, Fr1 a H H' → PotB H' a b → 0 ≤ r → r < lim → Q (.int r) H' := fun H' r fr hpb r0 r1 => k H' r fr hpb.at_ r0 r1 fun b' hb' => by
      obtain ⟨ns', i', c', sd', e1, _⟩ := hb'
      rw [h1] at e1
      injection e1 with e1
      injection e1 with e1
      injection e1 with e1 _
      injection e1 with e1
      subst e1
      exact hpb
    have hr1 : ∀ x : Int, 0 ≤ x % lim ∧ x % lim < lim := fun x => ⟨Int.emod_nonneg _ (by omega), Int.emod_lt_of_pos _ hl0⟩
    refine ⟨_, (C8.pss_cut (ps_if (PW.pt (pw_and (pt_cmpR op_eq (pe_ix ix_list (pv 0) pe_int (fun _ _ => rfl)) pe_int (nomark _)) (pw_and1 (pt_cmpR op_lt (pe_ix ix_list (pv 0) pe_int (fun _ _ => rfl)) (pe_callB call_len (by rfl) T.z_len (by decide +kernel) (pa_cons (pe_ix ix_list (pv 0) pe_int (fun _ _ => rfl)) pa_nil)) (nomark _))))) (pss_cons (ps_set (i := 2) sc_law_next.nd rfl (by first | exact Or.inl rfl | exact Or.inr rfl) (pe_callB call_abs (by rfl) T.z_abs (by decide +kernel) (pa_cons (pe_callTy call_int1 (by rfl) T.z_int (by decide +kernel) (pa_cons (pe_ix ix_list (pe_ix ix_list (pv 0) pe_int (fun _ _ => rfl)) (pe_ix ix_list (pv 0) pe_int (fun _ _ => rfl)) (fun _ _ => rfl)) pa_nil)) pa_nil)))
      (pss_cons (ps_asg (pe_op op_add (pe_ix ix_list (pv 0) pe_int (fun _ _ => rfl)) pe_int) (pg_sub (pv 0) pe_int set_list))
      (pss_cons (ps_if (pt_cmpR op_lt (pv 2) (pe_op op_pow pe_int pe_int) (nomark _)) (pss_one (ps_ret (pe_op op_mod (pe_callTy call_int1 (by rfl) T.z_int (by decide +kernel) (pa_cons (pv 2) pa_nil)) (pv 1)))) pss_nil)
      (pss_one (ps_asg (pv 2) (pg_sub (pv 0) pe_int set_list)))))) pss_nil)
      (C8.pss_cut (ps_if (pt_cmpR op_gt (pe_ix ix_list (pv 0) pe_int (fun _ _ => rfl)) pe_int (nomark _)) (pss_cons (ps_set (i := 3) sc_law_next.nd rfl (by first | exact Or.inl rfl | exact Or.inr rfl) (pe_op op_mod (pe_callTy call_int1 (by rfl) T.z_int (by decide +kernel) (pa_cons (pe_ix ix_list (pv 0) pe_int (fun _ _ => rfl)) pa_nil)) (pv 1)))
      (pss_cons (ps_asg (pe_op op_fdivW (pe_ix ix_list (pv 0) pe_int (fun _ _ => rfl)) (pv 1)) (pg_sub (pv 0) pe_int set_list))
      (pss_one (ps_ret (pv 3))))) pss_nil)
      (pss_cons (ps_asg (pe_op op_mod (pe_callTy call_int1 (by rfl) T.z_int (by decide +kernel) (pa_cons (pe_op op_add (pe_op op_mul (pe_ix ix_list (pv 0) pe_int (fun _ _ => rfl)) pe_int) pe_int) pa_nil)) pe_int) (pg_sub (pv 0) pe_int set_list))
      (pss_cons (ps_set (i := 4) sc_law_next.nd rfl (by first | exact Or.inl rfl | exact Or.inr rfl) (pe_op op_mod (pe_callTy call_int1 (by rfl) T.z_int (by decide +kernel) (pa_cons (pe_op op_add (pe_op op_mul (pe_ix ix_list (pv 0) pe_int (fun _ _ => rfl)) pe_int) (pe_op op_fdiv (pe_ix ix_list (pv 0) pe_int (fun _ _ => rfl)) pe_int)) pa_nil)) pe_int))
      (pss_one (ps_ret (pe_op op_mod (pe_callTy call_int1 (by rfl) T.z_int (by decide +kernel) (pa_cons (pv 4) pa_nil)) (pv 1)))))))), ?_⟩
    refine ⟨fun σ H' => ∃ (i' c' : Int) (v : Option V), σ = [some (.ref a), some (.int lim), v, none, none] ∧ H' a = some (.lst [.ref b, .int i', .int c', .int sd]) ∧ Fr1 a H H' ∧ 0 ≤ i' ∧ 0 ≤ c', ?_, ?_⟩
    · -- if pot[2] == 0 and pot[1] < len(pot[0])
      refine ⟨_, rfl, a, _, _, _, rfl, rfl, SqL.of h1, (by rfl), rfl, _, rfl, ?_⟩
      by_cases c0 : ¬ c = 0
      · have e : decide (V.int c = V.int 0) = false := by simp [c0]
        rw [e]
        refine iteF (iteF ?_)
        exact ⟨i, c, none, rfl, h1, Fr1.refl _ _, h4, h5⟩
      · have c0' : c = 0 := by omega
        subst c0'
        refine iteT ?_
        refine ⟨_, rfl, a, _, _, _, rfl, rfl, SqL.of h1, (by rfl), _, rfl, a, _, _, _, rfl, rfl, SqL.of h1, (by rfl), .ref b, ns.length, rfl, Or.inl ⟨_, SqL.of h2, by rw [List.length_map]⟩, _, _, rfl, rfl, _, rfl, ?_⟩
        by_cases c1 : ¬ i < (ns.length : Int)
        · rw [decide_eq_false c1]
          exact iteF ⟨i, 0, none, rfl, h1, Fr1.refl _ _, h4, h5⟩
        · have c1 : i < (ns.length : Int) := by omega
          rw [decide_eq_true c1]
          refine iteT ?_
          -- cell
          obtain ⟨z, hz⟩ : ∃ z, ns[i.toNat]? = some z := ⟨ns[i.toNat]'(by omega), List.getElem?_eq_getElem _⟩
          have hz' : (ns.map V.int)[i.toNat]? = some (.int z) := by rw [List.getElem?_map, hz]; rfl
          refine ⟨_, rfl, a, _, _, _, rfl, rfl, SqL.of h1, (by rfl), _, rfl, a, _, _, _, rfl, rfl, SqL.of h1, (by rfl), b, _, _, _, rfl, rfl, SqL.of h2, at_of (by omega) hz', .inl ⟨_, rfl, _, rfl, ?_⟩⟩
          have hcell : 0 ≤ (if z < 0 then -z else z) := by split <;> omega
          generalize (if z < 0 then -z else z) = cell at hcell ⊢
          -- pot[1] = pot[1] + 1
          refine ⟨_, rfl, a, _, _, _, rfl, rfl, SqL.of h1, (by rfl), _, _, rfl, rfl, _, rfl, a, _, _, 1, rfl, rfl, h1, (by rfl), ?_⟩
          -- if cell < 10 ** 18
          refine ⟨_, rfl, _, _, rfl, rfl, ⟨by decide, by decide, by decide⟩, _, _, rfl, rfl, _, rfl, ?_⟩
          refine ite2 (fun _ => ?_) (fun _ => ?_)
          · refine ⟨_, rfl, .inl ⟨_, rfl, _, rfl, _, _, rfl, rfl, hl0, ?_⟩⟩
            exact k2 _ _ (Fr1.refl _ _).upd ⟨ns, i + 1, 0, sd, upd_same, by rw [upd_ne h3]; exact h2, h3, by omega, by decide, h6⟩ (hr1 _).1 (hr1 _).2
          · refine ⟨_, rfl, _, rfl, a, _, _, 2, rfl, rfl, upd_same, (by rfl), ?_⟩
            exact ⟨i + 1, cell, _, rfl, upd_same, (Fr1.refl _ _).upd.upd, by omega, hcell⟩
    · rintro σ H1 ⟨i', c', v, rfl, g1, fr, hi', hc'⟩
      have g2 : H1 b = some (.lst (ns.map V.int)) := fr b _ h3 h2
      refine ⟨fun σ H' => ∃ (v v' : Option V), σ = [some (.ref a), some (.int lim), v, v', none] ∧ H' = H1, ?_, ?_⟩
      · -- if pot[2] > 0
        refine ⟨_, rfl, a, _, _, _, rfl, rfl, SqL.of g1, (by rfl), _, _, rfl, rfl, _, rfl, ?_⟩
        refine ite2 (fun _ => ?_) (fun _ => ?_)
        · refine ⟨_, rfl, a, _, _, _, rfl, rfl, SqL.of g1, (by rfl), .inl ⟨_, rfl, _, rfl, _, _, rfl, rfl, hl0, ?_⟩⟩
          refine ⟨_, rfl, a, _, _, _, rfl, rfl, SqL.of g1, (by rfl), _, rfl, _, _, rfl, rfl, wide_div hl0 hl1 (by decide) (by decide), _, rfl, a, _, _, 2, rfl, rfl, g1, (by rfl), _, rfl, ?_⟩
          exact k2 _ _ fr.upd ⟨ns, i', c' / lim, sd, upd_same, by rw [upd_ne h3]; exact g2, h3, hi', Int.ediv_nonneg hc' (by omega), h6⟩ (hr1 _).1 (hr1 _).2
        · exact ⟨v, none, rfl, rfl⟩
      · rintro σ H2 ⟨v, v', rfl, rfl⟩
        refine ⟨_, rfl, a, _, _, _, rfl, rfl, SqL.of g1, (by rfl), _, _, rfl, rfl, .inr ⟨by decide, by decide⟩, _, _, rfl, rfl, .inl ⟨_, rfl, _, _, rfl, rfl, (by show (0 : Int) < 2147483647; decide), _, rfl, a, _, _, 3, rfl, rfl, g1, (by rfl), ?_⟩⟩
        refine ⟨_, rfl, a, _, _, _, rfl, rfl, SqL.of upd_same, (by rfl), _, _, rfl, rfl, .inr ⟨by decide, by decide⟩, _, rfl, a, _, _, _, rfl, rfl, SqL.of upd_same, (by rfl), _, _, rfl, rfl, ⟨by decide, by decide⟩, _, _, rfl, rfl, .inl ⟨_, rfl, _, _, rfl, rfl, (by show (0 : Int) < 2147483629; decide), ?_⟩⟩
        refine ⟨_, rfl, .inl ⟨_, rfl, _, rfl, _, _, rfl, rfl, hl0, ?_⟩⟩
        exact k2 _ _ fr.upd ⟨ns, i', c', _, upd_same, by rw [upd_ne h3]; exact g2, h3, hi', hc', Int.emod_nonneg _ (by decide)⟩ (hr1 _).1 (hr1 _).2
end
end K14

set_option Elab.async false
set_option linter.all false
set_option maxRecDepth 100000
set_option maxHeartbeats 4000000
namespace K14
open PySem L2 Ew Tb SRm
local macro_rules | `(tactic| walk_at "len") => `(tactic| first | (intro h; obtain ⟨_, e, _⟩ := h; rw [e]; rfl) | (intro h; obtain ⟨_, _, e, _⟩ := h; rw [e]; rfl) | (intro h; obtain ⟨_, _, _, e, _⟩ := h; rw [e]; rfl) | (intro h; obtain ⟨_, _, _, _, e, _⟩ := h; rw [e]; rfl) | (intro h; obtain ⟨_, _, _, _, _, e, _⟩ := h; rw [e]; rfl) | (intro h; obtain ⟨_, _, _, _, _, _, e, _⟩ := h; rw [e]; rfl) | (intro h; obtain ⟨_, _, _, _, _, _, _, e, _⟩ := h; rw [e]; rfl) | (intro h; exact h.elim))
/-- a drawn semiring as lists: told at t, none of it at a; at most 8 elements, 4 where small -/
def FamT (a : Addr) (H : Hp) (t : Addr) (N : Nat) (n : Nat) (f g : Nat → Nat → Nat) (o : Nat) : Prop :=
  ∃ p m, t ≠ a ∧ H t = some (.tup [.ref p, .ref m, .int (o : Int)]) ∧ LL a H p n (fun i j => (f i j : Int)) ∧ LL a H m n (fun i j => (g i j : Int)) ∧ SR n f g o ∧ n ≤ N
theorem or8b : ((List.range 8).all fun i => (List.range 8).all fun j => Builtin.bitOr (i : Int) (j : Int) == ((i ||| j : Nat) : Int)) = true := by decide +kernel
theorem xor8b : ((List.range 8).all fun i => (List.range 8).all fun j => Builtin.bitXor (i : Int) (j : Int) == ((i ^^^ j : Nat) : Int)) = true := by decide +kernel
theorem and8b : ((List.range 8).all fun i => (List.range 8).all fun j => Builtin.bitAnd (i : Int) (j : Int) == ((i &&& j : Nat) : Int)) = true := by decide +kernel
theorem or8 {i j : Nat} (hi : i < 8) (hj : j < 8) : Builtin.bitOr (i : Int) (j : Int) = ((i ||| j : Nat) : Int) := by
  have h := or8b
  simp only [List.all_eq_true, List.mem_range, beq_iff_eq] at h
  exact h i hi j hj
theorem xor8 {i j : Nat} (hi : i < 8) (hj : j < 8) : Builtin.bitXor (i : Int) (j : Int) = ((i ^^^ j : Nat) : Int) := by
  have h := xor8b
  simp only [List.all_eq_true, List.mem_range, beq_iff_eq] at h
  exact h i hi j hj
theorem and8 {i j : Nat} (hi : i < 8) (hj : j < 8) : Builtin.bitAnd (i : Int) (j : Int) = ((i &&& j : Nat) : Int) := by
  have h := and8b
  simp only [List.all_eq_true, List.mem_range, beq_iff_eq] at h
  exact h i hi j hj
def spFam : Sp := fun vs H Q _ => ∃ (a : Addr) (kd : Nat) (sm : Bool), vs = [.ref a, .int (kd : Int), .bl sm] ∧ PotAt H a ∧ kd < 6 ∧
  ∀ H' t n f g o, Fr1 a H H' → PotAt H' a → FamT a H' t (if sm then 4 else 8) n f g o → Q (.ref t) H'
section
variable {P : Program} {w : World} {K : PySem.W.Frag} {mg : Str → Option Value} {base : Heap} {ad : Ad}
theorem ok_law_family (c_law_next : CalX P w K mg base 1 "_law_next" spNext) {f : Addr} {fd : FuncData} (F : Fun K "_law_family" "_law_family" s_law_family f fd) (T : Txt K mg ad) : FnOk P w K mg base (L2.CX P w) 3 f fd ["pot", "kind", "small"] (spFam) := by
  refine F.okX sc_law_family (fun vs H Q E => ?_) (fun cdv A outer s H vs Q E hr h => ?_)
  · walk_at "len"
  ·
    obtain ⟨a, kd, sm, rfl, hp, hk, k⟩ := h
    refine ⟨_, (pss_cons (ps_set (i := 3) sc_law_family.nd rfl (by first | exact Or.inl rfl | exact Or.inr rfl) (pe_op op_add pe_int (pc_call c_law_next hr (by first | decide | omega) (takes_of rfl rfl rfl rfl) (by rfl) (pa_cons (pv 0) (pa_cons (pe_ix ix_list (pe_lst (pa_cons pe_int (pa_cons pe_int pa_nil))) (pe_callTy call_int1 (by rfl) T.z_int (by decide +kernel) (pa_cons (pv 2) pa_nil)) (fun _ _ => rfl)) pa_nil)))))
      (pss_cons (ps_if (pt_cmpR op_eq (pv 1) pe_int (nomark _)) (pss_cons (ps_setLc (i := 4) (own := [("a", 5)]) (tt := tYes) rfl sc_law_family.nd rfl rfl (sw_true rfl rfl rfl (by decide +kernel)) (pi_range1 (by rfl) T.z_range (pa_cons (pv 3) pa_nil)) (blkOk_by (by kernel_rfl)) (fun _ _ _ _ _ => (pg_name (i := 5) sc_law_family.nd rfl (by first | exact Or.inl rfl | exact Or.inr rfl))) (fun _ _ _ _ _ => pts_nil) (fun _ _ _ _ _ => (pe_lc (own := [("b", 6)]) (tt := tYes) rfl sc_law_family.nd (pi_range1 (by rfl) T.z_range (pa_cons (pv 3) pa_nil)) (blkOk_by (by kernel_rfl)) (fun _ _ _ _ _ => (pg_name (i := 6) sc_law_family.nd rfl (by first | exact Or.inl rfl | exact Or.inr rfl))) (fun _ _ _ _ _ => pts_nil) (fun _ _ _ _ _ => (pe_op op_mod (pe_callTy call_int1 (by rfl) T.z_int (by decide +kernel) (pa_cons (pe_op op_add (pv 5) (pv 6)) pa_nil)) (pv 3))))))
      (pss_one (ps_ret (pe_tup (pa_cons (pv 4) (pa_cons (pe_lc (own := [("a", 5)]) (tt := tYes) rfl sc_law_family.nd (pi_range1 (by rfl) T.z_range (pa_cons (pv 3) pa_nil)) (blkOk_by (by kernel_rfl)) (fun _ _ _ _ _ => (pg_name (i := 5) sc_law_family.nd rfl (by first | exact Or.inl rfl | exact Or.inr rfl))) (fun _ _ _ _ _ => pts_nil) (fun _ _ _ _ _ => (pe_lc (own := [("b", 6)]) (tt := tYes) rfl sc_law_family.nd (pi_range1 (by rfl) T.z_range (pa_cons (pv 3) pa_nil)) (blkOk_by (by kernel_rfl)) (fun _ _ _ _ _ => (pg_name (i := 6) sc_law_family.nd rfl (by first | exact Or.inl rfl | exact Or.inr rfl))) (fun _ _ _ _ _ => pts_nil) (fun _ _ _ _ _ => (pe_op op_mod (pe_callTy call_int1 (by rfl) T.z_int (by decide +kernel) (pa_cons (pe_op op_mul (pv 5) (pv 6)) pa_nil)) (pv 3)))))) (pa_cons (pe_op op_mod (pe_callTy call_int1 (by rfl) T.z_int (by decide +kernel) (pa_cons pe_int pa_nil)) (pv 3)) pa_nil))))))) pss_nil)
      (pss_cons (ps_if (pt_cmpR op_eq (pv 1) pe_int (nomark _)) (pss_cons (ps_setLc (i := 4) (own := [("a", 5)]) (tt := tYes) rfl sc_law_family.nd rfl rfl (sw_true rfl rfl rfl (by decide +kernel)) (pi_range1 (by rfl) T.z_range (pa_cons (pv 3) pa_nil)) (blkOk_by (by kernel_rfl)) (fun _ _ _ _ _ => (pg_name (i := 5) sc_law_family.nd rfl (by first | exact Or.inl rfl | exact Or.inr rfl))) (fun _ _ _ _ _ => pts_nil) (fun _ _ _ _ _ => (pe_lc (own := [("b", 6)]) (tt := tYes) rfl sc_law_family.nd (pi_range1 (by rfl) T.z_range (pa_cons (pv 3) pa_nil)) (blkOk_by (by kernel_rfl)) (fun _ _ _ _ _ => (pg_name (i := 6) sc_law_family.nd rfl (by first | exact Or.inl rfl | exact Or.inr rfl))) (fun _ _ _ _ _ => pts_nil) (fun _ _ _ _ _ => (pe_callB (call_min2 rfl) (by rfl) T.z_min (by decide +kernel) (pa_cons (pe_op op_add (pv 5) (pv 6)) (pa_cons (pe_op op_sub (pv 3) pe_int) pa_nil)))))))
      (pss_one (ps_ret (pe_tup (pa_cons (pv 4) (pa_cons (pe_lc (own := [("a", 5)]) (tt := tYes) rfl sc_law_family.nd (pi_range1 (by rfl) T.z_range (pa_cons (pv 3) pa_nil)) (blkOk_by (by kernel_rfl)) (fun _ _ _ _ _ => (pg_name (i := 5) sc_law_family.nd rfl (by first | exact Or.inl rfl | exact Or.inr rfl))) (fun _ _ _ _ _ => pts_nil) (fun _ _ _ _ _ => (pe_lc (own := [("b", 6)]) (tt := tYes) rfl sc_law_family.nd (pi_range1 (by rfl) T.z_range (pa_cons (pv 3) pa_nil)) (blkOk_by (by kernel_rfl)) (fun _ _ _ _ _ => (pg_name (i := 6) sc_law_family.nd rfl (by first | exact Or.inl rfl | exact Or.inr rfl))) (fun _ _ _ _ _ => pts_nil) (fun _ _ _ _ _ => (pe_callB (call_min2 rfl) (by rfl) T.z_min (by decide +kernel) (pa_cons (pe_op op_mul (pv 5) (pv 6)) (pa_cons (pe_op op_sub (pv 3) pe_int) pa_nil))))))) (pa_cons (pe_callB (call_min2 rfl) (by rfl) T.z_min (by decide +kernel) (pa_cons pe_int (pa_cons (pe_op op_sub (pv 3) pe_int) pa_nil))) pa_nil))))))) pss_nil)
      (pss_cons (ps_if (pt_cmpR op_eq (pv 1) pe_int (nomark _)) (pss_cons (ps_setLc (i := 4) (own := [("a", 5)]) (tt := tYes) rfl sc_law_family.nd rfl rfl (sw_true rfl rfl rfl (by decide +kernel)) (pi_range1 (by rfl) T.z_range (pa_cons (pv 3) pa_nil)) (blkOk_by (by kernel_rfl)) (fun _ _ _ _ _ => (pg_name (i := 5) sc_law_family.nd rfl (by first | exact Or.inl rfl | exact Or.inr rfl))) (fun _ _ _ _ _ => pts_nil) (fun _ _ _ _ _ => (pe_lc (own := [("b", 6)]) (tt := tYes) rfl sc_law_family.nd (pi_range1 (by rfl) T.z_range (pa_cons (pv 3) pa_nil)) (blkOk_by (by kernel_rfl)) (fun _ _ _ _ _ => (pg_name (i := 6) sc_law_family.nd rfl (by first | exact Or.inl rfl | exact Or.inr rfl))) (fun _ _ _ _ _ => pts_nil) (fun _ _ _ _ _ => (pe_callB (call_max2 rfl) (by rfl) T.z_max (by decide +kernel) (pa_cons (pv 5) (pa_cons (pv 6) pa_nil)))))))
      (pss_one (ps_ret (pe_tup (pa_cons (pv 4) (pa_cons (pe_lc (own := [("a", 5)]) (tt := tYes) rfl sc_law_family.nd (pi_range1 (by rfl) T.z_range (pa_cons (pv 3) pa_nil)) (blkOk_by (by kernel_rfl)) (fun _ _ _ _ _ => (pg_name (i := 5) sc_law_family.nd rfl (by first | exact Or.inl rfl | exact Or.inr rfl))) (fun _ _ _ _ _ => pts_nil) (fun _ _ _ _ _ => (pe_lc (own := [("b", 6)]) (tt := tYes) rfl sc_law_family.nd (pi_range1 (by rfl) T.z_range (pa_cons (pv 3) pa_nil)) (blkOk_by (by kernel_rfl)) (fun _ _ _ _ _ => (pg_name (i := 6) sc_law_family.nd rfl (by first | exact Or.inl rfl | exact Or.inr rfl))) (fun _ _ _ _ _ => pts_nil) (fun _ _ _ _ _ => (pe_callB (call_min2 rfl) (by rfl) T.z_min (by decide +kernel) (pa_cons (pv 5) (pa_cons (pv 6) pa_nil))))))) (pa_cons (pe_op op_sub (pv 3) pe_int) pa_nil))))))) pss_nil)
      (pss_cons (ps_set (i := 3) sc_law_family.nd rfl (by first | exact Or.inl rfl | exact Or.inr rfl) (pe_ix ix_list (pe_lst (pa_cons pe_int (pa_cons pe_int (pa_cons pe_int pa_nil)))) (pc_call c_law_next hr (by first | decide | omega) (takes_of rfl rfl rfl rfl) (by rfl) (pa_cons (pv 0) (pa_cons (pe_ix ix_list (pe_lst (pa_cons pe_int (pa_cons pe_int pa_nil))) (pe_callTy call_int1 (by rfl) T.z_int (by decide +kernel) (pa_cons (pv 2) pa_nil)) (fun _ _ => rfl)) pa_nil))) (fun _ _ => rfl)))
      (pss_cons (ps_if (pt_cmpR op_eq (pv 1) pe_int (nomark _)) (pss_cons (ps_setLc (i := 4) (own := [("a", 5)]) (tt := tYes) rfl sc_law_family.nd rfl rfl (sw_true rfl rfl rfl (by decide +kernel)) (pi_range1 (by rfl) T.z_range (pa_cons (pv 3) pa_nil)) (blkOk_by (by kernel_rfl)) (fun _ _ _ _ _ => (pg_name (i := 5) sc_law_family.nd rfl (by first | exact Or.inl rfl | exact Or.inr rfl))) (fun _ _ _ _ _ => pts_nil) (fun _ _ _ _ _ => (pe_lc (own := [("b", 6)]) (tt := tYes) rfl sc_law_family.nd (pi_range1 (by rfl) T.z_range (pa_cons (pv 3) pa_nil)) (blkOk_by (by kernel_rfl)) (fun _ _ _ _ _ => (pg_name (i := 6) sc_law_family.nd rfl (by first | exact Or.inl rfl | exact Or.inr rfl))) (fun _ _ _ _ _ => pts_nil) (fun _ _ _ _ _ => (pe_op op_or (pv 5) (pv 6))))))
      (pss_one (ps_ret (pe_tup (pa_cons (pv 4) (pa_cons (pe_lc (own := [("a", 5)]) (tt := tYes) rfl sc_law_family.nd (pi_range1 (by rfl) T.z_range (pa_cons (pv 3) pa_nil)) (blkOk_by (by kernel_rfl)) (fun _ _ _ _ _ => (pg_name (i := 5) sc_law_family.nd rfl (by first | exact Or.inl rfl | exact Or.inr rfl))) (fun _ _ _ _ _ => pts_nil) (fun _ _ _ _ _ => (pe_lc (own := [("b", 6)]) (tt := tYes) rfl sc_law_family.nd (pi_range1 (by rfl) T.z_range (pa_cons (pv 3) pa_nil)) (blkOk_by (by kernel_rfl)) (fun _ _ _ _ _ => (pg_name (i := 6) sc_law_family.nd rfl (by first | exact Or.inl rfl | exact Or.inr rfl))) (fun _ _ _ _ _ => pts_nil) (fun _ _ _ _ _ => (pe_op op_and (pv 5) (pv 6)))))) (pa_cons (pe_op op_sub (pv 3) pe_int) pa_nil))))))) pss_nil)
      (pss_cons (ps_if (pt_cmpR op_eq (pv 1) pe_int (nomark _)) (pss_cons (ps_setLc (i := 4) (own := [("a", 5)]) (tt := tYes) rfl sc_law_family.nd rfl rfl (sw_true rfl rfl rfl (by decide +kernel)) (pi_range1 (by rfl) T.z_range (pa_cons (pv 3) pa_nil)) (blkOk_by (by kernel_rfl)) (fun _ _ _ _ _ => (pg_name (i := 5) sc_law_family.nd rfl (by first | exact Or.inl rfl | exact Or.inr rfl))) (fun _ _ _ _ _ => pts_nil) (fun _ _ _ _ _ => (pe_lc (own := [("b", 6)]) (tt := tYes) rfl sc_law_family.nd (pi_range1 (by rfl) T.z_range (pa_cons (pv 3) pa_nil)) (blkOk_by (by kernel_rfl)) (fun _ _ _ _ _ => (pg_name (i := 6) sc_law_family.nd rfl (by first | exact Or.inl rfl | exact Or.inr rfl))) (fun _ _ _ _ _ => pts_nil) (fun _ _ _ _ _ => (pe_op op_xor (pv 5) (pv 6))))))
      (pss_one (ps_ret (pe_tup (pa_cons (pv 4) (pa_cons (pe_lc (own := [("a", 5)]) (tt := tYes) rfl sc_law_family.nd (pi_range1 (by rfl) T.z_range (pa_cons (pv 3) pa_nil)) (blkOk_by (by kernel_rfl)) (fun _ _ _ _ _ => (pg_name (i := 5) sc_law_family.nd rfl (by first | exact Or.inl rfl | exact Or.inr rfl))) (fun _ _ _ _ _ => pts_nil) (fun _ _ _ _ _ => (pe_lc (own := [("b", 6)]) (tt := tYes) rfl sc_law_family.nd (pi_range1 (by rfl) T.z_range (pa_cons (pv 3) pa_nil)) (blkOk_by (by kernel_rfl)) (fun _ _ _ _ _ => (pg_name (i := 6) sc_law_family.nd rfl (by first | exact Or.inl rfl | exact Or.inr rfl))) (fun _ _ _ _ _ => pts_nil) (fun _ _ _ _ _ => (pe_op op_and (pv 5) (pv 6)))))) (pa_cons (pe_op op_sub (pv 3) pe_int) pa_nil))))))) pss_nil)
      (pss_cons (ps_setLc (i := 4) (own := [("a", 5)]) (tt := tYes) rfl sc_law_family.nd rfl rfl (sw_true rfl rfl rfl (by decide +kernel)) (pi_range1 (by rfl) T.z_range (pa_cons (pv 3) pa_nil)) (blkOk_by (by kernel_rfl)) (fun _ _ _ _ _ => (pg_name (i := 5) sc_law_family.nd rfl (by first | exact Or.inl rfl | exact Or.inr rfl))) (fun _ _ _ _ _ => pts_nil) (fun _ _ _ _ _ => (pe_lc (own := [("b", 6)]) (tt := tYes) rfl sc_law_family.nd (pi_range1 (by rfl) T.z_range (pa_cons (pv 3) pa_nil)) (blkOk_by (by kernel_rfl)) (fun _ _ _ _ _ => (pg_name (i := 6) sc_law_family.nd rfl (by first | exact Or.inl rfl | exact Or.inr rfl))) (fun _ _ _ _ _ => pts_nil) (fun _ _ _ _ _ => (pe_ifExp (pt_cmpR op_eq (pe_op op_mul (pv 5) (pv 6)) pe_int (nomark _)) (pe_callB (call_max2 rfl) (by rfl) T.z_max (by decide +kernel) (pa_cons (pv 5) (pa_cons (pv 6) pa_nil))) (pe_callB (call_min2 rfl) (by rfl) T.z_min (by decide +kernel) (pa_cons (pv 5) (pa_cons (pv 6) pa_nil))))))))
      (pss_one (ps_ret (pe_tup (pa_cons (pv 4) (pa_cons (pe_lc (own := [("a", 5)]) (tt := tYes) rfl sc_law_family.nd (pi_range1 (by rfl) T.z_range (pa_cons (pv 3) pa_nil)) (blkOk_by (by kernel_rfl)) (fun _ _ _ _ _ => (pg_name (i := 5) sc_law_family.nd rfl (by first | exact Or.inl rfl | exact Or.inr rfl))) (fun _ _ _ _ _ => pts_nil) (fun _ _ _ _ _ => (pe_lc (own := [("b", 6)]) (tt := tYes) rfl sc_law_family.nd (pi_range1 (by rfl) T.z_range (pa_cons (pv 3) pa_nil)) (blkOk_by (by kernel_rfl)) (fun _ _ _ _ _ => (pg_name (i := 6) sc_law_family.nd rfl (by first | exact Or.inl rfl | exact Or.inr rfl))) (fun _ _ _ _ _ => pts_nil) (fun _ _ _ _ _ => (pe_ifExp (pt_cmpR op_eq (pe_op op_mul (pv 5) (pv 6)) pe_int (nomark _)) pe_int (pe_callB (call_min2 rfl) (by rfl) T.z_min (by decide +kernel) (pa_cons (pe_op op_sub (pe_op op_add (pv 5) (pv 6)) pe_int) (pa_cons (pe_op op_sub (pv 3) pe_int) pa_nil)))))))) (pa_cons pe_int pa_nil)))))))))))))), ?_⟩
    have ha : ∃ o, H a = some o := hp.some
    refine ⟨_, rfl, (by show 2 ≤ sizeLine; decide), fun l hl => ⟨_, rfl, .inr ⟨sm, rfl, ?_⟩⟩⟩
    have s0 : Same H (upd H l (.lst [.int 6, .int 3])) := same_new (Same.refl _) hl
    refine ⟨l, _, _, .int (if sm then 3 else 6), rfl, rfl, SqL.of upd_same, (by cases sm <;> rfl), a, _, rfl, hp.same s0, (by cases sm <;> decide), (by cases sm <;> decide), fun H1 r f1 p1 r0 r1 _ => ⟨_, _, rfl, rfl, ?_⟩⟩
    obtain ⟨ao, hao⟩ := p1.some
    have fin : ∀ (H1 : Hp) (n : Nat) (H2 H3 : Hp) (D D2 t : Addr), Fr1 a H H1 → PotAt H1 a → SR n (fP kd n) (fT kd n) (fO kd n) → n ≤ (if sm then 4 else 8) → Same H1 H2 → LL a H2 D n (fun i j => (fP kd n i j : Int)) → Same H2 H3 → LL a H3 D2 n (fun i j => (fT kd n i j : Int)) → H3 t = none →
        Q (.ref t) (upd H3 t (.tup [.ref D, .ref D2, .int ((fO kd n : Nat) : Int)])) := fun H1 n H2 H3 D D2 t f1 p1 sr hN s2 l2 s3 l3 ht => by
      have st : Same H3 (upd H3 t (.tup [.ref D, .ref D2, .int ((fO kd n : Nat) : Int)])) := same_new (Same.refl _) ht
      have p3 : PotAt H3 a := (p1.same s2).same s3
      obtain ⟨o3, h3⟩ := p3.some
      refine k _ t n _ _ _ (f1.trans (Fr1.of fun b o e => st b o (s3 b o (s2 b o e)))) (p3.same st) ⟨D, D2, ne_of_none h3 ht |>.symm, upd_same, (l2.but (But.of fun b o e => st b o (s3 b o e))), l3.but (But.of st), sr, hN⟩
    have sm1 : Fr1 a H H1 := (Fr1.of s0).trans f1
    obtain ⟨n, hn0, hn1, hn2, en⟩ : ∃ n : Nat, 0 < n ∧ n ≤ (if sm then 4 else 8) ∧ n < 7 ∧ 1 + r = (n : Int) := ⟨(1 + r).toNat, by cases sm <;> simp at r1 ⊢ <;> omega, by cases sm <;> simp at r1 ⊢ <;> omega, by cases sm <;> simp at r1 <;> omega, by omega⟩
    show gName 3 (V.int (1 + r)) _ _ _
    rw [en]
    have small : kd < 3 → SR n (fP kd n) (fT kd n) (fO kd n) := fun h => sr_small h hn0 hn2
    have hn100 : n ≤ 100000 := by omega
    have hc : kd = 0 ∨ kd = 1 ∨ kd = 2 ∨ kd = 3 ∨ kd = 4 ∨ kd = 5 := by omega
    rcases hc with rfl | rfl | rfl | rfl | rfl | rfl
    · refine ⟨_, rfl, rfl, _, rfl, iteT ?_⟩
      refine go_seq ?_
      refine tab_lc (a := a) (ns := 3) (n := n) (ka := 5) (kb := 6) (fun i j => ((fP 0 n i j : Nat) : Int)) hao hn100 (fun i j H' Kt hi hj s kt => ?_) (fun H2 D s2 nD l2 => ?_)
      · have e : ((i : Int) + (j : Int)) % (n : Int) = ((fP 0 n i j : Nat) : Int) := by
          show _ = (((i + j) % n : Nat) : Int)
          push_cast; rfl
        refine ⟨_, rfl, _, rfl, _, _, rfl, rfl, .inl ⟨_, rfl, _, rfl, _, _, rfl, rfl, by omega, ?_⟩⟩
        have z := kt _ (Same.refl _)
        rw [← e] at z
        exact z
      · refine go_ret (go_tup (go_cons (go_var rfl (go_cons ?_))))
        refine tab_lc (a := a) (ns := 3) (n := n) (ka := 5) (kb := 6) (fun i j => ((fT 0 n i j : Nat) : Int)) (s2 _ _ hao) hn100 (fun i j H' Kt hi hj s kt => ?_) (fun H3 D2 s3 nD2 l3 => ?_)
        · have e : ((i : Int) * (j : Int)) % (n : Int) = ((fT 0 n i j : Nat) : Int) := by
            show _ = (((i * j) % n : Nat) : Int)
            push_cast; rfl
          refine ⟨_, rfl, _, rfl, _, _, rfl, rfl, .inr ⟨by omega, by omega⟩, .inl ⟨_, rfl, _, rfl, _, _, rfl, rfl, by omega, ?_⟩⟩
          have z := kt _ (Same.refl _)
          rw [← e] at z
          exact z
        · have fi := fin H1 n H2 H3 D D2
          refine .inl ⟨_, rfl, _, rfl, _, _, rfl, rfl, by omega, ?_⟩
          refine ⟨by (show 3 ≤ sizeLine); decide, fun t ht => ?_⟩
          have eo : (1 : Int) % (n : Int) = ((fO 0 n : Nat) : Int) := by
            show _ = ((1 % n : Nat) : Int); push_cast; rfl
          have z := fi t sm1 p1 (small (by decide)) hn1 s2 l2 s3 l3 ht
          rw [← eo] at z
          exact z
    · refine ⟨_, rfl, rfl, _, rfl, iteF ?_⟩
      refine ⟨_, rfl, rfl, _, rfl, iteT ?_⟩
      refine go_seq ?_
      refine tab_lc (a := a) (ns := 3) (n := n) (ka := 5) (kb := 6) (fun i j => ((fP 1 n i j : Nat) : Int)) hao hn100 (fun i j H' Kt hi hj s kt => ?_) (fun H2 D s2 nD l2 => ?_)
      · have e : (if (n : Int) - 1 < (i : Int) + (j : Int) then (n : Int) - 1 else (i : Int) + (j : Int)) = ((fP 1 n i j : Nat) : Int) := by
          show _ = ((min (i + j) (n - 1) : Nat) : Int)
          rw [Nat.min_def]; split <;> split <;> omega
        refine ⟨_, rfl, _, rfl, _, _, rfl, rfl, _, rfl, _, _, rfl, rfl, _, _, rfl, ?_⟩
        have z := kt _ (Same.refl _)
        rw [← e] at z
        exact z
      · refine go_ret (go_tup (go_cons (go_var rfl (go_cons ?_))))
        refine tab_lc (a := a) (ns := 3) (n := n) (ka := 5) (kb := 6) (fun i j => ((fT 1 n i j : Nat) : Int)) (s2 _ _ hao) hn100 (fun i j H' Kt hi hj s kt => ?_) (fun H3 D2 s3 nD2 l3 => ?_)
        · have e : (if (n : Int) - 1 < (i : Int) * (j : Int) then (n : Int) - 1 else (i : Int) * (j : Int)) = ((fT 1 n i j : Nat) : Int) := by
            show _ = ((min (i * j) (n - 1) : Nat) : Int)
            rw [Nat.min_def]
            have z : ((i : Int) * (j : Int)) = ((i * j : Nat) : Int) := by push_cast; rfl
            rw [z]; generalize i * j = q; split <;> split <;> omega
          refine ⟨_, rfl, _, rfl, _, _, rfl, rfl, .inr ⟨by omega, by omega⟩, _, rfl, _, _, rfl, rfl, _, _, rfl, ?_⟩
          have z := kt _ (Same.refl _)
          rw [← e] at z
          exact z
        · have fi := fin H1 n H2 H3 D D2
          refine ⟨_, rfl, _, _, rfl, rfl, _, _, rfl, ?_⟩
          refine ⟨by (show 3 ≤ sizeLine); decide, fun t ht => ?_⟩
          have eo : (if (n : Int) - 1 < 1 then (n : Int) - 1 else 1) = ((fO 1 n : Nat) : Int) := by
            show _ = ((min 1 (n - 1) : Nat) : Int); rw [Nat.min_def]; split <;> split <;> omega
          have z := fi t sm1 p1 (small (by decide)) hn1 s2 l2 s3 l3 ht
          rw [← eo] at z
          exact z
    · refine ⟨_, rfl, rfl, _, rfl, iteF ?_⟩
      refine ⟨_, rfl, rfl, _, rfl, iteF ?_⟩
      refine ⟨_, rfl, rfl, _, rfl, iteT ?_⟩
      refine go_seq ?_
      refine tab_lc (a := a) (ns := 3) (n := n) (ka := 5) (kb := 6) (fun i j => ((fP 2 n i j : Nat) : Int)) hao hn100 (fun i j H' Kt hi hj s kt => ?_) (fun H2 D s2 nD l2 => ?_)
      · have e : (if (j : Int) > (i : Int) then (j : Int) else (i : Int)) = ((fP 2 n i j : Nat) : Int) := by
          show _ = ((max i j : Nat) : Int)
          rw [Nat.max_def]; split <;> split <;> omega
        refine ⟨_, rfl, _, rfl, _, _, rfl, ?_⟩
        have z := kt _ (Same.refl _)
        rw [← e] at z
        exact z
      · refine go_ret (go_tup (go_cons (go_var rfl (go_cons ?_))))
        refine tab_lc (a := a) (ns := 3) (n := n) (ka := 5) (kb := 6) (fun i j => ((fT 2 n i j : Nat) : Int)) (s2 _ _ hao) hn100 (fun i j H' Kt hi hj s kt => ?_) (fun H3 D2 s3 nD2 l3 => ?_)
        · have e : (if (j : Int) < (i : Int) then (j : Int) else (i : Int)) = ((fT 2 n i j : Nat) : Int) := by
            show _ = ((min i j : Nat) : Int)
            rw [Nat.min_def]; split <;> split <;> omega
          refine ⟨_, rfl, _, rfl, _, _, rfl, ?_⟩
          have z := kt _ (Same.refl _)
          rw [← e] at z
          exact z
        · have fi := fin H1 n H2 H3 D D2
          refine ⟨_, rfl, _, _, rfl, rfl, ?_⟩
          refine ⟨by (show 3 ≤ sizeLine); decide, fun t ht => ?_⟩
          have eo : ((n : Int) - 1) = ((fO 2 n : Nat) : Int) := by
            show _ = ((n - 1 : Nat) : Int); omega
          have z := fi t sm1 p1 (small (by decide)) hn1 s2 l2 s3 l3 ht
          rw [← eo] at z
          exact z
    · refine ⟨_, rfl, rfl, _, rfl, iteF ?_⟩
      refine ⟨_, rfl, rfl, _, rfl, iteF ?_⟩
      refine ⟨_, rfl, rfl, _, rfl, iteF ?_⟩
      refine go_next ?_
      refine go_seq ?_
      refine ⟨(by show 3 ≤ sizeLine; decide), fun l2 hl2 => ⟨_, rfl, (by show 2 ≤ sizeLine; decide), fun l3 hl3 => ⟨_, rfl, .inr ⟨sm, rfl, ?_⟩⟩⟩⟩
      have t1 : Same H1 (upd H1 l2 (.lst [.int 2, .int 4, .int 8])) := same_new (Same.refl _) hl2
      have t2 : Same (upd H1 l2 (.lst [.int 2, .int 4, .int 8])) (upd (upd H1 l2 (.lst [.int 2, .int 4, .int 8])) l3 (.lst [.int 3, .int 2])) := same_new (Same.refl _) hl3
      refine ⟨l3, _, _, .int (if sm then 2 else 3), rfl, rfl, SqL.of upd_same, (by cases sm <;> rfl), a, _, rfl, (p1.same t1).same t2, (by cases sm <;> decide), (by cases sm <;> decide), fun H4 q f4 p4 q0 q1 _ => ?_⟩
      have l2a : l2 ≠ a := (ne_of_none hao hl2).symm
      have g2 : H4 l2 = some (.lst [.int 2, .int 4, .int 8]) := f4 _ _ l2a (t2 _ _ upd_same)
      have sm4 : Fr1 a H H4 := sm1.trans ((Fr1.of fun b o e => t2 b o (t1 b o e)).trans f4)
      obtain ⟨ao4, hao4⟩ := p4.some
      obtain ⟨n, hn8, hnsm, h3, h4, h5, hat⟩ : ∃ n : Nat, n ≤ 8 ∧ n ≤ (if sm then 4 else 8) ∧ SR n (fP 3 n) (fT 3 n) (fO 3 n) ∧ SR n (fP 4 n) (fT 4 n) (fO 4 n) ∧ SR n (fP 5 n) (fT 5 n) (fO 5 n) ∧ atI [V.int 2, V.int 4, V.int 8] q = some (.int (n : Int)) := by
        have hq : q = 0 ∨ q = 1 ∨ (q = 2 ∧ sm = false) := by cases sm <;> simp at q1 ⊢ <;> omega
        rcases hq with rfl | rfl | ⟨rfl, rfl⟩
        · exact ⟨2, by decide, by cases sm <;> decide, sr_bits (k := 0) (m := 0) (by decide) (by decide), sr_bits (k := 1) (m := 0) (by decide) (by decide), sr_bits (k := 2) (m := 0) (by decide) (by decide), rfl⟩
        · exact ⟨4, by decide, by cases sm <;> decide, sr_bits (k := 0) (m := 1) (by decide) (by decide), sr_bits (k := 1) (m := 1) (by decide) (by decide), sr_bits (k := 2) (m := 1) (by decide) (by decide), rfl⟩
        · exact ⟨8, by decide, by decide, sr_bits (k := 0) (m := 2) (by decide) (by decide), sr_bits (k := 1) (m := 2) (by decide) (by decide), sr_bits (k := 2) (m := 2) (by decide) (by decide), rfl⟩
      refine ⟨l2, _, _, _, rfl, rfl, SqL.of g2, hat, go_name rfl ?_⟩
      have hn100 : n ≤ 100000 := by omega
      refine ⟨_, rfl, rfl, _, rfl, iteT ?_⟩
      refine go_seq ?_
      refine tab_lc (a := a) (ns := 3) (n := n) (ka := 5) (kb := 6) (fun i j => ((fP 3 n i j : Nat) : Int)) hao4 hn100 (fun i j H' Kt hi hj s kt => ?_) (fun H2 D s2 nD l2 => ?_)
      · have e : Builtin.bitOr (i : Int) (j : Int) = ((fP 3 n i j : Nat) : Int) := by
          exact or8 (by omega) (by omega)
        refine ⟨_, rfl, _, rfl, _, _, rfl, rfl, ?_⟩
        have z := kt _ (Same.refl _)
        rw [← e] at z
        exact z
      · refine go_ret (go_tup (go_cons (go_var rfl (go_cons ?_))))
        refine tab_lc (a := a) (ns := 3) (n := n) (ka := 5) (kb := 6) (fun i j => ((fT 3 n i j : Nat) : Int)) (s2 _ _ hao4) hn100 (fun i j H' Kt hi hj s kt => ?_) (fun H3 D2 s3 nD2 l3 => ?_)
        · have e : Builtin.bitAnd (i : Int) (j : Int) = ((fT 3 n i j : Nat) : Int) := by
            exact and8 (by omega) (by omega)
          refine ⟨_, rfl, _, rfl, _, _, rfl, rfl, ?_⟩
          have z := kt _ (Same.refl _)
          rw [← e] at z
          exact z
        · have fi := fin H4 n H2 H3 D D2
          refine ⟨_, rfl, _, _, rfl, rfl, ?_⟩
          refine ⟨by (show 3 ≤ sizeLine); decide, fun t ht => ?_⟩
          have eo : ((n : Int) - 1) = ((fO 3 n : Nat) : Int) := by
            show _ = ((n - 1 : Nat) : Int); have := h3.pos; omega
          have z := fi t sm4 p4 h3 hnsm s2 l2 s3 l3 ht
          rw [← eo] at z
          exact z
    · refine ⟨_, rfl, rfl, _, rfl, iteF ?_⟩
      refine ⟨_, rfl, rfl, _, rfl, iteF ?_⟩
      refine ⟨_, rfl, rfl, _, rfl, iteF ?_⟩
      refine go_next ?_
      refine go_seq ?_
      refine ⟨(by show 3 ≤ sizeLine; decide), fun l2 hl2 => ⟨_, rfl, (by show 2 ≤ sizeLine; decide), fun l3 hl3 => ⟨_, rfl, .inr ⟨sm, rfl, ?_⟩⟩⟩⟩
      have t1 : Same H1 (upd H1 l2 (.lst [.int 2, .int 4, .int 8])) := same_new (Same.refl _) hl2
      have t2 : Same (upd H1 l2 (.lst [.int 2, .int 4, .int 8])) (upd (upd H1 l2 (.lst [.int 2, .int 4, .int 8])) l3 (.lst [.int 3, .int 2])) := same_new (Same.refl _) hl3
      refine ⟨l3, _, _, .int (if sm then 2 else 3), rfl, rfl, SqL.of upd_same, (by cases sm <;> rfl), a, _, rfl, (p1.same t1).same t2, (by cases sm <;> decide), (by cases sm <;> decide), fun H4 q f4 p4 q0 q1 _ => ?_⟩
      have l2a : l2 ≠ a := (ne_of_none hao hl2).symm
      have g2 : H4 l2 = some (.lst [.int 2, .int 4, .int 8]) := f4 _ _ l2a (t2 _ _ upd_same)
      have sm4 : Fr1 a H H4 := sm1.trans ((Fr1.of fun b o e => t2 b o (t1 b o e)).trans f4)
      obtain ⟨ao4, hao4⟩ := p4.some
      obtain ⟨n, hn8, hnsm, h3, h4, h5, hat⟩ : ∃ n : Nat, n ≤ 8 ∧ n ≤ (if sm then 4 else 8) ∧ SR n (fP 3 n) (fT 3 n) (fO 3 n) ∧ SR n (fP 4 n) (fT 4 n) (fO 4 n) ∧ SR n (fP 5 n) (fT 5 n) (fO 5 n) ∧ atI [V.int 2, V.int 4, V.int 8] q = some (.int (n : Int)) := by
        have hq : q = 0 ∨ q = 1 ∨ (q = 2 ∧ sm = false) := by cases sm <;> simp at q1 ⊢ <;> omega
        rcases hq with rfl | rfl | ⟨rfl, rfl⟩
        · exact ⟨2, by decide, by cases sm <;> decide, sr_bits (k := 0) (m := 0) (by decide) (by decide), sr_bits (k := 1) (m := 0) (by decide) (by decide), sr_bits (k := 2) (m := 0) (by decide) (by decide), rfl⟩
        · exact ⟨4, by decide, by cases sm <;> decide, sr_bits (k := 0) (m := 1) (by decide) (by decide), sr_bits (k := 1) (m := 1) (by decide) (by decide), sr_bits (k := 2) (m := 1) (by decide) (by decide), rfl⟩
        · exact ⟨8, by decide, by decide, sr_bits (k := 0) (m := 2) (by decide) (by decide), sr_bits (k := 1) (m := 2) (by decide) (by decide), sr_bits (k := 2) (m := 2) (by decide) (by decide), rfl⟩
      refine ⟨l2, _, _, _, rfl, rfl, SqL.of g2, hat, go_name rfl ?_⟩
      have hn100 : n ≤ 100000 := by omega
      refine ⟨_, rfl, rfl, _, rfl, iteF ?_⟩
      refine ⟨_, rfl, rfl, _, rfl, iteT ?_⟩
      refine go_seq ?_
      refine tab_lc (a := a) (ns := 3) (n := n) (ka := 5) (kb := 6) (fun i j => ((fP 4 n i j : Nat) : Int)) hao4 hn100 (fun i j H' Kt hi hj s kt => ?_) (fun H2 D s2 nD l2 => ?_)
      · have e : Builtin.bitXor (i : Int) (j : Int) = ((fP 4 n i j : Nat) : Int) := by
          exact xor8 (by omega) (by omega)
        refine ⟨_, rfl, _, rfl, _, _, rfl, rfl, ?_⟩
        have z := kt _ (Same.refl _)
        rw [← e] at z
        exact z
      · refine go_ret (go_tup (go_cons (go_var rfl (go_cons ?_))))
        refine tab_lc (a := a) (ns := 3) (n := n) (ka := 5) (kb := 6) (fun i j => ((fT 4 n i j : Nat) : Int)) (s2 _ _ hao4) hn100 (fun i j H' Kt hi hj s kt => ?_) (fun H3 D2 s3 nD2 l3 => ?_)
        · have e : Builtin.bitAnd (i : Int) (j : Int) = ((fT 4 n i j : Nat) : Int) := by
            exact and8 (by omega) (by omega)
          refine ⟨_, rfl, _, rfl, _, _, rfl, rfl, ?_⟩
          have z := kt _ (Same.refl _)
          rw [← e] at z
          exact z
        · have fi := fin H4 n H2 H3 D D2
          refine ⟨_, rfl, _, _, rfl, rfl, ?_⟩
          refine ⟨by (show 3 ≤ sizeLine); decide, fun t ht => ?_⟩
          have eo : ((n : Int) - 1) = ((fO 4 n : Nat) : Int) := by
            show _ = ((n - 1 : Nat) : Int); have := h4.pos; omega
          have z := fi t sm4 p4 h4 hnsm s2 l2 s3 l3 ht
          rw [← eo] at z
          exact z
    · refine ⟨_, rfl, rfl, _, rfl, iteF ?_⟩
      refine ⟨_, rfl, rfl, _, rfl, iteF ?_⟩
      refine ⟨_, rfl, rfl, _, rfl, iteF ?_⟩
      refine go_next ?_
      refine go_seq ?_
      refine ⟨(by show 3 ≤ sizeLine; decide), fun l2 hl2 => ⟨_, rfl, (by show 2 ≤ sizeLine; decide), fun l3 hl3 => ⟨_, rfl, .inr ⟨sm, rfl, ?_⟩⟩⟩⟩
      have t1 : Same H1 (upd H1 l2 (.lst [.int 2, .int 4, .int 8])) := same_new (Same.refl _) hl2
      have t2 : Same (upd H1 l2 (.lst [.int 2, .int 4, .int 8])) (upd (upd H1 l2 (.lst [.int 2, .int 4, .int 8])) l3 (.lst [.int 3, .int 2])) := same_new (Same.refl _) hl3
      refine ⟨l3, _, _, .int (if sm then 2 else 3), rfl, rfl, SqL.of upd_same, (by cases sm <;> rfl), a, _, rfl, (p1.same t1).same t2, (by cases sm <;> decide), (by cases sm <;> decide), fun H4 q f4 p4 q0 q1 _ => ?_⟩
      have l2a : l2 ≠ a := (ne_of_none hao hl2).symm
      have g2 : H4 l2 = some (.lst [.int 2, .int 4, .int 8]) := f4 _ _ l2a (t2 _ _ upd_same)
      have sm4 : Fr1 a H H4 := sm1.trans ((Fr1.of fun b o e => t2 b o (t1 b o e)).trans f4)
      obtain ⟨ao4, hao4⟩ := p4.some
      obtain ⟨n, hn8, hnsm, h3, h4, h5, hat⟩ : ∃ n : Nat, n ≤ 8 ∧ n ≤ (if sm then 4 else 8) ∧ SR n (fP 3 n) (fT 3 n) (fO 3 n) ∧ SR n (fP 4 n) (fT 4 n) (fO 4 n) ∧ SR n (fP 5 n) (fT 5 n) (fO 5 n) ∧ atI [V.int 2, V.int 4, V.int 8] q = some (.int (n : Int)) := by
        have hq : q = 0 ∨ q = 1 ∨ (q = 2 ∧ sm = false) := by cases sm <;> simp at q1 ⊢ <;> omega
        rcases hq with rfl | rfl | ⟨rfl, rfl⟩
        · exact ⟨2, by decide, by cases sm <;> decide, sr_bits (k := 0) (m := 0) (by decide) (by decide), sr_bits (k := 1) (m := 0) (by decide) (by decide), sr_bits (k := 2) (m := 0) (by decide) (by decide), rfl⟩
        · exact ⟨4, by decide, by cases sm <;> decide, sr_bits (k := 0) (m := 1) (by decide) (by decide), sr_bits (k := 1) (m := 1) (by decide) (by decide), sr_bits (k := 2) (m := 1) (by decide) (by decide), rfl⟩
        · exact ⟨8, by decide, by decide, sr_bits (k := 0) (m := 2) (by decide) (by decide), sr_bits (k := 1) (m := 2) (by decide) (by decide), sr_bits (k := 2) (m := 2) (by decide) (by decide), rfl⟩
      refine ⟨l2, _, _, _, rfl, rfl, SqL.of g2, hat, go_name rfl ?_⟩
      have hn100 : n ≤ 100000 := by omega
      refine ⟨_, rfl, rfl, _, rfl, iteF ?_⟩
      refine ⟨_, rfl, rfl, _, rfl, iteF ?_⟩
      refine go_next ?_
      refine go_seq ?_
      refine tab_lc (a := a) (ns := 3) (n := n) (ka := 5) (kb := 6) (fun i j => ((fP 5 n i j : Nat) : Int)) hao4 hn100 (fun i j H' Kt hi hj s kt => ?_) (fun H2 D s2 nD l2 => ?_)
      · have e : ((fP 5 n i j : Nat) : Int) = ((fP 5 n i j : Nat) : Int) := by
          rfl
        refine ⟨_, rfl, _, rfl, _, _, rfl, rfl, .inr ⟨by omega, by omega⟩, rfl, _, rfl, ?_⟩
        refine ite2 (fun c => ?_) (fun c => ?_)
        · have c2 : (i : Int) * (j : Int) = 0 := by have c1 := of_decide_eq_true c; injection c1
          have c3 : i * j = 0 := by exact_mod_cast c2
          have e : (if (j : Int) > (i : Int) then (j : Int) else (i : Int)) = ((fP 5 n i j : Nat) : Int) := by
            show _ = ((if i * j = 0 then max i j else min i j : Nat) : Int)
            rw [if_pos c3, Nat.max_def]; split <;> split <;> omega
          refine ⟨_, rfl, _, rfl, _, _, rfl, ?_⟩
          have z := kt _ (Same.refl _)
          rw [← e] at z
          exact z
        · have c3 : ¬ i * j = 0 := fun z => by
            refine c (decide_eq_true ?_)
            have z2 : (i : Int) * (j : Int) = 0 := by exact_mod_cast z
            exact congrArg V.int z2
          have e : (if (j : Int) < (i : Int) then (j : Int) else (i : Int)) = ((fP 5 n i j : Nat) : Int) := by
            show _ = ((if i * j = 0 then max i j else min i j : Nat) : Int)
            rw [if_neg c3, Nat.min_def]; split <;> split <;> omega
          refine ⟨_, rfl, _, rfl, _, _, rfl, ?_⟩
          have z := kt _ (Same.refl _)
          rw [← e] at z
          exact z
      · refine go_ret (go_tup (go_cons (go_var rfl (go_cons ?_))))
        refine tab_lc (a := a) (ns := 3) (n := n) (ka := 5) (kb := 6) (fun i j => ((fT 5 n i j : Nat) : Int)) (s2 _ _ hao4) hn100 (fun i j H' Kt hi hj s kt => ?_) (fun H3 D2 s3 nD2 l3 => ?_)
        · have e : ((fT 5 n i j : Nat) : Int) = ((fT 5 n i j : Nat) : Int) := by
            rfl
          refine ⟨_, rfl, _, rfl, _, _, rfl, rfl, .inr ⟨by omega, by omega⟩, rfl, _, rfl, ?_⟩
          refine ite2 (fun c => ?_) (fun c => ?_)
          · have c2 : (i : Int) * (j : Int) = 0 := by have c1 := of_decide_eq_true c; injection c1
            have c3 : i * j = 0 := by exact_mod_cast c2
            have e : (0 : Int) = ((fT 5 n i j : Nat) : Int) := by
              show _ = ((if i * j = 0 then 0 else min (i + j - 1) (n - 1) : Nat) : Int)
              rw [if_pos c3]; rfl
            have z := kt _ (Same.refl _)
            rw [← e] at z
            exact z
          · have c3 : ¬ i * j = 0 := fun z => by
              refine c (decide_eq_true ?_)
              have z2 : (i : Int) * (j : Int) = 0 := by exact_mod_cast z
              exact congrArg V.int z2
            have c4 : 0 < i + j := by
              rcases Nat.eq_zero_or_pos (i + j) with h | h
              · have : i = 0 := by omega
                subst this
                exact absurd (Nat.zero_mul _) c3
              · exact h
            have e : (if (n : Int) - 1 < (i : Int) + (j : Int) - 1 then (n : Int) - 1 else (i : Int) + (j : Int) - 1) = ((fT 5 n i j : Nat) : Int) := by
              show _ = ((if i * j = 0 then 0 else min (i + j - 1) (n - 1) : Nat) : Int)
              rw [if_neg c3, Nat.min_def]; split <;> split <;> omega
            refine ⟨_, rfl, _, rfl, _, _, rfl, rfl, _, _, rfl, rfl, _, rfl, _, _, rfl, rfl, _, _, rfl, ?_⟩
            have z := kt _ (Same.refl _)
            rw [← e] at z
            exact z
        · have fi := fin H4 n H2 H3 D D2
          refine ⟨by (show 3 ≤ sizeLine); decide, fun t ht => ?_⟩
          exact fi t sm4 p4 h5 hnsm s2 l2 s3 l3 ht
end
end K14

set_option Elab.async false
set_option linter.all false
set_option maxRecDepth 100000
set_option maxHeartbeats 4000000
namespace K14
open PySem L2 Ew Tb SRm
local macro_rules | `(tactic| walk_at "len") => `(tactic| first | (intro h; obtain ⟨_, e, _⟩ := h; rw [e]; rfl) | (intro h; obtain ⟨_, _, e, _⟩ := h; rw [e]; rfl) | (intro h; obtain ⟨_, _, _, e, _⟩ := h; rw [e]; rfl) | (intro h; obtain ⟨_, _, _, _, e, _⟩ := h; rw [e]; rfl) | (intro h; obtain ⟨_, _, _, _, _, e, _⟩ := h; rw [e]; rfl) | (intro h; obtain ⟨_, _, _, _, _, _, e, _⟩ := h; rw [e]; rfl) | (intro h; obtain ⟨_, _, _, _, _, _, _, e, _⟩ := h; rw [e]; rfl) | (intro h; obtain ⟨_, _, _, _, _, _, _, _, _, _, _, _, e, _⟩ := h; rw [e]; rfl) | (intro h; exact h.elim))
section
variable {P : Program} {w : World} {K : PySem.W.Frag} {mg : Str → Option Value} {base : Heap} {ad : Ad}
theorem ll_at {a D : Addr} {H : Hp} {n i j : Nat} {F : Nat → Nat → Int} (x : LL a H D n F) (hi : i < n) (hj : j < n) : ∃ r rows, H D = some (.lst rows) ∧ rows[i]? = some (.ref r) ∧ ∃ cells, H r = some (.lst cells) ∧ cells[j]? = some (.int (F i j)) := by
  obtain ⟨rows, h1, h2, h3, h4⟩ := x
  obtain ⟨r, e1, e2, e3⟩ := h4 i hi
  exact ⟨r, rows, h2, e1, _, e3, at_map (f := fun j => V.int (F i j)) hj⟩
theorem ll_len {a D : Addr} {H : Hp} {n : Nat} {F : Nat → Nat → Int} (x : LL a H D n F) : ∃ rows, H D = some (.lst rows) ∧ rows.length = n := by
  obtain ⟨rows, h1, h2, h3, h4⟩ := x
  exact ⟨rows, h2, h3⟩
theorem FamT.but {a t : Addr} {H H' : Hp} {N n o : Nat} {f g : Nat → Nat → Nat} (x : FamT a H t N n f g o) (b : But a H H') : FamT a H' t N n f g o := by
  obtain ⟨p, m, h1, h2, h3, h4, h5⟩ := x
  exact ⟨p, m, h1, b _ _ h1 h2, h3.but b, h4.but b, h5⟩
def spPaired : Sp := fun vs H Q _ => ∃ (c x y : Addr) (co : HO) (n m o o' : Nat) (f g f' g' : Nat → Nat → Nat), vs = [.ref x, .ref y] ∧ H c = some co ∧ FamT c H x 4 n f g o ∧ FamT c H y 4 m f' g' o' ∧
  ∀ H' t, Same H H' → FamT c H' t 16 (n * m) (pr2 m f f') (pr2 m g g') (o * m + o') → Q (.ref t) H'
theorem ok_law_paired  {f : Addr} {fd : FuncData} (F : Fun K "_law_paired" "_law_paired" s_law_paired f fd) (T : Txt K mg ad) : FnOk P w K mg base (L2.CX P w) 1 f fd ["one", "other"] (spPaired) := by
  refine F.okX sc_law_paired (fun vs H Q E => ?_) (fun cdv A outer s H vs Q E hr h => ?_)
  · walk_at "len"
  ·
    obtain ⟨c, x, y, co, n, m, o, o', f, g, f', g', rfl, hc, ⟨p1, q1, hxc, hx, lp1, lq1, sr1, hn4⟩, ⟨p2, q2, hyc, hy, lp2, lq2, sr2, hm4⟩, k⟩ := h
    refine ⟨_, (pss_cons (ps_set (i := 2) sc_law_paired.nd rfl (by first | exact Or.inl rfl | exact Or.inr rfl) (pe_callB call_len (by rfl) T.z_len (by decide +kernel) (pa_cons (pe_ix ix_tup (pv 1) pe_int (fun _ _ => rfl)) pa_nil)))
      (pss_cons (ps_set (i := 3) sc_law_paired.nd rfl (by first | exact Or.inl rfl | exact Or.inr rfl) (pe_lst pa_nil))
      (pss_cons (ps_for (passes_of rfl) rfl (pi_range1 (by rfl) T.z_range (pa_cons (pe_callB call_len (by rfl) T.z_len (by decide +kernel) (pa_cons (pe_ix ix_tup (pv 0) pe_int (fun _ _ => rfl)) pa_nil)) pa_nil)) (pg_name (i := 4) sc_law_paired.nd rfl (by first | exact Or.inl rfl | exact Or.inr rfl)) (pss_one (ps_set (i := 3) sc_law_paired.nd rfl (by first | exact Or.inl rfl | exact Or.inr rfl) (pe_op op_cat (pv 3) (pe_lc (own := [("b", 7)]) (tt := tYes) rfl sc_law_paired.nd (pi_range1 (by rfl) T.z_range (pa_cons (pv 2) pa_nil)) (blkOk_by (by kernel_rfl)) (fun _ _ _ _ _ => (pg_name (i := 7) sc_law_paired.nd rfl (by first | exact Or.inl rfl | exact Or.inr rfl))) (fun _ _ _ _ _ => pts_nil) (fun _ _ _ _ _ => (pe_tup (pa_cons (pv 4) (pa_cons (pv 7) pa_nil)))))))))
      (pss_cons (ps_setLc (i := 5) (own := [("a", 4)]) (tt := tYes) rfl sc_law_paired.nd rfl rfl (sw_true rfl rfl rfl (by decide +kernel)) (pi_list (pv 3)) (blkOk_by (by kernel_rfl)) (fun _ _ _ _ _ => (pg_name (i := 4) sc_law_paired.nd rfl (by first | exact Or.inl rfl | exact Or.inr rfl))) (fun _ _ _ _ _ => pts_nil) (fun _ _ _ _ _ => (pe_lc (own := [("b", 7)]) (tt := tYes) rfl sc_law_paired.nd (kpi_list (K := K) (pv 3)) (blkOk_by (by kernel_rfl)) (fun _ _ _ _ _ => (pg_name (i := 7) sc_law_paired.nd rfl (by first | exact Or.inl rfl | exact Or.inr rfl))) (fun _ _ _ _ _ => pts_nil) (fun _ _ _ _ _ => (pe_op op_add (pe_op op_mul (pe_ix (kix_list (K := K)) (pe_ix (kix_list (K := K)) (pe_ix (kix_tup (K := K)) (pv 0) pe_int (fun _ _ => rfl)) (pe_ix (kix_tup (K := K)) (pv 4) pe_int (fun _ _ => rfl)) (fun _ _ => rfl)) (pe_ix (kix_tup (K := K)) (pv 7) pe_int (fun _ _ => rfl)) (fun _ _ => rfl)) (pv 2)) (pe_ix (kix_list (K := K)) (pe_ix (kix_list (K := K)) (pe_ix (kix_tup (K := K)) (pv 1) pe_int (fun _ _ => rfl)) (pe_ix (kix_tup (K := K)) (pv 4) pe_int (fun _ _ => rfl)) (fun _ _ => rfl)) (pe_ix (kix_tup (K := K)) (pv 7) pe_int (fun _ _ => rfl)) (fun _ _ => rfl)))))))
      (pss_cons (ps_setLc (i := 6) (own := [("a", 4)]) (tt := tYes) rfl sc_law_paired.nd rfl rfl (sw_true rfl rfl rfl (by decide +kernel)) (pi_list (pv 3)) (blkOk_by (by kernel_rfl)) (fun _ _ _ _ _ => (pg_name (i := 4) sc_law_paired.nd rfl (by first | exact Or.inl rfl | exact Or.inr rfl))) (fun _ _ _ _ _ => pts_nil) (fun _ _ _ _ _ => (pe_lc (own := [("b", 7)]) (tt := tYes) rfl sc_law_paired.nd (kpi_list (K := K) (pv 3)) (blkOk_by (by kernel_rfl)) (fun _ _ _ _ _ => (pg_name (i := 7) sc_law_paired.nd rfl (by first | exact Or.inl rfl | exact Or.inr rfl))) (fun _ _ _ _ _ => pts_nil) (fun _ _ _ _ _ => (pe_op op_add (pe_op op_mul (pe_ix (kix_list (K := K)) (pe_ix (kix_list (K := K)) (pe_ix (kix_tup (K := K)) (pv 0) pe_int (fun _ _ => rfl)) (pe_ix (kix_tup (K := K)) (pv 4) pe_int (fun _ _ => rfl)) (fun _ _ => rfl)) (pe_ix (kix_tup (K := K)) (pv 7) pe_int (fun _ _ => rfl)) (fun _ _ => rfl)) (pv 2)) (pe_ix (kix_list (K := K)) (pe_ix (kix_list (K := K)) (pe_ix (kix_tup (K := K)) (pv 1) pe_int (fun _ _ => rfl)) (pe_ix (kix_tup (K := K)) (pv 4) pe_int (fun _ _ => rfl)) (fun _ _ => rfl)) (pe_ix (kix_tup (K := K)) (pv 7) pe_int (fun _ _ => rfl)) (fun _ _ => rfl)))))))
      (pss_one (ps_ret (pe_tup (pa_cons (pv 5) (pa_cons (pv 6) (pa_cons (pe_op op_add (pe_op op_mul (pe_ix ix_tup (pv 0) pe_int (fun _ _ => rfl)) (pv 2)) (pe_ix ix_tup (pv 1) pe_int (fun _ _ => rfl))) pa_nil))))))))))), ?_⟩
    have hm0 := sr2.pos
    have hn0 := sr1.pos
    obtain ⟨rp1, ep1, lp1'⟩ := ll_len lp1
    obtain ⟨rp2, ep2, lp2'⟩ := ll_len lp2
    refine go_seq ⟨_, rfl, y, _, _, _, rfl, rfl, SqT.of hy, (by rfl), .ref p2, _, rfl, .inl ⟨_, SqL.of ep2, rfl⟩, ?_⟩
    rw [lp2']
    refine go_name rfl ?_
    refine go_seq ⟨by (show 0 ≤ sizeLine); decide, fun L0 hL0 => go_name rfl ?_⟩
    have sL0 : Same H (upd H L0 (.lst [])) := same_new (Same.refl _) hL0
    have hnm : n * m ≤ 16 := Nat.le_trans (Nat.mul_le_mul hn4 hm4) (by decide)
    refine ⟨_, rfl, x, _, _, _, rfl, rfl, SqT.of (sL0 _ _ hx), (by rfl), .ref p1, _, rfl, .inl ⟨_, SqL.of (sL0 _ _ ep1), rfl⟩, _, rfl, by omega, by omega, ?_⟩
    rw [lp1', Int.toNat_natCast]
    refine for_range (lo := 0) (n := n) (fun i σ H' => ∃ (L : Addr) (items : List V) (va : Option V), σ = [some (.ref x), some (.ref y), some (.int (m : Int)), some (.ref L), va, none, none, none] ∧ Same H H' ∧ H' L = some (.lst items) ∧ items.length = i * m ∧ ∀ (k : Nat) v, items[k]? = some v → ∃ q, v = .ref q ∧ H' q = some (.tup [.int ((k / m : Nat) : Int), .int ((k % m : Nat) : Int)]))
      ⟨L0, [], none, rfl, sL0, upd_same, by simp, fun k v e => by simp at e⟩ ?_ ?_
    · rintro i σ H1 hi ⟨L, items, va, rfl, s1, hL, hlen, hit⟩
      rw [Int.zero_add]
      refine go_name rfl ?_
      refine ⟨_, rfl, _, rfl, _, rfl, by omega, by omega, fun D hD => ?_⟩
      rw [Int.toNat_natCast]
      refine lc_rng (lo := 0) (n := m) (fun j v H' => ∃ q, v = .ref q ∧ q ≠ D ∧ H' q = some (.tup [.int (i : Int), .int (j : Int)])) hD (fun j v H2 H3 b ⟨q, e1, e2, e3⟩ => ⟨q, e1, e2, b _ _ e2 e3⟩) (by omega) (fun _ => rfl) (fun j H2 acc Kt hj s2 e2 kt => ?_) (fun H2 rows s2 e2 hrl hrr => ?_)
      · rw [Int.zero_add]
        refine ⟨_, rfl, _, rfl, by (show 2 ≤ sizeLine); decide, fun q hq => ?_⟩
        exact kt _ _ (same_new (Same.refl _) hq) ⟨q, rfl, (fun z => by rw [z, e2] at hq; cases hq), upd_same⟩
      · have hlim : items.length + rows.length ≤ sizeLine := by
          rw [hlen, hrl]
          have : i * m + m ≤ n * m := by have := Nat.mul_le_mul_right m hi; rw [Nat.succ_mul] at this; exact this
          exact Nat.le_trans (by omega : i * m + m ≤ 16) (by decide)
        refine ⟨L, D, items, rows, rfl, rfl, s2 _ _ hL, e2, hlim, fun p hp => ?_⟩
        refine ⟨p, items ++ rows, some (.int (i : Int)), rfl, same_new (fun b o e => s2 b o (s1 b o e)) (by rcases hq : H p with _ | w'; rfl; exact absurd (s2 _ _ (s1 _ _ hq)) (by rw [hp]; simp)), upd_same, by rw [List.length_append, hlen, hrl, Nat.succ_mul], fun k v e => ?_⟩
        by_cases ck : k < items.length
        · rw [List.getElem?_append_left ck] at e
          obtain ⟨q, e1, e3⟩ := hit k v e
          exact ⟨q, e1, by rw [upd_ne (ne_of_none (s2 _ _ e3) hp)]; exact s2 _ _ e3⟩
        · rw [List.getElem?_append_right (by omega)] at e
          obtain ⟨q, e1, _, e3⟩ := hrr _ v e
          have hkm : k - items.length < m := by
            rcases Nat.lt_or_ge (k - items.length) rows.length with h | h
            · omega
            · rw [List.getElem?_eq_none h] at e; cases e
          have ek : k = i * m + (k - items.length) := by omega
          have d := dm (x := i) hkm
          rw [← ek] at d
          refine ⟨q, e1, ?_⟩
          rw [upd_ne (ne_of_none e3 hp), d.1, d.2]
          exact e3
    · rintro σ HB ⟨L, items, va, rfl, s, hL, hlen, hit⟩
      obtain ⟨co', hcB⟩ : ∃ o, HB c = some o := ⟨_, s _ _ hc⟩
      refine go_nx (go_seq ?_)
      refine tab_lst (K := K) (a := c) (L := L) (xs := items) (n := n * m) (ns := 3) (ka := 4) (kb := 7) (fun i j => ((pr2 m f f' i j : Nat) : Int)) hcB hL hlen (by omega) (fun i j u v s' Kt hi hj hu hv sB kt => ?_) (fun H2 D s2 nD l2 => ?_)
      · have s'' := sB
        have sB : Same HB HB := Same.refl _
        have s' := s''
        obtain ⟨qa, rfl, hqa⟩ := hit i u hu
        obtain ⟨qb, rfl, hqb⟩ := hit j v hv
        have hi1 := (Nat.div_lt_of_lt_mul (by rw [Nat.mul_comm]; exact hi) : i / m < n)
        have hj1 := (Nat.div_lt_of_lt_mul (by rw [Nat.mul_comm]; exact hj) : j / m < n)
        have hi2 := Nat.mod_lt i hm0
        have hj2 := Nat.mod_lt j hm0
        obtain ⟨r1, rows1, e1, e2, cells1, e3, e4⟩ := ll_at lp1 hi1 hj1
        obtain ⟨r2, rows2, e5, e6, cells2, e7, e8⟩ := ll_at lp2 hi2 hj2
        have b1 := sr1.pc _ hi1 _ hj1
        have b2 := sr2.pc _ hi2 _ hj2
        have S := fun {b : Addr} {o : HO} (e : H b = some o) => s' b o (sB b o (s b o e))
        refine ⟨_, rfl, x, _, _, _, rfl, rfl, SqT.of (S hx), (by rfl), _, rfl, qa, _, _, _, rfl, rfl, SqT.of (s' _ _ (sB _ _ hqa)), (by rfl), _, rows1, _, _, rfl, rfl, SqL.of (S e1), at_of rfl e2, ?_⟩
        refine ⟨_, rfl, qb, _, _, _, rfl, rfl, SqT.of (s' _ _ (sB _ _ hqb)), (by rfl), _, cells1, _, _, rfl, rfl, SqL.of (S e3), at_of rfl e4, _, rfl, _, _, rfl, rfl, .inr ⟨by omega, by omega⟩, ?_⟩
        refine ⟨_, rfl, y, _, _, _, rfl, rfl, SqT.of (S hy), (by rfl), _, rfl, qa, _, _, _, rfl, rfl, SqT.of (s' _ _ (sB _ _ hqa)), (by rfl), _, rows2, _, _, rfl, rfl, SqL.of (S e5), at_of rfl e6, ?_⟩
        refine ⟨_, rfl, qb, _, _, _, rfl, rfl, SqT.of (s' _ _ (sB _ _ hqb)), (by rfl), _, cells2, _, _, rfl, rfl, SqL.of (S e7), at_of rfl e8, _, _, rfl, rfl, ?_⟩
        have z := kt _ (Same.refl _)
        have e : ((f (i / m) (j / m) : Nat) : Int) * (m : Int) + ((f' (i % m) (j % m) : Nat) : Int) = ((pr2 m f f' i j : Nat) : Int) := by
          show _ = ((f (i / m) (j / m) * m + f' (i % m) (j % m) : Nat) : Int)
          push_cast; rfl
        rw [← e] at z
        exact z
      · refine go_name rfl ?_
        refine go_seq ?_
        have hL2 := s2 _ _ hL
        have hit2 : ∀ (k : Nat) v, items[k]? = some v → ∃ q, v = .ref q ∧ H2 q = some (.tup [.int ((k / m : Nat) : Int), .int ((k % m : Nat) : Int)]) := fun k v e => let ⟨q, e1, e2⟩ := hit k v e; ⟨q, e1, s2 _ _ e2⟩
        refine tab_lst (K := K) (a := c) (L := L) (xs := items) (n := n * m) (ns := 3) (ka := 4) (kb := 7) (fun i j => ((pr2 m g g' i j : Nat) : Int)) (s2 _ _ hcB) hL2 hlen (by omega) (fun i j u v s' Kt hi hj hu hv sB kt => ?_) (fun H3 D2 s3 nD2 l3 => ?_)
        · have s'' := sB
          have sB := s2
          have s' := s''
          obtain ⟨qa, rfl, hqa⟩ := hit i u hu
          obtain ⟨qb, rfl, hqb⟩ := hit j v hv
          have hi1 := (Nat.div_lt_of_lt_mul (by rw [Nat.mul_comm]; exact hi) : i / m < n)
          have hj1 := (Nat.div_lt_of_lt_mul (by rw [Nat.mul_comm]; exact hj) : j / m < n)
          have hi2 := Nat.mod_lt i hm0
          have hj2 := Nat.mod_lt j hm0
          obtain ⟨r1, rows1, e1, e2, cells1, e3, e4⟩ := ll_at lq1 hi1 hj1
          obtain ⟨r2, rows2, e5, e6, cells2, e7, e8⟩ := ll_at lq2 hi2 hj2
          have b1 := sr1.tc _ hi1 _ hj1
          have b2 := sr2.tc _ hi2 _ hj2
          have S := fun {b : Addr} {o : HO} (e : H b = some o) => s' b o (sB b o (s b o e))
          refine ⟨_, rfl, x, _, _, _, rfl, rfl, SqT.of (S hx), (by rfl), _, rfl, qa, _, _, _, rfl, rfl, SqT.of (s' _ _ (sB _ _ hqa)), (by rfl), _, rows1, _, _, rfl, rfl, SqL.of (S e1), at_of rfl e2, ?_⟩
          refine ⟨_, rfl, qb, _, _, _, rfl, rfl, SqT.of (s' _ _ (sB _ _ hqb)), (by rfl), _, cells1, _, _, rfl, rfl, SqL.of (S e3), at_of rfl e4, _, rfl, _, _, rfl, rfl, .inr ⟨by omega, by omega⟩, ?_⟩
          refine ⟨_, rfl, y, _, _, _, rfl, rfl, SqT.of (S hy), (by rfl), _, rfl, qa, _, _, _, rfl, rfl, SqT.of (s' _ _ (sB _ _ hqa)), (by rfl), _, rows2, _, _, rfl, rfl, SqL.of (S e5), at_of rfl e6, ?_⟩
          refine ⟨_, rfl, qb, _, _, _, rfl, rfl, SqT.of (s' _ _ (sB _ _ hqb)), (by rfl), _, cells2, _, _, rfl, rfl, SqL.of (S e7), at_of rfl e8, _, _, rfl, rfl, ?_⟩
          have z := kt _ (Same.refl _)
          have e : ((g (i / m) (j / m) : Nat) : Int) * (m : Int) + ((g' (i % m) (j % m) : Nat) : Int) = ((pr2 m g g' i j : Nat) : Int) := by
            show _ = ((g (i / m) (j / m) * m + g' (i % m) (j % m) : Nat) : Int)
            push_cast; rfl
          rw [← e] at z
          exact z
        · refine go_name rfl ?_
          have S := fun {b : Addr} {o : HO} (e : H b = some o) => s3 b o (s2 b o (s b o e))
          have hof := sr1.oo
          have hog := sr2.oo
          refine ⟨_, rfl, _, rfl, _, rfl, x, _, _, _, rfl, rfl, SqT.of (S hx), (by rfl), _, rfl, _, _, rfl, rfl, .inr ⟨by omega, by omega⟩, _, rfl, y, _, _, _, rfl, rfl, SqT.of (S hy), (by rfl), _, _, rfl, rfl, by (show 3 ≤ sizeLine); decide, fun t ht => ?_⟩
          have st : Same H3 (upd H3 t (.tup [.ref D, .ref D2, .int ((o : Int) * (m : Int) + (o' : Int))])) := same_new (Same.refl _) ht
          refine k _ t (fun b o e => st b o (S e)) ⟨D, D2, (ne_of_none (S hc) ht).symm, ?_, l2.but (But.of fun b o e => st b o (s3 b o e)), l3.but (But.of st), sr_pair sr1 sr2, hnm⟩
          rw [upd_same]
          push_cast
          rfl
end
end K14

set_option Elab.async false
set_option linter.all false
set_option maxRecDepth 100000
set_option maxHeartbeats 4000000
namespace K14
open PySem L2 Ew Tb SRm
local macro_rules | `(tactic| walk_at "len") => `(tactic| first | (intro h; obtain ⟨_, e, _⟩ := h; rw [e]; rfl) | (intro h; obtain ⟨_, _, e, _⟩ := h; rw [e]; rfl) | (intro h; obtain ⟨_, _, _, e, _⟩ := h; rw [e]; rfl) | (intro h; obtain ⟨_, _, _, _, e, _⟩ := h; rw [e]; rfl) | (intro h; obtain ⟨_, _, _, _, _, e, _⟩ := h; rw [e]; rfl) | (intro h; obtain ⟨_, _, _, _, _, _, e, _⟩ := h; rw [e]; rfl) | (intro h; obtain ⟨_, _, _, _, _, _, _, e, _⟩ := h; rw [e]; rfl) | (intro h; obtain ⟨_, _, _, _, _, _, _, _, _, _, _, _, e, _⟩ := h; rw [e]; rfl) | (intro h; exact h.elim))
section
variable {P : Program} {w : World} {K : PySem.W.Frag} {mg : Str → Option Value} {base : Heap} {ad : Ad}
/-- a drawn semiring as tuples, of n ≤ N elements -/
def RenT (H : Hp) (t : Addr) (N n : Nat) (f g : Nat → Nat → Nat) (o : Nat) : Prop :=
  ∃ p m, H t = some (.tup [.ref p, .ref m, .int (o : Int)]) ∧ TT H p n (fun i j => (f i j : Int)) ∧ TT H m n (fun i j => (g i j : Int)) ∧ SR n f g o ∧ n ≤ N
def spRen : Sp := fun vs H Q _ => ∃ (a t : Addr) (n o : Nat) (f g : Nat → Nat → Nat), vs = [.ref a, .ref t] ∧ PotAt H a ∧ FamT a H t 16 n f g o ∧
  ∀ H' t f g o, Fr1 a H H' → PotAt H' a → RenT H' t 16 n f g o → Q (.ref t) H'
theorem map_erase {α β : Type} (f : α → β) : ∀ (l : List α) (i : Nat), (l.map f).eraseIdx i = (l.eraseIdx i).map f
  | [], _ => rfl
  | _ :: _, 0 => rfl
  | a :: l, i + 1 => by
    show f a :: (l.map f).eraseIdx i = f a :: (l.eraseIdx i).map f
    rw [map_erase f l i]
theorem ok_law_renamed (c_law_next : CalX P w K mg base 1 "_law_next" spNext) {f : Addr} {fd : FuncData} (F : Fun K "_law_renamed" "_law_renamed" s_law_renamed f fd) (T : Txt K mg ad) : FnOk P w K mg base (L2.CX P w) 2 f fd ["pot", "told"] (spRen) := by
  refine F.okX sc_law_renamed (fun vs H Q E => ?_) (fun cdv A outer s H vs Q E hr h => ?_)
  · walk_at "len"
  ·
    obtain ⟨a, t, n, o, f, g, rfl, hp, ⟨p, q, hta, ht, lp, lq, sr, hn16⟩, k⟩ := h
    refine ⟨_, (pss_cons (ps_set (i := 2) sc_law_renamed.nd rfl (by first | exact Or.inl rfl | exact Or.inr rfl) (pe_callB call_len (by rfl) T.z_len (by decide +kernel) (pa_cons (pe_ix ix_tup (pv 1) pe_int (fun _ _ => rfl)) pa_nil)))
      (pss_cons (ps_setLc (i := 3) (own := [("k", 5)]) (tt := tYes) rfl sc_law_renamed.nd rfl rfl (sw_true rfl rfl rfl (by decide +kernel)) (pi_range2 (by rfl) T.z_range (pa_cons pe_int (pa_cons (pv 2) pa_nil))) (blkOk_by (by kernel_rfl)) (fun _ _ _ _ _ => (pg_name (i := 5) sc_law_renamed.nd rfl (by first | exact Or.inl rfl | exact Or.inr rfl))) (fun _ _ _ _ _ => pts_nil) (fun _ _ _ _ _ => (pv 5)))
      (pss_cons (ps_set (i := 4) sc_law_renamed.nd rfl (by first | exact Or.inl rfl | exact Or.inr rfl) (pe_lst (pa_cons pe_int pa_nil)))
      (pss_cons (ps_for (passes_of rfl) rfl (pi_range1 (by rfl) T.z_range (pa_cons (pe_op op_sub (pv 2) pe_int) pa_nil)) (pg_name (i := 5) sc_law_renamed.nd rfl (by first | exact Or.inl rfl | exact Or.inr rfl)) (pss_one (ps_expr (pe_bm PySem.F.plainAttrs_list PySem.F.slot_list_append PySem.F.type_list_append mt_append (pv 4) (pa_cons (pe_bm PySem.F.plainAttrs_list PySem.F.slot_list_pop PySem.F.type_list_pop mt_popAt (pv 3) (pa_cons (pc_call c_law_next hr (by first | decide | omega) (takes_of rfl rfl rfl rfl) (by rfl) (pa_cons (pv 0) (pa_cons (pe_callB call_len (by rfl) T.z_len (by decide +kernel) (pa_cons (pv 3) pa_nil)) pa_nil))) pa_nil)) pa_nil)))))
      (pss_cons (ps_set (i := 6) sc_law_renamed.nd rfl (by first | exact Or.inl rfl | exact Or.inr rfl) (pe_lc (own := [("k", 5)]) (tt := tYes) rfl sc_law_renamed.nd (pi_range1 (by rfl) T.z_range (pa_cons (pv 2) pa_nil)) (blkOk_by (by kernel_rfl)) (fun _ _ _ _ _ => (pg_name (i := 5) sc_law_renamed.nd rfl (by first | exact Or.inl rfl | exact Or.inr rfl))) (fun _ _ _ _ _ => pts_nil) (fun _ _ _ _ _ => (kpe_bm (K := K) PySem.F.plainAttrs_list PySem.F.slot_list_index PySem.F.type_list_index (kmt_index (K := K)) (pv 4) (pa_cons (pv 5) pa_nil)))))
      (pss_cons (ps_set (i := 7) sc_law_renamed.nd rfl (by first | exact Or.inl rfl | exact Or.inr rfl) (pe_callTy call_tuple_of (by rfl) T.z_tuple (by decide +kernel) (pa_cons (pe_lc (own := [("a", 9)]) (tt := tYes) rfl sc_law_renamed.nd (pi_range1 (by rfl) T.z_range (pa_cons (pv 2) pa_nil)) (blkOk_by (by kernel_rfl)) (fun _ _ _ _ _ => (pg_name (i := 9) sc_law_renamed.nd rfl (by first | exact Or.inl rfl | exact Or.inr rfl))) (fun _ _ _ _ _ => pts_nil) (fun _ _ _ _ _ => (pe_callTy (kcall_tuple_of (K := K)) (by rfl) T.z_tuple (by decide +kernel) (pa_cons (pe_lc (own := [("b", 10)]) (tt := tYes) rfl sc_law_renamed.nd (pi_range1 (by rfl) T.z_range (pa_cons (pv 2) pa_nil)) (blkOk_by (by kernel_rfl)) (fun _ _ _ _ _ => (pg_name (i := 10) sc_law_renamed.nd rfl (by first | exact Or.inl rfl | exact Or.inr rfl))) (fun _ _ _ _ _ => pts_nil) (fun _ _ _ _ _ => (pe_ix (kix_list (K := K)) (pv 4) (pe_ix (kix_list (K := K)) (pe_ix (kix_list (K := K)) (pe_ix (kix_tup (K := K)) (pv 1) pe_int (fun _ _ => rfl)) (pe_ix (kix_list (K := K)) (pv 6) (pv 9) (fun _ _ => rfl)) (fun _ _ => rfl)) (pe_ix (kix_list (K := K)) (pv 6) (pv 10) (fun _ _ => rfl)) (fun _ _ => rfl)) (fun _ _ => rfl)))) pa_nil)))) pa_nil)))
      (pss_cons (ps_set (i := 8) sc_law_renamed.nd rfl (by first | exact Or.inl rfl | exact Or.inr rfl) (pe_callTy call_tuple_of (by rfl) T.z_tuple (by decide +kernel) (pa_cons (pe_lc (own := [("a", 9)]) (tt := tYes) rfl sc_law_renamed.nd (pi_range1 (by rfl) T.z_range (pa_cons (pv 2) pa_nil)) (blkOk_by (by kernel_rfl)) (fun _ _ _ _ _ => (pg_name (i := 9) sc_law_renamed.nd rfl (by first | exact Or.inl rfl | exact Or.inr rfl))) (fun _ _ _ _ _ => pts_nil) (fun _ _ _ _ _ => (pe_callTy (kcall_tuple_of (K := K)) (by rfl) T.z_tuple (by decide +kernel) (pa_cons (pe_lc (own := [("b", 10)]) (tt := tYes) rfl sc_law_renamed.nd (pi_range1 (by rfl) T.z_range (pa_cons (pv 2) pa_nil)) (blkOk_by (by kernel_rfl)) (fun _ _ _ _ _ => (pg_name (i := 10) sc_law_renamed.nd rfl (by first | exact Or.inl rfl | exact Or.inr rfl))) (fun _ _ _ _ _ => pts_nil) (fun _ _ _ _ _ => (pe_ix (kix_list (K := K)) (pv 4) (pe_ix (kix_list (K := K)) (pe_ix (kix_list (K := K)) (pe_ix (kix_tup (K := K)) (pv 1) pe_int (fun _ _ => rfl)) (pe_ix (kix_list (K := K)) (pv 6) (pv 9) (fun _ _ => rfl)) (fun _ _ => rfl)) (pe_ix (kix_list (K := K)) (pv 6) (pv 10) (fun _ _ => rfl)) (fun _ _ => rfl)) (fun _ _ => rfl)))) pa_nil)))) pa_nil)))
      (pss_one (ps_ret (pe_tup (pa_cons (pv 7) (pa_cons (pv 8) (pa_cons (pe_ix ix_list (pv 4) (pe_ix ix_tup (pv 1) pe_int (fun _ _ => rfl)) (fun _ _ => rfl)) pa_nil))))))))))))), ?_⟩
    have hn0 := sr.pos
    obtain ⟨rp, ep, lpl⟩ := ll_len lp
    obtain ⟨ao, hao⟩ := hp.some
    obtain ⟨bp, hpB⟩ := hp.b_
    obtain ⟨bo, hbo⟩ : ∃ o, H bp = some o := let ⟨ns, i, c, sd, _, e, _⟩ := hpB; ⟨_, e⟩
    refine go_seq ⟨_, rfl, t, _, _, _, rfl, rfl, SqT.of ht, (by rfl), .ref p, _, rfl, .inl ⟨_, SqL.of ep, rfl⟩, ?_⟩
    rw [lpl]
    refine go_name rfl (go_seq ?_)
    refine ⟨_, rfl, _, _, rfl, ⟨by omega, by omega, by omega, by omega⟩, fun Lf hLf => ?_⟩
    rw [show ((n : Int) - 1).toNat = n - 1 by omega]
    refine lc_vals (lo := 1) (n := n - 1) (fun j => V.int ((j + 1 : Nat) : Int)) hLf (by omega) (fun _ => rfl) (fun j H2 Kt hj s2 kt => ?_) (fun H1 s1 e1 => ?_)
    · refine ⟨_, rfl, ?_⟩
      have z := kt _ (Same.refl _)
      rw [show ((j + 1 : Nat) : Int) = 1 + (j : Int) by omega] at z
      exact z
    refine go_name rfl (go_seq ⟨by (show 1 ≤ sizeLine); decide, fun Ln hLn => go_name rfl ?_⟩)
    have nLa : Lf ≠ a := (ne_of_none hao hLf).symm
    have nNa : Ln ≠ a := (ne_of_none (s1 _ _ hao) hLn).symm
    have nNL : Ln ≠ Lf := (ne_of_none e1 hLn).symm
    have sN : Same H1 (upd H1 Ln (.lst [.int 0])) := same_new (Same.refl _) hLn
    have hLnH : H Ln = none := by
      rcases hq : H Ln with _ | u
      · rfl
      · exact absurd (s1 _ _ hq) (by rw [hLn]; simp)
    refine ⟨_, rfl, _, _, rfl, rfl, _, rfl, by omega, by omega, ?_⟩
    rw [show ((n : Int) - 1).toNat = n - 1 by omega]
    refine for_range (lo := 0) (n := n - 1) (fun i σ H' => ∃ (ns ls : List Nat) (vk : Option V), σ = [some (.ref a), some (.ref t), some (.int (n : Int)), some (.ref Lf), some (.ref Ln), vk, none, none, none, none, none] ∧ Fr1 a H H' ∧ PotB H' a bp ∧
        H' Lf = some (.lst (ls.map fun (x : Nat) => V.int (x : Int))) ∧ H' Ln = some (.lst (ns.map fun (x : Nat) => V.int (x : Int))) ∧ (ns ++ ls).Perm (List.range n) ∧ ns.length = i + 1 ∧ ns[0]? = some 0)
      ⟨[0], (List.range (n - 1)).map (· + 1), none, rfl, Fr1.of (fun b o e => sN b o (s1 b o e)), (hpB.same s1).same sN, ?_, upd_same, ?_, rfl, rfl⟩ ?_ ?_
    · rw [upd_ne nNL.symm, e1, List.map_map]
      rfl
    · have e : List.range n = 0 :: (List.range (n - 1)).map (· + 1) := by
        rw [← List.range_succ_eq_map]
        congr 1
        omega
      rw [e]
      exact List.Perm.refl _
    · rintro i σ HA hi ⟨ns, ls, vk, rfl, fr, pA, hlf, hln, pm, hnl, hn0'⟩
      rw [Int.zero_add]
      refine go_name rfl ?_
      have hlsl : ls.length = n - 1 - i := by
        have := pm.length_eq
        rw [List.length_append, List.length_range] at this
        omega
      refine ⟨_, rfl, .inl ⟨rfl, _, SqL.of hln⟩, _, rfl, .inl ⟨rfl, _, SqL.of hlf⟩, _, rfl, _, rfl, .ref Lf, _, rfl, .inl ⟨_, SqL.of hlf, rfl⟩, a, _, rfl, pA.at_, by rw [List.length_map]; omega, ?_, fun HB r fB _ r0 r1 pBB => ?_⟩
      · rw [List.length_map, Int.natAbs_natCast]
        exact Nat.lt_of_le_of_lt (by omega : ls.length ≤ 16) (by decide)
      rw [List.length_map] at r1
      obtain ⟨kr, rfl⟩ : ∃ kr : Nat, r = (kr : Int) := ⟨r.toNat, by omega⟩
      have hkr : kr < ls.length := by omega
      have hx : ls[kr]? = some ls[kr] := List.getElem?_eq_getElem hkr
      have hx' : (ls.map fun (x : Nat) => V.int (x : Int))[kr]? = some (.int (ls[kr] : Int)) := by rw [List.getElem?_map, hx]; rfl
      have hlfB := fB _ _ nLa hlf
      have hlnB := fB _ _ nNa hln
      refine ⟨Lf, _, _, kr, _, rfl, rfl, hlfB, by omega, by omega, ?_, hx', ?_⟩
      · unfold seqIndex?
        rw [List.length_map]
        simp only [show ¬ (kr : Int) < 0 by omega, if_false]
        rw [if_pos (by simp; omega)]
        rfl
      refine ⟨Ln, _, _, rfl, rfl, (by rw [upd_ne nNL]; exact hlnB), ?_, ns ++ [ls[kr]], ls.eraseIdx kr, some (.int (i : Int)), rfl, ?_, ?_, ?_, ?_, ?_, ?_, ?_⟩
      · rw [List.length_map]
        exact Nat.lt_of_le_of_lt (by omega : ns.length ≤ 16) (by decide)
      · intro b u nb e
        have n1 : b ≠ Lf := ne_of_none e hLf
        have n2 : b ≠ Ln := ne_of_none e hLnH
        rw [upd_ne n2, upd_ne n1]
        exact fB _ _ nb (fr b u nb e)
      · refine (pBB _ pA).but ?_ ?_
        · rw [upd_ne nNa.symm, upd_ne nLa.symm]
        · rw [upd_ne (ne_of_none hbo hLnH), upd_ne (ne_of_none hbo hLf)]
      · rw [upd_ne nNL.symm, upd_same, map_erase]
      · rw [upd_same, List.map_append]
        rfl
      · have q1 := erase_perm ls kr _ hx
        rw [List.append_assoc]
        exact (List.Perm.append_left ns q1).trans pm
      · rw [List.length_append, hnl]
        rfl
      · rw [List.getElem?_append_left (by omega)]
        exact hn0'
    · rintro σ HB ⟨ns, ls, vk, rfl, fr, pB, hlf, hln, pm, hnl, hn0'⟩
      have hls : ls = [] := by
        have := pm.length_eq
        rw [List.length_append, List.length_range] at this
        exact List.length_eq_zero_iff.mp (by omega)
      subst hls
      rw [List.append_nil] at pm
      obtain ⟨hat, hs, hb, sb, bs, s0⟩ := ren_of pm hn0'
      have hLn := hln
      refine go_nx (go_seq ?_)
      refine ⟨_, rfl, _, rfl, by omega, by omega, fun Lb hLb0 => ?_⟩
      rw [Int.toNat_natCast]
      refine lc_vals (lo := 0) (n := n) (fun k => V.int ((ns.idxOf k : Nat) : Int)) hLb0 (by omega) (fun _ => rfl) (fun j H2 Kt hj s2 kt => ?_) (fun HC sC hLb => ?_)
      · rw [Int.zero_add]
        have hLn2 := s2 _ _ hLn
        refine ⟨_, rfl, .inl ⟨rfl, _, SqL.of hLn2⟩, _, rfl, Ln, _, _, ns.idxOf j, .int (j : Int), rfl, rfl, SqL.of hLn2, rfl, ?_, ?_, ?_, ?_, kt _ (Same.refl _)⟩
        · rw [List.all_map]
          exact List.all_eq_true.mpr fun _ _ => rfl
        · rw [List.getElem?_map, hat _ (hb j hj), sb j hj]
          rfl
        · show ((j : Int) == (j : Int)) = true
          simp
        · intro m z hm e
          rw [List.getElem?_map] at e
          rcases hz : ns[m]? with _ | z'
          · rw [hz] at e; cases e
          · rw [hz] at e
            have e' : V.int (z' : Int) = z := Option.some.inj e
            subst e'
            have := idx_first pm hm hz
            show ((z' : Int) == (j : Int)) = false
            simp only [beq_eq_false_iff_ne, ne_eq]
            omega
      have ht' : HB t = some (.tup [.ref p, .ref q, .int (o : Int)]) := fr _ _ hta ht
      have lp' := lp.but fr
      have lq' := lq.but fr
      clear ht lp lq
      have ht := ht'
      refine go_name rfl (go_seq ?_)
      refine tab_tt (n := n) (ns := 2) (ka := 9) (kb := 10) (fun i j => ((ns.getD (f (ns.idxOf i) (ns.idxOf j)) 0 : Nat) : Int)) (by omega) (fun i j s' Kt hi hj sH kt => ?_) (fun H2 D s2 l2 => ?_)
      · have SS := fun {b : Addr} {o : HO} (e : HB b = some o) => sH b o (sC b o e)
        refine ⟨_, rfl, _, rfl, t, _, _, _, rfl, rfl, SqT.of (SS ht), (by rfl), _, rfl, _, rfl, Lb, _, _, _, rfl, rfl, SqL.of (sH _ _ hLb), at_of rfl (at_map (f := fun k => V.int ((ns.idxOf k : Nat) : Int)) hi), ?_⟩
        obtain ⟨r1, rows1, e1, e2, cells1, e3, e4⟩ := ll_at lp' (hb i hi) (hb j hj)
        refine ⟨_, rows1, _, _, rfl, rfl, SqL.of (SS e1), at_of rfl e2, _, rfl, _, rfl, Lb, _, _, _, rfl, rfl, SqL.of (sH _ _ hLb), at_of rfl (at_map (f := fun k => V.int ((ns.idxOf k : Nat) : Int)) hj), ?_⟩
        refine ⟨r1, cells1, _, _, rfl, rfl, SqL.of (SS e3), at_of rfl e4, ?_⟩
        have hv := sr.pc _ (hb i hi) _ (hb j hj)
        refine ⟨Ln, _, _, .int ((ns.getD (f (ns.idxOf i) (ns.idxOf j)) 0 : Nat) : Int), rfl, rfl, SqL.of (SS hLn), at_of rfl ?_, kt _ (Same.refl _)⟩
        rw [List.getElem?_map, hat _ hv]
        rfl
      refine go_name rfl (go_seq ?_)
      have hLb2 := s2 _ _ hLb
      clear hLb
      have hLb := hLb2
      refine tab_tt (n := n) (ns := 2) (ka := 9) (kb := 10) (fun i j => ((ns.getD (g (ns.idxOf i) (ns.idxOf j)) 0 : Nat) : Int)) (by omega) (fun i j s' Kt hi hj sH kt => ?_) (fun H3 D2 s3 l3 => ?_)
      · have SS := fun {b : Addr} {o : HO} (e : HB b = some o) => sH b o (s2 b o (sC b o e))
        refine ⟨_, rfl, _, rfl, t, _, _, _, rfl, rfl, SqT.of (SS ht), (by rfl), _, rfl, _, rfl, Lb, _, _, _, rfl, rfl, SqL.of (sH _ _ hLb), at_of rfl (at_map (f := fun k => V.int ((ns.idxOf k : Nat) : Int)) hi), ?_⟩
        obtain ⟨r1, rows1, e1, e2, cells1, e3, e4⟩ := ll_at lq' (hb i hi) (hb j hj)
        refine ⟨_, rows1, _, _, rfl, rfl, SqL.of (SS e1), at_of rfl e2, _, rfl, _, rfl, Lb, _, _, _, rfl, rfl, SqL.of (sH _ _ hLb), at_of rfl (at_map (f := fun k => V.int ((ns.idxOf k : Nat) : Int)) hj), ?_⟩
        refine ⟨r1, cells1, _, _, rfl, rfl, SqL.of (SS e3), at_of rfl e4, ?_⟩
        have hv := sr.tc _ (hb i hi) _ (hb j hj)
        refine ⟨Ln, _, _, .int ((ns.getD (g (ns.idxOf i) (ns.idxOf j)) 0 : Nat) : Int), rfl, rfl, SqL.of (SS hLn), at_of rfl ?_, kt _ (Same.refl _)⟩
        rw [List.getElem?_map, hat _ hv]
        rfl
      have SS := fun {b : Addr} {o : HO} (e : HB b = some o) => s3 b o (s2 b o (sC b o e))
      refine go_name rfl ?_
      refine ⟨_, rfl, _, rfl, _, rfl, _, rfl, t, _, _, _, rfl, rfl, SqT.of (SS ht), (by rfl), Ln, _, _, .int ((ns.getD o 0 : Nat) : Int), rfl, rfl, SqL.of (SS hLn), at_of rfl ?_, by (show 3 ≤ sizeLine); decide, fun u hu => ?_⟩
      · rw [List.getElem?_map, hat _ sr.oo]
        rfl
      have su : Same H3 (upd H3 u (.tup [.ref D, .ref D2, .int ((ns.getD o 0 : Nat) : Int)])) := same_new (Same.refl _) hu
      refine k _ u _ _ _ (fr.trans (Fr1.of fun b o e => su b o (SS e))) (pB.at_.same fun b o e => su b o (SS e)) ⟨D, D2, upd_same, l2.same fun c xs e => su _ _ (s3 _ _ e), l3.same fun c xs e => su _ _ e, sr_ren sr hs hb sb bs s0, hn16⟩
end
end K14

set_option Elab.async false
set_option linter.all false
set_option maxRecDepth 100000
set_option maxHeartbeats 4000000
namespace K14
open PySem L2 Ew Tb SRm
local macro_rules | `(tactic| walk_at "len") => `(tactic| first | (intro h; obtain ⟨_, e, _⟩ := h; rw [e]; rfl) | (intro h; obtain ⟨_, _, e, _⟩ := h; rw [e]; rfl) | (intro h; obtain ⟨_, _, _, e, _⟩ := h; rw [e]; rfl) | (intro h; obtain ⟨_, _, _, _, e, _⟩ := h; rw [e]; rfl) | (intro h; obtain ⟨_, _, _, _, _, e, _⟩ := h; rw [e]; rfl) | (intro h; obtain ⟨_, _, _, _, _, _, e, _⟩ := h; rw [e]; rfl) | (intro h; obtain ⟨_, _, _, _, _, _, _, e, _⟩ := h; rw [e]; rfl) | (intro h; exact h.elim))
section
variable {P : Program} {w : World} {K : PySem.W.Frag} {mg : Str → Option Value} {base : Heap} {ad : Ad}
def stV : Option Nat → V
  | none => .non
  | some s => .int (s : Int)
/-- the stars at u -/
def StT (H : Hp) (u : Addr) (n : Nat) (f g : Nat → Nat → Nat) (o : Nat) (st : List (Option Nat)) : Prop :=
  H u = some (.tup (st.map stV)) ∧ st.length = n ∧ ∀ (i s : Nat), st[i]? = some (some s) → s < n ∧ f o (g i s) = s
theorem tt_at {D : Addr} {H : Hp} {n i j : Nat} {F : Nat → Nat → Int} (x : TT H D n F) (hi : i < n) (hj : j < n) : ∃ r rows, H D = some (.tup rows) ∧ rows[i]? = some (.ref r) ∧ ∃ cells, H r = some (.tup cells) ∧ cells[j]? = some (.int (F i j)) := by
  obtain ⟨rows, h2, h3, h4⟩ := x
  obtain ⟨r, e1, e3⟩ := h4 i hi
  exact ⟨r, rows, h2, e1, _, e3, at_map (f := fun j => V.int (F i j)) hj⟩
theorem tt_len {D : Addr} {H : Hp} {n : Nat} {F : Nat → Nat → Int} (x : TT H D n F) : ∃ rows, H D = some (.tup rows) ∧ rows.length = n := by
  obtain ⟨rows, h2, h3, h4⟩ := x
  exact ⟨rows, h2, h3⟩
def spStars : Sp := fun vs H Q _ => ∃ (a t : Addr) (n o : Nat) (f g : Nat → Nat → Nat), vs = [.ref a, .ref t] ∧ PotAt H a ∧ RenT H t 16 n f g o ∧
  ∀ H' u st, Fr1 a H H' → PotAt H' a → StT H' u n f g o st → Q (.ref u) H'
theorem ok_law_stars (c_law_next : CalX P w K mg base 1 "_law_next" spNext) {f : Addr} {fd : FuncData} (F : Fun K "_law_stars" "_law_stars" s_law_stars f fd) (T : Txt K mg ad) : FnOk P w K mg base (L2.CX P w) 2 f fd ["pot", "told"] (spStars) := by
  refine F.okX sc_law_stars (fun vs H Q E => ?_) (fun cdv A outer s H vs Q E hr h => ?_)
  · walk_at "len"
  ·
    obtain ⟨a, t, n, o, f, g, rfl, hp, ⟨p, m, ht, lp, lm, sr, hn16⟩, k⟩ := h
    refine ⟨_, (pss_cons (ps_asg (pv 1) (pg_tup rfl (pgs_cons (pg_name (i := 2) sc_law_stars.nd rfl (by first | exact Or.inl rfl | exact Or.inr rfl)) (pgs_cons (pg_name (i := 3) sc_law_stars.nd rfl (by first | exact Or.inl rfl | exact Or.inr rfl)) (pgs_cons (pg_name (i := 4) sc_law_stars.nd rfl (by first | exact Or.inl rfl | exact Or.inr rfl)) pgs_nil)))))
      (pss_cons (ps_set (i := 5) sc_law_stars.nd rfl (by first | exact Or.inl rfl | exact Or.inr rfl) (pe_lst pa_nil))
      (pss_cons (ps_for (passes_of rfl) rfl (pi_range1 (by rfl) T.z_range (pa_cons (pe_callB call_len (by rfl) T.z_len (by decide +kernel) (pa_cons (pv 2) pa_nil)) pa_nil)) (pg_name (i := 6) sc_law_stars.nd rfl (by first | exact Or.inl rfl | exact Or.inr rfl)) (pss_cons (ps_setLc (i := 7) (own := [("s", 9)]) rfl sc_law_stars.nd rfl rfl (sw_true rfl rfl rfl (by decide +kernel)) (pi_range1 (by rfl) T.z_range (pa_cons (pe_callB call_len (by rfl) T.z_len (by decide +kernel) (pa_cons (pv 2) pa_nil)) pa_nil)) (blkOk_by (by kernel_rfl)) (fun _ _ _ _ _ => (pg_name (i := 9) sc_law_stars.nd rfl (by first | exact Or.inl rfl | exact Or.inr rfl))) (fun _ _ _ _ _ => (pts_one (pt_cmpR op_eq (pe_ix (kix_tup (K := K)) (pe_ix (kix_tup (K := K)) (pv 2) (pv 4) (fun _ _ => rfl)) (pe_ix (kix_tup (K := K)) (pe_ix (kix_tup (K := K)) (pv 3) (pv 6) (fun _ _ => rfl)) (pv 9) (fun _ _ => rfl)) (fun _ _ => rfl)) (pv 9) (nomark _)))) (fun _ _ _ _ _ => (pv 9)))
      (pss_cons (ps_set (i := 8) sc_law_stars.nd rfl (by first | exact Or.inl rfl | exact Or.inr rfl) (pc_call c_law_next hr (by first | decide | omega) (takes_of rfl rfl rfl rfl) (by rfl) (pa_cons (pv 0) (pa_cons pe_int pa_nil))))
      (pss_one (ps_if (PW.pt (pw_or (pt_cmpR op_eq (pe_callB call_len (by rfl) T.z_len (by decide +kernel) (pa_cons (pv 7) pa_nil)) pe_int (nomark _)) (pw_or1 (pt_cmpR op_eq (pv 8) pe_int (nomark _))))) (pss_one (ps_expr (pe_bm PySem.F.plainAttrs_list PySem.F.slot_list_append PySem.F.type_list_append mt_append (pv 5) (pa_cons pe_non pa_nil)))) (pss_one (ps_expr (pe_bm PySem.F.plainAttrs_list PySem.F.slot_list_append PySem.F.type_list_append mt_append (pv 5) (pa_cons (pe_ix ix_list (pv 7) (pe_op op_mod (pe_callTy call_int1 (by rfl) T.z_int (by decide +kernel) (pa_cons (pv 8) pa_nil)) (pe_callB call_len (by rfl) T.z_len (by decide +kernel) (pa_cons (pv 7) pa_nil))) (fun _ _ => rfl)) pa_nil)))))))))
      (pss_one (ps_ret (pe_callTy call_tuple_of (by rfl) T.z_tuple (by decide +kernel) (pa_cons (pv 5) pa_nil))))))), ?_⟩
    have hn0 := sr.pos
    have ho := sr.oo
    obtain ⟨ao, hao⟩ := hp.some
    obtain ⟨bp, hpB⟩ := hp.b_
    obtain ⟨bo, hbo⟩ : ∃ o, H bp = some o := let ⟨ns, i, c, sd, _, e, _⟩ := hpB; ⟨_, e⟩
    obtain ⟨rp, ep, lpl⟩ := tt_len lp
    refine ⟨_, rfl, t, _, rfl, SqT.of ht, rfl, _, _, rfl, _, _, rfl, _, _, rfl, rfl, ?_⟩
    refine go_nx (go_seq ⟨by (show 0 ≤ sizeLine); decide, fun Lf hLf => go_name rfl ?_⟩)
    have nLa : Lf ≠ a := (ne_of_none hao hLf).symm
    have sF : Same H (upd H Lf (.lst [])) := same_new (Same.refl _) hLf
    refine ⟨_, rfl, .ref p, _, rfl, .inr ⟨_, SqT.of (sF _ _ ep), rfl⟩, _, rfl, by omega, by omega, ?_⟩
    rw [lpl, Int.toNat_natCast]
    refine for_range (lo := 0) (n := n) (fun i σ H' => ∃ (st : List (Option Nat)) (va vf vd : Option V), σ = [some (.ref a), some (.ref t), some (.ref p), some (.ref m), some (.int (o : Int)), some (.ref Lf), va, vf, vd, none] ∧ Fr1 a H H' ∧ PotB H' a bp ∧
        H' Lf = some (.lst (st.map stV)) ∧ st.length = i ∧ ∀ (i s : Nat), st[i]? = some (some s) → s < n ∧ f o (g i s) = s)
      ⟨[], none, none, none, rfl, Fr1.of sF, hpB.same sF, upd_same, rfl, fun i s e => by simp at e⟩ ?_ ?_
    · rintro i σ HA hi ⟨st, va, vf, vd, rfl, fr, pA, hlf, hsl, hst⟩
      rw [Int.zero_add]
      have hia : ∀ {b : Addr} {xs : List V}, H b = some (.tup xs) → HA b = some (.tup xs) := fun {b xs} e => fr b _ (fun z => by obtain ⟨_, _, _, _, e1, _⟩ := hpB; rw [z, e1] at e; cases e) e
      have lpA : TT HA p n (fun i j => (f i j : Int)) := lp.same fun c xs e => hia e
      have lmA : TT HA m n (fun i j => (g i j : Int)) := lm.same fun c xs e => hia e
      obtain ⟨rpA, epA, lplA⟩ := tt_len lpA
      refine go_name rfl (go_seq ?_)
      refine ⟨_, rfl, .ref p, _, rfl, .inr ⟨_, SqT.of epA, rfl⟩, _, rfl, by omega, by omega, fun D hD => ?_⟩
      rw [lplA, Int.toNat_natCast]
      have nDf : D ≠ Lf := (ne_of_none hlf hD).symm
      refine lc_range (lo := 0) (n := n) (fun j H' => Same HA H' ∧ ∃ xs : List Nat, H' D = some (.lst (xs.map fun (x : Nat) => V.int (x : Int))) ∧ xs.length ≤ j ∧ ∀ x, x ∈ xs → x < n ∧ f o (g i x) = x) ⟨same_new (Same.refl _) hD, [], upd_same, Nat.zero_le _, fun x h => by cases h⟩ (fun j HJ hj ⟨sJ, xs, e1, e2, e3⟩ => ?_) (fun HC ⟨sC, xs, e1, e2, e3⟩ => ?_)
      · refine ⟨rfl, ?_⟩
        rw [Int.zero_add]
        have lpJ : TT HJ p n (fun i j => (f i j : Int)) := lpA.same fun c xs e => sJ _ _ e
        have lmJ : TT HJ m n (fun i j => (g i j : Int)) := lmA.same fun c xs e => sJ _ _ e
        have hg := sr.tc i hi j hj
        obtain ⟨r1, rows1, a1, a2, cells1, a3, a4⟩ := tt_at lpJ ho hg
        obtain ⟨r2, rows2, b1, b2, cells2, b3, b4⟩ := tt_at lmJ hi hj
        refine ⟨_, rfl, _, rfl, p, rows1, _, _, rfl, rfl, SqT.of a1, at_of rfl a2, ?_⟩
        refine ⟨_, rfl, _, rfl, m, rows2, _, _, rfl, rfl, SqT.of b1, at_of rfl b2, _, rfl, r2, cells2, _, _, rfl, rfl, SqT.of b3, at_of rfl b4, r1, cells1, _, _, rfl, rfl, SqT.of a3, at_of rfl a4, _, rfl, rfl, _, rfl, ?_⟩
        by_cases c : f o (g i j) = j
        · rw [decide_eq_true (show V.int ((f o (g i j) : Nat) : Int) = V.int (j : Int) by rw [c])]
          refine iteT ⟨_, rfl, _, e1, ?_, same_but hD sJ but_app, xs ++ [j], ?_, ?_, ?_⟩
          · rw [List.length_map]
            exact Nat.lt_of_le_of_lt (by omega : xs.length ≤ 16) (by decide)
          · rw [upd_same, List.map_append]
            rfl
          · rw [List.length_append]
            exact Nat.succ_le_succ e2
          · intro x hx
            rcases List.mem_append.mp hx with h | h
            · exact e3 x h
            · rw [List.mem_singleton.mp h]
              exact ⟨hj, c⟩
        · rw [decide_eq_false (fun z => c (by injection z with z; omega))]
          exact iteF ⟨sJ, xs, e1, by omega, e3⟩
      · refine go_name rfl (go_seq ?_)
        have pC : PotB HC a bp := pA.same sC
        refine ⟨_, rfl, a, _, rfl, pC.at_, by decide, by decide, fun HB r fB _ r0 r1 pBB => go_name rfl ?_⟩
        obtain ⟨kr, rfl⟩ : ∃ kr : Nat, r = (kr : Int) := ⟨r.toNat, by omega⟩
        have nDa : D ≠ a := fun z => by obtain ⟨_, _, _, _, e, _⟩ := pA; rw [z, e] at hD; cases hD
        have hDB := fB _ _ nDa e1
        have hlfB := fB _ _ nLa (sC _ _ hlf)
        have frB : Fr1 a H HB := (fr.trans (Fr1.of sC)).trans fB
        have fin : ∀ x : Option Nat, (∀ s, x = some s → s < n ∧ f o (g i s) = s) → ∃ (st' : List (Option Nat)) (va' vf' vd' : Option V), [some (V.ref a), some (.ref t), some (.ref p), some (.ref m), some (.int (o : Int)), some (.ref Lf), some (.int (i : Int)), some (.ref D), some (.int (kr : Int)), none] = [some (V.ref a), some (.ref t), some (.ref p), some (.ref m), some (.int (o : Int)), some (.ref Lf), va', vf', vd', none] ∧ Fr1 a H (upd HB Lf (.lst (st.map stV ++ [stV x]))) ∧ PotB (upd HB Lf (.lst (st.map stV ++ [stV x]))) a bp ∧
            (upd HB Lf (.lst (st.map stV ++ [stV x]))) Lf = some (.lst (st'.map stV)) ∧ st'.length = i + 1 ∧ ∀ (i s : Nat), st'[i]? = some (some s) → s < n ∧ f o (g i s) = s := fun x hx => by
          refine ⟨st ++ [x], _, _, _, rfl, ?_, (pBB _ pC).but (upd_ne nLa.symm) (upd_ne (ne_of_none hbo hLf)), ?_, by rw [List.length_append, hsl]; rfl, fun j s e => ?_⟩
          · intro b u nb e
            rw [upd_ne (ne_of_none e hLf)]
            exact frB b u nb e
          · rw [upd_same, List.map_append]
            rfl
          · by_cases c : j < st.length
            · rw [List.getElem?_append_left c] at e
              exact hst j s e
            · rw [List.getElem?_append_right (by omega)] at e
              have hj : j = i := by
                have : j - st.length < [x].length := by
                  rcases Nat.lt_or_ge (j - st.length) [x].length with h | h
                  · exact h
                  · rw [List.getElem?_eq_none h] at e; cases e
                have h1 : [x].length = 1 := rfl
                omega
              subst hj
              rw [hsl, Nat.sub_self] at e
              have : x = some s := by simpa using e
              exact hx s this
        have hszL : (st.map stV).length < sizeLine := by
          rw [List.length_map]
          exact Nat.lt_of_le_of_lt (by omega : st.length ≤ 16) (by decide)
        refine ⟨_, rfl, .ref D, _, rfl, .inl ⟨_, SqL.of hDB, rfl⟩, rfl, _, rfl, ?_⟩
        rw [List.length_map]
        by_cases c0 : xs.length = 0
        · rw [decide_eq_true (show V.int (xs.length : Int) = V.int 0 by rw [c0]; rfl)]
          refine iteT (iteT ?_)
          exact ⟨_, rfl, .inl ⟨rfl, _, SqL.of hlfB⟩, Lf, _, _, rfl, rfl, hlfB, hszL, fin none (fun s e => by cases e)⟩
        · rw [decide_eq_false (fun z => c0 (by injection z with z; omega))]
          refine iteF ⟨_, rfl, rfl, _, rfl, ?_⟩
          by_cases c1 : (kr : Int) = 11
          · rw [decide_eq_true (congrArg V.int c1)]
            refine iteT ?_
            exact ⟨_, rfl, .inl ⟨rfl, _, SqL.of hlfB⟩, Lf, _, _, rfl, rfl, hlfB, hszL, fin none (fun s e => by cases e)⟩
          · rw [decide_eq_false (fun z => c1 (by injection z))]
            refine iteF ?_
            have hpos : 0 < xs.length := by omega
            have hmod : kr % xs.length < xs.length := Nat.mod_lt _ hpos
            have hx : xs[kr % xs.length]? = some xs[kr % xs.length] := List.getElem?_eq_getElem hmod
            refine ⟨_, rfl, .inl ⟨rfl, _, SqL.of hlfB⟩, _, rfl, _, rfl, .inl ⟨_, rfl, ?_⟩⟩
            refine ⟨_, rfl, .ref D, _, rfl, .inl ⟨_, SqL.of hDB, rfl⟩, _, _, rfl, rfl, by rw [List.length_map]; omega, D, _, _, .int ((xs[kr % xs.length] : Nat) : Int), rfl, rfl, SqL.of hDB, at_of (j := kr % xs.length) ?_ ?_, Lf, _, _, rfl, rfl, hlfB, hszL, fin (some xs[kr % xs.length]) (fun s e => ?_)⟩
            · rw [List.length_map]
              push_cast
              try rfl
            · rw [List.getElem?_map, hx]
              rfl
            · cases e
              exact e3 _ (List.getElem_mem hmod)
    · rintro σ HB ⟨st, va, vf, vd, rfl, fr, pB, hlf, hsl, hst⟩
      refine go_nx (go_ret ⟨_, rfl, Lf, _, rfl, .inl ⟨SqL.of hlf, fun u hu => ?_⟩⟩)
      have su : Same HB (upd HB u (.tup (st.map stV))) := same_new (Same.refl _) hu
      exact k _ u st (fr.trans (Fr1.of su)) (pB.same su).at_ ⟨upd_same, hsl, hst⟩
end
end K14

set_option Elab.async false
set_option linter.all false
set_option maxRecDepth 100000
set_option maxHeartbeats 4000000
namespace K14
open PySem L2 Ew Tb SRm
local macro_rules | `(tactic| walk_at "len") => `(tactic| first | (intro h; obtain ⟨_, e, _⟩ := h; rw [e]; rfl) | (intro h; obtain ⟨_, _, e, _⟩ := h; rw [e]; rfl) | (intro h; obtain ⟨_, _, _, e, _⟩ := h; rw [e]; rfl) | (intro h; obtain ⟨_, _, _, _, e, _⟩ := h; rw [e]; rfl) | (intro h; obtain ⟨_, _, _, _, _, e, _⟩ := h; rw [e]; rfl) | (intro h; obtain ⟨_, _, _, _, _, _, e, _⟩ := h; rw [e]; rfl) | (intro h; obtain ⟨_, _, _, _, _, _, _, e, _⟩ := h; rw [e]; rfl) | (intro h; exact h.elim))
section
variable {P : Program} {w : World} {K : PySem.W.Frag} {mg : Str → Option Value} {base : Heap} {ad : Ad}
/-- a drawn semiring with its stars -/
def RingT (H : Hp) (t : Addr) (n : Nat) (f g : Nat → Nat → Nat) (o : Nat) (st : List (Option Nat)) : Prop :=
  ∃ p m u, H t = some (.tup [.ref p, .ref m, .int (o : Int), .ref u]) ∧ TT H p n (fun i j => (f i j : Int)) ∧ TT H m n (fun i j => (g i j : Int)) ∧ StT H u n f g o st ∧ SR n f g o ∧ n ≤ 16
theorem StT.same {H H' : Hp} {u : Addr} {n o : Nat} {f g : Nat → Nat → Nat} {st : List (Option Nat)} (x : StT H u n f g o st) (b : ∀ c xs, H c = some (.tup xs) → H' c = some (.tup xs)) : StT H' u n f g o st := ⟨b _ _ x.1, x.2⟩
theorem RenT.same {H H' : Hp} {t : Addr} {N n o : Nat} {f g : Nat → Nat → Nat} (x : RenT H t N n f g o) (b : ∀ c xs, H c = some (.tup xs) → H' c = some (.tup xs)) : RenT H' t N n f g o := by
  obtain ⟨p, m, h1, h2, h3, h4⟩ := x
  exact ⟨p, m, b _ _ h1, h2.same b, h3.same b, h4⟩
theorem RingT.same {H H' : Hp} {t : Addr} {n o : Nat} {f g : Nat → Nat → Nat} {st : List (Option Nat)} (x : RingT H t n f g o st) (b : ∀ c xs, H c = some (.tup xs) → H' c = some (.tup xs)) : RingT H' t n f g o st := by
  obtain ⟨p, m, u, h1, h2, h3, h4, h5⟩ := x
  exact ⟨p, m, u, b _ _ h1, h2.same b, h3.same b, h4.same b, h5⟩
theorem Fr1.tup {a c : Addr} {H H' : Hp} {xs : List V} (fr : Fr1 a H H') (p : PotAt H a) (e : H c = some (.tup xs)) : H' c = some (.tup xs) := fr _ _ (fun z => by obtain ⟨_, _, _, _, _, e1, _⟩ := p; rw [z, e1] at e; cases e) e
def spRing : Sp := fun vs H Q _ => ∃ a, vs = [.ref a] ∧ PotAt H a ∧ ∀ H' t n f g o st, Fr1 a H H' → PotAt H' a → RingT H' t n f g o st → Q (.ref t) H'
theorem ok_law_ring (c_law_next : CalX P w K mg base 1 "_law_next" spNext) (c_law_family : CalX P w K mg base 3 "_law_family" spFam) (c_law_paired : CalX P w K mg base 1 "_law_paired" spPaired) (c_law_renamed : CalX P w K mg base 2 "_law_renamed" spRen) (c_law_stars : CalX P w K mg base 2 "_law_stars" spStars) {f : Addr} {fd : FuncData} (F : Fun K "_law_ring" "_law_ring" s_law_ring f fd) (T : Txt K mg ad) : FnOk P w K mg base (L2.CX P w) 4 f fd ["pot"] (spRing) := by
  refine F.okX sc_law_ring (fun vs H Q E => ?_) (fun cdv A outer s H vs Q E hr h => ?_)
  · walk_at "len"
  ·
    obtain ⟨a, rfl, hp, k⟩ := h
    refine ⟨_, (pss_cons (ps_set (i := 1) sc_law_ring.nd rfl (by first | exact Or.inl rfl | exact Or.inr rfl) (pc_call c_law_next hr (by first | decide | omega) (takes_of rfl rfl rfl rfl) (by rfl) (pa_cons (pv 0) (pa_cons pe_int pa_nil))))
      (C8.pss_cut (ps_if (pt_cmpR op_lt (pv 1) pe_int (nomark _)) (pss_one (ps_set (i := 2) sc_law_ring.nd rfl (by first | exact Or.inl rfl | exact Or.inr rfl) (pc_call c_law_family hr (by first | decide | omega) (takes_of rfl rfl rfl rfl) (by rfl) (pa_cons (pv 0) (pa_cons (pv 1) (pa_cons pe_bl pa_nil)))))) (pss_one (ps_set (i := 2) sc_law_ring.nd rfl (by first | exact Or.inl rfl | exact Or.inr rfl) (pc_call c_law_paired hr (by first | decide | omega) (takes_of rfl rfl rfl rfl) (by rfl) (pa_cons (pc_call c_law_family hr (by first | decide | omega) (takes_of rfl rfl rfl rfl) (by rfl) (pa_cons (pv 0) (pa_cons (pc_call c_law_next hr (by first | decide | omega) (takes_of rfl rfl rfl rfl) (by rfl) (pa_cons (pv 0) (pa_cons pe_int pa_nil))) (pa_cons pe_bl pa_nil)))) (pa_cons (pc_call c_law_family hr (by first | decide | omega) (takes_of rfl rfl rfl rfl) (by rfl) (pa_cons (pv 0) (pa_cons (pc_call c_law_next hr (by first | decide | omega) (takes_of rfl rfl rfl rfl) (by rfl) (pa_cons (pv 0) (pa_cons pe_int pa_nil))) (pa_cons pe_bl pa_nil)))) pa_nil))))))
      (pss_cons (ps_set (i := 2) sc_law_ring.nd rfl (by first | exact Or.inl rfl | exact Or.inr rfl) (pc_call c_law_renamed hr (by first | decide | omega) (takes_of rfl rfl rfl rfl) (by rfl) (pa_cons (pv 0) (pa_cons (pv 2) pa_nil))))
      (pss_one (ps_ret (pe_op op_catT (pv 2) (pe_tup (pa_cons (pc_call c_law_stars hr (by first | decide | omega) (takes_of rfl rfl rfl rfl) (by rfl) (pa_cons (pv 0) (pa_cons (pv 2) pa_nil))) pa_nil)))))))), ?_⟩
    refine go_seq ⟨_, rfl, a, _, rfl, hp, by decide, by decide, fun H1 r f1 p1 r0 r1 _ => go_name rfl ?_⟩
    obtain ⟨kd, rfl⟩ : ∃ kd : Nat, r = (kd : Int) := ⟨r.toNat, by omega⟩
    refine ⟨fun σ H' => ∃ (vk : Option V) (t : Addr) (n o : Nat) (f g : Nat → Nat → Nat), σ = [some (.ref a), vk, some (.ref t)] ∧ Fr1 a H H' ∧ PotAt H' a ∧ FamT a H' t 16 n f g o, ?_, ?_⟩
    · refine ⟨_, rfl, _, _, rfl, rfl, _, rfl, ?_⟩
      refine ite2 (fun c => ?_) (fun c => ?_)
      · have c1 : kd < 6 := by have := of_decide_eq_true c; omega
        refine ⟨_, rfl, _, rfl, a, kd, false, rfl, p1, c1, fun H2 t n f g o f2 p2 ft => go_name rfl ?_⟩
        obtain ⟨p, m, e1, e2, e3, e4, e5, e6⟩ := ft
        exact ⟨_, t, n, o, f, g, rfl, f1.trans f2, p2, p, m, e1, e2, e3, e4, e5, Nat.le_trans e6 (by decide)⟩
      · refine ⟨_, rfl, _, rfl, a, _, rfl, p1, by decide, by decide, fun H2 q f2 p2 q0 q1 _ => ?_⟩
        obtain ⟨k1, rfl⟩ : ∃ k1 : Nat, q = (k1 : Int) := ⟨q.toNat, by omega⟩
        refine ⟨a, k1, true, rfl, p2, by omega, fun H3 t n f g o f3 p3 ft => ?_⟩
        refine ⟨_, rfl, _, rfl, a, _, rfl, p3, by decide, by decide, fun H4 q f4 p4 q0 q1 _ => ?_⟩
        obtain ⟨k2, rfl⟩ : ∃ k2 : Nat, q = (k2 : Int) := ⟨q.toNat, by omega⟩
        refine ⟨a, k2, true, rfl, p4, by omega, fun H5 u m f' g' o' f5 p5 fu => ?_⟩
        obtain ⟨ao, hao⟩ := p5.some
        refine ⟨a, t, u, ao, n, m, o, o', f, g, f', g', rfl, hao, (ft.but f4).but f5, fu, fun H6 v s6 fv => go_name rfl ?_⟩
        exact ⟨_, v, _, _, _, _, rfl, ((((f1.trans f2).trans f3).trans f4).trans f5).trans (Fr1.of s6), p5.same s6, fv⟩
    · rintro σ H2 ⟨vk, t, n, o, f, g, rfl, f2, p2, ft⟩
      refine go_seq ⟨_, rfl, _, rfl, a, t, n, o, f, g, rfl, p2, ft, fun H3 u f' g' o' f3 p3 ru => go_name rfl ?_⟩
      refine go_ret ⟨_, rfl, _, rfl, _, rfl, a, u, n, o', f', g', rfl, p3, ru, fun H4 v st f4 p4 sv => ?_⟩
      refine ⟨by (show 1 ≤ sizeLine); decide, fun x hx => ?_⟩
      obtain ⟨p, m, e1, e2, e3, e4, e5⟩ := ru
      have sx : Same H4 (upd H4 x (.tup [.ref v])) := same_new (Same.refl _) hx
      have eu := sx _ _ (f4.tup p3 e1)
      refine ⟨u, x, _, _, rfl, rfl, SqT.of eu, SqT.of upd_same, by simp, by (show 4 ≤ sizeLine); decide, (fun z => by cases z), fun _ y hy => ?_⟩
      have sy := same_new (o := .tup ([.ref p, .ref m, .int (o' : Int)] ++ [.ref v])) (Same.refl _) hy
      have up : ∀ c xs, H3 c = some (.tup xs) → upd (upd H4 x (.tup [.ref v])) y (.tup ([.ref p, .ref m, .int (o' : Int)] ++ [.ref v])) c = some (.tup xs) := fun c xs e => sy _ _ (sx _ _ (f4.tup p3 e))
      exact k _ y n f' g' o' st (((f2.trans f3).trans f4).trans (Fr1.of fun b o e => sy b o (sx b o e))) ((p4.same sx).same sy) ⟨p, m, v, upd_same, e2.same up, e3.same up, sv.same (fun c xs e => sy _ _ (sx _ _ e)), e4, e5⟩
end
end K14

set_option Elab.async false
set_option linter.all false
set_option maxRecDepth 100000
set_option maxHeartbeats 4000000
namespace K14
open PySem L2 Ew Tb SRm
local macro_rules | `(tactic| walk_at "len") => `(tactic| first | (intro h; obtain ⟨_, e, _⟩ := h; rw [e]; rfl) | (intro h; obtain ⟨_, _, e, _⟩ := h; rw [e]; rfl) | (intro h; obtain ⟨_, _, _, e, _⟩ := h; rw [e]; rfl) | (intro h; obtain ⟨_, _, _, _, e, _⟩ := h; rw [e]; rfl) | (intro h; obtain ⟨_, _, _, _, _, e, _⟩ := h; rw [e]; rfl) | (intro h; obtain ⟨_, _, _, _, _, _, e, _⟩ := h; rw [e]; rfl) | (intro h; obtain ⟨_, _, _, _, _, _, _, e, _⟩ := h; rw [e]; rfl) | (intro h; exact h.elim))
section
variable {P : Program} {w : World} {K : PySem.W.Frag} {mg : Str → Option Value} {base : Heap} {ad : Ad}
/-! ### what a part of a pair promises: its object's class C, of its fields ok -/
def spBinG (C : Addr) (ok : Hp → List (Str × V) → Prop) (el : V → Prop) (op : V → V → V) : Sp := fun vs H Q _ => ∃ p dx fs x y, vs = [.ref p, x, y] ∧ H p = some (.ins C dx fs) ∧ ok H fs ∧ el x ∧ el y ∧ Q (op x y) H
def spNulG (C : Addr) (ok : Hp → List (Str × V) → Prop) (z : V) : Sp := fun vs H Q _ => ∃ p dx fs, vs = [.ref p] ∧ H p = some (.ins C dx fs) ∧ ok H fs ∧ Q z H
def spStG (C ns : Addr) (ok : Hp → List (Str × V) → Prop) (el : V → Prop) (st : V → Option V) : Sp := fun vs H Q E => ∃ p dx fs x, vs = [.ref p, x] ∧ H p = some (.ins C dx fs) ∧ ok H fs ∧ el x ∧ (∀ s, st x = some s → Q s H) ∧ (st x = none → E (.ref ns) none H)
def spElG (C : Addr) (ok : Hp → List (Str × V) → Prop) (t : V → Bool) : Sp := fun vs H Q _ => ∃ p dx fs x, vs = [.ref p, x] ∧ H p = some (.ins C dx fs) ∧ ok H fs ∧ Thg H x ∧ Q (.bl (t x)) H
/-- the fields of a Finite -/
abbrev fF (tp tm : Addr) (o : Nat) (ts : Addr) : List (Str × V) := putF "_stars" (.ref ts) (putF "_one" (.int (o : Int)) (putF "_times" (.ref tm) (putF "_plus" (.ref tp) [])))
theorem fF_p (tp tm : Addr) (o : Nat) (ts : Addr) : (fF tp tm o ts).lookup ("_plus" : Str) = some (.ref tp) := by
  rw [lookup_putF, if_neg (by decide), lookup_putF, if_neg (by decide), lookup_putF, if_neg (by decide), lookup_putF, if_pos rfl]
theorem fF_t (tp tm : Addr) (o : Nat) (ts : Addr) : (fF tp tm o ts).lookup ("_times" : Str) = some (.ref tm) := by
  rw [lookup_putF, if_neg (by decide), lookup_putF, if_neg (by decide), lookup_putF, if_pos rfl]
theorem fF_o (tp tm : Addr) (o : Nat) (ts : Addr) : (fF tp tm o ts).lookup ("_one" : Str) = some (.int (o : Int)) := by
  rw [lookup_putF, if_neg (by decide), lookup_putF, if_pos rfl]
theorem fF_s (tp tm : Addr) (o : Nat) (ts : Addr) : (fF tp tm o ts).lookup ("_stars" : Str) = some (.ref ts) := by
  rw [lookup_putF, if_pos rfl]
theorem fF_no (tp tm : Addr) (o : Nat) (ts : Addr) {m : Str} (h1 : ¬ m = "_plus") (h2 : ¬ m = "_times") (h3 : ¬ m = "_one") (h4 : ¬ m = "_stars") : (fF tp tm o ts).lookup m = none := by
  rw [lookup_putF, if_neg h4, lookup_putF, if_neg h3, lookup_putF, if_neg h2, lookup_putF, if_neg h1]; rfl
/-- a Finite's fields tell these tables -/
def okF (n : Nat) (f g : Nat → Nat → Nat) (o : Nat) (st : List (Option Nat)) (H : Hp) (fs : List (Str × V)) : Prop :=
  ∃ tp tm ts, fs = fF tp tm o ts ∧ TT H tp n (fun i j => (f i j : Int)) ∧ TT H tm n (fun i j => (g i j : Int)) ∧ H ts = some (.tup (st.map stV)) ∧ st.length = n
def elF (n : Nat) (v : V) : Prop := ∃ i : Nat, v = .int (i : Int) ∧ i < n
def binF (f : Nat → Nat → Nat) : V → V → V
  | .int i, .int j => .int ((f i.toNat j.toNat : Nat) : Int)
  | x, _ => x
def starF (st : List (Option Nat)) : V → Option V
  | .int i => match st[i.toNat]? with
    | some (some s) => some (.int (s : Int))
    | _ => none
  | _ => none
section
variable {n o : Nat} {pf tf : Nat → Nat → Nat} {st : List (Option Nat)}
theorem ok_Finite_zero  {f : Addr} {fd : FuncData} (F : Fun K "zero" "Finite.zero" s_Finite_zero f fd) (T : Txt K mg ad) : FnOk P w K mg base (L2.CX P w) 1 f fd ["self"] (spNulG ad.Finite (okF n pf tf o st) (.int 0)) := by
  refine F.okX sc_Finite_zero (fun vs H Q E => ?_) (fun cdv A outer s H vs Q E hr h => ?_)
  · walk_at "len"
  ·
    obtain ⟨p, dx, fs, rfl, hp, ok, k⟩ := h
    refine ⟨_, (pss_one (ps_ret pe_int)), ?_⟩
    exact k
theorem ok_Finite_one  {f : Addr} {fd : FuncData} (F : Fun K "one" "Finite.one" s_Finite_one f fd) (T : Txt K mg ad) : FnOk P w K mg base (L2.CX P w) 1 f fd ["self"] (spNulG ad.Finite (okF n pf tf o st) (.int (o : Int))) := by
  refine F.okX sc_Finite_one (fun vs H Q E => ?_) (fun cdv A outer s H vs Q E hr h => ?_)
  · walk_at "len"
  ·
    obtain ⟨p, dx, fs, rfl, hp, ⟨tp, tm, ts, rfl, _⟩, k⟩ := h
    refine ⟨_, (pss_one (ps_ret (pe_fld (pv 0) rfl))), ?_⟩
    exact ⟨_, rfl, p, _, dx, _, _, rfl, hp, T.c_Finite, T.n_one, fF_o _ _ _ _, k⟩
theorem ok_Finite_plus  {f : Addr} {fd : FuncData} (F : Fun K "plus" "Finite.plus" s_Finite_plus f fd) (T : Txt K mg ad) : FnOk P w K mg base (L2.CX P w) 1 f fd ["self", "a", "b"] (spBinG ad.Finite (okF n pf tf o st) (elF n) (binF pf)) := by
  refine F.okX sc_Finite_plus (fun vs H Q E => ?_) (fun cdv A outer s H vs Q E hr h => ?_)
  · walk_at "len"
  ·
    obtain ⟨p, dx, fs, x, y, rfl, hp, ⟨tp, tm, ts, rfl, h1, h2, h3, h4⟩, ⟨i, rfl, hi⟩, ⟨j, rfl, hj⟩, k⟩ := h
    refine ⟨_, (pss_one (ps_ret (pe_ix ix_tup (pe_ix ix_tup (pe_fld (pv 0) rfl) (pv 1) (fun _ _ => rfl)) (pv 2) (fun _ _ => rfl)))), ?_⟩
    obtain ⟨r, rows, a1, a2, cells, a3, a4⟩ := tt_at h1 hi hj
    exact ⟨_, rfl, p, _, dx, _, _, rfl, hp, T.c_Finite, T.n_plus, fF_p _ _ _ _, _, rfl, tp, rows, _, _, rfl, rfl, SqT.of a1, at_of rfl a2, _, rfl, r, cells, _, _, rfl, rfl, SqT.of a3, at_of rfl a4, k⟩
theorem ok_Finite_times  {f : Addr} {fd : FuncData} (F : Fun K "times" "Finite.times" s_Finite_times f fd) (T : Txt K mg ad) : FnOk P w K mg base (L2.CX P w) 1 f fd ["self", "a", "b"] (spBinG ad.Finite (okF n pf tf o st) (elF n) (binF tf)) := by
  refine F.okX sc_Finite_times (fun vs H Q E => ?_) (fun cdv A outer s H vs Q E hr h => ?_)
  · walk_at "len"
  ·
    obtain ⟨p, dx, fs, x, y, rfl, hp, ⟨tp, tm, ts, rfl, h1, h2, h3, h4⟩, ⟨i, rfl, hi⟩, ⟨j, rfl, hj⟩, k⟩ := h
    refine ⟨_, (pss_one (ps_ret (pe_ix ix_tup (pe_ix ix_tup (pe_fld (pv 0) rfl) (pv 1) (fun _ _ => rfl)) (pv 2) (fun _ _ => rfl)))), ?_⟩
    obtain ⟨r, rows, a1, a2, cells, a3, a4⟩ := tt_at h2 hi hj
    exact ⟨_, rfl, p, _, dx, _, _, rfl, hp, T.c_Finite, T.n_times, fF_t _ _ _ _, _, rfl, tm, rows, _, _, rfl, rfl, SqT.of a1, at_of rfl a2, _, rfl, r, cells, _, _, rfl, rfl, SqT.of a3, at_of rfl a4, k⟩
theorem ok_Finite_star  {f : Addr} {fd : FuncData} (F : Fun K "star" "Finite.star" s_Finite_star f fd) (T : Txt K mg ad) : FnOk P w K mg base (L2.CX P w) 1 f fd ["self", "a"] (spStG ad.Finite ad.NoStar (okF n pf tf o st) (elF n) (starF st)) := by
  refine F.okX sc_Finite_star (fun vs H Q E => ?_) (fun cdv A outer s H vs Q E hr h => ?_)
  · walk_at "len"
  ·
    obtain ⟨p, dx, fs, x, rfl, hp, ⟨tp, tm, ts, rfl, h1, h2, h3, h4⟩, ⟨i, rfl, hi⟩, k1, k2⟩ := h
    refine ⟨_, (pss_cons (ps_set (i := 2) sc_Finite_star.nd rfl (by first | exact Or.inl rfl | exact Or.inr rfl) (pe_ix ix_tup (pe_fld (pv 0) rfl) (pv 1) (fun _ _ => rfl)))
      (pss_cons (ps_if (pt_cmpR op_isN (pv 2) pe_non (nomark _)) (pss_one (ps_raise rfl (takes_of rfl rfl rfl rfl) (pmk_own PySem.F.excBase_ValueError T.x_NoStar T.g_NoStar T.k_NoStar (raises_own T.b_NoStar T.t_NoStar) (by rfl)))) pss_nil)
      (pss_one (ps_ret (pv 2))))), ?_⟩
    obtain ⟨v, hv⟩ : ∃ v, st[i]? = some v := ⟨_, List.getElem?_eq_getElem (by omega)⟩
    have hv' : (st.map stV)[i]? = some (stV v) := by rw [List.getElem?_map, hv]; rfl
    refine ⟨_, rfl, p, _, dx, _, _, rfl, hp, T.c_Finite, T.n_stars, fF_s _ _ _ _, _, rfl, ts, _, _, _, rfl, rfl, SqT.of h3, at_of rfl hv', ?_⟩
    cases v with
    | none =>
      refine ⟨_, rfl, rfl, _, rfl, iteT ?_⟩
      refine k2 ?_
      show (match st[(i : Int).toNat]? with | some (some s) => some (V.int (s : Int)) | _ => none) = none
      rw [Int.toNat_natCast, hv]
    | some s =>
      refine ⟨_, rfl, rfl, _, rfl, iteF ?_⟩
      refine ⟨_, rfl, k1 _ ?_⟩
      show (match st[(i : Int).toNat]? with | some (some s) => some (V.int (s : Int)) | _ => none) = some (.int (s : Int))
      rw [Int.toNat_natCast, hv]
theorem ok_Finite_size  {f : Addr} {fd : FuncData} (F : Fun K "size" "Finite.size" s_Finite_size f fd) (T : Txt K mg ad) : FnOk P w K mg base (L2.CX P w) 1 f fd ["self"] (spNulG ad.Finite (okF n pf tf o st) (.int (n : Int))) := by
  refine F.okX sc_Finite_size (fun vs H Q E => ?_) (fun cdv A outer s H vs Q E hr h => ?_)
  · walk_at "len"
  ·
    obtain ⟨p, dx, fs, rfl, hp, ⟨tp, tm, ts, rfl, h1, h2, h3, h4⟩, k⟩ := h
    refine ⟨_, (pss_one (ps_ret (pe_callB call_len (by rfl) T.z_len (by decide +kernel) (pa_cons (pe_fld (pv 0) rfl) pa_nil)))), ?_⟩
    obtain ⟨rows, e1, e2⟩ := tt_len h1
    refine ⟨_, rfl, p, _, dx, _, _, rfl, hp, T.c_Finite, T.n_plus, fF_p _ _ _ _, .ref tp, _, rfl, .inr ⟨_, SqT.of e1, rfl⟩, ?_⟩
    rw [e2]
    exact k
end
end
end K14

set_option Elab.async false
set_option linter.all false
set_option maxRecDepth 100000
set_option maxHeartbeats 4000000
namespace K14
open PySem L2 Ew Tb SRm GxR
local macro_rules | `(tactic| walk_at "len") => `(tactic| first | (intro h; obtain ⟨_, e, _⟩ := h; rw [e]; rfl) | (intro h; obtain ⟨_, _, e, _⟩ := h; rw [e]; rfl) | (intro h; obtain ⟨_, _, _, e, _⟩ := h; rw [e]; rfl) | (intro h; obtain ⟨_, _, _, _, e, _⟩ := h; rw [e]; rfl) | (intro h; obtain ⟨_, _, _, _, _, e, _⟩ := h; rw [e]; rfl) | (intro h; obtain ⟨_, _, _, _, _, _, e, _⟩ := h; rw [e]; rfl) | (intro h; obtain ⟨_, _, _, _, _, _, _, e, _⟩ := h; rw [e]; rfl) | (intro h; exact h.elim))
section
variable {P : Program} {w : World} {K : PySem.W.Frag} {mg : Str → Option Value} {base : Heap} {ad : Ad}
/-- the tables p, m of n rows and the stars u -/
def Tabs (H : Hp) (p m : Addr) (n : Nat) (f g : Nat → Nat → Nat) : Prop := TT H p n (fun i j => (f i j : Int)) ∧ TT H m n (fun i j => (g i j : Int))
def spTab (PP : Addr) (ok : Nat → (Nat → Nat → Nat) → Prop) : Sp := fun vs H Q _ => ∃ p n f, vs = [.ref p] ∧ TT H p n (fun i j => (f i j : Int)) ∧ ok n f ∧ TabG H PP ∧ ∀ H', FrT H H' → Q (.bl true) H'
def symOk (n : Nat) (f : Nat → Nat → Nat) : Prop := n ≤ 16 ∧ ∀ a, a < n → ∀ b, b < n → f a b = f b a
def assOk (n : Nat) (f : Nat → Nat → Nat) : Prop := n ≤ 16 ∧ (∀ a, a < n → ∀ b, b < n → f a b < n) ∧ ∀ a, a < n → ∀ b, b < n → ∀ c, c < n → f a (f b c) = f (f a b) c
theorem ok_is_symmetric  {f cc PP : Addr} {fd : FuncData} (F : FunC K "_is_symmetric" "_is_symmetric" s_is_symmetric f fd cc) (TB : GxR.TabB base mg cc PP) (T : Txt K mg ad) : FnOk P w K mg base (L2.CX P w) 2 f fd ["table"] (spTab PP symOk) := by
  refine F.okX sc_is_symmetric (fun vs H Q E => ?_) (fun A outer s H vs Q E hr h => ?_)
  · walk_at "len"
  ·
    obtain ⟨p, n, pf, rfl, ht, ⟨hn, hok⟩, hT, k⟩ := h
    refine ⟨_, (pss_cons (ps_set (i := 1) sc_is_symmetric.nd rfl (by first | exact Or.inl rfl | exact Or.inr rfl) (pe_callB call_len (by rfl) T.z_len (by decide +kernel) (pa_cons (pv 0) pa_nil)))
      (pss_one (ps_ret (EwG.pe_all2 (vs1 := [3]) (own := [("a", 2), ("b", 3)]) hr (by rfl) T.z_all TB rfl sc_is_symmetric.nd (blkOk_by (by kernel_rfl)) (by decide +kernel) rfl rfl (pi_range1 (by rfl) T.z_range (pa_cons (pv 1) pa_nil)) (by decide) (fun _ _ _ _ _ _ _ => (pg_name (i := 2) sc_is_symmetric.nd rfl (by first | exact Or.inl rfl | exact Or.inr rfl))) (fun _ _ _ _ _ _ _ hr => (pi_range1 (by rfl) T.z_range (pa_cons (pv 2) pa_nil))) (fun _ _ _ _ _ _ _ => (pg_name (i := 3) sc_is_symmetric.nd rfl (by first | exact Or.inl rfl | exact Or.inr rfl))) (fun _ _ _ _ _ _ _ hr => (pe_cmpR op_eq (pe_ix (kix_tup (K := K)) (pe_ix (kix_tup (K := K)) (pv 0) (pv 2) (fun _ _ => rfl)) (pv 3) (fun _ _ => rfl)) (pe_ix (kix_tup (K := K)) (pe_ix (kix_tup (K := K)) (pv 0) (pv 3) (fun _ _ => rfl)) (pv 2) (fun _ _ => rfl)) (nomark _))))))), ?_⟩
    obtain ⟨rows, e1, e2⟩ := tt_len ht
    refine go_seq ⟨_, rfl, .ref p, _, rfl, .inr ⟨_, SqT.of e1, rfl⟩, ?_⟩
    rw [e2]
    refine go_name rfl (go_ret ?_)
    refine ⟨_, rfl, _, rfl, by omega, by omega, hT, fun H2 hTb => ?_⟩
    rw [Int.toNat_natCast]
    have fr := FrT.tab hT hTb
    refine gw2_rng (by omega) (fun _ => rfl) (fun _ => rfl) (fun _ _ => rfl) (fun i j Kt hi hj kt => ?_) (k _ fr)
    have ht2 : TT H2 p n (fun i j => (pf i j : Int)) := ht.same fun c xs e => fr.tup e
    have hj' : j < n := by omega
    obtain ⟨r1, rows1, a1, a2, cells1, a3, a4⟩ := tt_at ht2 hi hj'
    obtain ⟨r2, rows2, b1, b2, cells2, b3, b4⟩ := tt_at ht2 hj' hi
    refine ⟨_, rfl, _, rfl, p, _, _, _, rfl, rfl, SqT.of a1, at_of rfl a2, _, rfl, r1, _, _, _, rfl, rfl, SqT.of a3, at_of rfl a4, ?_⟩
    refine ⟨_, rfl, _, rfl, p, _, _, _, rfl, rfl, SqT.of b1, at_of rfl b2, _, rfl, r2, _, _, _, rfl, rfl, SqT.of b3, at_of rfl b4, rfl, ?_⟩
    rw [decide_eq_true (show V.int ((pf i j : Nat) : Int) = V.int ((pf j i : Nat) : Int) by rw [hok i hi j hj'])]
    exact kt
theorem ok_is_associative  {f cc PP : Addr} {fd : FuncData} (F : FunC K "_is_associative" "_is_associative" s_is_associative f fd cc) (TB : GxR.TabB base mg cc PP) (T : Txt K mg ad) : FnOk P w K mg base (L2.CX P w) 2 f fd ["table"] (spTab PP assOk) := by
  refine F.okX sc_is_associative (fun vs H Q E => ?_) (fun A outer s H vs Q E hr h => ?_)
  · walk_at "len"
  ·
    obtain ⟨p, n, pf, rfl, ht, ⟨hn, hcl, hok⟩, hT, k⟩ := h
    refine ⟨_, (pss_cons (ps_set (i := 1) sc_is_associative.nd rfl (by first | exact Or.inl rfl | exact Or.inr rfl) (pe_callB call_len (by rfl) T.z_len (by decide +kernel) (pa_cons (pv 0) pa_nil)))
      (pss_cons (ps_for (passes_of rfl) rfl (pi_range1 (by rfl) T.z_range (pa_cons (pv 1) pa_nil)) (pg_name (i := 2) sc_is_associative.nd rfl (by first | exact Or.inl rfl | exact Or.inr rfl)) (pss_one (ps_for (passes_of rfl) rfl (pi_range1 (by rfl) T.z_range (pa_cons (pv 1) pa_nil)) (pg_name (i := 3) sc_is_associative.nd rfl (by first | exact Or.inl rfl | exact Or.inr rfl)) (pss_cons (ps_set (i := 4) sc_is_associative.nd rfl (by first | exact Or.inl rfl | exact Or.inr rfl) (pe_ix ix_tup (pv 0) (pe_ix ix_tup (pe_ix ix_tup (pv 0) (pv 2) (fun _ _ => rfl)) (pv 3) (fun _ _ => rfl)) (fun _ _ => rfl)))
      (pss_one (ps_if (pt_val (EwG.pe_any (own := [("c", 5)]) hr (by rfl) T.z_any TB rfl sc_is_associative.nd (blkOk_by (by kernel_rfl)) (by decide +kernel) rfl rfl (pi_range1 (by rfl) T.z_range (pa_cons (pv 1) pa_nil)) (fun _ _ _ _ _ _ _ => (pg_name (i := 5) sc_is_associative.nd rfl (by first | exact Or.inl rfl | exact Or.inr rfl))) (fun _ _ _ _ _ _ _ hr => (pe_cmpR op_ne (pe_ix (kix_tup (K := K)) (pe_ix (kix_tup (K := K)) (pv 0) (pv 2) (fun _ _ => rfl)) (pe_ix (kix_tup (K := K)) (pe_ix (kix_tup (K := K)) (pv 0) (pv 3) (fun _ _ => rfl)) (pv 5) (fun _ _ => rfl)) (fun _ _ => rfl)) (pe_ix (kix_tup (K := K)) (pv 4) (pv 5) (fun _ _ => rfl)) (nomark _))))) (pss_one (ps_ret pe_bl)) pss_nil))))))
      (pss_one (ps_ret pe_bl)))), ?_⟩
    obtain ⟨rows, e1, e2⟩ := tt_len ht
    refine go_seq ⟨_, rfl, .ref p, _, rfl, .inr ⟨_, SqT.of e1, rfl⟩, ?_⟩
    rw [e2]
    refine go_name rfl ?_
    refine ⟨_, rfl, _, rfl, by omega, by omega, ?_⟩
    rw [Int.toNat_natCast]
    refine for_range (lo := 0) (n := n) (fun i σ H' => ∃ va vb vl : Option V, σ = [some (.ref p), some (.int (n : Int)), va, vb, vl, none] ∧ FrT H H') ⟨none, none, none, rfl, FrT.refl _⟩ ?_ ?_
    · rintro i σ H1 hi ⟨va, vb, vl, rfl, f1⟩
      rw [Int.zero_add]
      refine go_name rfl ?_
      refine ⟨_, rfl, _, rfl, by omega, by omega, ?_⟩
      rw [Int.toNat_natCast]
      refine for_range (lo := 0) (n := n) (fun j σ H' => ∃ vb vl : Option V, σ = [some (.ref p), some (.int (n : Int)), some (.int (i : Int)), vb, vl, none] ∧ FrT H H') ⟨vb, vl, rfl, f1⟩ ?_ ?_
      · rintro j σ H2 hj ⟨vb, vl, rfl, f2⟩
        rw [Int.zero_add]
        refine go_name rfl (go_seq ?_)
        have ht2 : TT H2 p n (fun i j => (pf i j : Int)) := ht.same fun c xs e => f2.tup e
        have hc := hcl i hi j hj
        obtain ⟨r1, rows1, a1, a2, cells1, a3, a4⟩ := tt_at ht2 hi hj
        obtain ⟨rl, rowsl, l1, l2, cellsl, l3, _⟩ := tt_at ht2 hc hi
        refine ⟨_, rfl, _, rfl, _, rfl, p, _, _, _, rfl, rfl, SqT.of a1, at_of rfl a2, _, rfl, r1, _, _, _, rfl, rfl, SqT.of a3, at_of rfl a4, p, _, _, _, rfl, rfl, SqT.of l1, at_of rfl l2, go_name rfl ?_⟩
        have hT2 := f2.tabs _ hT
        refine ⟨_, rfl, _, rfl, by omega, by omega, hT2, fun H3 hTb => ?_⟩
        rw [Int.toNat_natCast]
        have f3 := FrT.tab hT2 hTb
        refine gw_rng (fun _ => rfl) (fun c Kt hc' kt => ?_) ?_
        · have ht3 : TT H3 p n (fun i j => (pf i j : Int)) := ht2.same fun c xs e => f3.tup e
          obtain ⟨r4, rows4, c1, c2, cells4, c3, c4⟩ := tt_at ht3 hj hc'
          obtain ⟨r5, rows5, d1, d2, cells5, d3, d4⟩ := tt_at ht3 hi (hcl j hj c hc')
          obtain ⟨r6, rows6, g1, g2, cells6, g3, g4⟩ := tt_at ht3 hc hc'
          have er : r6 = rl := by
            rw [f3.tup l1] at g1
            cases g1
            rw [l2] at g2
            cases g2
            rfl
          subst er
          refine ⟨_, rfl, _, rfl, p, _, _, _, rfl, rfl, SqT.of d1, at_of rfl d2, _, rfl, _, rfl, p, _, _, _, rfl, rfl, SqT.of c1, at_of rfl c2, _, rfl, r4, _, _, _, rfl, rfl, SqT.of c3, at_of rfl c4, r5, _, _, _, rfl, rfl, SqT.of d3, at_of rfl d4, ?_⟩
          refine ⟨_, rfl, _, rfl, r6, _, _, _, rfl, rfl, SqT.of g3, at_of rfl g4, rfl, ?_⟩
          rw [decide_eq_true (show V.int ((pf i (pf j c) : Nat) : Int) = V.int ((pf (pf i j) c : Nat) : Int) by rw [hok i hi j hj c hc'])]
          exact kt
        · refine ⟨_, rfl, iteF ?_⟩
          exact ⟨_, _, rfl, f2.trans f3⟩
      · rintro σ H2 ⟨vb, vl, rfl, f2⟩
        exact ⟨_, _, _, rfl, f2⟩
    · rintro σ H2 ⟨va, vb, vl, rfl, f2⟩
      exact k _ f2
end
end K14

set_option Elab.async false
set_option linter.all false
set_option maxRecDepth 100000
set_option maxHeartbeats 4000000
namespace K14
open PySem L2 Ew Tb SRm GxR
local macro_rules | `(tactic| walk_at "len") => `(tactic| (intro h; obtain ⟨_, _, _, _, _, _, _, _, e, _⟩ := h; rw [e]; rfl))
local macro_rules | `(tactic| walk_at "len") => `(tactic| first | (intro h; obtain ⟨_, e, _⟩ := h; rw [e]; rfl) | (intro h; obtain ⟨_, _, e, _⟩ := h; rw [e]; rfl) | (intro h; obtain ⟨_, _, _, e, _⟩ := h; rw [e]; rfl) | (intro h; obtain ⟨_, _, _, _, e, _⟩ := h; rw [e]; rfl) | (intro h; obtain ⟨_, _, _, _, _, e, _⟩ := h; rw [e]; rfl) | (intro h; obtain ⟨_, _, _, _, _, _, e, _⟩ := h; rw [e]; rfl) | (intro h; obtain ⟨_, _, _, _, _, _, _, e, _⟩ := h; rw [e]; rfl) | (intro h; exact h.elim))
section
variable {P : Program} {w : World} {K : PySem.W.Frag} {mg : Str → Option Value} {base : Heap} {ad : Ad}
def spNeu (PP : Addr) : Sp := fun vs H Q _ => ∃ (p : Addr) (n o : Nat) (f : Nat → Nat → Nat), vs = [.ref p, .int ((o : Nat) : Int)] ∧ TT H p n (fun i j => (f i j : Int)) ∧ n ≤ 16 ∧ o < n ∧ (∀ a, a < n → f o a = a) ∧ TabG H PP ∧ ∀ H', FrT H H' → Q (.bl true) H'
theorem ok_is_neutral  {f cc PP : Addr} {fd : FuncData} (F : FunC K "_is_neutral" "_is_neutral" s_is_neutral f fd cc) (TB : GxR.TabB base mg cc PP) (T : Txt K mg ad) : FnOk P w K mg base (L2.CX P w) 2 f fd ["table", "number"] (spNeu PP) := by
  refine F.okX sc_is_neutral (fun vs H Q E => ?_) (fun A outer s H vs Q E hr h => ?_)
  · walk_at "len"
  ·
    obtain ⟨p, n, o, pf, rfl, ht, hn, ho, hok, hT, k⟩ := h
    refine ⟨_, (pss_one (ps_ret (EwG.pe_all (own := [("a", 2)]) hr (by rfl) T.z_all TB rfl sc_is_neutral.nd (blkOk_by (by kernel_rfl)) (by decide +kernel) rfl rfl (pi_range1 (by rfl) T.z_range (pa_cons (pe_callB call_len (by rfl) T.z_len (by decide +kernel) (pa_cons (pv 0) pa_nil)) pa_nil)) (fun _ _ _ _ _ _ _ => (pg_name (i := 2) sc_is_neutral.nd rfl (by first | exact Or.inl rfl | exact Or.inr rfl))) (fun _ _ _ _ _ _ _ hr => (pe_cmpR op_eq (pe_ix (kix_tup (K := K)) (pe_ix (kix_tup (K := K)) (pv 0) (pv 1) (fun _ _ => rfl)) (pv 2) (fun _ _ => rfl)) (pv 2) (nomark _)))))), ?_⟩
    obtain ⟨rows, e1, e2⟩ := tt_len ht
    refine go_ret ⟨_, rfl, .ref p, _, rfl, .inr ⟨_, SqT.of e1, rfl⟩, _, rfl, by omega, by omega, hT, fun H2 hTb => ?_⟩
    rw [e2, Int.toNat_natCast]
    have fr := FrT.tab hT hTb
    refine gw_rng (fun _ => rfl) (fun i Kt hi kt => ?_) (k _ fr)
    have ht2 : TT H2 p n (fun i j => (pf i j : Int)) := ht.same fun c xs e => fr.tup e
    obtain ⟨r1, rows1, a1, a2, cells1, a3, a4⟩ := tt_at ht2 ho hi
    refine ⟨_, rfl, _, rfl, p, _, _, _, rfl, rfl, SqT.of a1, at_of rfl a2, _, rfl, r1, _, _, _, rfl, rfl, SqT.of a3, at_of rfl a4, _, rfl, rfl, ?_⟩
    rw [decide_eq_true (show V.int ((pf o i : Nat) : Int) = V.int (i : Int) by rw [hok i hi])]
    exact kt
def spDis (PP : Addr) : Sp := fun vs H Q _ => ∃ (p m : Addr) (n : Nat) (f g : Nat → Nat → Nat), vs = [.ref p, .ref m] ∧ TT H p n (fun i j => (f i j : Int)) ∧ TT H m n (fun i j => (g i j : Int)) ∧ n ≤ 16 ∧ (∀ a, a < n → ∀ b, b < n → f a b < n) ∧ (∀ a, a < n → ∀ b, b < n → g a b < n) ∧
  (∀ a, a < n → ∀ b, b < n → ∀ c, c < n → g a (f b c) = f (g a b) (g a c)) ∧ TabG H PP ∧ ∀ H', FrT H H' → Q (.bl true) H'
theorem ok_is_distributive  {f cc PP : Addr} {fd : FuncData} (F : FunC K "_is_distributive" "_is_distributive" s_is_distributive f fd cc) (TB : GxR.TabB base mg cc PP) (T : Txt K mg ad) : FnOk P w K mg base (L2.CX P w) 2 f fd ["plus", "times"] (spDis PP) := by
  refine F.okX sc_is_distributive (fun vs H Q E => ?_) (fun A outer s H vs Q E hr h => ?_)
  · walk_at "len"
  ·
    obtain ⟨p, m, n, pf, tf, rfl, ht, hm, hn, hpc, htc, hok, hT, k⟩ := h
    refine ⟨_, (pss_cons (ps_set (i := 2) sc_is_distributive.nd rfl (by first | exact Or.inl rfl | exact Or.inr rfl) (pe_callB call_len (by rfl) T.z_len (by decide +kernel) (pa_cons (pv 0) pa_nil)))
      (pss_cons (ps_for (passes_of rfl) rfl (pi_range1 (by rfl) T.z_range (pa_cons (pv 2) pa_nil)) (pg_name (i := 3) sc_is_distributive.nd rfl (by first | exact Or.inl rfl | exact Or.inr rfl)) (pss_cons (ps_set (i := 4) sc_is_distributive.nd rfl (by first | exact Or.inl rfl | exact Or.inr rfl) (pe_ix ix_tup (pv 1) (pv 3) (fun _ _ => rfl)))
      (pss_one (ps_for (passes_of rfl) rfl (pi_range1 (by rfl) T.z_range (pa_cons (pv 2) pa_nil)) (pg_name (i := 5) sc_is_distributive.nd rfl (by first | exact Or.inl rfl | exact Or.inr rfl)) (pss_one (ps_if (pt_val (EwG.pe_any (own := [("c", 6)]) hr (by rfl) T.z_any TB rfl sc_is_distributive.nd (blkOk_by (by kernel_rfl)) (by decide +kernel) rfl rfl (pi_range1 (by rfl) T.z_range (pa_cons (pv 2) pa_nil)) (fun _ _ _ _ _ _ _ => (pg_name (i := 6) sc_is_distributive.nd rfl (by first | exact Or.inl rfl | exact Or.inr rfl))) (fun _ _ _ _ _ _ _ hr => (pe_cmpR op_ne (pe_ix (kix_tup (K := K)) (pv 4) (pe_ix (kix_tup (K := K)) (pe_ix (kix_tup (K := K)) (pv 0) (pv 5) (fun _ _ => rfl)) (pv 6) (fun _ _ => rfl)) (fun _ _ => rfl)) (pe_ix (kix_tup (K := K)) (pe_ix (kix_tup (K := K)) (pv 0) (pe_ix (kix_tup (K := K)) (pv 4) (pv 5) (fun _ _ => rfl)) (fun _ _ => rfl)) (pe_ix (kix_tup (K := K)) (pv 4) (pv 6) (fun _ _ => rfl)) (fun _ _ => rfl)) (nomark _))))) (pss_one (ps_ret pe_bl)) pss_nil))))))
      (pss_one (ps_ret pe_bl)))), ?_⟩
    obtain ⟨rows, e1, e2⟩ := tt_len ht
    refine go_seq ⟨_, rfl, .ref p, _, rfl, .inr ⟨_, SqT.of e1, rfl⟩, ?_⟩
    rw [e2]
    refine go_name rfl ?_
    refine ⟨_, rfl, _, rfl, by omega, by omega, ?_⟩
    rw [Int.toNat_natCast]
    refine for_range (lo := 0) (n := n) (fun i σ H' => ∃ va vr vb : Option V, σ = [some (.ref p), some (.ref m), some (.int (n : Int)), va, vr, vb, none] ∧ FrT H H') ⟨none, none, none, rfl, FrT.refl _⟩ ?_ ?_
    · rintro i σ H1 hi ⟨va, vr, vb, rfl, f1⟩
      rw [Int.zero_add]
      obtain ⟨r, rows1, a1, a2, cells, a3, _⟩ := tt_at hm hi hi
      refine go_name rfl (go_seq ⟨_, rfl, _, rfl, m, _, _, _, rfl, rfl, SqT.of (f1.tup a1), at_of rfl a2, go_name rfl ?_⟩)
      refine ⟨_, rfl, _, rfl, by omega, by omega, ?_⟩
      rw [Int.toNat_natCast]
      refine for_range (lo := 0) (n := n) (fun j σ H' => ∃ vb : Option V, σ = [some (.ref p), some (.ref m), some (.int (n : Int)), some (.int (i : Int)), some (.ref r), vb, none] ∧ FrT H H') ⟨vb, rfl, f1⟩ ?_ ?_
      · rintro j σ H2 hj ⟨vb, rfl, f2⟩
        rw [Int.zero_add]
        refine go_name rfl ?_
        have hT2 := f2.tabs _ hT
        refine ⟨_, rfl, _, rfl, by omega, by omega, hT2, fun H3 hTb => ?_⟩
        rw [Int.toNat_natCast]
        have f3 := FrT.tab hT2 hTb
        refine gw_rng (fun _ => rfl) (fun c Kt hc kt => ?_) ?_
        · have hp3 : TT H3 p n (fun i j => (pf i j : Int)) := ht.same fun c xs e => f3.tup (f2.tup e)
          have hm3 : TT H3 m n (fun i j => (tf i j : Int)) := hm.same fun c xs e => f3.tup (f2.tup e)
          have row : ∀ x, x < n → cells[x]? = some (.int ((tf i x : Nat) : Int)) := fun x hx => by
            obtain ⟨r', rows', b1, b2, cells', b3, b4⟩ := tt_at hm hi hx
            rw [a1] at b1
            cases b1
            rw [a2] at b2
            cases b2
            rw [a3] at b3
            cases b3
            exact b4
          have hr3 := f3.tup (f2.tup a3)
          obtain ⟨r4, rows4, c1, c2, cells4, c3, c4⟩ := tt_at hp3 hj hc
          obtain ⟨r5, rows5, d1, d2, cells5, d3, d4⟩ := tt_at hp3 (htc i hi j hj) (htc i hi c hc)
          refine ⟨_, rfl, _, rfl, _, rfl, p, _, _, _, rfl, rfl, SqT.of c1, at_of rfl c2, _, rfl, r4, _, _, _, rfl, rfl, SqT.of c3, at_of rfl c4, r, _, _, _, rfl, rfl, SqT.of hr3, at_of rfl (row _ (hpc j hj c hc)), ?_⟩
          refine ⟨_, rfl, _, rfl, _, rfl, r, _, _, _, rfl, rfl, SqT.of hr3, at_of rfl (row _ hj), p, _, _, _, rfl, rfl, SqT.of d1, at_of rfl d2, _, rfl, _, rfl, r, _, _, _, rfl, rfl, SqT.of hr3, at_of rfl (row _ hc), r5, _, _, _, rfl, rfl, SqT.of d3, at_of rfl d4, rfl, ?_⟩
          rw [decide_eq_true (show V.int ((tf i (pf j c) : Nat) : Int) = V.int ((pf (tf i j) (tf i c) : Nat) : Int) by rw [hok i hi j hj c hc])]
          exact kt
        · refine ⟨_, rfl, iteF ?_⟩
          exact ⟨_, rfl, f2.trans f3⟩
      · rintro σ H2 ⟨vb, rfl, f2⟩
        exact ⟨_, _, _, rfl, f2⟩
    · rintro σ H2 ⟨va, vr, vb, rfl, f2⟩
      exact k _ f2
def spSf : Sp := fun vs H Q _ => ∃ (p m u : Addr) (n o : Nat) (f g : Nat → Nat → Nat) (st : List (Option Nat)), vs = [.ref p, .ref m, .int ((o : Nat) : Int), .ref u] ∧ TT H p n (fun i j => (f i j : Int)) ∧ TT H m n (fun i j => (g i j : Int)) ∧ StT H u n f g o st ∧ SRm.SR n f g o ∧ n ≤ 16 ∧ Q (.bl true) H
theorem ok_stars_fit  {f : Addr} {fd : FuncData} (F : Fun K "_stars_fit" "_stars_fit" s_stars_fit f fd) (T : Txt K mg ad) : FnOk P w K mg base (L2.CX P w) 1 f fd ["plus", "times", "one", "stars"] (spSf) := by
  refine F.okX sc_stars_fit (fun vs H Q E => ?_) (fun cdv A outer s H vs Q E hr h => ?_)
  · walk_at "len"
  ·
    obtain ⟨p, m, u, n, o, pf, tf, st, rfl, hp, hm, ⟨hu, hul, hus⟩, sr, hn, k⟩ := h
    refine ⟨_, (pss_cons (ps_for (passes_of rfl) rfl (pi_range1 (by rfl) T.z_range (pa_cons (pe_callB call_len (by rfl) T.z_len (by decide +kernel) (pa_cons (pv 3) pa_nil)) pa_nil)) (pg_name (i := 4) sc_stars_fit.nd rfl (by first | exact Or.inl rfl | exact Or.inr rfl)) (pss_cons (ps_set (i := 5) sc_stars_fit.nd rfl (by first | exact Or.inl rfl | exact Or.inr rfl) (pe_ix ix_tup (pv 3) (pv 4) (fun _ _ => rfl)))
      (pss_one (ps_if (PW.pt (pw_and (pt_cmpR op_notN (pv 5) pe_non (nomark _)) (pw_and1 (pt_cmpR op_ne (pv 5) (pe_ix ix_tup (pe_ix ix_tup (pv 0) (pv 2) (fun _ _ => rfl)) (pe_ix ix_tup (pe_ix ix_tup (pv 1) (pv 4) (fun _ _ => rfl)) (pv 5) (fun _ _ => rfl)) (fun _ _ => rfl)) (nomark _))))) (pss_one (ps_ret pe_bl)) pss_nil))))
      (pss_one (ps_ret pe_bl))), ?_⟩
    refine ⟨_, rfl, .ref u, _, rfl, .inr ⟨_, SqT.of hu, rfl⟩, _, rfl, by rw [List.length_map]; omega, by rw [List.length_map]; omega, ?_⟩
    rw [List.length_map, hul, Int.toNat_natCast]
    refine for_range (lo := 0) (n := n) (fun i σ H' => ∃ va vs : Option V, σ = [some (.ref p), some (.ref m), some (.int (o : Int)), some (.ref u), va, vs] ∧ H' = H) ⟨none, none, rfl, rfl⟩ ?_ ?_
    · rintro i σ H1 hi ⟨va, vs, rfl, rfl⟩
      rw [Int.zero_add]
      obtain ⟨v, hv⟩ : ∃ v, st[i]? = some v := ⟨_, List.getElem?_eq_getElem (by omega)⟩
      have hv' : (st.map stV)[i]? = some (stV v) := by rw [List.getElem?_map, hv]; rfl
      refine go_name rfl (go_seq ⟨_, rfl, _, rfl, u, _, _, _, rfl, rfl, SqT.of hu, at_of rfl hv', go_name rfl ?_⟩)
      cases v with
      | none =>
        refine ⟨_, rfl, rfl, _, rfl, iteF (iteF ?_)⟩
        exact ⟨_, _, rfl, rfl⟩
      | some s =>
        obtain ⟨hs, hfx⟩ := hus i s hv
        obtain ⟨r1, rows1, a1, a2, cells1, a3, a4⟩ := tt_at hm hi hs
        obtain ⟨r2, rows2, b1, b2, cells2, b3, b4⟩ := tt_at hp sr.oo (sr.tc i hi s hs)
        refine ⟨_, rfl, rfl, _, rfl, iteT ?_⟩
        refine ⟨_, rfl, _, rfl, _, rfl, p, _, _, _, rfl, rfl, SqT.of b1, at_of rfl b2, _, rfl, _, rfl, m, _, _, _, rfl, rfl, SqT.of a1, at_of rfl a2, _, rfl, r1, _, _, _, rfl, rfl, SqT.of a3, at_of rfl a4, r2, _, _, _, rfl, rfl, SqT.of b3, at_of rfl b4, rfl, _, rfl, ?_⟩
        have e : (!decide (stV (some s) = V.int ((pf o (tf i s) : Nat) : Int))) = false := by
          rw [decide_eq_true (show stV (some s) = V.int ((pf o (tf i s) : Nat) : Int) by rw [hfx]; rfl)]
          rfl
        rw [e]
        exact iteF ⟨_, _, rfl, rfl⟩
    · rintro σ H2 ⟨va, vs, rfl, rfl⟩
      exact k
end
end K14

set_option Elab.async false
set_option linter.all false
set_option maxRecDepth 100000
set_option maxHeartbeats 4000000
namespace K14
open PySem L2 Ew Tb SRm GxR
local macro_rules | `(tactic| walk_at "len") => `(tactic| (intro h; obtain ⟨_, _, _, _, _, _, _, _, e, _⟩ := h; rw [e]; rfl))
local macro_rules | `(tactic| walk_at "len") => `(tactic| first | (intro h; obtain ⟨_, e, _⟩ := h; rw [e]; rfl) | (intro h; obtain ⟨_, _, e, _⟩ := h; rw [e]; rfl) | (intro h; obtain ⟨_, _, _, e, _⟩ := h; rw [e]; rfl) | (intro h; obtain ⟨_, _, _, _, e, _⟩ := h; rw [e]; rfl) | (intro h; obtain ⟨_, _, _, _, _, e, _⟩ := h; rw [e]; rfl) | (intro h; obtain ⟨_, _, _, _, _, _, e, _⟩ := h; rw [e]; rfl) | (intro h; obtain ⟨_, _, _, _, _, _, _, e, _⟩ := h; rw [e]; rfl) | (intro h; exact h.elim))
section
variable {P : Program} {w : World} {K : PySem.W.Frag} {mg : Str → Option Value} {base : Heap} {ad : Ad}
theorem tt_row {D : Addr} {H : Hp} {n i : Nat} {F : Nat → Nat → Int} {rows : List V} (x : TT H D n F) (e : H D = some (.tup rows)) (hi : i < n) : ∃ r, rows[i]? = some (.ref r) ∧ H r = some (.tup ((List.range n).map fun j => V.int (F i j))) := by
  obtain ⟨rows', h2, h3, h4⟩ := x
  rw [e] at h2
  cases h2
  exact h4 i hi
/-- a row of either table -/
theorem tt_app {p m : Addr} {H : Hp} {n i : Nat} {F G : Nat → Nat → Int} {rp rm : List V} {v : V} (x : TT H p n F) (y : TT H m n G) (ep : H p = some (.tup rp)) (em : H m = some (.tup rm)) (e : (rp ++ rm)[i]? = some v) :
    ∃ r cells, v = .ref r ∧ H r = some (.tup cells) ∧ cells.length = n ∧ (∀ (j : Nat) c, cells[j]? = some c → ∃ a b, a < n ∧ b < n ∧ (c = .int (F a b) ∨ c = .int (G a b))) := by
  have lp : rp.length = n := by obtain ⟨rows', h2, h3, h4⟩ := x; rw [ep] at h2; cases h2; exact h3
  have lm : rm.length = n := by obtain ⟨rows', h2, h3, h4⟩ := y; rw [em] at h2; cases h2; exact h3
  have at_ : ∀ (f : Nat → V) (j : Nat) c, ((List.range n).map f)[j]? = some c → j < n ∧ c = f j := fun f j c h => by
    rw [List.getElem?_map] at h
    by_cases hj : j < n
    · rw [List.getElem?_eq_getElem (by simpa using hj), List.getElem_range] at h
      exact ⟨hj, (Option.some.inj h).symm⟩
    · rw [List.getElem?_eq_none (by simpa using hj)] at h
      cases h
  by_cases c : i < rp.length
  · rw [List.getElem?_append_left c] at e
    obtain ⟨r, e1, e2⟩ := tt_row x ep (i := i) (by omega)
    rw [e1] at e
    cases e
    exact ⟨r, _, rfl, e2, by rw [List.length_map, List.length_range], fun j c h => let ⟨hj, hc⟩ := at_ _ j c h; ⟨i, j, by omega, hj, .inl hc⟩⟩
  · rw [List.getElem?_append_right (by omega)] at e
    have hlt : i - rp.length < rm.length := by
      rcases Nat.lt_or_ge (i - rp.length) rm.length with h | h
      · exact h
      · rw [List.getElem?_eq_none h] at e; cases e
    obtain ⟨r, e1, e2⟩ := tt_row y em (i := i - rp.length) (by omega)
    rw [e1] at e
    cases e
    exact ⟨r, _, rfl, e2, by rw [List.length_map, List.length_range], fun j c h => let ⟨hj, hc⟩ := at_ _ j c h; ⟨i - rp.length, j, by omega, hj, .inr hc⟩⟩
def spSize (PP : Addr) : Sp := fun vs H Q _ => ∃ (p m u : Addr) (n : Nat) (f g : Nat → Nat → Nat) (st : List (Option Nat)), vs = [.ref p, .ref m, .ref u] ∧ TT H p n (fun i j => (f i j : Int)) ∧ TT H m n (fun i j => (g i j : Int)) ∧ H u = some (.tup (st.map stV)) ∧ st.length = n ∧ 0 < n ∧ n ≤ 16 ∧ TabG H PP ∧ ∀ H', FrT H H' → Q (.bl true) H'
theorem ok_sizes_fit  {f cc PP : Addr} {fd : FuncData} (F : FunC K "_sizes_fit" "_sizes_fit" s_sizes_fit f fd cc) (TB : GxR.TabB base mg cc PP) (T : Txt K mg ad) : FnOk P w K mg base (L2.CX P w) 2 f fd ["plus", "times", "stars"] (spSize PP) := by
  refine F.okX sc_sizes_fit (fun vs H Q E => ?_) (fun A outer s H vs Q E hr h => ?_)
  · walk_at "len"
  ·
    obtain ⟨p, m, u, n, pf, tf, st, rfl, hp, hm, hu, hul, hn0, hn, hT, k⟩ := h
    refine ⟨_, (pss_cons (ps_set (i := 3) sc_sizes_fit.nd rfl (by first | exact Or.inl rfl | exact Or.inr rfl) (pe_callB call_len (by rfl) T.z_len (by decide +kernel) (pa_cons (pv 0) pa_nil)))
      (pss_cons (ps_if (PW.pt (pw_or (pt_not (pt_chain op_le op_le pe_int (pv 3) (pe_gint (by rfl) T.g_MOST_NUMBERS))) (pw_or1 (pt_cmpR op_ne (pe_callB call_len (by rfl) T.z_len (by decide +kernel) (pa_cons (pv 1) pa_nil)) (pv 3) (nomark _))))) (pss_one (ps_ret pe_bl)) pss_nil)
      (pss_cons (ps_if (PW.pt (pw_and (pt_cmpR op_notN (pv 2) pe_non (nomark _)) (pw_and1 (pt_cmpR op_ne (pe_callB call_len (by rfl) T.z_len (by decide +kernel) (pa_cons (pv 2) pa_nil)) (pv 3) (nomark _))))) (pss_one (ps_ret pe_bl)) pss_nil)
      (pss_one (ps_ret (EwG.pe_all (own := [("row", 4)]) hr (by rfl) T.z_all TB rfl sc_sizes_fit.nd (blkOk_by (by kernel_rfl)) (by decide +kernel) rfl rfl (pi_tup (pe_op op_catT (pv 0) (pv 1))) (fun _ _ _ _ _ _ _ => (pg_name (i := 4) sc_sizes_fit.nd rfl (by first | exact Or.inl rfl | exact Or.inr rfl))) (fun _ _ _ _ _ _ _ hr => (pe_cmpR op_eq (pe_callB (kcall_len (K := K)) (by rfl) T.z_len (by decide +kernel) (pa_cons (pv 4) pa_nil)) (pv 3) (nomark _))))))))), ?_⟩
    obtain ⟨rp, ep, lp⟩ := tt_len hp
    obtain ⟨rm, em, lm⟩ := tt_len hm
    refine go_seq ⟨_, rfl, .ref p, _, rfl, .inr ⟨_, SqT.of ep, rfl⟩, ?_⟩
    rw [lp]
    refine go_name rfl ?_
    refine ⟨_, rfl, _, _, rfl, rfl, _, rfl, ?_⟩
    rw [decide_eq_true (show (1 : Int) ≤ (n : Int) by omega)]
    refine iteT ⟨_, _, rfl, rfl, _, rfl, ?_⟩
    rw [decide_eq_true (show (n : Int) ≤ 32 by omega)]
    refine iteF ⟨_, rfl, .ref m, _, rfl, .inr ⟨_, SqT.of em, rfl⟩, _, rfl, rfl, _, rfl, ?_⟩
    have e1 : (!decide (V.int (rm.length : Int) = V.int (n : Int))) = false := by rw [lm, decide_eq_true rfl]; rfl
    rw [e1]
    refine iteF ?_
    refine go_next ?_
    refine ⟨_, rfl, rfl, _, rfl, iteT ⟨_, rfl, .ref u, _, rfl, .inr ⟨_, SqT.of hu, rfl⟩, _, rfl, rfl, _, rfl, ?_⟩⟩
    have e2 : (!decide (V.int ((st.map stV).length : Int) = V.int (n : Int))) = false := by rw [List.length_map, hul, decide_eq_true rfl]; rfl
    rw [e2]
    refine iteF (go_next (go_ret ?_))
    refine ⟨_, rfl, _, rfl, p, m, rp, rm, rfl, rfl, SqT.of ep, SqT.of em, (fun z => by rw [z] at lp; simp at lp; omega), Nat.le_trans (by omega : rp.length + rm.length ≤ 32) (by decide), (fun z => absurd z (fun z => by rw [z] at lm; simp at lm; omega)), fun _ x hx => ?_⟩
    have sx : Same H (upd H x (.tup (rp ++ rm))) := same_new (Same.refl _) hx
    have hT1 := (FrT.of sx).tabs _ hT
    refine ⟨x, rfl, ⟨_, SqT.of upd_same⟩, hT1, fun H2 hTb => ?_⟩
    have fr := (FrT.of sx).trans (FrT.tab hT1 hTb)
    refine gw_tup (K := K) (xs := rp ++ rm) (SqT.of ((FrT.tab hT1 hTb).tup upd_same)) (fun _ => rfl) (fun i v Kt hv kt => ?_) (k _ fr)
    obtain ⟨r, cells, rfl, e3, e4, _⟩ := tt_app (hp.same (H' := H2) fun c xs e => fr.tup e) (hm.same (H' := H2) fun c xs e => fr.tup e) (fr.tup ep) (fr.tup em) hv
    refine ⟨_, rfl, .ref r, _, rfl, .inr ⟨_, SqT.of e3, rfl⟩, _, rfl, rfl, ?_⟩
    rw [decide_eq_true (show V.int (cells.length : Int) = V.int (n : Int) by rw [e4])]
    exact kt
def spCop : Sp := fun vs H Q _ => ∃ (p : Addr) (n : Nat) (f : Nat → Nat → Nat), vs = [.ref p] ∧ TT H p n (fun i j => (f i j : Int)) ∧ n ≤ 16 ∧ ∀ H' q, Same H H' → TT H' q n (fun i j => (f i j : Int)) → Q (.ref q) H'
theorem ok_copied  {f : Addr} {fd : FuncData} (F : Fun K "_copied" "_copied" s_copied f fd) (T : Txt K mg ad) : FnOk P w K mg base (L2.CX P w) 1 f fd ["table"] (spCop) := by
  refine F.okX sc_copied (fun vs H Q E => ?_) (fun cdv A outer s H vs Q E hr h => ?_)
  · walk_at "len"
  ·
    obtain ⟨p, n, pf, rfl, hp, hn, k⟩ := h
    refine ⟨_, (pss_one (ps_ret (pe_callTy call_tuple_of (by rfl) T.z_tuple (by decide +kernel) (pa_cons (pe_lc (own := [("row", 1)]) (tt := tYes) rfl sc_copied.nd (pi_tup (pv 0)) (blkOk_by (by kernel_rfl)) (fun _ _ _ _ _ => (pg_name (i := 1) sc_copied.nd rfl (by first | exact Or.inl rfl | exact Or.inr rfl))) (fun _ _ _ _ _ => pts_nil) (fun _ _ _ _ _ => (pe_callTy (kcall_tuple_of (K := K)) (by rfl) T.z_tuple (by decide +kernel) (pa_cons (pv 1) pa_nil)))) pa_nil)))), ?_⟩
    obtain ⟨rp, ep, lp⟩ := tt_len hp
    refine ⟨_, rfl, p, rfl, ⟨_, SqT.of ep⟩, fun D hD => ?_⟩
    refine lc_tupR (K := K) (L := p) (xs := rp) (fun i v H' => ∃ r, v = .ref r ∧ rp[i]? = some (.ref r)) hD (SqT.of ep) (fun H' s => SqT.of (s _ _ ep)) (fun i v H H' _ h => h) (by omega) (fun _ => rfl) (fun i x H' acc Kt hx s e kt => ?_) (fun H' rows s e l h => ?_)
    · have hi : i < n := by
        rcases Nat.lt_or_ge i rp.length with h | h
        · omega
        · rw [List.getElem?_eq_none h] at hx; cases hx
      obtain ⟨r, e1, e2⟩ := tt_row hp ep hi
      rw [e1] at hx
      cases hx
      exact ⟨_, rfl, r, _, rfl, .inr ⟨SqT.of (s _ _ e2), kt _ _ (Same.refl _) ⟨r, rfl, e1⟩⟩⟩
    · have er : rows = rp := List.ext_getElem? fun i => by
        by_cases c : i < rp.length
        · obtain ⟨v, hv⟩ : ∃ v, rows[i]? = some v := ⟨_, List.getElem?_eq_getElem (by omega)⟩
          obtain ⟨r, rfl, hr⟩ := h i v hv
          rw [hv, hr]
        · rw [List.getElem?_eq_none (by omega), List.getElem?_eq_none (by omega)]
      subst er
      refine ⟨D, _, rfl, .inl ⟨SqL.of e, fun q hq => ?_⟩⟩
      have sq : Same H' (upd H' q (.tup rows)) := same_new (Same.refl _) hq
      refine k _ q (fun b o e => sq b o (s b o e)) ⟨rows, upd_same, lp, fun i hi => ?_⟩
      obtain ⟨r, e1, e2⟩ := tt_row hp ep hi
      exact ⟨r, e1, sq _ _ (s _ _ e2)⟩
end
end K14

set_option Elab.async false
set_option linter.all false
set_option maxRecDepth 100000
set_option maxHeartbeats 4000000
namespace K14
open PySem L2 Ew Tb SRm GxR
local macro_rules | `(tactic| walk_at "len") => `(tactic| (intro h; obtain ⟨_, _, _, _, _, _, _, _, e, _⟩ := h; rw [e]; rfl))
local macro_rules | `(tactic| walk_at "len") => `(tactic| first | (intro h; obtain ⟨_, e, _⟩ := h; rw [e]; rfl) | (intro h; obtain ⟨_, _, e, _⟩ := h; rw [e]; rfl) | (intro h; obtain ⟨_, _, _, e, _⟩ := h; rw [e]; rfl) | (intro h; obtain ⟨_, _, _, _, e, _⟩ := h; rw [e]; rfl) | (intro h; obtain ⟨_, _, _, _, _, e, _⟩ := h; rw [e]; rfl) | (intro h; obtain ⟨_, _, _, _, _, _, e, _⟩ := h; rw [e]; rfl) | (intro h; obtain ⟨_, _, _, _, _, _, _, e, _⟩ := h; rw [e]; rfl) | (intro h; exact h.elim))
section
variable {P : Program} {w : World} {K : PySem.W.Frag} {mg : Str → Option Value} {base : Heap} {ad : Ad}
def spEnt (PP : Addr) : Sp := fun vs H Q _ => ∃ (p m u : Addr) (n o : Nat) (f g : Nat → Nat → Nat) (st : List (Option Nat)), vs = [.ref p, .ref m, .int (o : Int), .ref u] ∧ TT H p n (fun i j => (f i j : Int)) ∧ TT H m n (fun i j => (g i j : Int)) ∧ StT H u n f g o st ∧ SRm.SR n f g o ∧ n ≤ 16 ∧ TabG H PP ∧ ∀ H', FrT H H' → Q (.bl true) H'
/-- an int of the range -/
def inN (n : Nat) (v : V) : Prop := ∃ i : Nat, v = .int (i : Int) ∧ i < n
theorem ok_entries_fit (c_is_between : CalX P w K mg base 2 "is_between" spIsBet) {f cc PP : Addr} {fd : FuncData} (F : FunC K "_entries_fit" "_entries_fit" s_entries_fit f fd cc) (TB : GxR.TabB base mg cc PP) (T : Txt K mg ad) : FnOk P w K mg base (L2.CX P w) 4 f fd ["plus", "times", "one", "stars"] (spEnt PP) := by
  refine F.okX sc_entries_fit (fun vs H Q E => ?_) (fun A outer s H vs Q E hr h => ?_)
  · walk_at "len"
  ·
    obtain ⟨p, m, u, n, o, pf, tf, st, rfl, hp, hm, ⟨hu, hul, hus⟩, sr, hn, hT, k⟩ := h
    refine ⟨_, (pss_cons (ps_set (i := 4) sc_entries_fit.nd rfl (by first | exact Or.inl rfl | exact Or.inr rfl) (pe_op op_sub (pe_callB call_len (by rfl) T.z_len (by decide +kernel) (pa_cons (pv 0) pa_nil)) pe_int))
      (pss_cons (ps_setLc2 (i := 5) (own := [("row", 7), ("entry", 8)]) (vs1 := [8]) (tt := tYes) (tt1 := tYes) rfl sc_entries_fit.nd rfl rfl (sw_true rfl rfl rfl (by decide +kernel)) (pi_tup (pe_op op_catT (pv 0) (pv 1))) (blkOk_by (by kernel_rfl)) (by decide) (fun _ _ _ _ _ => (pg_name (i := 7) sc_entries_fit.nd rfl (by first | exact Or.inl rfl | exact Or.inr rfl))) (fun _ _ _ _ _ => pts_nil) (fun _ _ _ _ _ => (kpi_tup (K := K) (pv 7))) (fun _ _ _ _ _ => (pg_name (i := 8) sc_entries_fit.nd rfl (by first | exact Or.inl rfl | exact Or.inr rfl))) (fun _ _ _ _ _ => pts_nil) (fun _ _ _ _ _ => (pv 8)))
      (pss_cons (ps_setLc (i := 6) (own := [("star", 9)]) rfl sc_entries_fit.nd rfl rfl (sw_true rfl rfl rfl (by decide +kernel)) (pi_tup (pe_orT (pv 3) (pe_one (pe_tup pa_nil)))) (blkOk_by (by kernel_rfl)) (fun _ _ _ _ _ => (pg_name (i := 9) sc_entries_fit.nd rfl (by first | exact Or.inl rfl | exact Or.inr rfl))) (fun _ _ _ _ _ => (pts_one (pt_cmpR op_notN (pv 9) pe_non (nomark _)))) (fun _ _ _ _ _ => (pv 9)))
      (pss_one (ps_ret (EwG.pe_all (own := [("entry", 8)]) hr (by rfl) T.z_all TB rfl sc_entries_fit.nd (blkOk_by (by kernel_rfl)) (by decide +kernel) rfl rfl (pi_list (pe_op op_cat (pe_op op_cat (pv 5) (pv 6)) (pe_lst (pa_cons (pv 2) pa_nil)))) (fun _ _ _ _ _ _ _ => (pg_name (i := 8) sc_entries_fit.nd rfl (by first | exact Or.inl rfl | exact Or.inr rfl))) (fun _ _ _ _ _ _ _ hr => (pc_call c_is_between hr (by first | decide | omega) takes0 (by rfl) (pa_cons (pv 8) (pa_cons pe_int (pa_cons (pv 4) pa_nil))))))))))), ?_⟩
    obtain ⟨rp, ep, lp⟩ := tt_len hp
    obtain ⟨rm, em, lm⟩ := tt_len hm
    have hn0 := sr.pos
    refine go_seq ⟨_, rfl, .ref p, _, rfl, .inr ⟨_, SqT.of ep, rfl⟩, _, _, rfl, rfl, go_name rfl (go_seq ?_)⟩
    rw [lp]
    refine ⟨_, rfl, _, rfl, p, m, rp, rm, rfl, rfl, SqT.of ep, SqT.of em, (fun z => by rw [z] at lp; simp at lp; omega), Nat.le_trans (by omega : rp.length + rm.length ≤ 32) (by decide), (fun z => absurd z (fun z => by rw [z] at lm; simp at lm; omega)), fun _ x hx => ?_⟩
    have sx : Same H (upd H x (.tup (rp ++ rm))) := same_new (Same.refl _) hx
    refine ⟨x, rfl, ⟨_, SqT.of upd_same⟩, fun D hD => ?_⟩
    have hll : (rp ++ rm).length ≤ 32 := by rw [List.length_append]; omega
    refine ⟨fun i mm H' => mm = (rp ++ rm).length - i ∧ i ≤ (rp ++ rm).length ∧ Same (upd H x (.tup (rp ++ rm))) H' ∧ ∃ acc : List V, H' D = some (.lst acc) ∧ acc.length ≤ i * 16 ∧ ∀ v, v ∈ acc → inN n v, ⟨_, rfl, Nat.zero_le _, same_new (Same.refl _) hD, [], upd_same, Nat.zero_le _, fun v h => by cases h⟩, ?_⟩
    rintro i mm H1 ⟨rfl, hi, s1, acc, e1, l1, a1⟩
    by_cases hlt : i < (rp ++ rm).length
    · refine .inr ⟨⟨_, (rp ++ rm)[i], SqT.of (s1 _ _ upd_same), by simp [hlt]⟩, fun H' => Same (upd H x (.tup (rp ++ rm))) H' ∧ ∃ acc : List V, H' D = some (.lst acc) ∧ acc.length ≤ (i + 1) * 16 ∧ ∀ v, v ∈ acc → inN n v, fun H' ⟨z1, z2⟩ => ⟨(rp ++ rm).length - (i + 1), by omega, rfl, hlt, z1, z2⟩, fun v HH y => ?_⟩
      obtain ⟨eh, y⟩ := y
      subst eh
      have hv := y _ (SqT.of (s1 _ _ upd_same))
      have S1 := fun {b : Addr} {o : HO} (e : H b = some o) => s1 b o (sx b o e)
      obtain ⟨r, cells, rfl, hr, hcl, hcc⟩ := tt_app (hp.same (H' := HH) fun c xs e => S1 e) (hm.same (H' := HH) fun c xs e => S1 e) (S1 ep) (S1 em) hv
      refine ⟨rfl, yes_then (iteT ⟨_, rfl, r, rfl, ⟨_, SqT.of hr⟩, ?_⟩)⟩
      refine ⟨fun j kk H' => kk = cells.length - j ∧ j ≤ cells.length ∧ Same (upd H x (.tup (rp ++ rm))) H' ∧ H' r = some (.tup cells) ∧ ∃ acc : List V, H' D = some (.lst acc) ∧ acc.length ≤ i * 16 + j ∧ ∀ v, v ∈ acc → inN n v, ⟨_, rfl, Nat.zero_le _, s1, hr, acc, e1, l1, a1⟩, ?_⟩
      rintro j kk H3 ⟨rfl, hj, s3, hr3, acc3, e3, l3, a3⟩
      by_cases hlj : j < cells.length
      · refine .inr ⟨⟨_, cells[j], SqT.of hr3, by simp [hlj]⟩, fun H' => Same (upd H x (.tup (rp ++ rm))) H' ∧ H' r = some (.tup cells) ∧ ∃ acc : List V, H' D = some (.lst acc) ∧ acc.length ≤ i * 16 + (j + 1) ∧ ∀ v, v ∈ acc → inN n v, fun H' ⟨z1, z2, z3⟩ => ⟨cells.length - (j + 1), by omega, rfl, hlj, z1, z2, z3⟩, fun c H4 y4 => ?_⟩
        obtain ⟨eh, y4⟩ := y4
        subst eh
        have hc := y4 _ (SqT.of hr3)
        refine ⟨rfl, yes_then (iteT ⟨_, rfl, acc3, e3, ?_, same_but hD s3 but_app, ?_, acc3 ++ [c], upd_same, ?_, fun v hv => ?_⟩)⟩
        · exact Nat.lt_of_le_of_lt (by omega : acc3.length ≤ 1024) (by decide)
        · rw [upd_ne (fun z => by rw [z, e3] at hr3; cases hr3)]
          exact hr3
        · rw [List.length_append]
          exact Nat.succ_le_succ l3
        · rcases List.mem_append.mp hv with h | h
          · exact a3 v h
          · rw [List.mem_singleton.mp h]
            obtain ⟨a, b, ha, hb, hab⟩ := hcc j c hc
            rcases hab with rfl | rfl
            · exact ⟨_, rfl, sr.pc a ha b hb⟩
            · exact ⟨_, rfl, sr.tc a ha b hb⟩
      · have ej : j = cells.length := by omega
        subst ej
        refine .inl ⟨⟨_, SqT.of hr3, Nat.le_refl _⟩, s3, acc3, e3, ?_, a3⟩
        rw [Nat.succ_mul]
        omega
    · have ei : i = (rp ++ rm).length := by omega
      subst ei
      refine .inl ⟨⟨_, SqT.of (s1 _ _ upd_same), Nat.le_refl _⟩, go_name rfl (go_seq ?_)⟩
      have la : acc.length ≤ 512 := Nat.le_trans l1 (by omega)
      have hu1 := s1 _ _ (sx _ _ hu)
      -- told
      refine ⟨_, rfl, true, ?_, iteT ⟨u, rfl, ⟨_, SqT.of hu1⟩, fun D2 hD2 => ?_⟩⟩
      · refine .inr (.inl ⟨_, SqT.of hu1, ?_⟩)
        cases st with
        | nil => simp at hul; omega
        | cons a l => rfl
      refine lc_tup (K := K) (xs := st.map stV) (fun j H' => Same H1 H' ∧ ∃ ac : List V, H' D2 = some (.lst ac) ∧ ac.length ≤ j ∧ ∀ v, v ∈ ac → inN n v) ⟨same_new (Same.refl _) hD2, [], upd_same, Nat.zero_le _, fun v h => by cases h⟩ (fun j H' _ ⟨s', _⟩ => SqT.of (s' _ _ hu1)) (fun j v H' hv ⟨s', ac, z1, z2, z3⟩ => ?_) (fun H' ⟨s', ac, z1, z2, z3⟩ => ?_)
      · refine ⟨rfl, _, rfl, rfl, _, rfl, ?_⟩
        rw [List.getElem?_map] at hv
        rcases hs : st[j]? with _ | s
        · rw [hs] at hv; cases hv
        · rw [hs] at hv
          have hv' : stV s = v := Option.some.inj hv
          subst hv'
          have hj : j < 16 := by
            rcases Nat.lt_or_ge j st.length with h | h
            · omega
            · rw [List.getElem?_eq_none h] at hs; cases hs
          cases s with
          | none => exact iteF ⟨s', ac, z1, by omega, z3⟩
          | some s =>
            refine iteT ⟨_, rfl, ac, z1, Nat.lt_of_le_of_lt (by omega : ac.length ≤ 16) (by decide), same_but hD2 s' but_app, ac ++ [_], upd_same, by rw [List.length_append]; exact Nat.succ_le_succ z2, fun v hv => ?_⟩
            rcases List.mem_append.mp hv with h | h
            · exact z3 v h
            · rw [List.mem_singleton.mp h]
              exact ⟨s, rfl, (hus j s hs).1⟩
      · refine go_name rfl (go_ret ?_)
        rw [List.length_map, hul] at z2
        refine ⟨_, rfl, _, rfl, D, D2, acc, ac, rfl, rfl, s' _ _ e1, z1, Nat.le_trans (by omega : acc.length + ac.length ≤ 1024) (by decide), fun y hy => ?_⟩
        have sy : Same H' (upd H' y (.lst (acc ++ ac))) := same_new (Same.refl _) hy
        refine ⟨_, rfl, by (show 1 ≤ sizeLine); decide, fun y1 hy1 => ?_⟩
        have sy1 := same_new (o := .lst [V.int (o : Int)]) (Same.refl _) hy1
        refine ⟨y, y1, _, _, rfl, rfl, sy1 _ _ upd_same, upd_same, ?_, fun y2 hy2 => ?_⟩
        · rw [List.length_append]
          exact Nat.le_trans (by (show acc.length + ac.length + 1 ≤ 1024); omega) (by decide)
        have sy2 := same_new (o := .lst (acc ++ ac ++ [V.int (o : Int)])) (Same.refl _) hy2
        have S : Same H (upd (upd (upd H' y (.lst (acc ++ ac))) y1 (.lst [V.int (o : Int)])) y2 (.lst (acc ++ ac ++ [V.int (o : Int)]))) := fun b o e => sy2 b o (sy1 b o (sy b o (s' b o (s1 b o (sx b o e)))))
        have hT1 := (FrT.of S).tabs _ hT
        refine ⟨y2, rfl, ⟨_, SqL.of upd_same⟩, hT1, fun H2 hTb => ?_⟩
        have fr := (FrT.of S).trans (FrT.tab hT1 hTb)
        refine gw_lst (K := K) (xs := acc ++ ac ++ [V.int (o : Int)]) (SqL.of ((FrT.tab hT1 hTb).lst upd_same)) (fun _ => rfl) (fun i v Kt hv kt => ?_) (k _ fr)
        have hin : inN n v := by
          rcases List.mem_append.mp (List.mem_of_getElem? hv) with h | h
          · rcases List.mem_append.mp h with h | h
            · exact a1 v h
            · exact z3 v h
          · rw [List.mem_singleton.mp h]
            exact ⟨o, rfl, sr.oo⟩
        obtain ⟨i', rfl, hi'⟩ := hin
        refine ⟨_, rfl, _, rfl, _, _, _, rfl, .int _, ?_⟩
        have e : betV 0 ((n : Int) - 1) (.int (i' : Int)) = true := by
          show decide _ = true
          exact decide_eq_true ⟨by omega, by omega⟩
        rw [e]
        exact kt
end
end K14

set_option Elab.async false
set_option linter.all false
set_option maxRecDepth 100000
set_option maxHeartbeats 4000000
namespace K14
open PySem L2 Ew Tb SRm GxR
local macro_rules | `(tactic| walk_at "len") => `(tactic| first | (intro h; obtain ⟨_, e, _⟩ := h; rw [e]; rfl) | (intro h; obtain ⟨_, _, e, _⟩ := h; rw [e]; rfl) | (intro h; obtain ⟨_, _, _, e, _⟩ := h; rw [e]; rfl) | (intro h; obtain ⟨_, _, _, _, e, _⟩ := h; rw [e]; rfl) | (intro h; obtain ⟨_, _, _, _, _, e, _⟩ := h; rw [e]; rfl) | (intro h; obtain ⟨_, _, _, _, _, _, e, _⟩ := h; rw [e]; rfl) | (intro h; obtain ⟨_, _, _, _, _, _, _, e, _⟩ := h; rw [e]; rfl) | (intro h; obtain ⟨_, _, _, _, _, _, _, _, e, _⟩ := h; rw [e]; rfl) | (intro h; obtain ⟨_, _, _, _, _, _, _, _, _, e, _⟩ := h; rw [e]; rfl) | (intro h; obtain ⟨_, _, _, _, _, _, _, _, _, _, e, _⟩ := h; rw [e]; rfl) | (intro h; obtain ⟨_, _, _, _, _, _, _, _, _, _, _, e, _⟩ := h; rw [e]; rfl) | (intro h; obtain ⟨_, _, _, _, _, _, _, _, _, _, _, _, e, _⟩ := h; rw [e]; rfl) | (intro h; obtain ⟨_, _, _, _, _, _, _, _, _, _, _, _, _, e, _⟩ := h; rw [e]; rfl))
section
variable {P : Program} {w : World} {K : PySem.W.Frag} {mg : Str → Option Value} {base : Heap} {ad : Ad}
/-- what the tables of Finite's checks are -/
structure Six (sz en sy as ne di : Addr) (H : Hp) : Prop where
  sz : TabG H sz
  en : TabG H en
  sy : TabG H sy
  ag : TabG H as
  ne : TabG H ne
  di : TabG H di
theorem Six.fr {sz en sy ag ne di : Addr} {H H' : Hp} (x : Six sz en sy ag ne di H) (f : FrT H H') : Six sz en sy ag ne di H' := ⟨f.tabs _ x.sz, f.tabs _ x.en, f.tabs _ x.sy, f.tabs _ x.ag, f.tabs _ x.ne, f.tabs _ x.di⟩
def spFF (ok6 : Hp → Prop) : Sp := fun vs H Q _ => ∃ (p m u : Addr) (n o : Nat) (f g : Nat → Nat → Nat) (st : List (Option Nat)), vs = [.ref p, .ref m, .int (o : Int), .ref u] ∧ TT H p n (fun i j => (f i j : Int)) ∧ TT H m n (fun i j => (g i j : Int)) ∧ StT H u n f g o st ∧ SRm.SR n f g o ∧ n ≤ 16 ∧ ok6 H ∧ ∀ H', FrT H H' → Q .non H'
theorem ok_first_failure {sz en sy ag ne di : Addr} (c_sizes_fit : CalX P w K mg base 2 "_sizes_fit" (spSize sz)) (c_entries_fit : CalX P w K mg base 4 "_entries_fit" (spEnt en)) (c_is_symmetric : CalX P w K mg base 2 "_is_symmetric" (spTab sy symOk)) (c_is_associative : CalX P w K mg base 2 "_is_associative" (spTab ag assOk)) (c_is_neutral : CalX P w K mg base 2 "_is_neutral" (spNeu ne)) (c_is_distributive : CalX P w K mg base 2 "_is_distributive" (spDis di)) (c_stars_fit : CalX P w K mg base 1 "_stars_fit" spSf) {f : Addr} {fd : FuncData} (F : Fun K "_first_failure" "_first_failure" s_first_failure f fd) (T : Txt K mg ad) : FnOk P w K mg base (L2.CX P w) 5 f fd ["plus", "times", "one", "stars"] (spFF (Six sz en sy ag ne di)) := by
  refine F.okX sc_first_failure (fun vs H Q E => ?_) (fun cdv A outer s H vs Q E hr h => ?_)
  · walk_at "len"
  ·
    obtain ⟨p, m, u, n, o, pf, tf, st, rfl, hp, hm, hu, sr, hn, t0, k⟩ := h
    refine ⟨_, (pss_cons (ps_if (pt_not (pt_val (pc_call c_sizes_fit hr (by first | decide | omega) (takes_of rfl rfl rfl rfl) (by rfl) (pa_cons (pv 0) (pa_cons (pv 1) (pa_cons (pv 3) pa_nil)))))) (pss_one (ps_ret pe_str)) pss_nil)
      (pss_cons (ps_if (pt_not (pt_val (pc_call c_entries_fit hr (by first | decide | omega) (takes_of rfl rfl rfl rfl) (by rfl) (pa_cons (pv 0) (pa_cons (pv 1) (pa_cons (pv 2) (pa_cons (pv 3) pa_nil))))))) (pss_one (ps_ret pe_str)) pss_nil)
      (pss_cons (ps_if (pt_not (pt_val (pc_call c_is_symmetric hr (by first | decide | omega) (takes_of rfl rfl rfl rfl) (by rfl) (pa_cons (pv 0) pa_nil)))) (pss_one (ps_ret pe_str)) pss_nil)
      (pss_cons (ps_if (pt_not (pt_val (pc_call c_is_associative hr (by first | decide | omega) (takes_of rfl rfl rfl rfl) (by rfl) (pa_cons (pv 0) pa_nil)))) (pss_one (ps_ret pe_str)) pss_nil)
      (pss_cons (ps_if (pt_not (pt_val (pc_call c_is_neutral hr (by first | decide | omega) (takes_of rfl rfl rfl rfl) (by rfl) (pa_cons (pv 0) (pa_cons pe_int pa_nil))))) (pss_one (ps_ret pe_str)) pss_nil)
      (pss_cons (ps_if (pt_not (pt_val (pc_call c_is_symmetric hr (by first | decide | omega) (takes_of rfl rfl rfl rfl) (by rfl) (pa_cons (pv 1) pa_nil)))) (pss_one (ps_ret pe_str)) pss_nil)
      (pss_cons (ps_if (pt_not (pt_val (pc_call c_is_associative hr (by first | decide | omega) (takes_of rfl rfl rfl rfl) (by rfl) (pa_cons (pv 1) pa_nil)))) (pss_one (ps_ret pe_str)) pss_nil)
      (pss_cons (ps_if (pt_not (pt_val (pc_call c_is_neutral hr (by first | decide | omega) (takes_of rfl rfl rfl rfl) (by rfl) (pa_cons (pv 1) (pa_cons (pv 2) pa_nil))))) (pss_one (ps_ret pe_str)) pss_nil)
      (pss_cons (ps_if (pt_val (pe_callB (cr_anyT rfl) (by rfl) T.z_any (by decide +kernel) (pa_cons (pe_ix ix_tup (pv 1) pe_int (fun _ _ => rfl)) pa_nil))) (pss_one (ps_ret pe_str)) pss_nil)
      (pss_cons (ps_if (pt_not (pt_val (pc_call c_is_distributive hr (by first | decide | omega) (takes_of rfl rfl rfl rfl) (by rfl) (pa_cons (pv 0) (pa_cons (pv 1) pa_nil))))) (pss_one (ps_ret pe_str)) pss_nil)
      (pss_cons (ps_if (PW.pt (pw_and (pt_cmpR op_notN (pv 3) pe_non (nomark _)) (pw_and1 (pt_not (pt_val (pc_call c_stars_fit hr (by first | decide | omega) (takes_of rfl rfl rfl rfl) (by rfl) (pa_cons (pv 0) (pa_cons (pv 1) (pa_cons (pv 2) (pa_cons (pv 3) pa_nil)))))))))) (pss_one (ps_ret pe_str)) pss_nil)
      (pss_one (ps_ret pe_non))))))))))))), ?_⟩
    have P_ := fun {H' : Hp} (fr : FrT H H') => hp.same (H' := H') fun c xs e => fr.tup e
    have M_ := fun {H' : Hp} (fr : FrT H H') => hm.same (H' := H') fun c xs e => fr.tup e
    have U_ := fun {H' : Hp} (fr : FrT H H') => hu.same (H' := H') fun c xs e => fr.tup e
    refine ⟨_, rfl, _, rfl, _, rfl, p, m, u, n, pf, tf, st, rfl, hp, hm, hu.1, hu.2.1, sr.pos, hn, t0.sz, fun H1 f1 => ⟨_, rfl, iteF (go_next ?_)⟩⟩
    refine ⟨_, rfl, _, rfl, _, rfl, _, rfl, p, m, u, n, o, pf, tf, st, rfl, P_ f1, M_ f1, U_ f1, sr, hn, (t0.fr f1).en, fun H2 f2 => ⟨_, rfl, iteF (go_next ?_)⟩⟩
    have f2 := f1.trans f2
    refine ⟨_, rfl, p, n, pf, rfl, P_ f2, ⟨hn, sr.ps⟩, (t0.fr f2).sy, fun H3 f3 => ⟨_, rfl, iteF (go_next ?_)⟩⟩
    have f3 := f2.trans f3
    refine ⟨_, rfl, p, n, pf, rfl, P_ f3, ⟨hn, sr.pc, sr.pa⟩, (t0.fr f3).ag, fun H4 f4 => ⟨_, rfl, iteF (go_next ?_)⟩⟩
    have f4 := f3.trans f4
    refine ⟨_, rfl, p, n, 0, pf, rfl, P_ f4, hn, sr.pos, sr.p0, (t0.fr f4).ne, fun H5 f5 => ⟨_, rfl, iteF (go_next ?_)⟩⟩
    have f5 := f4.trans f5
    refine ⟨_, rfl, m, n, tf, rfl, M_ f5, ⟨hn, sr.ts⟩, (t0.fr f5).sy, fun H6 f6 => ⟨_, rfl, iteF (go_next ?_)⟩⟩
    have f6 := f5.trans f6
    refine ⟨_, rfl, m, n, tf, rfl, M_ f6, ⟨hn, sr.tc, sr.ta⟩, (t0.fr f6).ag, fun H7 f7 => ⟨_, rfl, iteF (go_next ?_)⟩⟩
    have f7 := f6.trans f7
    refine ⟨_, rfl, _, rfl, m, n, o, tf, rfl, M_ f7, hn, sr.oo, sr.t1, (t0.fr f7).ne, fun H8 f8 => ⟨_, rfl, iteF (go_next ?_)⟩⟩
    have f8 := f7.trans f8
    obtain ⟨rm, em, lm⟩ := tt_len (M_ f8)
    obtain ⟨r, e1, e2⟩ := tt_row (M_ f8) em sr.pos
    refine ⟨_, rfl, m, _, _, _, rfl, rfl, SqT.of em, at_of (j := 0) rfl e1, r, (List.range n).map (fun j => ((tf 0 j : Nat) : Int)), rfl, SqT.of (by rw [List.map_map]; exact e2), ?_⟩
    have ea : ((List.range n).map (fun j => ((tf 0 j : Nat) : Int))).any (fun i => i != 0) = false := by
      rw [List.any_eq_false]
      intro x hx
      obtain ⟨j, hj, rfl⟩ := List.mem_map.mp hx
      rw [sr.t0 j (List.mem_range.mp hj)]
      simp
    rw [ea]
    refine ⟨_, rfl, iteF (go_next ?_)⟩
    refine ⟨_, rfl, _, rfl, p, m, n, pf, tf, rfl, P_ f8, M_ f8, hn, sr.pc, sr.tc, sr.ds, (t0.fr f8).di, fun H9 f9 => ⟨_, rfl, iteF (go_next ?_)⟩⟩
    have f9 := f8.trans f9
    refine ⟨_, rfl, rfl, _, rfl, iteT ⟨_, rfl, _, rfl, _, rfl, _, rfl, p, m, u, n, o, pf, tf, st, rfl, P_ f9, M_ f9, U_ f9, sr, hn, _, rfl, iteF (go_next ?_)⟩⟩
    exact k _ f9
/-- the heap has grown, but for the object at p; tables too -/
structure FrP (p : Addr) (H H' : Hp) : Prop where
  keep : ∀ b o, b ≠ p → H b = some o → (∀ ps, o ≠ .tbl ps) → H' b = some o
  tabs : ∀ P, TabG H P → TabG H' P
def spFI (C : Addr) (ok6 : Hp → Prop) : Sp := fun vs H Q _ => ∃ (q dx p m u : Addr) (n o : Nat) (f g : Nat → Nat → Nat) (st : List (Option Nat)), vs = [.ref q, .ref p, .ref m, .int (o : Int), .ref u] ∧ H q = some (.ins C dx []) ∧ TT H p n (fun i j => (f i j : Int)) ∧ TT H m n (fun i j => (g i j : Int)) ∧ StT H u n f g o st ∧ SRm.SR n f g o ∧ n ≤ 16 ∧ ok6 H ∧
  ∀ H' fs, FrP q H H' → H' q = some (.ins C dx fs) → okF n f g o st H' fs → Q .non H'
theorem ok_Finite_init {sz en sy ag ne di : Addr} (c_copied : CalX P w K mg base 1 "_copied" spCop) (c_first_failure : CalX P w K mg base 5 "_first_failure" (spFF (Six sz en sy ag ne di))) {f : Addr} {fd : FuncData} {dvs : List V} (F : FunD K "__init__" "Finite.__init__" (defArgs s_Finite_init) (defBody s_Finite_init) (defScope s_Finite_init) dvs [] f fd) (T : Txt K mg ad) : FnOk P w K mg base (L2.CX P w) 6 f fd ["self", "plus_table", "times_table", "one", "stars"] (spFI ad.Finite (Six sz en sy ag ne di)) := by
  refine F.ok (CX := L2.CX P w) sc_Finite_init (fun vs H Q E => ?_) (fun cdv A outer s H vs Q E hr h => ?_)
  · walk_at "len"
  ·
    obtain ⟨q, dx, p, m, u, n, o, pf, tf, st, rfl, hq, hp, hm, hu, sr, hn, t0, k⟩ := h
    refine ⟨_, (pss_cons (ps_set (i := 5) sc_Finite_init.nd rfl (by first | exact Or.inl rfl | exact Or.inr rfl) (pc_call c_copied hr (by first | decide | omega) (takes_of rfl rfl rfl rfl) (by rfl) (pa_cons (pv 1) pa_nil)))
      (pss_cons (ps_set (i := 6) sc_Finite_init.nd rfl (by first | exact Or.inl rfl | exact Or.inr rfl) (pc_call c_copied hr (by first | decide | omega) (takes_of rfl rfl rfl rfl) (by rfl) (pa_cons (pv 2) pa_nil)))
      (pss_cons (ps_set (i := 7) sc_Finite_init.nd rfl (by first | exact Or.inl rfl | exact Or.inr rfl) (pe_ifExp (pt_cmpR op_isN (pv 4) pe_non (nomark _)) pe_non (pe_callTy call_tuple_of (by rfl) T.z_tuple (by decide +kernel) (pa_cons (pv 4) pa_nil))))
      (pss_cons (ps_set (i := 8) sc_Finite_init.nd rfl (by first | exact Or.inl rfl | exact Or.inr rfl) (pc_call c_first_failure hr (by first | decide | omega) (takes_of rfl rfl rfl rfl) (by rfl) (pa_cons (pv 5) (pa_cons (pv 6) (pa_cons (pv 3) (pa_cons (pv 7) pa_nil))))))
      (pss_cons (ps_if (pt_cmpR op_notN (pv 8) pe_non (nomark _)) (pss_one L2.ps_never) pss_nil)
      (pss_cons (ps_fld (pv 0) (pv 5) rfl)
      (pss_cons (ps_fld (pv 0) (pv 6) rfl)
      (pss_cons (ps_fld (pv 0) (pv 3) rfl)
      (pss_one (ps_fld (pv 0) (pe_ifExp (pt_cmpR op_isN (pv 7) pe_non (nomark _)) (pe_op op_repT (pe_tup (pa_cons pe_non pa_nil)) (pe_callB call_len (by rfl) T.z_len (by decide +kernel) (pa_cons (pv 5) pa_nil))) (pv 7)) rfl)))))))))), ?_⟩
    refine go_seq ⟨_, rfl, p, n, pf, rfl, hp, hn, fun H1 p1 s1 hp1 => go_name rfl ?_⟩
    refine go_seq ⟨_, rfl, m, n, tf, rfl, hm.same (fun c xs e => s1 _ _ e), hn, fun H2 m1 s2 hm2 => go_name rfl ?_⟩
    refine go_seq ?_
    have S2 := fun {b : Addr} {o : HO} (e : H b = some o) => s2 b o (s1 b o e)
    have f2 := FrT.of (H := H) (H' := H2) fun b o e => S2 e
    refine ⟨_, rfl, rfl, _, rfl, iteF ⟨_, rfl, u, _, rfl, .inr ⟨SqT.of (S2 hu.1), go_name rfl ?_⟩⟩⟩
    refine go_seq ⟨_, rfl, _, rfl, _, rfl, _, rfl, p1, m1, u, n, o, pf, tf, st, rfl, hp1.same (fun c xs e => s2 _ _ e), hm2, hu.same (fun c xs e => S2 e), sr, hn, t0.fr f2, fun H3 f3 => go_name rfl ?_⟩
    refine ⟨_, rfl, rfl, _, rfl, iteF (go_next ?_)⟩
    have f3' := f2.trans f3
    have hq3 := f3'.ins hq
    have hp3 := (hp1.same (fun c xs e => s2 _ _ e)).same (H' := H3) (fun c xs e => f3.tup e)
    have hm3 := hm2.same (H' := H3) (fun c xs e => f3.tup e)
    have hu3 := f3'.tup hu.1
    refine ⟨_, rfl, _, rfl, q, _, dx, _, rfl, hq3, T.c_Finite, T.n_plus, (by show 0 < 1000; decide), ?_⟩
    refine ⟨_, rfl, _, rfl, q, _, dx, _, rfl, upd_same, T.c_Finite, T.n_times, (by show 1 < 1000; decide), ?_⟩
    refine ⟨_, rfl, _, rfl, q, _, dx, _, rfl, upd_same, T.c_Finite, T.n_one, (by show 2 < 1000; decide), ?_⟩
    refine ⟨_, rfl, rfl, _, rfl, iteF ⟨_, rfl, _, rfl, q, _, dx, _, rfl, upd_same, T.c_Finite, T.n_stars, (by show 3 < 1000; decide), ?_⟩⟩
    have ne : ∀ {b : Addr} {xs : List V}, H3 b = some (.tup xs) → b ≠ q := fun e z => by rw [z, hq3] at e; cases e
    refine k _ (fF p1 m1 o u) ⟨fun b o' nb e nt => ?_, fun P' ht => ?_⟩ upd_same ⟨p1, m1, u, rfl, hp3.same fun c xs e => ?_, hm3.same fun c xs e => ?_, ?_, hu.2.1⟩
    · rw [upd_ne nb, upd_ne nb, upd_ne nb, upd_ne nb]
      exact f3'.keep b o' e nt
    · obtain ⟨ps, e, t⟩ := f3'.tabs _ ht
      have nb : P' ≠ q := fun z => by rw [z, hq3] at e; cases e
      exact ⟨ps, by rw [upd_ne nb, upd_ne nb, upd_ne nb, upd_ne nb]; exact e, t⟩
    · rw [upd_ne (ne e), upd_ne (ne e), upd_ne (ne e), upd_ne (ne e)]; exact e
    · rw [upd_ne (ne e), upd_ne (ne e), upd_ne (ne e), upd_ne (ne e)]; exact e
    · rw [upd_ne (ne hu3), upd_ne (ne hu3), upd_ne (ne hu3), upd_ne (ne hu3)]; exact hu3
end
end K14

set_option Elab.async false
set_option linter.all false
set_option maxRecDepth 100000
set_option maxHeartbeats 4000000
namespace K14
open PySem L2 Ew Tb SRm GxR ND
local macro_rules | `(tactic| walk_at "len") => `(tactic| first | (intro h; obtain ⟨_, e, _⟩ := h; rw [e]; rfl) | (intro h; obtain ⟨_, _, e, _⟩ := h; rw [e]; rfl) | (intro h; obtain ⟨_, _, _, e, _⟩ := h; rw [e]; rfl) | (intro h; obtain ⟨_, _, _, _, e, _⟩ := h; rw [e]; rfl) | (intro h; obtain ⟨_, _, _, _, _, e, _⟩ := h; rw [e]; rfl) | (intro h; obtain ⟨_, _, _, _, _, _, e, _⟩ := h; rw [e]; rfl) | (intro h; obtain ⟨_, _, _, _, _, _, _, e, _⟩ := h; rw [e]; rfl) | (intro h; obtain ⟨_, _, _, _, _, _, _, _, e, _⟩ := h; rw [e]; rfl) | (intro h; obtain ⟨_, _, _, _, _, _, _, _, _, e, _⟩ := h; rw [e]; rfl) | (intro h; obtain ⟨_, _, _, _, _, _, _, _, _, _, e, _⟩ := h; rw [e]; rfl) | (intro h; obtain ⟨_, _, _, _, _, _, _, _, _, _, _, e, _⟩ := h; rw [e]; rfl) | (intro h; obtain ⟨_, _, _, _, _, _, _, _, _, _, _, _, e, _⟩ := h; rw [e]; rfl) | (intro h; obtain ⟨_, _, _, _, _, _, _, _, _, _, _, _, _, e, _⟩ := h; rw [e]; rfl))
/-! ### nodes -/
inductive Nd where
  | zero | one | fact (k : Nat) | star (n : Nat) | plus (ps : List Nat) | times (ps : List Nat)
  deriving DecidableEq
def nums (ps : List Nat) : List NestedKey := ps.map fun (n : Nat) => .num (n : Int)
def Nd.key : Nd → List NestedKey
  | .zero => [.text "zero"]
  | .one => [.text "one"]
  | .fact k => [.text "fact", .num (k : Int)]
  | .star n => [.text "star", .num (n : Int)]
  | .plus ps => [.text "plus", .tup (nums ps)]
  | .times ps => [.text "times", .tup (nums ps)]
theorem nums_inj : ∀ {ps qs : List Nat}, nums ps = nums qs → ps = qs
  | [], [], _ => rfl
  | [], _ :: _, h => nomatch h
  | _ :: _, [], h => nomatch h
  | p :: ps, q :: qs, h => by
    have h' : NestedKey.num (p : Int) :: nums ps = NestedKey.num (q : Int) :: nums qs := h
    injection h' with h1 h2
    injection h1 with h1
    rw [nums_inj h2, show p = q by omega]
theorem Nd.key_inj {a b : Nd} (h : a.key = b.key) : a = b := by
  cases a <;> cases b <;> simp [Nd.key] at h <;> first | rfl | (rw [nums_inj h]) | exact absurd h (by decide +kernel) | exact absurd h.1 (by decide +kernel) | exact congrArg Nd.fact (by omega) | exact congrArg Nd.star (by omega)
theorem nums_depth : ∀ ps : List Nat, NestedKey.depthAll (nums ps) ≤ 0
  | [] => Nat.le_refl _
  | p :: ps => by
    have := nums_depth ps
    show NestedKey.depthAll (NestedKey.num (p : Int) :: nums ps) ≤ 0
    rw [NestedKey.depthAll]
    simp only [NestedKey.depth]
    omega
theorem Nd.depth (a : Nd) : NestedKey.depthAll a.key ≤ 2 := by
  cases a <;> simp [Nd.key, NestedKey.depthAll, NestedKey.depth]
  all_goals (have := nums_depth ‹List Nat›; omega)
theorem Nd.depth8 (a : Nd) : (NestedKey.tup a.key).depth ≤ 8 := by
  have := a.depth
  rw [NestedKey.depth]
  omega
abbrev tK (a : Nd) : NestedKey := .tup a.key
theorem tK_inj {a b : Nd} (h : tK a = tK b) : a = b := Nd.key_inj (by injection h)
def kvT (n : Nat) (tbl : List Nd) : List (NestedKey × V) := (tbl.zipIdx n).map fun z => (tK z.1, V.int (z.2 : Int))
theorem valV_tbl (nd : Nd) : ∀ (tbl : List Nd) (n : Nat), valV (kvT n tbl) (tK nd) = if nd ∈ tbl then some (.int ((n + tbl.idxOf nd : Nat) : Int)) else none
  | [], n => rfl
  | a :: tbl, n => by
    have ih := valV_tbl nd tbl (n + 1)
    have e : kvT n (a :: tbl) = (tK a, V.int (n : Int)) :: kvT (n + 1) tbl := rfl
    rw [e]
    by_cases c : a = nd
    · subst c
      rw [valV_pos rfl, if_pos (List.mem_cons_self ..), List.idxOf_cons_self]
      rfl
    · rw [valV_neg (fun z => c (tK_inj z)), ih, show (a :: tbl).idxOf nd = tbl.idxOf nd + 1 by rw [List.idxOf_cons, show (a == nd) = false from beq_eq_false_iff_ne.mpr c]; rfl]
      by_cases m : nd ∈ tbl
      · rw [if_pos m, if_pos (List.mem_cons_of_mem _ m), show n + 1 + tbl.idxOf nd = n + (tbl.idxOf nd + 1) by omega]
      · rw [if_neg m, if_neg (fun z => by
          rcases List.mem_cons.mp z with z | z
          · exact c z.symm
          · exact m z)]
/-- a node is put into a table -/
def insN (tbl : List Nd) (nd : Nd) : List Nd := if nd ∈ tbl then tbl else tbl ++ [nd]
theorem kvT_app (tbl : List Nd) (nd : Nd) : kvT 0 (tbl ++ [nd]) = kvT 0 tbl ++ [(tK nd, V.int (tbl.length : Int))] := by
  unfold kvT
  rw [List.zipIdx_append, List.map_append, Nat.zero_add]
  rfl
theorem insN_mem (tbl : List Nd) (nd : Nd) : nd ∈ insN tbl nd := by
  unfold insN
  split
  · assumption
  · simp
/-- a node's tuple stands at a -/
abbrev NdAt (H : Hp) (a : Addr) (nd : Nd) : Prop := Ky H (tK nd) (.ref a)
abbrev fC (S D : Addr) : List (Str × V) := putF "_numbers" (.ref D) (putF "_shown" (.ref S) [])
theorem fC_s (S D : Addr) : (fC S D).lookup ("_shown" : Str) = some (.ref S) := by
  rw [lookup_putF, if_neg (by decide), lookup_putF, if_pos rfl]
theorem fC_n (S D : Addr) : (fC S D).lookup ("_numbers" : Str) = some (.ref D) := by
  rw [lookup_putF, if_pos rfl]
theorem fC_no (S D : Addr) {m : Str} (h1 : ¬ m = "_shown") (h2 : ¬ m = "_numbers") : (fC S D).lookup m = none := by
  rw [lookup_putF, if_neg h2, lookup_putF, if_neg h1]; rfl
/-- a store of circuits with the nodes tbl -/
structure Circ (P : Program) (w : World) (C : Addr) (H : Hp) (c S D : Addr) (tbl : List Nd) : Prop where
  ins : ∃ dx, H c = some (.ins C dx (fC S D))
  shown : ∃ as : List Addr, H S = some (.lst (as.map V.ref)) ∧ Kys H (tbl.map tK) (as.map V.ref)
  nums : At P w H D (kvT 0 tbl)
/-- all but the store's list and dict is as it was -/
def FrC (S D : Addr) (H H' : Hp) : Prop := ∀ b o, b ≠ S → b ≠ D → H b = some o → H' b = some o
theorem FrC.refl (S D : Addr) (H : Hp) : FrC S D H H := fun _ _ _ _ h => h
theorem FrC.trans {S D : Addr} {H H1 H2 : Hp} (x : FrC S D H H1) (y : FrC S D H1 H2) : FrC S D H H2 := fun b o n m h => y b o n m (x b o n m h)
theorem FrC.of {S D : Addr} {H H1 : Hp} (x : Same H H1) : FrC S D H H1 := fun b o _ _ h => x b o h
theorem FrC.tup {S D : Addr} {H H1 : Hp} (x : FrC S D H H1) {xs ys : List V} {φ : Heap → Prop} (hS : H S = some (.lst xs)) (hD : H D = some (.ext φ)) : ∀ b zs, H b = some (.tup zs) → H1 b = some (.tup zs) := fun b zs e =>
  x b _ (ne_of e hS (fun z => nomatch z)) (ne_of e hD (fun z => nomatch z)) e
theorem Kys.length {H : Hp} : ∀ {ks : List NestedKey} {xs : List V}, Kys H ks xs → ks.length = xs.length
  | _, _, .nil => rfl
  | _, _, .cons _ r => by rw [List.length_cons, List.length_cons, Kys.length r]
theorem Kys.snoc {H : Hp} {k : NestedKey} {x : V} (a : Ky H k x) : ∀ {ks : List NestedKey} {xs : List V}, Kys H ks xs → Kys H (ks ++ [k]) (xs ++ [x])
  | _, _, .nil => .cons a .nil
  | _, _, .cons b r => .cons b (Kys.snoc a r)
theorem Kys.at {H : Hp} : ∀ {ks : List NestedKey} {xs : List V} {i : Nat} {k : NestedKey}, Kys H ks xs → ks[i]? = some k → ∃ x, xs[i]? = some x ∧ Ky H k x
  | _, _, 0, _, .cons a _, e => by
    cases (show some _ = some _ from e)
    exact ⟨_, rfl, a⟩
  | _, _, i + 1, k, .cons _ r, e => Kys.at (i := i) r (by simpa using e)
theorem Circ.same {P : Program} {w : World} {C : Addr} {H H' : Hp} {c S D : Addr} {tbl : List Nd} (x : Circ P w C H c S D tbl) (s : Same H H') : Circ P w C H' c S D tbl where
  ins := let ⟨dx, e⟩ := x.ins; ⟨dx, s _ _ e⟩
  shown := let ⟨as, e, k⟩ := x.shown; ⟨as, s _ _ e, k.keeps fun b ys e => s _ _ e⟩
  nums := x.nums.keeps (fun u e => s _ _ e) fun b ys e => s _ _ e
section
variable {P : Program} {w : World} {K : PySem.W.Frag} {mg : Str → Option Value} {base : Heap} {ad : Ad}
def spCount (C : Addr) : Sp := fun vs H Q _ => ∃ c dx S D xs, vs = [.ref c] ∧ H c = some (.ins C dx (fC S D)) ∧ H S = some (.lst xs) ∧ Q (.int xs.length) H
theorem ok_Circuits_count  {f : Addr} {fd : FuncData} (F : Fun K "count" "Circuits.count" s_Circuits_count f fd) (T : Txt K mg ad) : FnOk P w K mg base (L2.CX P w) 1 f fd ["self"] (spCount ad.Circuits) := by
  refine F.okX sc_Circuits_count (fun vs H Q E => ?_) (fun cdv A outer s H vs Q E hr h => ?_)
  · walk_at "len"
  ·
    obtain ⟨c, dx, S, D, xs, rfl, hc, hS, k⟩ := h
    refine ⟨_, (pss_one (ps_ret (pe_callB call_len (by rfl) T.z_len (by decide +kernel) (pa_cons (pe_fld (pv 0) rfl) pa_nil)))), ?_⟩
    exact ⟨_, rfl, c, _, dx, _, _, rfl, hc, T.c_Circuits, T.n_shown, fC_s _ _, .ref S, _, rfl, .inl ⟨_, SqL.of hS, rfl⟩, k⟩
def spShown (P : Program) (w : World) (C : Addr) : Sp := fun vs H Q _ => ∃ c S D tbl i nd, vs = [.ref c, .int (i : Nat)] ∧ Circ P w C H c S D tbl ∧ tbl[i]? = some nd ∧ ∀ a, NdAt H a nd → Q (.ref a) H
theorem ok_Circuits_shown  {f : Addr} {fd : FuncData} (F : Fun K "shown" "Circuits.shown" s_Circuits_shown f fd) (T : Txt K mg ad) : FnOk P w K mg base (L2.CX P w) 1 f fd ["self", "node"] (spShown P w ad.Circuits) := by
  refine F.okX sc_Circuits_shown (fun vs H Q E => ?_) (fun cdv A outer s H vs Q E hr h => ?_)
  · walk_at "len"
  ·
    obtain ⟨c, S, D, tbl, i, nd, rfl, cc, hi, k⟩ := h
    refine ⟨_, (pss_one (ps_ret (pe_ix ix_list (pe_fld (pv 0) rfl) (pv 1) (fun _ _ => rfl)))), ?_⟩
    obtain ⟨dx, hc⟩ := cc.ins
    obtain ⟨as, hS, hk⟩ := cc.shown
    obtain ⟨x, e, ky⟩ := Kys.at (i := i) hk (by rw [List.getElem?_map, hi]; rfl)
    cases ky with
    | tup e1 e2 =>
      exact ⟨_, rfl, c, _, dx, _, _, rfl, hc, T.c_Circuits, T.n_shown, fC_s _ _, _, rfl, S, _, _, _, rfl, rfl, SqL.of hS, at_of rfl e, k _ (.tup e1 e2)⟩
def spNode (P : Program) (w : World) (C : Addr) : Sp := fun vs H Q _ => ∃ c S D tbl a nd, vs = [.ref c, .ref a] ∧ Circ P w C H c S D tbl ∧ NdAt H a nd ∧ tbl.length < 1000 ∧
  ∀ H', FrC S D H H' → Circ P w C H' c S D (insN tbl nd) → Q (.int ((insN tbl nd).idxOf nd : Nat)) H'
theorem ok_Circuits_node (m_count : MetX P w K mg base 1 ad.Circuits "count" (spCount ad.Circuits)) {f : Addr} {fd : FuncData} (F : Fun K "_node" "Circuits._node" s_Circuits_node f fd) (T : Txt K mg ad) : FnOk P w K mg base (L2.CX P w) 2 f fd ["self", "shown"] (spNode P w ad.Circuits) := by
  refine F.okX sc_Circuits_node (fun vs H Q E => ?_) (fun cdv A outer s H vs Q E hr h => ?_)
  · walk_at "len"
  ·
    obtain ⟨c, S, D, tbl, a, nd, rfl, cc, ha, hl, k⟩ := h
    refine ⟨_, (pss_cons (ps_if (pt_cmpR (ND.op_notInN (ND.hu9 hr)) (pv 1) (pe_fld (pv 0) rfl) (by rfl)) (pss_cons (ps_if (pt_cmpR op_eq (pd_meth0 hr (takes_of rfl rfl rfl rfl) (pv 0)) (pe_gint (by rfl) T.g_MOST_NODES) (nomark _)) (pss_one (ps_raise rfl (takes_of rfl rfl rfl rfl) (pmk_own PySem.F.excBase_ValueError T.x_TooLarge T.g_TooLarge T.k_TooLarge (raises_own T.b_TooLarge T.t_TooLarge) (by rfl)))) pss_nil)
      (pss_cons (ND.ps_nput (ND.hu9 hr) (pe_fld (pv 0) rfl) (pv 1) (pd_meth0 hr (takes_of rfl rfl rfl rfl) (pv 0)) rfl)
      (pss_one (ps_expr (pe_bm PySem.F.plainAttrs_list PySem.F.slot_list_append PySem.F.type_list_append mt_append (pe_fld (pv 0) rfl) (pa_cons (pv 1) pa_nil)))))) pss_nil)
      (pss_one (ps_ret (ND.pe_nget (ND.hu9 hr) (pe_fld (pv 0) rfl) (pv 1) (fun _ _ => rfl))))), ?_⟩
    obtain ⟨dx, hc⟩ := cc.ins
    obtain ⟨as, hS, hk⟩ := cc.shown
    have hlen : as.length = tbl.length := by
      have := Kys.length hk
      rw [List.length_map, List.length_map] at this
      exact this.symm
    obtain ⟨φ, hφ⟩ := cc.nums.ext
    have nSD : S ≠ D := ne_of hS hφ (fun z => nomatch z)
    have ncS : c ≠ S := ne_of hc hS (fun z => nomatch z)
    have ncD : c ≠ D := ne_of hc hφ (fun z => nomatch z)
    refine ⟨_, rfl, _, rfl, c, _, dx, _, _, rfl, hc, T.c_Circuits, T.n_numbers, fC_n _ _, D, _, rfl, ⟨_, _, _, cc.nums.rd, rfl, ha, nd.depth8, rfl⟩, ?_⟩
    rw [valV_tbl]
    by_cases m : nd ∈ tbl
    · rw [if_pos m]
      refine ⟨_, rfl, iteF ?_⟩
      refine ⟨_, rfl, c, _, dx, _, _, rfl, hc, T.c_Circuits, T.n_numbers, fC_n _ _, _, rfl, D, _, rfl, ⟨_, _, _, cc.nums.rd, rfl, ha, nd.depth8, by rw [valV_tbl, if_pos m]⟩, ?_⟩
      rw [Nat.zero_add]
      have := k H (FrC.refl _ _ _) (by unfold insN; rw [if_pos m]; exact cc)
      unfold insN at this
      rw [if_pos m] at this
      exact this
    · rw [if_neg m]
      refine ⟨_, rfl, iteT ?_⟩
      refine ⟨_, rfl, c, _, dx, _, 1, _, rfl, hc, fC_no _ _ (by decide) (by decide), by decide, m_count, c, dx, S, D, _, rfl, hc, hS, ?_⟩
      refine ⟨rfl, _, rfl, ?_⟩
      rw [List.length_map, hlen]
      rw [decide_eq_false (show ¬ V.int (tbl.length : Int) = V.int 20000 from fun z => by injection z with z; omega)]
      refine iteF ?_
      refine go_next ?_
      refine ⟨_, rfl, c, _, dx, _, 1, _, rfl, hc, fC_no _ _ (by decide) (by decide), by decide, m_count, c, dx, S, D, _, rfl, hc, hS, ?_⟩
      refine ⟨_, rfl, c, _, dx, _, _, rfl, hc, T.c_Circuits, T.n_numbers, fC_n _ _, _, rfl, D, rfl, ⟨_, _, _, cc.nums, rfl, ha, nd.depth8, by (unfold kvT; rw [List.length_map, List.length_zipIdx]; exact Nat.lt_trans hl (by decide)), fun φ' hA => ?_⟩⟩
      refine go_nx ?_
      have hc1 : upd H D (.ext φ') c = some (.ins ad.Circuits dx (fC S D)) := by rw [upd_ne ncD]; exact hc
      have hS1 : upd H D (.ext φ') S = some (.lst (as.map V.ref)) := by rw [upd_ne nSD]; exact hS
      refine ⟨_, rfl, c, _, dx, _, _, rfl, hc1, T.c_Circuits, T.n_shown, fC_s _ _, .inl ⟨rfl, _, SqL.of hS1⟩, _, rfl, S, _, _, rfl, rfl, hS1, by (rw [List.length_map, hlen]; exact Nat.lt_trans hl (by decide)), ?_⟩
      have hc2 : upd (upd H D (.ext φ')) S (.lst (as.map V.ref ++ [.ref a])) c = some (.ins ad.Circuits dx (fC S D)) := by rw [upd_ne ncS]; exact hc1
      have tups : ∀ b ys, H b = some (.tup ys) → upd (upd H D (.ext φ')) S (.lst (as.map V.ref ++ [.ref a])) b = some (.tup ys) := fun b ys e => by
        rw [upd_ne (ne_of e hS (fun z => nomatch z)), upd_ne (ne_of e hφ (fun z => nomatch z))]
        exact e
      have ekv : putK (kvT 0 tbl) (tK nd) (V.int ((as.map V.ref).length : Int)) = kvT 0 (tbl ++ [nd]) := by
        rw [putK_new _ (by rw [valV_tbl, if_neg m]), kvT_app, List.length_map, hlen]
      have hA2 : At P w (upd (upd H D (.ext φ')) S (.lst (as.map V.ref ++ [.ref a]))) D (kvT 0 (tbl ++ [nd])) := by
        rw [← ekv]
        refine hA.keeps (fun u e => by rw [upd_ne (Ne.symm nSD)]; exact e) fun b ys e => ?_
        rw [upd_ne (ne_of e hS1 (fun z => nomatch z))]
        exact e
      have hins : insN tbl nd = tbl ++ [nd] := by unfold insN; rw [if_neg m]
      have cc2 : Circ P w ad.Circuits (upd (upd H D (.ext φ')) S (.lst (as.map V.ref ++ [.ref a]))) c S D (insN tbl nd) := by
        rw [hins]
        refine ⟨⟨dx, hc2⟩, ⟨as ++ [a], by rw [upd_same, List.map_append]; rfl, ?_⟩, hA2⟩
        rw [List.map_append, List.map_append]
        exact Kys.snoc (ha.keeps tups) (hk.keeps tups)
      refine go_nx ?_
      refine ⟨_, rfl, c, _, dx, _, _, rfl, hc2, T.c_Circuits, T.n_numbers, fC_n _ _, _, rfl, D, _, rfl, ⟨_, _, _, hA2.rd, rfl, ha.keeps tups, nd.depth8, by rw [valV_tbl, if_pos (by simp)]⟩, ?_⟩
      rw [Nat.zero_add]
      have := k _ (fun b o n1 n2 e => by rw [upd_ne n1, upd_ne n2]; exact e) cc2
      rw [hins] at this
      exact this
/-! ### lists of numbers, filtered; sorted -/
abbrev nV (ns : List Nat) : List V := ns.map fun (n : Nat) => V.int (n : Int)
theorem take_fil {p : Nat → Bool} {ns : List Nat} {i x : Nat} (h : ns[i]? = some x) : (ns.take (i + 1)).filter p = (ns.take i).filter p ++ (if p x = true then [x] else []) := by
  rw [List.take_add_one, h, List.filter_append]
  congr 1
  by_cases c : p x = true
  · rw [if_pos c]; simp [c]
  · rw [if_neg c]; simp [c]
theorem lc_filL {K : PySem.W.Frag} {a : Addr} {ns : List Nat} {k : Nat} {tt : TT} {te : TE} {vs : List Nat} {σ : L2.St} {H1 : Hp} {D : Addr} {Qd : Hp → Prop} (p : Nat → Bool) (hD : H1 D = none) (hL : H1 a = some (.lst (nV ns)))
    (hn : ns.length ≤ 100000) (hw : ∀ x, wipe ((wipe σ vs).set k (some x)) vs = wipe σ vs)
    (ht : ∀ (x : Nat) (H : Hp) (Kt : Bool → Hp → Prop), Same H1 H → Kt (p x) H → tt ((wipe σ vs).set k (some (.int (x : Int)))) H Kt)
    (he : ∀ (x : Nat) (H : Hp) (Kt : VK), Kt (.int (x : Int)) H → te ((wipe σ vs).set k (some (.int (x : Int)))) H Kt)
    (hd : ∀ H, Same H1 H → H D = some (.lst (nV (ns.filter p))) → Qd H) :
    ∃ W : Nat → Nat → Hp → Prop, (∃ m, W 0 m (upd H1 D (.lst []))) ∧ ∀ i m H, W i m H →
      ((Itl K a).stop i H ∧ Qd H) ∨ ((Itl K a).go i H ∧ ∃ Nx : Hp → Prop, (∀ H', Nx H' → ∃ m', m' < m ∧ W (i + 1) m' H') ∧ ∀ x H', (Itl K a).yld i H x H' → gName k x (wipe σ vs) H' fun σ2 H2 => wipe σ2 vs = wipe σ vs ∧ tt σ2 H2 fun b H3 =>
        if b = true then te σ2 H3 fun y H4 => ∃ acc, H4 D = some (.lst acc) ∧ acc.length < sizeLine ∧ Nx (upd H4 D (.lst (acc ++ [y]))) else Nx H3) := by
  refine lc_list (xs := nV ns) (fun i H => Same H1 H ∧ H D = some (.lst (nV ((ns.take i).filter p)))) ⟨same_new (Same.refl _) hD, upd_same⟩ (fun i H _ ⟨s1, _⟩ => SqL.of (s1 _ _ hL)) (fun i x H hx ⟨s1, e1⟩ => ?_) (fun H ⟨s1, e1⟩ => hd H s1 ?_)
  · rw [List.getElem?_map] at hx
    obtain ⟨n, hn1, rfl⟩ := Option.map_eq_some_iff.mp hx
    have hi : i < ns.length := by
      rcases Nat.lt_or_ge i ns.length with h | h
      · exact h
      · rw [List.getElem?_eq_none h] at hn1; cases hn1
    refine ⟨hw _, ht n H _ s1 ?_⟩
    by_cases c : p n = true
    · rw [if_pos c]
      refine he n H _ ⟨_, e1, ?_, same_but hD s1 but_app, ?_⟩
      · have h1 := List.length_filter_le p (ns.take i)
        have h2 := List.length_take_le i ns
        rw [List.length_map]
        exact Nat.lt_of_le_of_lt (by omega : _ ≤ 100000) (by decide)
      · rw [upd_same, take_fil hn1, if_pos c]
        have e2 : nV (List.filter p (List.take i ns) ++ [n]) = nV (List.filter p (List.take i ns)) ++ [V.int (n : Int)] := by
          unfold nV
          rw [List.map_append]
          rfl
        rw [e2]
    · rw [if_neg c]
      refine ⟨s1, ?_⟩
      rw [take_fil hn1, if_neg c, List.append_nil]
      exact e1
  · rw [e1, List.length_map, List.take_length]
theorem lc_filT {K : PySem.W.Frag} {a : Addr} {ns : List Nat} {k : Nat} {tt : TT} {te : TE} {vs : List Nat} {σ : L2.St} {H1 : Hp} {D : Addr} {Qd : Hp → Prop} (p : Nat → Bool) (hD : H1 D = none) (hL : H1 a = some (.tup (nV ns)))
    (hn : ns.length ≤ 100000) (hw : ∀ x, wipe ((wipe σ vs).set k (some x)) vs = wipe σ vs)
    (ht : ∀ (x : Nat) (H : Hp) (Kt : Bool → Hp → Prop), Same H1 H → Kt (p x) H → tt ((wipe σ vs).set k (some (.int (x : Int)))) H Kt)
    (he : ∀ (x : Nat) (H : Hp) (Kt : VK), Kt (.int (x : Int)) H → te ((wipe σ vs).set k (some (.int (x : Int)))) H Kt)
    (hd : ∀ H, Same H1 H → H D = some (.lst (nV (ns.filter p))) → Qd H) :
    ∃ W : Nat → Nat → Hp → Prop, (∃ m, W 0 m (upd H1 D (.lst []))) ∧ ∀ i m H, W i m H →
      ((Itt K a).stop i H ∧ Qd H) ∨ ((Itt K a).go i H ∧ ∃ Nx : Hp → Prop, (∀ H', Nx H' → ∃ m', m' < m ∧ W (i + 1) m' H') ∧ ∀ x H', (Itt K a).yld i H x H' → gName k x (wipe σ vs) H' fun σ2 H2 => wipe σ2 vs = wipe σ vs ∧ tt σ2 H2 fun b H3 =>
        if b = true then te σ2 H3 fun y H4 => ∃ acc, H4 D = some (.lst acc) ∧ acc.length < sizeLine ∧ Nx (upd H4 D (.lst (acc ++ [y]))) else Nx H3) := by
  refine lc_tup (xs := nV ns) (fun i H => Same H1 H ∧ H D = some (.lst (nV ((ns.take i).filter p)))) ⟨same_new (Same.refl _) hD, upd_same⟩ (fun i H _ ⟨s1, _⟩ => SqT.of (s1 _ _ hL)) (fun i x H hx ⟨s1, e1⟩ => ?_) (fun H ⟨s1, e1⟩ => hd H s1 ?_)
  · rw [List.getElem?_map] at hx
    obtain ⟨n, hn1, rfl⟩ := Option.map_eq_some_iff.mp hx
    have hi : i < ns.length := by
      rcases Nat.lt_or_ge i ns.length with h | h
      · exact h
      · rw [List.getElem?_eq_none h] at hn1; cases hn1
    refine ⟨hw _, ht n H _ s1 ?_⟩
    by_cases c : p n = true
    · rw [if_pos c]
      refine he n H _ ⟨_, e1, ?_, same_but hD s1 but_app, ?_⟩
      · have h1 := List.length_filter_le p (ns.take i)
        have h2 := List.length_take_le i ns
        rw [List.length_map]
        exact Nat.lt_of_le_of_lt (by omega : _ ≤ 100000) (by decide)
      · rw [upd_same, take_fil hn1, if_pos c]
        have e2 : nV (List.filter p (List.take i ns) ++ [n]) = nV (List.filter p (List.take i ns)) ++ [V.int (n : Int)] := by
          unfold nV
          rw [List.map_append]
          rfl
        rw [e2]
    · rw [if_neg c]
      refine ⟨s1, ?_⟩
      rw [take_fil hn1, if_neg c, List.append_nil]
      exact e1
  · rw [e1, List.length_map, List.take_length]
/-- numbers in ascending order -/
def sortN (ns : List Nat) : List Nat := (PySem.W.sortI (ns.map fun (n : Nat) => (n : Int))).map Int.toNat
theorem sortN_of {ns : List Nat} {ns' : List Int} (hp : ns'.Perm (ns.map fun (n : Nat) => (n : Int))) (hs : ns'.Pairwise (· ≤ ·)) : ns' = (sortN ns).map fun (n : Nat) => (n : Int) := by
  have e := PySem.W.eq_sortI hp hs
  unfold sortN
  rw [← e, List.map_map]
  refine (List.map_id _).symm.trans (List.map_congr_left fun x hx => ?_)
  obtain ⟨n, _, rfl⟩ := List.mem_map.mp (hp.mem_iff.mp hx)
  show (n : Int) = ((n : Int).toNat : Int)
  rw [Int.toNat_natCast]
theorem nV_kys {H : Hp} : ∀ ns : List Nat, Kys H (nums ns) (nV ns)
  | [] => .nil
  | n :: ns => .cons (.int (n : Int)) (nV_kys ns)
theorem int_map (ns : List Nat) : (ns.map fun (n : Nat) => (n : Int)).map V.int = nV ns := by
  rw [List.map_map]; rfl
def spFact (P : Program) (w : World) (C : Addr) : Sp := fun vs H Q _ => ∃ c S D tbl, ∃ k : Nat, vs = [.ref c, .int (k : Int)] ∧ Circ P w C H c S D tbl ∧ tbl.length < 1000 ∧
  ∀ H', FrC S D H H' → Circ P w C H' c S D (insN tbl (.fact k)) → Q (.int ((insN tbl (.fact k)).idxOf (.fact k) : Nat)) H'
theorem ok_Circuits_fact (m_node : MetX P w K mg base 2 ad.Circuits "_node" (spNode P w ad.Circuits)) {f : Addr} {fd : FuncData} (F : Fun K "fact" "Circuits.fact" s_Circuits_fact f fd) (T : Txt K mg ad) : FnOk P w K mg base (L2.CX P w) 3 f fd ["self", "k"] (spFact P w ad.Circuits) := by
  refine F.okX sc_Circuits_fact (fun vs H Q E => ?_) (fun cdv A outer s H vs Q E hr h => ?_)
  · walk_at "len"
  ·
    obtain ⟨c, S, D, tbl, n, rfl, cc, hl, k⟩ := h
    refine ⟨_, (pss_one (ps_ret (pd_meth hr (takes_of rfl rfl rfl rfl) (pv 0) (pa_cons (pe_tup (pa_cons pe_str (pa_cons (pv 1) pa_nil))) pa_nil)))), ?_⟩
    obtain ⟨dx, hc⟩ := cc.ins
    refine ⟨_, rfl, c, _, dx, _, 2, _, rfl, hc, fC_no _ _ (by decide) (by decide), by decide, m_node, _, rfl, (show 2 ≤ sizeLine by decide), fun p hp => ?_⟩
    have s1 : Same H (upd H p (.tup [.str "fact", .int (n : Int)])) := same_new (Same.refl _) hp
    exact ⟨c, S, D, tbl, p, .fact n, rfl, cc.same s1, .tup upd_same (.cons (.str _) (.cons (.int _) .nil)), hl, fun H' fr c' => k H' ((FrC.of s1).trans fr) c'⟩
def spStar (P : Program) (w : World) (C : Addr) : Sp := fun vs H Q _ => ∃ c S D tbl, ∃ n : Nat, vs = [.ref c, .int (n : Int)] ∧ Circ P w C H c S D tbl ∧ tbl.length < 1000 ∧ (n = 0 → Q (.int 1) H) ∧
  (n ≠ 0 → ∀ H', FrC S D H H' → Circ P w C H' c S D (insN tbl (.star n)) → Q (.int ((insN tbl (.star n)).idxOf (.star n) : Nat)) H')
theorem ok_Circuits_star (m_node : MetX P w K mg base 2 ad.Circuits "_node" (spNode P w ad.Circuits)) {f : Addr} {fd : FuncData} (F : Fun K "star" "Circuits.star" s_Circuits_star f fd) (T : Txt K mg ad) : FnOk P w K mg base (L2.CX P w) 3 f fd ["self", "node"] (spStar P w ad.Circuits) := by
  refine F.okX sc_Circuits_star (fun vs H Q E => ?_) (fun cdv A outer s H vs Q E hr h => ?_)
  · walk_at "len"
  ·
    obtain ⟨c, S, D, tbl, n, rfl, cc, hl, k0, k⟩ := h
    refine ⟨_, (pss_cons (ps_if (pt_cmpR op_eq (pv 1) (pe_gint (by rfl) T.g_ZERO) (nomark _)) (pss_one (ps_ret (pe_gint (by rfl) T.g_ONE))) pss_nil)
      (pss_one (ps_ret (pd_meth hr (takes_of rfl rfl rfl rfl) (pv 0) (pa_cons (pe_tup (pa_cons pe_str (pa_cons (pv 1) pa_nil))) pa_nil))))), ?_⟩
    obtain ⟨dx, hc⟩ := cc.ins
    refine ⟨_, rfl, rfl, _, rfl, ?_⟩
    by_cases z : n = 0
    · subst z
      exact iteT (k0 rfl)
    · rw [decide_eq_false (show ¬ V.int (n : Int) = V.int 0 from fun y => z (by injection y with y; omega))]
      refine iteF ?_
      refine ⟨_, rfl, c, _, dx, _, 2, _, rfl, hc, fC_no _ _ (by decide) (by decide), by decide, m_node, _, rfl, (show 2 ≤ sizeLine by decide), fun p hp => ?_⟩
      have s1 : Same H (upd H p (.tup [.str "star", .int (n : Int)])) := same_new (Same.refl _) hp
      exact ⟨c, S, D, tbl, p, .star n, rfl, cc.same s1, .tup upd_same (.cons (.str _) (.cons (.int _) .nil)), hl, fun H' fr c' => k z H' ((FrC.of s1).trans fr) c'⟩
end
end K14

set_option Elab.async false
set_option linter.all false
set_option maxRecDepth 100000
set_option maxHeartbeats 4000000
namespace K14
open PySem L2 Ew Tb SRm GxR ND
local macro_rules | `(tactic| walk_at "len") => `(tactic| first | (intro h; obtain ⟨_, e, _⟩ := h; rw [e]; rfl) | (intro h; obtain ⟨_, _, e, _⟩ := h; rw [e]; rfl) | (intro h; obtain ⟨_, _, _, e, _⟩ := h; rw [e]; rfl) | (intro h; obtain ⟨_, _, _, _, e, _⟩ := h; rw [e]; rfl) | (intro h; obtain ⟨_, _, _, _, _, e, _⟩ := h; rw [e]; rfl) | (intro h; obtain ⟨_, _, _, _, _, _, e, _⟩ := h; rw [e]; rfl) | (intro h; obtain ⟨_, _, _, _, _, _, _, e, _⟩ := h; rw [e]; rfl) | (intro h; obtain ⟨_, _, _, _, _, _, _, _, e, _⟩ := h; rw [e]; rfl) | (intro h; obtain ⟨_, _, _, _, _, _, _, _, _, e, _⟩ := h; rw [e]; rfl) | (intro h; obtain ⟨_, _, _, _, _, _, _, _, _, _, e, _⟩ := h; rw [e]; rfl) | (intro h; obtain ⟨_, _, _, _, _, _, _, _, _, _, _, e, _⟩ := h; rw [e]; rfl) | (intro h; obtain ⟨_, _, _, _, _, _, _, _, _, _, _, _, e, _⟩ := h; rw [e]; rfl) | (intro h; obtain ⟨_, _, _, _, _, _, _, _, _, _, _, _, _, e, _⟩ := h; rw [e]; rfl))
section
variable {P : Program} {w : World} {K : PySem.W.Frag} {mg : Str → Option Value} {base : Heap} {ad : Ad}
theorem new2 {p : Addr} {H H1 : Hp} {o : HO} (x : Same H H1) (h : H1 p = none) : Same H (L2.upd H1 p o) := fun b u e => by
  rw [upd_ne (ne_of_none (x b u e) h)]
  exact x b u e
/-- plus or times -/
inductive Kd where
  | plus | times
def Kd.word : Kd → Str
  | .plus => "plus"
  | .times => "times"
def Kd.neu : Kd → Nat
  | .plus => 0
  | .times => 1
def Kd.mk : Kd → List Nat → Nd
  | .plus, ps => .plus ps
  | .times, ps => .times ps
theorem Kd.key (d : Kd) (ps : List Nat) : (d.mk ps).key = [.text d.word, .tup (nums ps)] := by cases d <;> rfl
/-- what several parts give: the table behind, the node -/
def sevN (tbl : List Nd) (d : Kd) (ps : List Nat) : List Nd × Nat := match ps with
  | [] => (tbl, d.neu)
  | [p] => (tbl, p)
  | _ => let nd := d.mk (sortN ps); (insN tbl nd, (insN tbl nd).idxOf nd)
def spSev (P : Program) (w : World) (C : Addr) : Sp := fun vs H Q _ => ∃ c S D tbl, ∃ (d : Kd) (L : Addr) (ps : List Nat), vs = [.ref c, .str d.word, .ref L, .int (d.neu : Int)] ∧ Circ P w C H c S D tbl ∧ tbl.length < 1000 ∧ H L = some (.lst (nV ps)) ∧ ps.length ≤ 1000 ∧
  ∀ H', FrC S D H H' → Circ P w C H' c S D (sevN tbl d ps).1 → Q (.int ((sevN tbl d ps).2 : Nat)) H'
theorem ok_Circuits_several (m_node : MetX P w K mg base 2 ad.Circuits "_node" (spNode P w ad.Circuits)) {f : Addr} {fd : FuncData} (F : Fun K "_several" "Circuits._several" s_Circuits_several f fd) (T : Txt K mg ad) : FnOk P w K mg base (L2.CX P w) 3 f fd ["self", "word", "nodes", "neutral"] (spSev P w ad.Circuits) := by
  refine F.okX sc_Circuits_several (fun vs H Q E => ?_) (fun cdv A outer s H vs Q E hr h => ?_)
  · walk_at "len"
  ·
    obtain ⟨c, S, D, tbl, d, L, ps, rfl, cc, hl, hL, hps, k⟩ := h
    refine ⟨_, (pss_cons (ps_if (pt_cmpR op_eq (pe_callB call_len (by rfl) T.z_len (by decide +kernel) (pa_cons (pv 2) pa_nil)) pe_int (nomark _)) (pss_one (ps_ret (pv 3))) pss_nil)
      (pss_cons (ps_if (pt_cmpR op_eq (pe_callB call_len (by rfl) T.z_len (by decide +kernel) (pa_cons (pv 2) pa_nil)) pe_int (nomark _)) (pss_one (ps_ret (pe_ix ix_list (pv 2) pe_int (fun _ _ => rfl)))) pss_nil)
      (pss_cons (ps_if (pt_cmpR op_gt (pe_callB call_len (by rfl) T.z_len (by decide +kernel) (pa_cons (pv 2) pa_nil)) (pe_gint (by rfl) T.g_MOST_IN_ONE) (nomark _)) (pss_one (ps_raise rfl (takes_of rfl rfl rfl rfl) (pmk_own PySem.F.excBase_ValueError T.x_TooLarge T.g_TooLarge T.k_TooLarge (raises_own T.b_TooLarge T.t_TooLarge) (by rfl)))) pss_nil)
      (pss_one (ps_ret (pd_meth hr (takes_of rfl rfl rfl rfl) (pv 0) (pa_cons (pe_tup (pa_cons (pv 1) (pa_cons (pe_callTy call_tuple_of (by rfl) T.z_tuple (by decide +kernel) (pa_cons (pe_callB cr_sortedI (by rfl) T.z_sorted (by decide +kernel) (pa_cons (pv 2) pa_nil)) pa_nil)) pa_nil))) pa_nil))))))), ?_⟩
    obtain ⟨dx, hc⟩ := cc.ins
    refine ⟨_, rfl, .ref L, _, rfl, .inl ⟨_, SqL.of hL, rfl⟩, rfl, _, rfl, ?_⟩
    rw [List.length_map]
    cases ps with
    | nil => exact iteT ⟨_, rfl, k H (FrC.refl _ _ _) cc⟩
    | cons p0 ps =>
      refine iteF (go_next ?_)
      refine ⟨_, rfl, .ref L, _, rfl, .inl ⟨_, SqL.of hL, rfl⟩, rfl, _, rfl, ?_⟩
      rw [List.length_map]
      cases ps with
      | nil =>
        refine iteT ⟨_, rfl, L, _, _, _, rfl, rfl, SqL.of hL, at_of (j := 0) rfl rfl, ?_⟩
        exact k H (FrC.refl _ _ _) cc
      | cons p1 ps =>
        rw [decide_eq_false (show ¬ V.int ((p0 :: p1 :: ps).length : Int) = V.int 1 from fun y => by injection y with y; rw [List.length_cons, List.length_cons] at y; omega)]
        refine iteF (go_next ?_)
        refine ⟨_, rfl, .ref L, _, rfl, .inl ⟨_, SqL.of hL, rfl⟩, ?_⟩
        rw [List.length_map]
        refine ⟨_, _, rfl, rfl, _, rfl, ?_⟩
        rw [decide_eq_false (show ¬ (2000 : Int) < ((p0 :: p1 :: ps).length : Int) by omega)]
        refine iteF (go_next ?_)
        refine ⟨_, rfl, c, _, dx, _, 2, _, rfl, hc, fC_no _ _ (by decide) (by decide), by decide, m_node, ?_⟩
        refine ⟨_, rfl, _, rfl, L, (p0 :: p1 :: ps).map (fun (n : Nat) => (n : Int)), rfl, SqL.of (by rw [int_map]; exact hL), fun ns' q hp hs hq => ?_⟩
        rw [sortN_of hp hs, int_map]
        have s1 : Same H (upd H q (.lst (nV (sortN (p0 :: p1 :: ps))))) := same_new (Same.refl _) hq
        refine ⟨q, _, rfl, .inl ⟨SqL.of upd_same, fun l hl => ?_⟩⟩
        have s2 := new2 (o := .tup (nV (sortN (p0 :: p1 :: ps)))) s1 hl
        refine ⟨(show 2 ≤ sizeLine by decide), fun a ha => ?_⟩
        have s3 := new2 (o := .tup [.str d.word, .ref l]) s2 ha
        refine ⟨c, S, D, tbl, a, d.mk (sortN (p0 :: p1 :: ps)), rfl, cc.same s3, ?_, by assumption, fun H' fr c' => k H' ((FrC.of s3).trans fr) c'⟩
        show Ky _ (.tup (d.mk (sortN (p0 :: p1 :: ps))).key) _
        rw [Kd.key]
        refine .tup upd_same (.cons (.str _) (.cons (.tup ?_ (nV_kys _)) .nil))
        rw [upd_ne (ne_of_none upd_same ha)]
        exact upd_same
theorem nV_flat : ∀ ps : List Nat, (nV ps).all flatV = true
  | [] => rfl
  | p :: ps => nV_flat ps
theorem inV_nV (m : Nat) : ∀ ps : List Nat, inV (.int (m : Int)) (nV ps) = decide (m ∈ ps)
  | [] => rfl
  | p :: ps => by
    have ih := inV_nV m ps
    have e : inV (.int (m : Int)) (nV (p :: ps)) = (eqV (.int (p : Int)) (.int (m : Int)) || inV (.int (m : Int)) (nV ps)) := rfl
    rw [e, ih]
    by_cases c : p = m
    · subst c; simp [eqV]
    · have c' : ¬ m = p := fun z => c z.symm
      have e2 : eqV (.int (p : Int)) (.int (m : Int)) = false := by simp [eqV]; omega
      rw [e2]
      simp [c']
theorem ne_tst {m : Int} {p : Nat → Bool} (hp : ∀ x : Nat, p x = !decide (V.int (x : Int) = V.int m)) {i : Nat} {σ : L2.St} (x : Nat) (H : Hp) (Kt : Bool → Hp → Prop) (e : σ[i]? = some (some (.int (x : Int)))) (h : Kt (p x) H) : tTest (tOp rNe (tVar i) (tC (V.int m))) σ H Kt := by
  refine ⟨_, e, rfl, _, rfl, ?_⟩
  rw [hp x] at h
  exact h
theorem ne_dec (m x : Nat) : decide (x ≠ m) = !decide (V.int (x : Int) = V.int (m : Int)) := by
  by_cases c : x = m
  · subst c; simp
  · rw [decide_eq_true c, decide_eq_false (fun y => c (by injection y with y; omega))]; rfl
def spPlus (P : Program) (w : World) (C : Addr) (d : Kd) (out : Nat) : Sp := fun vs H Q _ => ∃ c S D tbl, ∃ (L : Addr) (ps : List Nat), vs = [.ref c, .ref L] ∧ Circ P w C H c S D tbl ∧ tbl.length < 1000 ∧ (H L = some (.lst (nV ps)) ∨ H L = some (.tup (nV ps))) ∧ ps.length ≤ 1000 ∧
  (out = 1 → 0 ∈ ps → Q (.int 0) H) ∧
  ((out = 1 → ¬ 0 ∈ ps) → ∀ H', FrC S D H H' → Circ P w C H' c S D (sevN tbl d (ps.filter fun n => decide (n ≠ out))).1 → Q (.int ((sevN tbl d (ps.filter fun n => decide (n ≠ out))).2 : Nat)) H')
theorem ok_Circuits_plus (m_several : MetX P w K mg base 3 ad.Circuits "_several" (spSev P w ad.Circuits)) {f : Addr} {fd : FuncData} (F : Fun K "plus" "Circuits.plus" s_Circuits_plus f fd) (T : Txt K mg ad) : FnOk P w K mg base (L2.CX P w) 4 f fd ["self", "nodes"] (spPlus P w ad.Circuits .plus 0) := by
  refine F.okX sc_Circuits_plus (fun vs H Q E => ?_) (fun cdv A outer s H vs Q E hr h => ?_)
  · walk_at "len"
  ·
    obtain ⟨c, S, D, tbl, L, ps, rfl, cc, hl, hL, hps, _, k⟩ := h
    refine ⟨_, (pss_one (ps_ret (pd_meth hr (takes_of rfl rfl rfl rfl) (pv 0) (pa_cons pe_str (pa_cons (pe_lc (own := [("node", 2)]) rfl sc_Circuits_plus.nd (ND.pi_seq (pv 1)) (blkOk_by (by kernel_rfl)) (fun _ _ _ _ _ => (pg_name (i := 2) sc_Circuits_plus.nd rfl (by first | exact Or.inl rfl | exact Or.inr rfl))) (fun _ _ _ _ _ => (pts_one (pt_cmpR op_ne (pv 2) (pe_gint (by rfl) T.g_ZERO) (nomark _)))) (fun _ _ _ _ _ => (pv 2))) (pa_cons (pe_gint (by rfl) T.g_ZERO) pa_nil)))))), ?_⟩
    obtain ⟨dx, hc⟩ := cc.ins
    refine ⟨_, rfl, c, _, dx, _, 3, _, rfl, hc, fC_no _ _ (by decide) (by decide), by decide, m_several, ?_⟩
    have fin : ∀ D' H', Same H H' → H' D' = some (.lst (nV (ps.filter fun n => decide (n ≠ 0)))) →
        spSev P w ad.Circuits [.ref c, .str "plus", .ref D', .int 0] H' Q (WE (fun cls d x H => E cls d H) (L2.start ["self", "nodes", "node"] [.ref c, .ref L])) := fun D' H' s' e =>
      ⟨c, S, D, tbl, .plus, D', _, rfl, cc.same s', hl, e, Nat.le_trans (List.length_filter_le _ _) hps, fun H2 fr c' => k (fun z => nomatch z) H2 ((FrC.of s').trans fr) c'⟩
    rcases hL with hL | hL
    · refine ⟨_, rfl, L, _, rfl, .inl ⟨SqL.of hL, fun D' hD => ?_⟩⟩
      exact lc_filL (fun n => decide (n ≠ 0)) hD hL (by omega) (fun _ => rfl) (fun x H Kt _ h => ne_tst (m := 0) (ne_dec 0) x H Kt rfl h) (fun x H Kt h => ⟨_, rfl, h⟩) (fun H' s' e => fin D' H' s' e)
    · refine ⟨_, rfl, L, _, rfl, .inr ⟨SqT.of hL, fun D' hD => ?_⟩⟩
      exact lc_filT (fun n => decide (n ≠ 0)) hD hL (by omega) (fun _ => rfl) (fun x H Kt _ h => ne_tst (m := 0) (ne_dec 0) x H Kt rfl h) (fun x H Kt h => ⟨_, rfl, h⟩) (fun H' s' e => fin D' H' s' e)
theorem ok_Circuits_times (m_several : MetX P w K mg base 3 ad.Circuits "_several" (spSev P w ad.Circuits)) {f : Addr} {fd : FuncData} (F : Fun K "times" "Circuits.times" s_Circuits_times f fd) (T : Txt K mg ad) : FnOk P w K mg base (L2.CX P w) 4 f fd ["self", "nodes"] (spPlus P w ad.Circuits .times 1) := by
  refine F.okX sc_Circuits_times (fun vs H Q E => ?_) (fun cdv A outer s H vs Q E hr h => ?_)
  · walk_at "len"
  ·
    obtain ⟨c, S, D, tbl, L, ps, rfl, cc, hl, hL, hps, k0, k⟩ := h
    refine ⟨_, (pss_cons (ps_if (pt_cmpR op_in_seq (pe_gint (by rfl) T.g_ZERO) (pv 1) (by rfl)) (pss_one (ps_ret (pe_gint (by rfl) T.g_ZERO))) pss_nil)
      (pss_one (ps_ret (pd_meth hr (takes_of rfl rfl rfl rfl) (pv 0) (pa_cons pe_str (pa_cons (pe_lc (own := [("node", 2)]) rfl sc_Circuits_times.nd (ND.pi_seq (pv 1)) (blkOk_by (by kernel_rfl)) (fun _ _ _ _ _ => (pg_name (i := 2) sc_Circuits_times.nd rfl (by first | exact Or.inl rfl | exact Or.inr rfl))) (fun _ _ _ _ _ => (pts_one (pt_cmpR op_ne (pv 2) (pe_gint (by rfl) T.g_ONE) (nomark _)))) (fun _ _ _ _ _ => (pv 2))) (pa_cons (pe_gint (by rfl) T.g_ONE) pa_nil))))))), ?_⟩
    obtain ⟨dx, hc⟩ := cc.ins
    refine ⟨.ref L, rfl, L, nV ps, rfl, ?_, rfl, nV_flat ps, _, rfl, ?_⟩
    · rcases hL with hL | hL
      · exact .inl (SqL.of hL)
      · exact .inr (SqT.of hL)
    have hin : (if false = true then !inV (.int 0) (nV ps) else inV (.int 0) (nV ps)) = decide (0 ∈ ps) := inV_nV 0 ps
    rw [hin]
    by_cases z : 0 ∈ ps
    · rw [decide_eq_true z]
      exact iteT (k0 rfl z)
    rw [decide_eq_false z]
    refine iteF ?_
    refine ⟨_, rfl, c, _, dx, _, 3, _, rfl, hc, fC_no _ _ (by decide) (by decide), by decide, m_several, ?_⟩
    have fin : ∀ D' H', Same H H' → H' D' = some (.lst (nV (ps.filter fun n => decide (n ≠ 1)))) →
        spSev P w ad.Circuits [.ref c, .str "times", .ref D', .int 1] H' Q (WE (fun cls d x H => E cls d H) (L2.start ["self", "nodes", "node"] [.ref c, .ref L])) := fun D' H' s' e =>
      ⟨c, S, D, tbl, .times, D', _, rfl, cc.same s', hl, e, Nat.le_trans (List.length_filter_le _ _) hps, fun H2 fr c' => k (fun _ => z) H2 ((FrC.of s').trans fr) c'⟩
    rcases hL with hL | hL
    · refine ⟨_, rfl, L, _, rfl, .inl ⟨SqL.of hL, fun D' hD => ?_⟩⟩
      exact lc_filL (fun n => decide (n ≠ 1)) hD hL (by omega) (fun _ => rfl) (fun x H Kt _ h => ne_tst (m := 1) (ne_dec 1) x H Kt rfl h) (fun x H Kt h => ⟨_, rfl, h⟩) (fun H' s' e => fin D' H' s' e)
    · refine ⟨_, rfl, L, _, rfl, .inr ⟨SqT.of hL, fun D' hD => ?_⟩⟩
      exact lc_filT (fun n => decide (n ≠ 1)) hD hL (by omega) (fun _ => rfl) (fun x H Kt _ h => ne_tst (m := 1) (ne_dec 1) x H Kt rfl h) (fun x H Kt h => ⟨_, rfl, h⟩) (fun H' s' e => fin D' H' s' e)
end
end K14

set_option Elab.async false
set_option linter.all false
set_option maxRecDepth 100000
set_option maxHeartbeats 4000000
namespace K14
open PySem L2 Ew Tb SRm GxR ND
local macro_rules | `(tactic| walk_at "len") => `(tactic| first | (intro h; obtain ⟨_, e, _⟩ := h; rw [e]; rfl) | (intro h; obtain ⟨_, _, e, _⟩ := h; rw [e]; rfl) | (intro h; obtain ⟨_, _, _, e, _⟩ := h; rw [e]; rfl) | (intro h; obtain ⟨_, _, _, _, e, _⟩ := h; rw [e]; rfl) | (intro h; obtain ⟨_, _, _, _, _, e, _⟩ := h; rw [e]; rfl) | (intro h; obtain ⟨_, _, _, _, _, _, e, _⟩ := h; rw [e]; rfl) | (intro h; obtain ⟨_, _, _, _, _, _, _, e, _⟩ := h; rw [e]; rfl) | (intro h; obtain ⟨_, _, _, _, _, _, _, _, e, _⟩ := h; rw [e]; rfl) | (intro h; obtain ⟨_, _, _, _, _, _, _, _, _, e, _⟩ := h; rw [e]; rfl) | (intro h; obtain ⟨_, _, _, _, _, _, _, _, _, _, e, _⟩ := h; rw [e]; rfl) | (intro h; obtain ⟨_, _, _, _, _, _, _, _, _, _, _, e, _⟩ := h; rw [e]; rfl) | (intro h; obtain ⟨_, _, _, _, _, _, _, _, _, _, _, _, e, _⟩ := h; rw [e]; rfl) | (intro h; obtain ⟨_, _, _, _, _, _, _, _, _, _, _, _, _, e, _⟩ := h; rw [e]; rfl))
section
variable {P : Program} {w : World} {K : PySem.W.Frag} {mg : Str → Option Value} {base : Heap} {ad : Ad}
/-! ### a node's tuple, its parts -/
def Nd.parts : Nd → List Nat
  | .star n => [n]
  | .plus ps => ps
  | .times ps => ps
  | _ => []
def Nd.vals (l : Addr) : Nd → List V
  | .zero => [.str "zero"]
  | .one => [.str "one"]
  | .fact k => [.str "fact", .int (k : Int)]
  | .star n => [.str "star", .int (n : Int)]
  | .plus _ => [.str "plus", .ref l]
  | .times _ => [.str "times", .ref l]
def Nd.inner (H : Hp) (l : Addr) : Nd → Prop
  | .plus ps => H l = some (.tup (nV ps))
  | .times ps => H l = some (.tup (nV ps))
  | _ => True
theorem kys_nums {H : Hp} : ∀ {ns : List Nat} {xs : List V}, Kys H (nums ns) xs → xs = nV ns
  | [], _, h => by cases h; rfl
  | n :: ns, _, h => by
    cases h with
    | cons a r =>
      cases a
      rw [kys_nums (ns := ns) r]
      rfl
theorem kys_in {H : Hp} {z : Str} {ps : List Nat} {xs : List V} (h : Kys H [.text z, .tup (nums ps)] xs) : ∃ l, xs = [.str z, .ref l] ∧ H l = some (.tup (nV ps)) := by
  cases h with
  | cons a r =>
    cases a
    cases r with
    | cons b r2 =>
      cases r2
      cases b with
      | tup e q => exact ⟨_, rfl, by rw [e, kys_nums q]⟩
theorem kys_num {H : Hp} {z : Str} {n : Int} {xs : List V} (h : Kys H [.text z, .num n] xs) : xs = [.str z, .int n] := by
  cases h with
  | cons a r =>
    cases a
    cases r with
    | cons b r2 =>
      cases r2
      cases b
      rfl
theorem kys_one {H : Hp} {z : Str} {xs : List V} (h : Kys H [.text z] xs) : xs = [.str z] := by
  cases h with
  | cons a r =>
    cases a
    cases r
    rfl
theorem NdAt.inv {H : Hp} {a : Addr} {nd : Nd} (h : NdAt H a nd) : ∃ l, H a = some (.tup (nd.vals l)) ∧ nd.inner H l := by
  cases h with
  | tup e q =>
    cases nd with
    | zero => exact ⟨0, by rw [e, kys_one q]; rfl, True.intro⟩
    | one => exact ⟨0, by rw [e, kys_one q]; rfl, True.intro⟩
    | fact k => exact ⟨0, by rw [e, kys_num q]; rfl, True.intro⟩
    | star n => exact ⟨0, by rw [e, kys_num q]; rfl, True.intro⟩
    | plus ps =>
      obtain ⟨l, rfl, e2⟩ := kys_in q
      exact ⟨l, e, e2⟩
    | times ps =>
      obtain ⟨l, rfl, e2⟩ := kys_in q
      exact ⟨l, e, e2⟩
def spParts : Sp := fun vs H Q _ => ∃ a nd, vs = [.ref a] ∧ NdAt H a nd ∧ ∀ H' l, Same H H' → H' l = some (.tup (nV nd.parts)) → Q (.ref l) H'
theorem ok_parts  {f : Addr} {fd : FuncData} (F : Fun K "_parts" "_parts" s_parts f fd) (T : Txt K mg ad) : FnOk P w K mg base (L2.CX P w) 1 f fd ["shown"] (spParts) := by
  refine F.okX sc_parts (fun vs H Q E => ?_) (fun cdv A outer s H vs Q E hr h => ?_)
  · walk_at "len"
  ·
    obtain ⟨a, nd, rfl, ha, k⟩ := h
    refine ⟨_, (pss_cons (ps_if (pt_cmpR op_eq (pe_ix ix_tup (pv 0) pe_int (fun _ _ => rfl)) pe_str (nomark _)) (pss_one (ps_ret (pe_tup (pa_cons (pe_ix ix_tup (pv 0) pe_int (fun _ _ => rfl)) pa_nil)))) pss_nil)
      (pss_cons (ps_if (pt_cmpR op_in_seq (pe_ix ix_tup (pv 0) pe_int (fun _ _ => rfl)) (pe_tup (pa_cons pe_str (pa_cons pe_str pa_nil))) (by rfl)) (pss_one (ps_ret (pe_ix ix_tup (pv 0) pe_int (fun _ _ => rfl)))) pss_nil)
      (pss_one (ps_ret (pe_tup pa_nil))))), ?_⟩
    obtain ⟨l, e, hin⟩ := ha.inv
    have h0 : (nd.vals l)[0]? = some (.str (match nd with | .zero => "zero" | .one => "one" | .fact _ => "fact" | .star _ => "star" | .plus _ => "plus" | .times _ => "times" : Str)) := by cases nd <;> rfl
    refine ⟨_, rfl, a, _, _, _, rfl, rfl, SqT.of e, at_of (j := 0) rfl h0, rfl, _, rfl, ?_⟩
    cases nd with
    | star n =>
      refine iteT ⟨_, rfl, a, _, _, _, rfl, rfl, SqT.of e, at_of (j := 1) rfl rfl, (show 1 ≤ sizeLine by decide), fun p hp => ?_⟩
      exact k _ p (same_new (Same.refl _) hp) upd_same
    | plus ps =>
      refine iteF (go_next ⟨_, rfl, a, _, _, _, rfl, rfl, SqT.of e, at_of (j := 0) rfl h0, (show 2 ≤ sizeLine by decide), fun p hp => ?_⟩)
      have s1 := same_new (o := .tup [.str "plus", .str "times"]) (Same.refl H) hp
      refine ⟨p, _, rfl, .inr (SqT.of upd_same), rfl, rfl, _, rfl, iteT ?_⟩
      exact ⟨_, rfl, a, _, _, _, rfl, rfl, SqT.of (s1 _ _ e), at_of (j := 1) rfl rfl, k _ l s1 (s1 _ _ hin)⟩
    | times ps =>
      refine iteF (go_next ⟨_, rfl, a, _, _, _, rfl, rfl, SqT.of e, at_of (j := 0) rfl h0, (show 2 ≤ sizeLine by decide), fun p hp => ?_⟩)
      have s1 := same_new (o := .tup [.str "plus", .str "times"]) (Same.refl H) hp
      refine ⟨p, _, rfl, .inr (SqT.of upd_same), rfl, rfl, _, rfl, iteT ?_⟩
      exact ⟨_, rfl, a, _, _, _, rfl, rfl, SqT.of (s1 _ _ e), at_of (j := 1) rfl rfl, k _ l s1 (s1 _ _ hin)⟩
    | _ =>
      refine iteF (go_next ⟨_, rfl, a, _, _, _, rfl, rfl, SqT.of e, at_of (j := 0) rfl h0, (show 2 ≤ sizeLine by decide), fun p hp => ?_⟩)
      have s1 := same_new (o := .tup [.str "plus", .str "times"]) (Same.refl H) hp
      refine ⟨p, _, rfl, .inr (SqT.of upd_same), rfl, rfl, _, rfl, iteF (go_next ?_)⟩
      refine ⟨(show 0 ≤ sizeLine by decide), fun p2 hp2 => ?_⟩
      exact k _ p2 (new2 s1 hp2) upd_same
end
end K14

set_option Elab.async false
set_option linter.all false
set_option maxRecDepth 100000
set_option maxHeartbeats 4000000
namespace K14
open PySem L2 Ew Tb SRm GxR ND
local macro_rules | `(tactic| walk_at "len") => `(tactic| first | (intro h; obtain ⟨_, e, _⟩ := h; rw [e]; rfl) | (intro h; obtain ⟨_, _, e, _⟩ := h; rw [e]; rfl) | (intro h; obtain ⟨_, _, _, e, _⟩ := h; rw [e]; rfl) | (intro h; obtain ⟨_, _, _, _, e, _⟩ := h; rw [e]; rfl) | (intro h; obtain ⟨_, _, _, _, _, e, _⟩ := h; rw [e]; rfl) | (intro h; obtain ⟨_, _, _, _, _, _, e, _⟩ := h; rw [e]; rfl) | (intro h; obtain ⟨_, _, _, _, _, _, _, e, _⟩ := h; rw [e]; rfl) | (intro h; obtain ⟨_, _, _, _, _, _, _, _, e, _⟩ := h; rw [e]; rfl) | (intro h; obtain ⟨_, _, _, _, _, _, _, _, _, e, _⟩ := h; rw [e]; rfl) | (intro h; obtain ⟨_, _, _, _, _, _, _, _, _, _, e, _⟩ := h; rw [e]; rfl) | (intro h; obtain ⟨_, _, _, _, _, _, _, _, _, _, _, e, _⟩ := h; rw [e]; rfl) | (intro h; obtain ⟨_, _, _, _, _, _, _, _, _, _, _, _, e, _⟩ := h; rw [e]; rfl) | (intro h; obtain ⟨_, _, _, _, _, _, _, _, _, _, _, _, _, e, _⟩ := h; rw [e]; rfl))
section
variable {P : Program} {w : World} {K : PySem.W.Frag} {mg : Str → Option Value} {base : Heap} {ad : Ad}
/-! ### what is reached -/
def Wf (tbl : List Nd) : Prop := ∀ (i : Nat) nd, tbl[i]? = some nd → ∀ p ∈ nd.parts, p < i
inductive Rch (tbl : List Nd) (n : Nat) : Nat → Prop
  | refl : Rch tbl n n
  | step {m p : Nat} {nd : Nd} : Rch tbl n m → tbl[m]? = some nd → p ∈ nd.parts → Rch tbl n p
theorem Rch.le {tbl : List Nd} {n m : Nat} (wf : Wf tbl) (h : Rch tbl n m) : m ≤ n := by
  induction h with
  | refl => exact Nat.le_refl _
  | step _ e hp ih => have := wf _ _ e _ hp; omega
theorem Rch.in_ {tbl : List Nd} {n : Nat} {fs : List Nat} (h0 : n ∈ fs) (hc : ∀ m ∈ fs, ∀ nd, tbl[m]? = some nd → ∀ p ∈ nd.parts, p ∈ fs) : ∀ m, Rch tbl n m → m ∈ fs := fun m h => by
  induction h with
  | refl => exact h0
  | step _ e hp ih => exact hc _ ih _ e _ hp
def dlen : Option HO → Nat
  | some (.dK kvs) => kvs.length
  | _ => 0
def llen : Option HO → Nat
  | some (.lst xs) => xs.length
  | _ => 0
abbrev kvF (fs : List Nat) : List (Key × V) := fs.map fun (m : Nat) => (.inl (m : Int), .bl true)
theorem valV_F (m : Nat) : ∀ fs : List Nat, valV (kvF fs) (.inl (m : Int)) = if m ∈ fs then some (.bl true) else none
  | [] => rfl
  | f :: fs => by
    have ih := valV_F m fs
    show valV ((Sum.inl (f : Int), V.bl true) :: kvF fs) (.inl (m : Int)) = _
    by_cases c : f = m
    · subst c
      rw [valV_pos rfl, if_pos (List.mem_cons_self ..)]
    · rw [valV_neg (fun z => c (by injection z with z; omega)), ih]
      by_cases d : m ∈ fs
      · rw [if_pos d, if_pos (List.mem_cons_of_mem _ d)]
      · rw [if_neg d, if_neg (fun z => by
          rcases List.mem_cons.mp z with z | z
          · exact c z.symm
          · exact d z)]
theorem put_F {m : Nat} {fs : List Nat} (h : ¬ m ∈ fs) : putK (kvF fs) (.inl (m : Int)) (.bl true) = kvF (fs ++ [m]) := by
  rw [putK_new _ (by rw [valV_F, if_neg h]), kvF, kvF, List.map_append]
  rfl
theorem go_sq {a u : TS} {D : Ends} {σ : L2.St} {H : Hp} (h : a { D with nx := fun σ' H' => u D σ' H' } σ H) : tSeq a u D σ H := h
def Cl (tbl : List Nd) (fs : List Nat) (x : Nat) : Prop := ∀ nd, tbl[x]? = some nd → ∀ p ∈ nd.parts, p ∈ fs
structure Dfs (tbl : List Nd) (n : Nat) (F Wd : Addr) (H : Hp) (fs ws : List Nat) (H' : Hp) : Prop where
  same : Same H H'
  f : H' F = some (.dK (kvF fs))
  w : H' Wd = some (.lst (nV ws))
  nd : fs.Nodup
  n_ : n ∈ fs
  r : ∀ m ∈ fs, Rch tbl n m
  ws_ : ∀ m ∈ ws, m ∈ fs
  cl : ∀ m ∈ fs, ¬ m ∈ ws → Cl tbl fs m
  wl : ws.length ≤ fs.length
theorem sortN_perm (ns : List Nat) : (sortN ns).Perm ns := by
  have h := (PySem.W.sortI_perm (ns.map fun (n : Nat) => (n : Int))).map Int.toNat
  rw [List.map_map] at h
  have e : ns.map (Int.toNat ∘ fun (n : Nat) => (n : Int)) = ns := (List.map_congr_left fun n _ => Int.toNat_natCast n).trans (List.map_id _)
  rw [e] at h
  exact h
theorem sortN_rises (ns : List Nat) : (sortN ns).Pairwise (· ≤ ·) := by
  have h := PySem.W.sortI_rises (ns.map fun (n : Nat) => (n : Int))
  exact h.map Int.toNat fun a b hab => by omega
section
variable {X : Cx}
def rNotD : R2 := fun y x H Q => ∃ a o, x = .ref a ∧ DGet H a y o ∧ Q (.bl (!o.isSome)) H
theorem op_notD (hu : X.A.units + 1 < cLine) : OpR X (compareOp .NotIn) rNotD := by
  intro pins s σ H y x u v Q I ry rx h
  obtain ⟨a, o, rfl, g, q⟩ := h
  cases rx
  exact d_notIn hu I g ry fun s3 I3 => ⟨.bl (!o.isSome), H, I3, rfl, q⟩
end
theorem dc_list {K : PySem.W.Frag} {a : Addr} {xs : List V} {g : TG} {tt : TT} {tk tv : TE} {vs : List Nat} {σ : L2.St} {H1 : Hp} {D : Addr} {Qd : Hp → Prop} (Pv : Nat → Hp → Prop) (h0 : Pv 0 (upd H1 D (.dK []))) (hl : ∀ i H, i ≤ xs.length → Pv i H → SqL K H a xs)
    (hs : ∀ i x H, xs[i]? = some x → Pv i H → g x (wipe σ vs) H fun σ2 H2 => wipe σ2 vs = wipe σ vs ∧ tt σ2 H2 fun b H3 =>
      if b = true then tk σ2 H3 fun y H4 => tv σ2 H4 fun z H5 => ∃ kvs k, y = kV k ∧ H5 D = some (.dK kvs) ∧ kvs.length < sizeLine ∧ Pv (i + 1) (upd H5 D (.dK (putK kvs k z))) else Pv (i + 1) H3) (hd : ∀ H, Pv xs.length H → Qd H) :
    ∃ W : Nat → Nat → Hp → Prop, (∃ m, W 0 m (upd H1 D (.dK []))) ∧ ∀ i m H, W i m H →
      ((Itl K a).stop i H ∧ Qd H) ∨ ((Itl K a).go i H ∧ ∃ Nx : Hp → Prop, (∀ H', Nx H' → ∃ m', m' < m ∧ W (i + 1) m' H') ∧ ∀ x H', (Itl K a).yld i H x H' → g x (wipe σ vs) H' fun σ2 H2 => wipe σ2 vs = wipe σ vs ∧ tt σ2 H2 fun b H3 =>
        if b = true then tk σ2 H3 fun y H4 => tv σ2 H4 fun z H5 => ∃ kvs k, y = kV k ∧ H5 D = some (.dK kvs) ∧ kvs.length < sizeLine ∧ Nx (upd H5 D (.dK (putK kvs k z))) else Nx H3) := by
  refine ⟨fun i m H => m = xs.length - i ∧ i ≤ xs.length ∧ Pv i H, ⟨xs.length, by simp, Nat.zero_le _, h0⟩, ?_⟩
  rintro i m H ⟨rfl, hi, p⟩
  have q := hl i H hi p
  by_cases hlt : i < xs.length
  · refine .inr ⟨⟨xs, xs[i], q, by simp [hlt]⟩, Pv (i + 1), fun H' p' => ⟨xs.length - (i + 1), by omega, rfl, hlt, p'⟩, fun x H' y => ?_⟩
    obtain ⟨e, y⟩ := y
    subst e
    exact hs i x _ (y xs q) p
  · have e : i = xs.length := by omega
    subst e
    exact .inl ⟨⟨xs, q, Nat.le_refl _⟩, hd H p⟩
def spWithin (P : Program) (w : World) (C : Addr) : Sp := fun vs H Q _ => ∃ c S D tbl, ∃ (L : Addr) (n : Nat), vs = [.ref c, .ref L] ∧ Circ P w C H c S D tbl ∧ Wf tbl ∧ tbl.length < 64 ∧ n < tbl.length ∧ H L = some (.lst [.int (n : Int)]) ∧
  ∀ H' l ys, Same H H' → H l = none → H' l = some (.lst (nV ys)) → ys.Nodup → ys.Pairwise (· ≤ ·) → (∀ m, m ∈ ys ↔ Rch tbl n m) → Q (.ref l) H'
theorem ok_nodes_within (c_parts : CalX P w K mg base 1 "_parts" spParts) (m_shown : MetX P w K mg base 1 ad.Circuits "shown" (spShown P w ad.Circuits)) {f : Addr} {fd : FuncData} (F : Fun K "nodes_within" "nodes_within" s_nodes_within f fd) (T : Txt K mg ad) : FnOk P w K mg base (L2.CX P w) 2 f fd ["circuits", "nodes"] (spWithin P w ad.Circuits) := by
  refine F.okX sc_nodes_within (fun vs H Q E => ?_) (fun cdv A outer s H vs Q E hr h => ?_)
  · walk_at "len"
  ·
    obtain ⟨c, S, D, tbl, L, n, rfl, cc, wf, hl, hn, hL, k⟩ := h
    refine ⟨_, (pss_cons (DCx.ps_setDc (i := 2) (own := [("node", 4)]) (tt := tYes) rfl sc_nodes_within.nd rfl rfl (DCx.swd_true rfl rfl rfl (by decide +kernel)) (pi_list (pv 1)) (blkOk_by (by kernel_rfl)) (fun _ _ _ _ _ => (pg_name (i := 4) sc_nodes_within.nd rfl (by first | exact Or.inl rfl | exact Or.inr rfl))) (fun _ _ _ _ _ => pts_nil) (fun _ _ _ _ _ => (pv 4)) (fun _ _ _ _ _ => pe_bl))
      (pss_cons (ps_set (i := 3) sc_nodes_within.nd rfl (by first | exact Or.inl rfl | exact Or.inr rfl) (pe_callTy (call_listD rfl) (by rfl) T.z_list (by decide +kernel) (pa_cons (pv 2) pa_nil)))
      (pss_cons (ps_while (passes_of rfl) (pt_truth (pv 3) (by intro _; rfl)) (pss_cons (ps_set (i := 4) sc_nodes_within.nd rfl (by first | exact Or.inl rfl | exact Or.inr rfl) (pe_bm0 PySem.F.plainAttrs_list PySem.F.slot_list_pop PySem.F.type_list_pop mt_pop (pv 3)))
      (pss_one (ps_for (passes_of rfl) rfl (pi_tup (pc_call c_parts hr (by first | decide | omega) (takes_of rfl rfl rfl rfl) (by rfl) (pa_cons (pd_meth hr (takes_of rfl rfl rfl rfl) (pv 0) (pa_cons (pv 4) pa_nil)) pa_nil))) (pg_name (i := 5) sc_nodes_within.nd rfl (by first | exact Or.inl rfl | exact Or.inr rfl)) (pss_one (ps_if (pt_cmpR (op_notD (hu_of hr)) (pv 5) (pv 2) (by rfl)) (pss_cons (ps_dput (hu_of hr) (pv 2) (pv 5) pe_bl rfl)
      (pss_one (ps_expr (pe_bm PySem.F.plainAttrs_list PySem.F.slot_list_append PySem.F.type_list_append mt_append (pv 3) (pa_cons (pv 5) pa_nil))))) pss_nil))))))
      (pss_one (ps_ret (pe_callB (call_sortedDI rfl) (by rfl) T.z_sorted (by decide +kernel) (pa_cons (pv 2) pa_nil))))))), ?_⟩
    obtain ⟨dx, hc⟩ := cc.ins
    have lenB : ∀ {fs : List Nat}, fs.Nodup → (∀ m ∈ fs, Rch tbl n m) → fs.length ≤ tbl.length := fun hnd hr => by
      have h1 := hnd.length_le_of_subset (l₂ := List.range tbl.length) fun m hm => List.mem_range.mpr (Nat.lt_of_le_of_lt ((hr m hm).le wf) hn)
      rwa [List.length_range] at h1
    refine ⟨_, rfl, L, rfl, ⟨_, SqL.of hL⟩, fun F hF => ?_⟩
    refine dc_list (xs := [.int (n : Int)]) (fun i H' => Same H H' ∧ H' F = some (.dK (kvF (([n] : List Nat).take i)))) ⟨same_new (Same.refl _) hF, upd_same⟩ (fun i H' _ ⟨s', _⟩ => SqL.of (s' _ _ hL)) (fun i x H' hx ⟨s', e⟩ => ?_) (fun H1 ⟨s1, e1⟩ => ?_)
    · obtain rfl : i = 0 := by
        rcases i with _ | i
        · rfl
        · simp at hx
      obtain rfl : V.int (n : Int) = x := by simpa using hx
      refine ⟨rfl, yes_then (iteT ⟨_, rfl, [], .inl (n : Int), rfl, e, (show 0 < sizeLine by decide), ?_, ?_⟩)⟩
      · exact same_but hF s' fun b o nb e => by rw [upd_ne nb]; exact e
      · rw [upd_same]; rfl
    · refine go_name rfl (go_nx (go_seq ⟨_, rfl, F, _, rfl, .inl e1, fun Wd hW => go_name rfl ?_⟩))
      have nFW : F ≠ Wd := ne_of_none e1 hW
      have hWH : H Wd = none := by
        cases h : H Wd with
        | none => rfl
        | some u => have := s1 _ _ h; rw [hW] at this; cases this
      refine go_sq ?_
      refine while_by (fun σ H' => ∃ (fs ws : List Nat) (vn vp : Option V), σ = [some (.ref c), some (.ref L), some (.ref F), some (.ref Wd), vn, vp] ∧ Dfs tbl n F Wd H fs ws H')
        (fun _ H' => 2 * (tbl.length - dlen (H' F)) + llen (H' Wd)) ⟨[n], [n], none, none, rfl, ?_⟩ ?_ (fun σ H Q Q' hq ⟨v, e, k, t, q⟩ => ⟨v, e, k, t, hq _ _ q⟩)
      · refine ⟨new2 s1 hW, by (rw [upd_ne nFW]; exact e1), upd_same, by simp, by simp, ?_, fun m h => h, fun m h h' => absurd h h', Nat.le_refl _⟩
        intro m h
        rw [List.mem_singleton.mp h]
        exact .refl
      · rintro σ H' ⟨fs, ws, vn, vp, rfl, dd⟩
        refine ⟨_, rfl, _, .inl ⟨_, SqL.of dd.w, rfl⟩, ?_⟩
        rcases List.eq_nil_or_concat ws with rfl | ⟨ws0, m, rfl⟩
        · refine iteF (go_nx ?_)
          refine ⟨_, rfl, F, kvF fs, fs.map (fun (m : Nat) => (m : Int)), rfl, .inl dd.f, by (rw [List.map_map, List.map_map]; rfl), ?_, fun ys q hp hs hq => ?_⟩
          · rw [List.length_map]
            exact Nat.lt_of_le_of_lt (lenB dd.nd dd.r) hl
          · rw [sortN_of hp hs, int_map]
            exact k _ q (sortN fs) (new2 dd.same hq) (by cases hh : H q with | none => rfl | some u => rw [dd.same _ _ hh] at hq; cases hq) upd_same ((sortN_perm fs).nodup_iff.mpr dd.nd) (sortN_rises fs) fun m => ((sortN_perm fs).mem_iff).trans ⟨dd.r m, Rch.in_ dd.n_ (fun x hx => dd.cl x hx (fun z => nomatch z)) m⟩
        · have hm : m ∈ fs := dd.ws_ m (by simp)
          have wl := dd.wl
          rw [List.concat_eq_append, List.length_append, List.length_singleton] at wl
          have hml : m < tbl.length := Nat.lt_of_le_of_lt ((dd.r m hm).le wf) hn
          have hnd : tbl[m]? = some tbl[m] := List.getElem?_eq_getElem hml
          have e0 : nV (ws0.concat m) = nV ws0 ++ [V.int (m : Int)] := by
            rw [List.concat_eq_append]
            unfold nV
            rw [List.map_append]
            rfl
          rw [show (!(nV (ws0.concat m)).isEmpty) = true by rw [e0]; simp]
          refine iteT ?_
          refine go_seq ⟨_, rfl, .inl ⟨rfl, _, SqL.of dd.w⟩, Wd, _, .int (m : Int), rfl, rfl, dd.w, (by rw [e0]; simp), go_name rfl ?_⟩
          rw [e0, List.dropLast_concat]
          have s1 : Same H (upd H' Wd (.lst (nV ws0))) := same_but hWH dd.same fun b o nb e => by rw [upd_ne nb]; exact e
          have cc1 := cc.same s1
          have hc1 := s1 _ _ hc
          refine ⟨_, rfl, c, _, dx, _, 1, _, rfl, hc1, fC_no _ _ (by decide) (by decide), by decide, m_shown, _, rfl, c, S, D, tbl, m, _, rfl, cc1, hnd, fun a ha => ⟨a, _, rfl, ha, fun H2 l s2 e2 => ?_⟩⟩
          refine ⟨l, rfl, ⟨_, SqT.of e2⟩, ?_⟩
          refine for_tup (xs := nV tbl[m].parts) (fun i σ H3 => ∃ (fs' ws' : List Nat) (vp : Option V), σ = [some (.ref c), some (.ref L), some (.ref F), some (.ref Wd), some (.int (m : Int)), vp] ∧ Same H H3 ∧ H3 l = some (.tup (nV tbl[m].parts)) ∧
              H3 F = some (.dK (kvF fs')) ∧ H3 Wd = some (.lst (nV ws')) ∧ fs'.Nodup ∧ n ∈ fs' ∧ (∀ m ∈ fs', Rch tbl n m) ∧ (∀ m ∈ ws', m ∈ fs') ∧ (∀ x ∈ fs', ¬ x ∈ ws' → x = m ∨ Cl tbl fs' x) ∧ m ∈ fs' ∧
              (∀ (j p : Nat), j < i → tbl[m].parts[j]? = some p → p ∈ fs') ∧ ws'.length + fs.length = ws0.length + fs'.length ∧ fs.length ≤ fs'.length)
            ⟨fs, ws0, vp, rfl, ?_⟩ (fun i σ H3 _ ⟨_, _, _, _, _, e, _⟩ => SqT.of e) ?_ ?_
          · refine ⟨fun b u e => s2 _ _ (s1 _ _ e), e2, s2 _ _ (by rw [upd_ne nFW]; exact dd.f), s2 _ _ upd_same, dd.nd, dd.n_, dd.r, fun x hx => dd.ws_ x (by simp [hx]), fun x hx nx => ?_, hm, fun j p hj => by omega, by omega, Nat.le_refl _⟩
            by_cases z : x = m
            · exact .inl z
            · exact .inr (dd.cl x hx (by simp [nx, z]))
          · rintro i x σ H3 hx ⟨fs', ws', vp', rfl, s3, e3, f3, w3, nd3, n3, r3, ws3, cl3, m3, p3, l3, le3⟩
            rw [List.getElem?_map] at hx
            obtain ⟨q, hq, rfl⟩ := Option.map_eq_some_iff.mp hx
            refine go_name rfl ?_
            refine ⟨_, rfl, _, rfl, F, _, rfl, DGet.k (k := .inl (q : Int)) f3, ?_⟩
            rw [valV_F]
            by_cases hin : q ∈ fs'
            · rw [if_pos hin]
              refine ⟨_, rfl, iteF ?_⟩
              refine go_nx ⟨fs', ws', _, rfl, s3, e3, f3, w3, nd3, n3, r3, ws3, cl3, m3, fun j p hj hp => ?_, l3, le3⟩
              by_cases z : j = i
              · subst z
                rw [hq] at hp
                cases hp
                exact hin
              · exact p3 j p (by omega) hp
            · rw [if_neg hin]
              refine ⟨_, rfl, iteT ?_⟩
              have lb3 := lenB nd3 r3
              refine ⟨_, rfl, _, rfl, F, _, rfl, DPut.k (k := .inl (q : Int)) f3 (by (show (kvF fs').length < sizeLine); rw [List.length_map]; exact Nat.lt_of_le_of_lt (by omega : fs'.length ≤ 64) (by decide)), ?_⟩
              rw [put_F hin]
              have wA : upd H3 F (.dK (kvF (fs' ++ [q]))) Wd = some (.lst (nV ws')) := by rw [upd_ne (Ne.symm nFW)]; exact w3
              have llb : ws'.length ≤ 200 := by
                have := lenB dd.nd dd.r
                omega
              have eW : nV ws' ++ [V.int (q : Int)] = nV (ws' ++ [q]) := by
                unfold nV
                rw [List.map_append]
                rfl
              have sF : Same H (upd H3 F (.dK (kvF (fs' ++ [q])))) := same_but hF s3 fun b o nb e => by rw [upd_ne nb]; exact e
              refine go_nx ⟨_, rfl, .inl ⟨rfl, _, SqL.of wA⟩, _, rfl, Wd, _, _, rfl, rfl, wA, (by rw [List.length_map]; exact Nat.lt_of_le_of_lt llb (by decide)), ?_⟩
              rw [eW]
              have nlF : l ≠ F := ne_of e3 f3 (fun z => nomatch z)
              have nlW : l ≠ Wd := ne_of e3 w3 (fun z => nomatch z)
              refine go_nx ⟨fs' ++ [q], ws' ++ [q], _, rfl, ?_, ?_, ?_, upd_same, ?_, List.mem_append_left _ n3, ?_, ?_, ?_, List.mem_append_left _ m3, ?_, ?_, ?_⟩
              · exact same_but hWH sF fun b o nb e => by rw [upd_ne nb]; exact e
              · rw [upd_ne nlW, upd_ne nlF]; exact e3
              · rw [upd_ne nFW, upd_same]
              · exact List.nodup_append.mpr ⟨nd3, by simp, fun a ha b hb z => hin (by rw [List.mem_singleton.mp hb] at z; rw [← z]; exact ha)⟩
              · intro x hx
                rcases List.mem_append.mp hx with h | h
                · exact r3 x h
                · rw [List.mem_singleton.mp h]
                  exact .step (dd.r m hm) hnd (List.mem_of_getElem? hq)
              · intro x hx
                rcases List.mem_append.mp hx with h | h
                · exact List.mem_append_left _ (ws3 x h)
                · exact List.mem_append_right _ h
              · intro x hx nx
                rcases List.mem_append.mp hx with h | h
                · rcases cl3 x h (fun z => nx (List.mem_append_left _ z)) with z | z
                  · exact .inl z
                  · exact .inr fun nd e p hp => List.mem_append_left _ (z nd e p hp)
                · exact absurd (List.mem_append_right _ h) nx
              · intro j p hj hp
                by_cases z : j = i
                · subst z
                  rw [hq] at hp
                  cases hp
                  simp
                · exact List.mem_append_left _ (p3 j p (by omega) hp)
              · rw [List.length_append, List.length_append, List.length_singleton]
                omega
              · rw [List.length_append]
                omega
          · rintro σ H3 ⟨fs', ws', vp', rfl, s3, e3, f3, w3, nd3, n3, r3, ws3, cl3, m3, p3, l3, le3⟩
            refine ⟨⟨fs', ws', _, _, rfl, ⟨s3, f3, w3, nd3, n3, r3, ws3, fun x hx nx => ?_, by omega⟩⟩, ?_⟩
            · rcases cl3 x hx nx with z | z
              · subst z
                intro nd e p hp
                rw [hnd] at e
                cases e
                obtain ⟨j, hj⟩ := List.mem_iff_getElem?.mp hp
                have hjl : j < tbl[x].parts.length := by
                  rcases Nat.lt_or_ge j tbl[x].parts.length with h | h
                  · exact h
                  · rw [List.getElem?_eq_none h] at hj; cases hj
                exact p3 j p (by rw [List.length_map]; exact hjl) hj
              · exact z
            · have lb3 := lenB nd3 r3
              have lb := lenB dd.nd dd.r
              show 2 * (tbl.length - dlen (H3 F)) + llen (H3 Wd) < 2 * (tbl.length - dlen (H' F)) + llen (H' Wd)
              rw [f3, w3, dd.f, dd.w, e0]
              simp only [dlen, llen, List.length_map, List.length_append, List.length_singleton]
              omega
end
end K14

set_option Elab.async false
set_option linter.all false
set_option maxRecDepth 100000
set_option maxHeartbeats 4000000
namespace K14
open PySem L2 Ew Tb SRm GxR ND
local macro_rules | `(tactic| walk_at "len") => `(tactic| first | (intro h; obtain ⟨_, e, _⟩ := h; rw [e]; rfl) | (intro h; obtain ⟨_, _, e, _⟩ := h; rw [e]; rfl) | (intro h; obtain ⟨_, _, _, e, _⟩ := h; rw [e]; rfl) | (intro h; obtain ⟨_, _, _, _, e, _⟩ := h; rw [e]; rfl) | (intro h; obtain ⟨_, _, _, _, _, e, _⟩ := h; rw [e]; rfl) | (intro h; obtain ⟨_, _, _, _, _, _, e, _⟩ := h; rw [e]; rfl) | (intro h; obtain ⟨_, _, _, _, _, _, _, e, _⟩ := h; rw [e]; rfl) | (intro h; obtain ⟨_, _, _, _, _, _, _, _, e, _⟩ := h; rw [e]; rfl) | (intro h; obtain ⟨_, _, _, _, _, _, _, _, _, e, _⟩ := h; rw [e]; rfl) | (intro h; obtain ⟨_, _, _, _, _, _, _, _, _, _, e, _⟩ := h; rw [e]; rfl) | (intro h; obtain ⟨_, _, _, _, _, _, _, _, _, _, _, e, _⟩ := h; rw [e]; rfl) | (intro h; obtain ⟨_, _, _, _, _, _, _, _, _, _, _, _, e, _⟩ := h; rw [e]; rfl) | (intro h; obtain ⟨_, _, _, _, _, _, _, _, _, _, _, _, _, e, _⟩ := h; rw [e]; rfl))
section
variable {P : Program} {w : World} {K : PySem.W.Frag} {mg : Str → Option Value} {base : Heap} {ad : Ad}
/-! ### a new store -/
theorem two_kv (a b : Addr) : kvOf (mergeE [] [(tK .zero, a, .int 0), (tK .one, b, .int 1)]) = kvT 0 [.zero, .one] := by
  rw [kv_merge]
  have n1 : ¬ (tK .zero = tK .one) := fun z => nomatch (tK_inj z)
  show putK (putK [] (tK .zero) (V.int 0)) (tK .one) (V.int 1) = _
  rw [putK_new (kvs := []) _ rfl, putK_new _ (by rw [List.nil_append, valV_neg n1]; rfl)]
  rfl
/-- all but what stands at c is as it was -/
def Fr1' (a : Addr) (H H' : Hp) : Prop := ∀ b o, b ≠ a → H b = some o → H' b = some o
def spInit (P : Program) (w : World) (C : Addr) : Sp := fun vs H Q _ => ∃ c dc, vs = [.ref c] ∧ H c = some (.ins C dc []) ∧
  ∀ H' S D, Fr1' c H H' → H S = none → H D = none → Circ P w C H' c S D [.zero, .one] → Q .non H'
theorem ok_Circuits_init  {f : Addr} {fd : FuncData} (F : Fun K "__init__" "Circuits.__init__" s_Circuits_init f fd) (T : Txt K mg ad) : FnOk P w K mg base (L2.CX P w) 1 f fd ["self"] (spInit P w ad.Circuits) := by
  refine F.okX sc_Circuits_init (fun vs H Q E => ?_) (fun cdv A outer s H vs Q E hr h => ?_)
  · walk_at "len"
  ·
    obtain ⟨c, dc, rfl, hc, k⟩ := h
    refine ⟨_, (pss_cons (ps_fld (pv 0) (pe_lst (pa_cons (pe_tup (pa_cons pe_str pa_nil)) (pa_cons (pe_tup (pa_cons pe_str pa_nil)) pa_nil))) rfl)
      (pss_one (ps_fld (pv 0) (ND.pe_ndisp (ND.hu9 hr) (pps_cons (pe_tup (pa_cons pe_str pa_nil)) (pe_gint (by rfl) T.g_ZERO) (pps_cons (pe_tup (pa_cons pe_str pa_nil)) (pe_gint (by rfl) T.g_ONE) pps_nil)) rfl rfl (by simp) (by decide)) rfl))), ?_⟩
    refine ⟨(show 1 ≤ sizeLine by decide), fun p1 hp1 => ⟨(show 1 ≤ sizeLine by decide), fun p2 hp2 => ⟨(show 2 ≤ sizeLine by decide), fun S hS => ?_⟩⟩⟩
    have t1 : Same H (upd H p1 (.tup [.str "zero"])) := same_new (Same.refl _) hp1
    have t2 := new2 (o := .tup [.str "one"]) t1 hp2
    have t3 := new2 (o := .lst [.ref p1, .ref p2]) t2 hS
    have hc1 := t3 _ _ hc
    have ncS : c ≠ S := ne_of_none (t2 _ _ hc) hS
    refine ⟨_, rfl, c, ad.Circuits, dc, [], rfl, hc1, T.c_Circuits, T.n_shown, by decide, go_nx ?_⟩
    intro D φ hD hA
    have none_of : ∀ {H1 H2 : Hp} {b : Addr}, Same H1 H2 → H2 b = none → H1 b = none := fun {H1 H2 b} s e => by
      cases h : H1 b with
      | none => rfl
      | some u => rw [s _ _ h] at e; cases e
    have f3 : Fr1' c H (upd (upd (upd (upd H p1 (.tup [.str "zero"])) p2 (.tup [.str "one"])) S (.lst [.ref p1, .ref p2])) c (.ins ad.Circuits dc (putF "_shown" (.ref S) []))) := fun b o nb e => by
      rw [upd_ne nb]
      exact t3 _ _ e
    have hcD : c ≠ D := fun z => by rw [← z, upd_same] at hD; cases hD
    refine ⟨(show 1 ≤ sizeLine by decide), fun q1 hq1 => ⟨(show 1 ≤ sizeLine by decide), fun q2 hq2 => ?_⟩⟩
    have g1 := same_new (o := .tup [.str "zero"]) (Same.refl _) hq1
    have g2 := new2 (o := .tup [.str "one"]) g1 hq2
    have hSD : S ≠ D := fun z => by rw [← z, upd_ne (Ne.symm ncS), upd_same] at hD; cases hD
    have eD := g2 _ _ (upd_same (a := D))
    have ez := g2 D
    have eQ1 := (same_new (o := .tup [.str "one"]) (Same.refl _) hq2) _ _ (upd_same (a := q1))
    have cx := g2 _ _ (show _ = some (HO.ins ad.Circuits dc (putF "_shown" (.ref S) [])) from (upd_ne hcD).trans upd_same)
    have sx := g2 _ _ (show _ = some (HO.lst [.ref p1, .ref p2]) from (upd_ne hSD).trans ((upd_ne (Ne.symm ncS)).trans upd_same))
    refine ⟨eD, [(tK .zero, q1, .int 0), (tK .one, q2, .int 1)], .cons (.tup eQ1 (.cons (.str _) .nil)) (by decide +kernel) (.cons (.tup upd_same (.cons (.str _) .nil)) (by decide +kernel) .nil), (show 2 ≤ 15 by decide), fun φ' hA' => ?_⟩
    rw [two_kv] at hA'
    refine ⟨_, rfl, c, ad.Circuits, dc, _, rfl, (upd_ne hcD).trans cx, T.c_Circuits, T.n_numbers, (show 1 < 1000 by decide), ?_⟩
    have tup1 : ∀ {b : Addr} {ys : List V}, upd (upd (upd H p1 (.tup [.str "zero"])) p2 (.tup [.str "one"])) S (.lst [.ref p1, .ref p2]) b = some (.tup ys) → b ≠ c ∧ b ≠ D := fun {b ys} e => by
      have n1 : b ≠ c := fun z => by rw [z, hc1] at e; cases e
      exact ⟨n1, fun z => by rw [← z, upd_ne n1, e] at hD; cases hD⟩
    refine k _ S D (fun b o nb e => ?_) (none_of t2 hS) ?_ ⟨⟨dc, upd_same⟩, ⟨[p1, p2], (upd_ne (Ne.symm ncS)).trans ((upd_ne hSD).trans sx), ?_⟩, hA'.keeps (fun u e => ?_) fun b ys e => ?_⟩
    · have nD : b ≠ D := fun z => by rw [z] at e nb; rw [f3 _ _ nb e] at hD; cases hD
      rw [upd_ne nb, upd_ne nD]
      exact g2 _ _ ((upd_ne nD).trans (f3 _ _ nb e))
    · cases h : H D with
      | none => rfl
      | some u => rw [f3 _ _ (Ne.symm hcD) h] at hD; cases hD
    · have a1 := (same_new (o := .lst [.ref p1, .ref p2]) (Same.refl _) hS) _ _ ((same_new (o := .tup [.str "one"]) (Same.refl _) hp2) _ _ (upd_same (a := p1)))
      have a2 := (same_new (o := .lst [.ref p1, .ref p2]) (Same.refl _) hS) _ _ (upd_same (a := p2))
      refine .cons (.tup (xs := [.str "zero"]) ?_ (.cons (.str _) .nil)) (.cons (.tup (xs := [.str "one"]) ?_ (.cons (.str _) .nil)) .nil)
      · rw [upd_ne (tup1 a1).1, upd_ne (tup1 a1).2]
        exact g2 _ _ (by rw [upd_ne (tup1 a1).2, upd_ne (tup1 a1).1]; exact a1)
      · rw [upd_ne (tup1 a2).1, upd_ne (tup1 a2).2]
        exact g2 _ _ (by rw [upd_ne (tup1 a2).2, upd_ne (tup1 a2).1]; exact a2)
    · rw [upd_ne (Ne.symm hcD)]; exact e
    · have n1 : b ≠ c := fun z => by rw [z, upd_ne hcD, cx] at e; cases e
      rw [upd_ne n1]; exact e
end
end K14

set_option Elab.async false
set_option linter.all false
set_option maxRecDepth 100000
set_option maxHeartbeats 4000000
namespace K14
open PySem L2 Ew Tb SRm GxR ND
local macro_rules | `(tactic| walk_at "len") => `(tactic| first | (intro h; obtain ⟨_, e, _⟩ := h; rw [e]; rfl) | (intro h; obtain ⟨_, _, e, _⟩ := h; rw [e]; rfl) | (intro h; obtain ⟨_, _, _, e, _⟩ := h; rw [e]; rfl) | (intro h; obtain ⟨_, _, _, _, e, _⟩ := h; rw [e]; rfl) | (intro h; obtain ⟨_, _, _, _, _, e, _⟩ := h; rw [e]; rfl) | (intro h; obtain ⟨_, _, _, _, _, _, e, _⟩ := h; rw [e]; rfl) | (intro h; obtain ⟨_, _, _, _, _, _, _, e, _⟩ := h; rw [e]; rfl) | (intro h; obtain ⟨_, _, _, _, _, _, _, _, e, _⟩ := h; rw [e]; rfl) | (intro h; obtain ⟨_, _, _, _, _, _, _, _, _, e, _⟩ := h; rw [e]; rfl) | (intro h; obtain ⟨_, _, _, _, _, _, _, _, _, _, e, _⟩ := h; rw [e]; rfl) | (intro h; obtain ⟨_, _, _, _, _, _, _, _, _, _, _, e, _⟩ := h; rw [e]; rfl) | (intro h; obtain ⟨_, _, _, _, _, _, _, _, _, _, _, _, e, _⟩ := h; rw [e]; rfl) | (intro h; obtain ⟨_, _, _, _, _, _, _, _, _, _, _, _, _, e, _⟩ := h; rw [e]; rfl))
/-! ### what a node makes -/
structure Alg where
  fact : Nat → Nat
  pl : List Nat → Nat
  tm : List Nat → Nat
  st : Nat → Option Nat
def allS (v : Nat → Option Nat) : List Nat → Option (List Nat)
  | [] => some []
  | p :: ps => match v p, allS v ps with
    | some x, some xs => some (x :: xs)
    | _, _ => none
def evV (A : Alg) (v : Nat → Option Nat) : Nd → Option Nat
  | .zero => some (A.pl [])
  | .one => some (A.tm [])
  | .fact k => some (A.fact k)
  | .star p => (v p).bind A.st
  | .plus ps => (allS v ps).map A.pl
  | .times ps => (allS v ps).map A.tm
/-- v tells what each node is worth -/
def Val (A : Alg) (tbl : List Nd) (v : Nat → Option Nat) : Prop := ∀ (i : Nat) nd, tbl[i]? = some nd → v i = evV A v nd
theorem allS_congr {v u : Nat → Option Nat} : ∀ {ps : List Nat}, (∀ p ∈ ps, v p = u p) → allS v ps = allS u ps
  | [], _ => rfl
  | p :: ps, h => by
    show (match v p, allS v ps with | some x, some xs => some (x :: xs) | _, _ => none) = (match u p, allS u ps with | some x, some xs => some (x :: xs) | _, _ => none)
    rw [h p (List.mem_cons_self ..), allS_congr fun q hq => h q (List.mem_cons_of_mem _ hq)]
theorem evV_congr {A : Alg} {v u : Nat → Option Nat} {nd : Nd} (h : ∀ p ∈ nd.parts, v p = u p) : evV A v nd = evV A u nd := by
  cases nd with
  | star p => show (v p).bind A.st = (u p).bind A.st; rw [h p (by simp [Nd.parts])]
  | plus ps => show (allS v ps).map A.pl = (allS u ps).map A.pl; rw [allS_congr (ps := ps) h]
  | times ps => show (allS v ps).map A.tm = (allS u ps).map A.tm; rw [allS_congr (ps := ps) h]
  | _ => rfl
theorem allS_some {v : Nat → Option Nat} {x : Nat → Nat} : ∀ {ps : List Nat}, (∀ p ∈ ps, v p = some (x p)) → allS v ps = some (ps.map x)
  | [], _ => rfl
  | p :: ps, h => by
    show (match v p, allS v ps with | some x, some xs => some (x :: xs) | _, _ => none) = _
    rw [h p (List.mem_cons_self ..), allS_some fun q hq => h q (List.mem_cons_of_mem _ hq)]
    rfl
theorem allS_none {v : Nat → Option Nat} : ∀ {ps : List Nat} {p : Nat}, p ∈ ps → v p = none → allS v ps = none
  | q :: ps, p, hp, h => by
    show (match v q, allS v ps with | some x, some xs => some (x :: xs) | _, _ => none) = _
    rcases List.mem_cons.mp hp with rfl | hp
    · rw [h]
    · rw [allS_none hp h]
      cases v q <;> rfl
/-- a part that is worth nothing leaves the node without worth -/
theorem ev_part {A : Alg} {v : Nat → Option Nat} {nd : Nd} {p : Nat} (hp : p ∈ nd.parts) (h : v p = none) : evV A v nd = none := by
  cases nd with
  | star q =>
    obtain rfl : p = q := by simpa [Nd.parts] using hp
    show (v p).bind A.st = none
    rw [h]; rfl
  | plus ps => show (allS v ps).map A.pl = none; rw [allS_none (ps := ps) hp h]; rfl
  | times ps => show (allS v ps).map A.tm = none; rw [allS_none (ps := ps) hp h]; rfl
  | _ => cases hp
theorem val_up {A : Alg} {tbl : List Nd} {v : Nat → Option Nat} (hv : Val A tbl v) {n m : Nat} (h : Rch tbl n m) (hm : v m = none) : v n = none := by
  induction h with
  | refl => exact hm
  | step _ e hp ih =>
    refine ih ?_
    rw [hv _ _ e]
    exact ev_part hp hm
def evF (A : Alg) (tbl : List Nd) : Nat → Nat → Option Nat
  | 0, _ => none
  | f + 1, i => match tbl[i]? with
    | none => none
    | some nd => evV A (evF A tbl f) nd
theorem evF_mono {A : Alg} {tbl : List Nd} (wf : Wf tbl) : ∀ (f i : Nat), i < f → evF A tbl f i = evF A tbl (i + 1) i := by
  intro f
  induction f using Nat.strongRecOn with
  | ind f ih =>
    intro i hi
    cases f with
    | zero => omega
    | succ f =>
      show (match tbl[i]? with | none => none | some nd => evV A (evF A tbl f) nd) = (match tbl[i]? with | none => none | some nd => evV A (evF A tbl i) nd)
      cases e : tbl[i]? with
      | none => rfl
      | some nd =>
        refine evV_congr fun p hp => ?_
        have hpi := wf i nd e p hp
        rw [ih f (Nat.lt_succ_self f) p (by omega)]
        by_cases c : i = f + 1
        · omega
        · exact (ih i (by omega) p hpi).symm
def val (A : Alg) (tbl : List Nd) (i : Nat) : Option Nat := evF A tbl (i + 1) i
theorem val_val {A : Alg} {tbl : List Nd} (wf : Wf tbl) : Val A tbl (val A tbl) := fun i nd e => by
  show (match tbl[i]? with | none => none | some nd => evV A (evF A tbl i) nd) = _
  rw [e]
  exact evV_congr fun p hp => evF_mono wf i p (wf i nd e p hp)
theorem val_uniq {A : Alg} {tbl : List Nd} (wf : Wf tbl) {v u : Nat → Option Nat} (hv : Val A tbl v) (hu : Val A tbl u) : ∀ i, i < tbl.length → v i = u i := by
  intro i
  induction i using Nat.strongRecOn with
  | ind i ih =>
    intro hi
    have e := List.getElem?_eq_getElem hi
    rw [hv i _ e, hu i _ e]
    refine evV_congr fun p hp => ?_
    have := wf i _ e p hp
    exact ih p this (by omega)
def Nd.word : Nd → Str
  | .zero => "zero"
  | .one => "one"
  | .fact _ => "fact"
  | .star _ => "star"
  | .plus _ => "plus"
  | .times _ => "times"
theorem Nd.vals0 (nd : Nd) (l : Addr) : (nd.vals l)[0]? = some (.str nd.word) := by cases nd <;> rfl
theorem nV_in {ps : List Nat} {i : Nat} {x : V} (h : (nV ps)[i]? = some x) : ∃ n : Nat, ps[i]? = some n ∧ x = .int (n : Int) := by
  rw [List.getElem?_map] at h
  obtain ⟨n, h1, h2⟩ := Option.map_eq_some_iff.mp h
  exact ⟨n, h1, h2.symm⟩
theorem nV_length (a : List Nat) : (nV a).length = a.length := List.length_map _
/-! ### the makers -/
def spMF (C : Addr) (ok : Hp → List (Str × V) → Prop) (fa : Nat → Prop) (g : Nat → Nat) : Sp := fun vs H Q _ => ∃ y dy fs, ∃ k : Nat, vs = [.ref y, .int (k : Int)] ∧ H y = some (.ins C dy fs) ∧ ok H fs ∧ fa k ∧ Q (.int (g k : Nat)) H
def spML (C : Addr) (ok : Hp → List (Str × V) → Prop) (el : Nat → Prop) (g : List Nat → Nat) : Sp := fun vs H Q _ => ∃ y dy fs L, ∃ xs : List Nat, vs = [.ref y, .ref L] ∧ H y = some (.ins C dy fs) ∧ ok H fs ∧ H L = some (.lst (nV xs)) ∧ (∀ x ∈ xs, el x) ∧ xs.length ≤ 1000 ∧ ∀ H', Same H H' → Q (.int (g xs : Nat)) H'
def spMS (C ns : Addr) (ok : Hp → List (Str × V) → Prop) (el : Nat → Prop) (g : Nat → Option Nat) : Sp := fun vs H Q E => ∃ y dy fs, ∃ x : Nat, vs = [.ref y, .int (x : Int)] ∧ H y = some (.ins C dy fs) ∧ ok H fs ∧ el x ∧ (∀ s, g x = some s → Q (.int (s : Nat)) H) ∧ (g x = none → E (.ref ns) none H)
structure MakerX (P : Program) (w : World) (K : PySem.W.Frag) (mg : Str → Option Value) (base : Heap) (C ns : Addr) (ok : Hp → List (Str × V) → Prop) (fa el : Nat → Prop) (A : Alg) : Prop where
  no : ∀ H fs, ok H fs → fs.lookup ("fact" : Str) = none ∧ fs.lookup ("plus" : Str) = none ∧ fs.lookup ("times" : Str) = none ∧ fs.lookup ("star" : Str) = none
  same : ∀ H H' fs, ok H fs → Same H H' → ok H' fs
  fact : MetX P w K mg base 5 C "fact" (spMF C ok fa A.fact)
  plus : MetX P w K mg base 5 C "plus" (spML C ok el A.pl)
  times : MetX P w K mg base 5 C "times" (spML C ok el A.tm)
  star : MetX P w K mg base 5 C "star" (spMS C ns ok el A.st)
  eF : ∀ k, fa k → el (A.fact k)
  eP : ∀ xs, (∀ x ∈ xs, el x) → el (A.pl xs)
  eT : ∀ xs, (∀ x ∈ xs, el x) → el (A.tm xs)
  eS : ∀ x s, el x → A.st x = some s → el s
theorem MakerX.el {C ns : Addr} {P : Program} {w : World} {K : PySem.W.Frag} {mg : Str → Option Value} {base : Heap} {ok : Hp → List (Str × V) → Prop} {fa el : Nat → Prop} {A : Alg} (M : MakerX P w K mg base C ns ok fa el A) {x : Nat → Nat} {nd : Nd} {r : Nat} (hx : ∀ p ∈ nd.parts, el (x p)) (hf : ∀ k, nd = .fact k → fa k) (e : evV A (fun p => some (x p)) nd = some r) : el r := by
  cases nd with
  | zero => cases e; exact M.eP [] (fun _ z => nomatch z)
  | one => cases e; exact M.eT [] (fun _ z => nomatch z)
  | fact k => cases e; exact M.eF k (hf k rfl)
  | star p => exact M.eS _ _ (hx p (by simp [Nd.parts])) e
  | plus ps =>
    have e' : (allS (fun p => some (x p)) ps).map A.pl = some r := e
    rw [allS_some (x := x) fun _ _ => rfl] at e'
    cases e'
    exact M.eP _ fun y hy => let ⟨p, hp, e⟩ := List.mem_map.mp hy; e ▸ hx p hp
  | times ps =>
    have e' : (allS (fun p => some (x p)) ps).map A.tm = some r := e
    rw [allS_some (x := x) fun _ _ => rfl] at e'
    cases e'
    exact M.eT _ fun y hy => let ⟨p, hp, e⟩ := List.mem_map.mp hy; e ▸ hx p hp
section
variable {P : Program} {w : World} {K : PySem.W.Frag} {mg : Str → Option Value} {base : Heap} {ad : Ad}
section
variable {C ns : Addr} {ok : Hp → List (Str × V) → Prop} {fa el : Nat → Prop} {AA : Alg}
def spMade (C ns : Addr) (ok : Hp → List (Str × V) → Prop) (fa el : Nat → Prop) (A : Alg) : Sp := fun vs H Q E => ∃ a M mk dx fs nd kvs, ∃ x : Nat → Nat, vs = [.ref a, .ref M, .ref mk] ∧ NdAt H a nd ∧ H M = some (.dK kvs) ∧ H mk = some (.ins C dx fs) ∧ ok H fs ∧ (∀ p ∈ nd.parts, valV kvs (.inl (p : Int)) = some (.int (x p : Nat)) ∧ el (x p)) ∧ (∀ k, nd = .fact k → fa k) ∧ nd.parts.length ≤ 1000 ∧
  (∀ H' r, Same H H' → evV A (fun p => some (x p)) nd = some r → Q (.int (r : Nat)) H') ∧ (∀ H', Same H H' → evV A (fun p => some (x p)) nd = none → E (.ref ns) none H')
theorem ok_made (M : MakerX P w K mg base C ns ok fa el AA) (c_parts : CalX P w K mg base 1 "_parts" spParts) {f : Addr} {fd : FuncData} (F : Fun K "_made" "_made" s_made f fd) (T : Txt K mg ad) : FnOk P w K mg base (L2.CX P w) 6 f fd ["shown", "made", "maker"] (spMade C ns ok fa el AA) := by
  refine F.okX sc_made (fun vs H Q E => ?_) (fun cdv A outer s H vs Q E hr h => ?_)
  · walk_at "len"
  ·
    obtain ⟨a, Md, mk, dx, fs, nd, kvs, x, rfl, ha, hM, hmk, hok, hx, hf, hl, k1, k2⟩ := h
    refine ⟨_, (pss_cons (ps_set (i := 3) sc_made.nd rfl (by first | exact Or.inl rfl | exact Or.inr rfl) (pe_ix ix_tup (pv 0) pe_int (fun _ _ => rfl)))
      (pss_cons (ps_if (pt_cmpR op_eq (pv 3) pe_str (nomark _)) (pss_one (ps_ret (pd_meth hr (takes_of rfl rfl rfl rfl) (pv 2) (pa_cons (pe_ix ix_tup (pv 0) pe_int (fun _ _ => rfl)) pa_nil)))) pss_nil)
      (pss_cons (ps_if (pt_cmpR op_eq (pv 3) pe_str (nomark _)) (pss_one (ps_ret (pd_meth hr (takes_of rfl rfl rfl rfl) (pv 2) (pa_cons (pe_dget (hu_of hr) (pv 1) (pe_ix ix_tup (pv 0) pe_int (fun _ _ => rfl)) (fun _ _ => rfl)) pa_nil)))) pss_nil)
      (pss_cons (ps_setLc (i := 4) (own := [("part", 5)]) (tt := tYes) rfl sc_made.nd rfl rfl (sw_true rfl rfl rfl (by decide +kernel)) (pi_tup (pc_call c_parts hr (by first | decide | omega) (takes_of rfl rfl rfl rfl) (by rfl) (pa_cons (pv 0) pa_nil))) (blkOk_by (by kernel_rfl)) (fun _ _ _ _ _ => (pg_name (i := 5) sc_made.nd rfl (by first | exact Or.inl rfl | exact Or.inr rfl))) (fun _ _ _ _ _ => pts_nil) (fun _ _ _ _ _ => (pe_dget (hu_of hr) (pv 1) (pv 5) (fun _ _ => rfl))))
      (pss_cons (ps_if (pt_cmpR op_in_seq (pv 3) (pe_tup (pa_cons pe_str (pa_cons pe_str pa_nil))) (by rfl)) (pss_one (ps_ret (pd_meth hr (takes_of rfl rfl rfl rfl) (pv 2) (pa_cons (pv 4) pa_nil)))) pss_nil)
      (pss_one (ps_ret (pd_meth hr (takes_of rfl rfl rfl rfl) (pv 2) (pa_cons (pv 4) pa_nil))))))))), ?_⟩
    obtain ⟨l, el_, hin⟩ := ha.inv
    obtain ⟨n1, n2, n3, n4⟩ := M.no H fs hok
    have lcp : ∀ (ps : List Nat) (D L : Addr) (H2 : Hp), H2 D = none → H2 L = some (.tup (nV ps)) → Same H H2 → (∀ p ∈ ps, valV kvs (.inl (p : Int)) = some (.int (x p : Nat)) ∧ el (x p)) → ps.length ≤ 1000 → ∀ {te : TE} {σ : L2.St} {vs : List Nat} {kx : Nat},
        (∀ (i : Nat) (H3 : Hp) (Kt : VK) (v : V) (n : Nat), ps[i]? = some n → Same H2 H3 → valV kvs (.inl (n : Int)) = some v → Kt v H3 → te ((wipe σ vs).set kx (some (.int (n : Int)))) H3 Kt) → (∀ z, wipe ((wipe σ vs).set kx (some z)) vs = wipe σ vs) → ∀ {Qd : Hp → Prop},
        (∀ H3, Same H2 H3 → H3 D = some (.lst (nV (ps.map x))) → Qd H3) → ∃ W : Nat → Nat → Hp → Prop, (∃ m, W 0 m (upd H2 D (.lst []))) ∧ ∀ i m H, W i m H →
      ((Itt K L).stop i H ∧ Qd H) ∨ ((Itt K L).go i H ∧ ∃ Nx : Hp → Prop, (∀ H', Nx H' → ∃ m', m' < m ∧ W (i + 1) m' H') ∧ ∀ x H', (Itt K L).yld i H x H' → gName kx x (wipe σ vs) H' fun σ2 H2 => wipe σ2 vs = wipe σ vs ∧ tYes σ2 H2 fun b H3 =>
        if b = true then te σ2 H3 fun y H4 => ∃ acc, H4 D = some (.lst acc) ∧ acc.length < sizeLine ∧ Nx (upd H4 D (.lst (acc ++ [y]))) else Nx H3) := by
      intro ps D L H2 hD hL s2 hp hlp te σ vs kx ht hw Qd hd
      refine lc_tup (xs := nV ps) (fun i H3 => Same H2 H3 ∧ H3 D = some (.lst (nV ((ps.take i).map x)))) ⟨same_new (Same.refl _) hD, upd_same⟩ (fun i H3 _ ⟨s3, _⟩ => SqT.of (s3 _ _ hL)) (fun i y H3 hy ⟨s3, e3⟩ => ?_) (fun H3 ⟨s3, e3⟩ => ?_)
      · obtain ⟨n, hn, rfl⟩ := nV_in hy
        have hi : i < ps.length := (List.getElem?_eq_some_iff.mp hn).1
        refine ⟨hw _, yes_then (iteT (ht i H3 _ _ n hn s3 (hp n (List.mem_of_getElem? hn)).1 ⟨_, e3, ?_, same_but hD s3 but_app, ?_⟩))⟩
        · have := List.length_take_le i ps
          rw [nV_length, List.length_map]
          exact Nat.lt_of_le_of_lt (by omega : _ ≤ 1000) (by decide)
        · rw [upd_same, List.take_add_one, hn, List.map_append]
          show some (HO.lst (nV _ ++ nV [x n])) = _
          unfold nV
          rw [← List.map_append]
          rfl
      · rw [nV_length, List.take_length] at e3
        exact hd H3 s3 e3
    refine go_seq ⟨_, rfl, a, _, _, _, rfl, rfl, SqT.of el_, at_of (j := 0) rfl (nd.vals0 l), go_name rfl ?_⟩
    refine ⟨_, rfl, rfl, _, rfl, ?_⟩
    cases nd with
    | fact k =>
      exact iteT ⟨_, rfl, mk, C, dx, fs, 5, _, rfl, hmk, n1, by decide, M.fact, _, rfl, a, _, _, _, rfl, rfl, SqT.of el_, at_of (j := 1) rfl rfl, mk, dx, fs, k, rfl, hmk, hok, hf k rfl, k1 H _ (Same.refl _) rfl⟩
    | star p =>
      have hp := hx p (by simp [Nd.parts])
      refine iteF (go_next ⟨_, rfl, rfl, _, rfl, iteT ?_⟩)
      exact ⟨_, rfl, mk, C, dx, fs, 5, _, rfl, hmk, n4, by decide, M.star, _, rfl, _, rfl, a, _, _, _, rfl, rfl, SqT.of el_, at_of (j := 1) rfl rfl, Md, _, rfl, by have := DGet.k (k := .inl (p : Int)) hM; rw [hp.1] at this; exact this, mk, dx, fs, x p, rfl, hmk, hok, hp.2, fun s hs => k1 H s (Same.refl _) hs, fun hn => k2 H (Same.refl _) hn⟩
    | zero =>
      refine iteF (go_next ⟨_, rfl, rfl, _, rfl, iteF (go_next ?_)⟩)
      refine go_seq ⟨_, rfl, a, .zero, rfl, ha, fun H2 l2 s2 e2 => ⟨l2, rfl, ⟨_, SqT.of e2⟩, fun D hD => ?_⟩⟩
      refine lcp ([] : List Nat) D l2 H2 hD e2 s2 (fun p hp => hx p hp) hl ?_ (fun _ => rfl) fun H3 s3 e3 => go_name rfl ?_
      · intro i H3 Kt v n hn s3 hv kt
        exact ⟨_, rfl, _, rfl, Md, _, rfl, by have := DGet.k (k := .inl (n : Int)) (s3 _ _ (s2 _ _ hM)); rw [hv] at this; exact this, kt⟩
      have s03 : Same H H3 := fun b o e => s3 _ _ (s2 _ _ e)
      refine ⟨_, rfl, (show 2 ≤ sizeLine by decide), fun p hp => ⟨p, _, rfl, .inr (SqT.of upd_same), rfl, rfl, _, rfl, iteT ?_⟩⟩
      have s4 : Same H3 (upd H3 p (.tup [.str "zero", .str "plus"])) := same_new (Same.refl _) hp
      have s04 : Same H _ := fun b o e => s4 _ _ (s03 _ _ e)
      refine ⟨_, rfl, mk, C, dx, fs, 5, _, rfl, s04 _ _ hmk, n2, by decide, M.plus, _, rfl, mk, dx, fs, D, ([] : List Nat).map x, rfl, s04 _ _ hmk, M.same _ _ _ hok s04, s4 _ _ e3, ?_, by rw [List.length_map]; exact hl, fun H5 s5 => k1 H5 _ (fun b o e => s5 _ _ (s04 _ _ e)) rfl⟩
      intro y hy
      obtain ⟨q, hq, rfl⟩ := List.mem_map.mp hy
      exact (hx q hq).2
    | one =>
      refine iteF (go_next ⟨_, rfl, rfl, _, rfl, iteF (go_next ?_)⟩)
      refine go_seq ⟨_, rfl, a, .one, rfl, ha, fun H2 l2 s2 e2 => ⟨l2, rfl, ⟨_, SqT.of e2⟩, fun D hD => ?_⟩⟩
      refine lcp ([] : List Nat) D l2 H2 hD e2 s2 (fun p hp => hx p hp) hl ?_ (fun _ => rfl) fun H3 s3 e3 => go_name rfl ?_
      · intro i H3 Kt v n hn s3 hv kt
        exact ⟨_, rfl, _, rfl, Md, _, rfl, by have := DGet.k (k := .inl (n : Int)) (s3 _ _ (s2 _ _ hM)); rw [hv] at this; exact this, kt⟩
      have s03 : Same H H3 := fun b o e => s3 _ _ (s2 _ _ e)
      refine ⟨_, rfl, (show 2 ≤ sizeLine by decide), fun p hp => ⟨p, _, rfl, .inr (SqT.of upd_same), rfl, rfl, _, rfl, iteF ?_⟩⟩
      have s4 : Same H3 (upd H3 p (.tup [.str "zero", .str "plus"])) := same_new (Same.refl _) hp
      have s04 : Same H _ := fun b o e => s4 _ _ (s03 _ _ e)
      refine ⟨_, rfl, mk, C, dx, fs, 5, _, rfl, s04 _ _ hmk, n3, by decide, M.times, _, rfl, mk, dx, fs, D, ([] : List Nat).map x, rfl, s04 _ _ hmk, M.same _ _ _ hok s04, s4 _ _ e3, ?_, by rw [List.length_map]; exact hl, fun H5 s5 => k1 H5 _ (fun b o e => s5 _ _ (s04 _ _ e)) rfl⟩
      intro y hy
      obtain ⟨q, hq, rfl⟩ := List.mem_map.mp hy
      exact (hx q hq).2
    | plus ps =>
      refine iteF (go_next ⟨_, rfl, rfl, _, rfl, iteF (go_next ?_)⟩)
      refine go_seq ⟨_, rfl, a, .plus ps, rfl, ha, fun H2 l2 s2 e2 => ⟨l2, rfl, ⟨_, SqT.of e2⟩, fun D hD => ?_⟩⟩
      refine lcp ps D l2 H2 hD e2 s2 (fun p hp => hx p hp) hl ?_ (fun _ => rfl) fun H3 s3 e3 => go_name rfl ?_
      · intro i H3 Kt v n hn s3 hv kt
        exact ⟨_, rfl, _, rfl, Md, _, rfl, by have := DGet.k (k := .inl (n : Int)) (s3 _ _ (s2 _ _ hM)); rw [hv] at this; exact this, kt⟩
      have s03 : Same H H3 := fun b o e => s3 _ _ (s2 _ _ e)
      refine ⟨_, rfl, (show 2 ≤ sizeLine by decide), fun p hp => ⟨p, _, rfl, .inr (SqT.of upd_same), rfl, rfl, _, rfl, iteT ?_⟩⟩
      have s4 : Same H3 (upd H3 p (.tup [.str "zero", .str "plus"])) := same_new (Same.refl _) hp
      have s04 : Same H _ := fun b o e => s4 _ _ (s03 _ _ e)
      refine ⟨_, rfl, mk, C, dx, fs, 5, _, rfl, s04 _ _ hmk, n2, by decide, M.plus, _, rfl, mk, dx, fs, D, ps.map x, rfl, s04 _ _ hmk, M.same _ _ _ hok s04, s4 _ _ e3, ?_, by rw [List.length_map]; exact hl, fun H5 s5 => k1 H5 _ (fun b o e => s5 _ _ (s04 _ _ e)) (by show (allS (fun p => some (x p)) ps).map AA.pl = _; rw [allS_some (x := x) fun _ _ => rfl]; rfl)⟩
      intro y hy
      obtain ⟨q, hq, rfl⟩ := List.mem_map.mp hy
      exact (hx q hq).2
    | times ps =>
      refine iteF (go_next ⟨_, rfl, rfl, _, rfl, iteF (go_next ?_)⟩)
      refine go_seq ⟨_, rfl, a, .times ps, rfl, ha, fun H2 l2 s2 e2 => ⟨l2, rfl, ⟨_, SqT.of e2⟩, fun D hD => ?_⟩⟩
      refine lcp ps D l2 H2 hD e2 s2 (fun p hp => hx p hp) hl ?_ (fun _ => rfl) fun H3 s3 e3 => go_name rfl ?_
      · intro i H3 Kt v n hn s3 hv kt
        exact ⟨_, rfl, _, rfl, Md, _, rfl, by have := DGet.k (k := .inl (n : Int)) (s3 _ _ (s2 _ _ hM)); rw [hv] at this; exact this, kt⟩
      have s03 : Same H H3 := fun b o e => s3 _ _ (s2 _ _ e)
      refine ⟨_, rfl, (show 2 ≤ sizeLine by decide), fun p hp => ⟨p, _, rfl, .inr (SqT.of upd_same), rfl, rfl, _, rfl, iteF ?_⟩⟩
      have s4 : Same H3 (upd H3 p (.tup [.str "zero", .str "plus"])) := same_new (Same.refl _) hp
      have s04 : Same H _ := fun b o e => s4 _ _ (s03 _ _ e)
      refine ⟨_, rfl, mk, C, dx, fs, 5, _, rfl, s04 _ _ hmk, n3, by decide, M.times, _, rfl, mk, dx, fs, D, ps.map x, rfl, s04 _ _ hmk, M.same _ _ _ hok s04, s4 _ _ e3, ?_, by rw [List.length_map]; exact hl, fun H5 s5 => k1 H5 _ (fun b o e => s5 _ _ (s04 _ _ e)) (by show (allS (fun p => some (x p)) ps).map AA.tm = _; rw [allS_some (x := x) fun _ _ => rfl]; rfl)⟩
      intro y hy
      obtain ⟨q, hq, rfl⟩ := List.mem_map.mp hy
      exact (hx q hq).2
end
end
end K14

set_option Elab.async false
set_option linter.all false
set_option maxRecDepth 100000
set_option maxHeartbeats 4000000
namespace K14
open PySem L2 Ew Tb SRm GxR ND
local macro_rules | `(tactic| walk_at "len") => `(tactic| first | (intro h; obtain ⟨_, e, _⟩ := h; rw [e]; rfl) | (intro h; obtain ⟨_, _, e, _⟩ := h; rw [e]; rfl) | (intro h; obtain ⟨_, _, _, e, _⟩ := h; rw [e]; rfl) | (intro h; obtain ⟨_, _, _, _, e, _⟩ := h; rw [e]; rfl) | (intro h; obtain ⟨_, _, _, _, _, e, _⟩ := h; rw [e]; rfl) | (intro h; obtain ⟨_, _, _, _, _, _, e, _⟩ := h; rw [e]; rfl) | (intro h; obtain ⟨_, _, _, _, _, _, _, e, _⟩ := h; rw [e]; rfl) | (intro h; obtain ⟨_, _, _, _, _, _, _, _, e, _⟩ := h; rw [e]; rfl) | (intro h; obtain ⟨_, _, _, _, _, _, _, _, _, e, _⟩ := h; rw [e]; rfl) | (intro h; obtain ⟨_, _, _, _, _, _, _, _, _, _, e, _⟩ := h; rw [e]; rfl) | (intro h; obtain ⟨_, _, _, _, _, _, _, _, _, _, _, e, _⟩ := h; rw [e]; rfl) | (intro h; obtain ⟨_, _, _, _, _, _, _, _, _, _, _, _, e, _⟩ := h; rw [e]; rfl) | (intro h; obtain ⟨_, _, _, _, _, _, _, _, _, _, _, _, _, e, _⟩ := h; rw [e]; rfl))
section
variable {P : Program} {w : World} {K : PySem.W.Frag} {mg : Str → Option Value} {base : Heap} {ad : Ad}
section
variable {C ns : Addr} {ok : Hp → List (Str × V) → Prop} {fa el : Nat → Prop} {AA : Alg}
abbrev kvX (x : Nat → Nat) (ms : List Nat) : List (Key × V) := ms.map fun (m : Nat) => (.inl (m : Int), .int (x m : Nat))
theorem valV_X (x : Nat → Nat) (p : Nat) : ∀ ms : List Nat, p ∈ ms → valV (kvX x ms) (.inl (p : Int)) = some (.int (x p : Nat))
  | m :: ms, h => by
    show valV ((Sum.inl (m : Int), V.int (x m : Nat)) :: kvX x ms) (.inl (p : Int)) = _
    by_cases c : m = p
    · subst c; rw [valV_pos rfl]
    · rw [valV_neg (fun z => c (by injection z with z; omega))]
      exact valV_X x p ms ((List.mem_cons.mp h).resolve_left fun z => c z.symm)
theorem valV_X0 (x : Nat → Nat) (p : Nat) : ∀ ms : List Nat, ¬ p ∈ ms → valV (kvX x ms) (.inl (p : Int)) = none
  | [], _ => rfl
  | m :: ms, h => by
    show valV ((Sum.inl (m : Int), V.int (x m : Nat)) :: kvX x ms) (.inl (p : Int)) = _
    rw [valV_neg (fun z => h (by have : m = p := (by injection z with z; omega); rw [this]; exact List.mem_cons_self ..))]
    exact valV_X0 x p ms fun z => h (List.mem_cons_of_mem _ z)
theorem take_lt {ys : List Nat} (hs : ys.Pairwise (· ≤ ·)) {i m p : Nat} (hm : ys[i]? = some m) (hp : p ∈ ys) (h : p < m) : p ∈ ys.take i := by
  obtain ⟨j, hj⟩ := List.mem_iff_getElem?.mp hp
  have hjl := (List.getElem?_eq_some_iff.mp hj).1
  have hil := (List.getElem?_eq_some_iff.mp hm).1
  have hji : j < i := by
    refine Nat.not_le.mp fun hle => ?_
    rcases Nat.lt_or_ge i j with c | c
    · have := List.pairwise_iff_getElem.mp hs i j hil hjl c
      rw [List.getElem?_eq_getElem hjl] at hj
      rw [List.getElem?_eq_getElem hil] at hm
      cases hj; cases hm
      omega
    · have : i = j := by omega
      subst this
      rw [hm] at hj
      cases hj
      omega
  exact List.mem_of_getElem? (i := j) (by rw [List.getElem?_take, if_pos hji]; exact hj)
def spAll (P : Program) (w : World) (Cc C ns : Addr) (ok : Hp → List (Str × V) → Prop) (fa : Nat → Prop) (AA : Alg) : Sp := fun vs H Q E => ∃ c S D tbl L mk dx fs, ∃ n : Nat, ∃ v : Nat → Option Nat, vs = [.ref c, .ref L, .ref mk] ∧ Circ P w Cc H c S D tbl ∧ Wf tbl ∧ tbl.length < 64 ∧ n < tbl.length ∧ H L = some (.lst [.int (n : Int)]) ∧ H mk = some (.ins C dx fs) ∧ ok H fs ∧
  (∀ m k, Rch tbl n m → tbl[m]? = some (.fact k) → fa k) ∧ (∀ nd ∈ tbl, nd.parts.length ≤ 1000) ∧ Val AA tbl v ∧
  (∀ H' M kvs r, Same H H' → H' M = some (.dK kvs) → v n = some r → valV kvs (.inl (n : Int)) = some (.int (r : Nat)) → Q (.ref M) H') ∧ (∀ H', Same H H' → v n = none → E (.ref ns) none H')
theorem ok_all_made (M : MakerX P w K mg base C ns ok fa el AA) (c_made : CalX P w K mg base 6 "_made" (spMade C ns ok fa el AA)) (c_nodes_within : CalX P w K mg base 2 "nodes_within" (spWithin P w ad.Circuits)) (m_shown : MetX P w K mg base 1 ad.Circuits "shown" (spShown P w ad.Circuits)) {f : Addr} {fd : FuncData} (F : Fun K "all_made" "all_made" s_all_made f fd) (T : Txt K mg ad) : FnOk P w K mg base (L2.CX P w) 7 f fd ["circuits", "nodes", "maker"] (spAll P w ad.Circuits C ns ok fa AA) := by
  refine F.okX sc_all_made (fun vs H Q E => ?_) (fun cdv A outer s H vs Q E hr h => ?_)
  · walk_at "len"
  ·
    obtain ⟨c, S, D, tbl, L, mk, dx, fs, n, v, rfl, cc, wf, hl, hn, hL, hmk, hok, hfa, hpl, hv, k1, k2⟩ := h
    refine ⟨_, (pss_cons (ps_set (i := 3) sc_all_made.nd rfl (by first | exact Or.inl rfl | exact Or.inr rfl) pe_dnewK)
      (pss_cons (ps_for (passes_of rfl) rfl (pi_list (pc_call c_nodes_within hr (by first | decide | omega) (takes_of rfl rfl rfl rfl) (by rfl) (pa_cons (pv 0) (pa_cons (pv 1) pa_nil)))) (pg_name (i := 4) sc_all_made.nd rfl (by first | exact Or.inl rfl | exact Or.inr rfl)) (pss_one (ps_dput (hu_of hr) (pv 3) (pv 4) (pc_call c_made hr (by first | decide | omega) (takes_of rfl rfl rfl rfl) (by rfl) (pa_cons (pd_meth hr (takes_of rfl rfl rfl rfl) (pv 0) (pa_cons (pv 4) pa_nil)) (pa_cons (pv 3) (pa_cons (pv 2) pa_nil)))) rfl)))
      (pss_one (ps_ret (pv 3))))), ?_⟩
    refine go_seq (fun d hd => go_name rfl ?_)
    have s0 : Same H (upd H d (.dK [])) := same_new (Same.refl _) hd
    refine go_sq ⟨_, rfl, _, rfl, c, S, D, tbl, L, n, rfl, cc.same s0, wf, hl, hn, s0 _ _ hL, fun H2 l ys s2 _ e2 ynd yp ym => ⟨l, rfl, ⟨_, SqL.of e2⟩, ?_⟩⟩
    have s02 : Same H H2 := fun b o e => s2 _ _ (s0 _ _ e)
    obtain ⟨dxc, hc⟩ := cc.ins
    have ylen : ys.length ≤ 64 := by
      have h1 := ynd.length_le_of_subset (l₂ := List.range tbl.length) fun m hm => List.mem_range.mpr (Nat.lt_of_le_of_lt (((ym m).mp hm).le wf) hn)
      rw [List.length_range] at h1
      omega
    refine for_list (K := K) (a := l) (xs := nV ys) (fun i σ H3 => ∃ vn : Option V, σ = [some (.ref c), some (.ref L), some (.ref mk), some (.ref d), vn] ∧ Same H H3 ∧ H3 l = some (.lst (nV ys)) ∧ H3 d = some (.dK (kvX (fun m => (v m).getD 0) (ys.take i))) ∧ ∀ m ∈ ys.take i, v m = some ((v m).getD 0) ∧ el ((v m).getD 0))
      ⟨none, rfl, s02, e2, s2 _ _ upd_same, fun m hm => nomatch hm⟩ (fun i σ H3 _ ⟨_, _, _, e, _⟩ => SqL.of e) ?_ ?_
    · rintro i y σ H3 hy ⟨vn, rfl, s3, e3, d3, m3⟩
      obtain ⟨m, hm, rfl⟩ := nV_in hy
      have hil : i < ys.length := (List.getElem?_eq_some_iff.mp hm).1
      have hmy : m ∈ ys := List.mem_of_getElem? hm
      have hr := (ym m).mp hmy
      have hmt : m < tbl.length := Nat.lt_of_le_of_lt (hr.le wf) hn
      have hnd : tbl[m]? = some tbl[m] := List.getElem?_eq_getElem hmt
      refine go_name rfl ?_
      have parts_ : ∀ p ∈ tbl[m].parts, p ∈ ys.take i := fun p hp => take_lt yp hm ((ym p).mpr (.step hr hnd hp)) (wf m _ hnd p hp)
      have evm : evV AA (fun p => some ((v p).getD 0)) tbl[m] = v m := by
        rw [hv m _ hnd]
        exact evV_congr fun p hp => (m3 p (parts_ p hp)).1.symm
      refine ⟨_, rfl, c, _, dxc, _, 1, _, rfl, s3 _ _ hc, fC_no _ _ (by decide) (by decide), by decide, m_shown, _, rfl, c, S, D, tbl, m, _, rfl, cc.same s3, hnd, fun a ha => ?_⟩
      refine ⟨_, rfl, _, rfl, a, d, mk, dx, fs, tbl[m], _, fun p => (v p).getD 0, rfl, ha, d3, s3 _ _ hmk, M.same _ _ _ hok s3, fun p hp => ⟨valV_X (fun m => (v m).getD 0) p _ (parts_ p hp), (m3 p (parts_ p hp)).2⟩, fun k e => hfa m k hr (by rw [hnd, e]), hpl _ (List.getElem_mem hmt), fun H4 r s4 ev => ?_, fun H4 s4 ev => ?_⟩
      · have hvm : v m = some r := evm ▸ ev
        have her : el r := M.el (fun p hp => (m3 p (parts_ p hp)).2) (fun k e => hfa m k hr (by rw [hnd, e])) ev
        refine ⟨_, rfl, _, rfl, d, _, rfl, DPut.k (k := .inl (m : Int)) (s4 _ _ d3) ?_, ?_⟩
        · have := List.length_take_le i ys
          rw [List.length_map]
          exact Nat.lt_of_le_of_lt (by omega : _ ≤ 64) (by decide)
        · have nin : ¬ m ∈ ys.take i := fun z => by
            obtain ⟨j, hj⟩ := List.mem_iff_getElem?.mp z
            rw [List.getElem?_take] at hj
            split at hj
            · rename_i hji
              have := (List.getElem?_inj hil ynd).mp (hm.trans hj.symm)
              omega
            · cases hj
          have dH : H d = none := hd
          refine ⟨_, rfl, fun b o e => ?_, ?_, ?_, fun q hq => ?_⟩
          · rw [upd_ne (ne_of_none e dH)]
            exact s4 _ _ (s3 _ _ e)
          · rw [upd_ne (ne_of e3 d3 (fun z => nomatch z))]
            exact s4 _ _ e3
          · rw [upd_same, putK_new _ (valV_X0 _ m _ nin), List.take_add_one, hm]
            show _ = some (HO.dK (List.map _ (ys.take i ++ [m])))
            rw [List.map_append]
            show _ = some (HO.dK (_ ++ [(.inl (m : Int), .int (((v m).getD 0 : Nat) : Int))]))
            rw [hvm]
            rfl
          · rw [List.take_add_one, hm] at hq
            rcases List.mem_append.mp hq with h | h
            · exact m3 q h
            · obtain rfl : q = m := by simpa using h
              rw [hvm]
              exact ⟨rfl, her⟩
      · exact k2 H4 (fun b o e => s4 _ _ (s3 _ _ e)) (val_up hv hr (evm ▸ ev))
    · rintro σ H3 ⟨vn, rfl, s3, e3, d3, m3⟩
      rw [nV_length, List.take_length] at d3 m3
      have hny : n ∈ ys := (ym n).mpr .refl
      refine ⟨_, rfl, ?_⟩
      exact k1 H3 d _ _ s3 d3 (m3 n hny).1 (valV_X _ n ys hny)
end
/-! ### the reckoner -/
abbrev fR (r wd : Addr) : List (Str × V) := putF "_worths" (.ref wd) (putF "_semiring" (.ref r) [])
theorem fR_s (r wd : Addr) : (fR r wd).lookup ("_semiring" : Str) = some (.ref r) := by rw [lookup_putF, if_neg (by decide), lookup_putF, if_pos rfl]
theorem fR_w (r wd : Addr) : (fR r wd).lookup ("_worths" : Str) = some (.ref wd) := by rw [lookup_putF, if_pos rfl]
theorem fR_no (r wd : Addr) {m : Str} (h1 : ¬ m = "_semiring") (h2 : ¬ m = "_worths") : (fR r wd).lookup m = none := by rw [lookup_putF, if_neg h2, lookup_putF, if_neg h1]; rfl
def foldN (f : Nat → Nat → Nat) (z : Nat) : List Nat → Nat
  | [] => z
  | a :: r => r.foldl f a
def RA (f g : Nat → Nat → Nat) (o : Nat) (st : List (Option Nat)) (wf : Nat → Nat) : Alg := ⟨wf, foldN f 0, foldN g o, fun x => (st[x]?).join⟩
/-- a reckoner's fields: a right semiring, worths -/
def okR (CF : Addr) (n : Nat) (f g : Nat → Nat → Nat) (o : Nat) (st : List (Option Nat)) (fa : Nat → Prop) (wf : Nat → Nat) (H : Hp) (fs : List (Str × V)) : Prop :=
  ∃ r wd dx ffs kvs, fs = fR r wd ∧ H r = some (.ins CF dx ffs) ∧ okF n f g o st H ffs ∧ H wd = some (.dK kvs) ∧ ∀ k, fa k → valV kvs (.inl (k : Int)) = some (.int (wf k : Nat))
theorem okF.same {n o : Nat} {f g : Nat → Nat → Nat} {st : List (Option Nat)} {H H' : Hp} {fs : List (Str × V)} (x : okF n f g o st H fs) (s : Same H H') : okF n f g o st H' fs := by
  obtain ⟨tp, tm, ts, e, h1, h2, h3, h4⟩ := x
  exact ⟨tp, tm, ts, e, h1.same fun c xs e => s _ _ e, h2.same fun c xs e => s _ _ e, s _ _ h3, h4⟩
theorem okF.no {n o : Nat} {f g : Nat → Nat → Nat} {st : List (Option Nat)} {H : Hp} {fs : List (Str × V)} (x : okF n f g o st H fs) {m : Str} (h1 : ¬ m = "_plus") (h2 : ¬ m = "_times") (h3 : ¬ m = "_one") (h4 : ¬ m = "_stars") : fs.lookup m = none := by
  obtain ⟨tp, tm, ts, rfl, _⟩ := x
  exact fF_no _ _ _ _ h1 h2 h3 h4
section
variable {n o : Nat} {pf tf : Nat → Nat → Nat} {st : List (Option Nat)} {fa : Nat → Prop} {wf : Nat → Nat}
def spRI (C : Addr) : Sp := fun vs H Q _ => ∃ y dy r wd, vs = [.ref y, .ref r, .ref wd] ∧ H y = some (.ins C dy []) ∧ Q .non (upd H y (.ins C dy (fR r wd)))
theorem ok_Reckoner_init  {f : Addr} {fd : FuncData} (F : Fun K "__init__" "Reckoner.__init__" s_Reckoner_init f fd) (T : Txt K mg ad) : FnOk P w K mg base (L2.CX P w) 1 f fd ["self", "semiring", "worths"] (spRI ad.Reckoner) := by
  refine F.okX sc_Reckoner_init (fun vs H Q E => ?_) (fun cdv A outer s H vs Q E hr h => ?_)
  · walk_at "len"
  ·
    obtain ⟨y, dy, r, wd, rfl, hy, k⟩ := h
    refine ⟨_, (pss_cons (ps_fld (pv 0) (pv 1) rfl)
      (pss_one (ps_fld (pv 0) (pv 2) rfl))), ?_⟩
    refine go_sq ⟨_, rfl, _, rfl, y, _, dy, _, rfl, hy, T.c_Reckoner, T.n_semiring, (by show 0 < 1000; decide), ?_⟩
    exact ⟨_, rfl, _, rfl, y, _, dy, _, rfl, upd_same, T.c_Reckoner, T.n_worths, (by show 1 < 1000; decide), by rw [upd_upd]; exact k⟩
theorem ok_Reckoner_fact  {f : Addr} {fd : FuncData} (F : Fun K "fact" "Reckoner.fact" s_Reckoner_fact f fd) (T : Txt K mg ad) : FnOk P w K mg base (L2.CX P w) 1 f fd ["self", "k"] (spMF ad.Reckoner (okR ad.Finite n pf tf o st fa wf) fa wf) := by
  refine F.okX sc_Reckoner_fact (fun vs H Q E => ?_) (fun cdv A outer s H vs Q E hr h => ?_)
  · walk_at "len"
  ·
    obtain ⟨y, dy, fs, k, rfl, hy, ⟨r, wd, dx, ffs, kvs, rfl, hrg, okf, hwd, hk⟩, hf, q⟩ := h
    refine ⟨_, (pss_one (ps_ret (pe_dget (hu_of hr) (pe_fld (pv 0) rfl) (pv 1) (fun _ _ => rfl)))), ?_⟩
    exact ⟨_, rfl, y, _, dy, _, _, rfl, hy, T.c_Reckoner, T.n_worths, fR_w _ _, _, rfl, wd, _, rfl, by have := DGet.k (k := .inl (k : Int)) hwd; rw [hk k hf] at this; exact this, q⟩
theorem cut1 (a : Nat) (xs : List Nat) : cutV (nV (a :: xs)) (some ((1 : Nat) : Int)) none = nV xs := by
  unfold cutV
  rw [HT.sIx_none, HT.sIx_nat, nV_length, List.length_cons, show min 1 (xs.length + 1) = 1 by omega]
  show List.take (xs.length + 1 - 1) (nV xs) = nV xs
  exact List.take_of_length_le (by rw [nV_length]; omega)
theorem ok_Reckoner_plus (hcl : ∀ a, a < n → ∀ b, b < n → pf a b < n) (m_z : MetX P w K mg base 3 ad.Finite "zero" (spNulG ad.Finite (okF n pf tf o st) (.int (0)))) (m_b : MetX P w K mg base 3 ad.Finite "plus" (spBinG ad.Finite (okF n pf tf o st) (elF n) (binF pf))) {f : Addr} {fd : FuncData} (F : Fun K "plus" "Reckoner.plus" s_Reckoner_plus f fd) (T : Txt K mg ad) : FnOk P w K mg base (L2.CX P w) 4 f fd ["self", "parts"] (spML ad.Reckoner (okR ad.Finite n pf tf o st fa wf) (fun x => x < n) (foldN pf 0)) := by
  refine F.okX sc_Reckoner_plus (fun vs H Q E => ?_) (fun cdv A outer s H vs Q E hr h => ?_)
  · walk_at "len"
  ·
    obtain ⟨y, dy, fs, L, xs, rfl, hy, ⟨r, wd, dx, ffs, kvs, rfl, hrg, okf, hwd, hk⟩, hL, hx, hl, q⟩ := h
    refine ⟨_, (pss_cons (ps_if (pt_not (pt_truth (pv 1) (by intro _; rfl))) (pss_one (ps_ret (pd_meth0 hr (takes_of rfl rfl rfl rfl) (pe_fld (pv 0) rfl)))) pss_nil)
      (pss_cons (ps_set (i := 2) sc_Reckoner_plus.nd rfl (by first | exact Or.inl rfl | exact Or.inr rfl) (pe_ix ix_list (pv 1) pe_int (fun _ _ => rfl)))
      (pss_cons (ps_for (passes_of rfl) rfl (pi_list (pe_slice sl_list (pv 1) (po_some pe_int) po_none)) (pg_name (i := 3) sc_Reckoner_plus.nd rfl (by first | exact Or.inl rfl | exact Or.inr rfl)) (pss_one (ps_set (i := 2) sc_Reckoner_plus.nd rfl (by first | exact Or.inl rfl | exact Or.inr rfl) (pd_meth hr (takes_of rfl rfl rfl rfl) (pe_fld (pv 0) rfl) (pa_cons (pv 2) (pa_cons (pv 3) pa_nil))))))
      (pss_one (ps_ret (pv 2)))))), ?_⟩
    refine ⟨_, rfl, _, .inl ⟨_, SqL.of hL, rfl⟩, ?_⟩
    cases xs with
    | nil =>
      exact iteT ⟨_, rfl, y, _, dy, _, _, rfl, hy, T.c_Reckoner, T.n_semiring, fR_s _ _, r, _, dx, ffs, 3, _, rfl, hrg, okf.no (by decide) (by decide) (by decide) (by decide), by decide, m_z, r, dx, ffs, rfl, hrg, okf, q H (Same.refl _)⟩
    | cons a xs =>
      refine iteF (go_next ?_)
      refine go_seq ⟨_, rfl, L, _, _, _, rfl, rfl, SqL.of hL, at_of (j := 0) rfl rfl, go_name rfl ?_⟩
      refine go_sq ⟨_, rfl, _, rfl, L, _, rfl, SqL.of hL, fun p hp => ⟨p, rfl, ⟨_, SqL.of upd_same⟩, ?_⟩⟩
      rw [show cutV (List.map (fun (n : Nat) => V.int (n : Int)) (a :: xs)) (some 1) none = nV xs from cut1 a xs]
      have ha : a < n := hx a (List.mem_cons_self ..)
      refine for_list (K := K) (a := p) (xs := nV xs) (fun i σ H' => ∃ (t : Nat) (v : Option V), σ = [some (.ref y), some (.ref L), some (.int (t : Int)), v] ∧ Same H H' ∧ H' p = some (.lst (nV xs)) ∧ t = (xs.take i).foldl pf a ∧ t < n)
        ⟨a, none, rfl, same_new (Same.refl _) hp, upd_same, rfl, ha⟩ (fun i σ H' _ ⟨_, _, _, _, e, _⟩ => SqL.of e) ?_ ?_
      · rintro i z σ H' hz ⟨t, v, rfl, s', e', ht, htn⟩
        obtain ⟨m, hm, rfl⟩ := nV_in hz
        have hmn : m < n := hx m (List.mem_cons_of_mem _ (List.mem_of_getElem? hm))
        refine go_name rfl ?_
        refine ⟨_, rfl, y, _, dy, _, _, rfl, s' _ _ hy, T.c_Reckoner, T.n_semiring, fR_s _ _, r, _, dx, ffs, 3, _, rfl, s' _ _ hrg, okf.no (by decide) (by decide) (by decide) (by decide), by decide, m_b, _, rfl, _, rfl, r, dx, ffs, .int (t : Int), .int (m : Int), rfl, s' _ _ hrg, okf.same s', ⟨t, rfl, htn⟩, ⟨m, rfl, hmn⟩, go_name rfl ?_⟩
        refine ⟨pf t m, _, rfl, s', e', ?_, hcl t htn m hmn⟩
        rw [List.take_add_one, hm, List.foldl_append, ← ht]
        rfl
      · rintro σ H' ⟨t, v, rfl, s', e', ht, htn⟩
        rw [nV_length, List.take_length] at ht
        subst ht
        exact ⟨_, rfl, q H' s'⟩
theorem ok_Reckoner_times (hcl : ∀ a, a < n → ∀ b, b < n → tf a b < n) (m_z : MetX P w K mg base 3 ad.Finite "one" (spNulG ad.Finite (okF n pf tf o st) (.int ((o : Int))))) (m_b : MetX P w K mg base 3 ad.Finite "times" (spBinG ad.Finite (okF n pf tf o st) (elF n) (binF tf))) {f : Addr} {fd : FuncData} (F : Fun K "times" "Reckoner.times" s_Reckoner_times f fd) (T : Txt K mg ad) : FnOk P w K mg base (L2.CX P w) 4 f fd ["self", "parts"] (spML ad.Reckoner (okR ad.Finite n pf tf o st fa wf) (fun x => x < n) (foldN tf o)) := by
  refine F.okX sc_Reckoner_times (fun vs H Q E => ?_) (fun cdv A outer s H vs Q E hr h => ?_)
  · walk_at "len"
  ·
    obtain ⟨y, dy, fs, L, xs, rfl, hy, ⟨r, wd, dx, ffs, kvs, rfl, hrg, okf, hwd, hk⟩, hL, hx, hl, q⟩ := h
    refine ⟨_, (pss_cons (ps_if (pt_not (pt_truth (pv 1) (by intro _; rfl))) (pss_one (ps_ret (pd_meth0 hr (takes_of rfl rfl rfl rfl) (pe_fld (pv 0) rfl)))) pss_nil)
      (pss_cons (ps_set (i := 2) sc_Reckoner_times.nd rfl (by first | exact Or.inl rfl | exact Or.inr rfl) (pe_ix ix_list (pv 1) pe_int (fun _ _ => rfl)))
      (pss_cons (ps_for (passes_of rfl) rfl (pi_list (pe_slice sl_list (pv 1) (po_some pe_int) po_none)) (pg_name (i := 3) sc_Reckoner_times.nd rfl (by first | exact Or.inl rfl | exact Or.inr rfl)) (pss_one (ps_set (i := 2) sc_Reckoner_times.nd rfl (by first | exact Or.inl rfl | exact Or.inr rfl) (pd_meth hr (takes_of rfl rfl rfl rfl) (pe_fld (pv 0) rfl) (pa_cons (pv 2) (pa_cons (pv 3) pa_nil))))))
      (pss_one (ps_ret (pv 2)))))), ?_⟩
    refine ⟨_, rfl, _, .inl ⟨_, SqL.of hL, rfl⟩, ?_⟩
    cases xs with
    | nil =>
      exact iteT ⟨_, rfl, y, _, dy, _, _, rfl, hy, T.c_Reckoner, T.n_semiring, fR_s _ _, r, _, dx, ffs, 3, _, rfl, hrg, okf.no (by decide) (by decide) (by decide) (by decide), by decide, m_z, r, dx, ffs, rfl, hrg, okf, q H (Same.refl _)⟩
    | cons a xs =>
      refine iteF (go_next ?_)
      refine go_seq ⟨_, rfl, L, _, _, _, rfl, rfl, SqL.of hL, at_of (j := 0) rfl rfl, go_name rfl ?_⟩
      refine go_sq ⟨_, rfl, _, rfl, L, _, rfl, SqL.of hL, fun p hp => ⟨p, rfl, ⟨_, SqL.of upd_same⟩, ?_⟩⟩
      rw [show cutV (List.map (fun (n : Nat) => V.int (n : Int)) (a :: xs)) (some 1) none = nV xs from cut1 a xs]
      have ha : a < n := hx a (List.mem_cons_self ..)
      refine for_list (K := K) (a := p) (xs := nV xs) (fun i σ H' => ∃ (t : Nat) (v : Option V), σ = [some (.ref y), some (.ref L), some (.int (t : Int)), v] ∧ Same H H' ∧ H' p = some (.lst (nV xs)) ∧ t = (xs.take i).foldl tf a ∧ t < n)
        ⟨a, none, rfl, same_new (Same.refl _) hp, upd_same, rfl, ha⟩ (fun i σ H' _ ⟨_, _, _, _, e, _⟩ => SqL.of e) ?_ ?_
      · rintro i z σ H' hz ⟨t, v, rfl, s', e', ht, htn⟩
        obtain ⟨m, hm, rfl⟩ := nV_in hz
        have hmn : m < n := hx m (List.mem_cons_of_mem _ (List.mem_of_getElem? hm))
        refine go_name rfl ?_
        refine ⟨_, rfl, y, _, dy, _, _, rfl, s' _ _ hy, T.c_Reckoner, T.n_semiring, fR_s _ _, r, _, dx, ffs, 3, _, rfl, s' _ _ hrg, okf.no (by decide) (by decide) (by decide) (by decide), by decide, m_b, _, rfl, _, rfl, r, dx, ffs, .int (t : Int), .int (m : Int), rfl, s' _ _ hrg, okf.same s', ⟨t, rfl, htn⟩, ⟨m, rfl, hmn⟩, go_name rfl ?_⟩
        refine ⟨tf t m, _, rfl, s', e', ?_, hcl t htn m hmn⟩
        rw [List.take_add_one, hm, List.foldl_append, ← ht]
        rfl
      · rintro σ H' ⟨t, v, rfl, s', e', ht, htn⟩
        rw [nV_length, List.take_length] at ht
        subst ht
        exact ⟨_, rfl, q H' s'⟩
theorem ok_Reckoner_star (m_s : MetX P w K mg base 3 ad.Finite "star" (spStG ad.Finite ad.NoStar (okF n pf tf o st) (elF n) (starF st))) {f : Addr} {fd : FuncData} (F : Fun K "star" "Reckoner.star" s_Reckoner_star f fd) (T : Txt K mg ad) : FnOk P w K mg base (L2.CX P w) 4 f fd ["self", "part"] (spMS ad.Reckoner ad.NoStar (okR ad.Finite n pf tf o st fa wf) (fun x => x < n) (fun x => (st[x]?).join)) := by
  refine F.okX sc_Reckoner_star (fun vs H Q E => ?_) (fun cdv A outer s H vs Q E hr h => ?_)
  · walk_at "len"
  ·
    obtain ⟨y, dy, fs, x, rfl, hy, ⟨r, wd, dx, ffs, kvs, rfl, hrg, okf, hwd, hk⟩, hx, q1, q2⟩ := h
    refine ⟨_, (pss_one (ps_ret (pd_meth hr (takes_of rfl rfl rfl rfl) (pe_fld (pv 0) rfl) (pa_cons (pv 1) pa_nil)))), ?_⟩
    have e : starF st (.int (x : Int)) = ((st[x]?).join).map fun (s : Nat) => V.int (s : Int) := by
      show (match st[(x : Int).toNat]? with | some (some s) => some (V.int (s : Int)) | _ => none) = _
      rw [Int.toNat_natCast]
      rcases st[x]? with _ | _ | s <;> rfl
    refine ⟨_, rfl, y, _, dy, _, _, rfl, hy, T.c_Reckoner, T.n_semiring, fR_s _ _, r, _, dx, ffs, 3, _, rfl, hrg, okf.no (by decide) (by decide) (by decide) (by decide), by decide, m_s, _, rfl, r, dx, ffs, .int (x : Int), rfl, hrg, okf, ⟨x, rfl, hx⟩, fun s hs => ?_, fun hn => ?_⟩
    · rw [e] at hs
      obtain ⟨s', h1, rfl⟩ := Option.map_eq_some_iff.mp hs
      exact q1 s' h1
    · rw [e] at hn
      exact q2 (Option.map_eq_none_iff.mp hn)
end
end
end K14

set_option Elab.async false
set_option linter.all false
set_option maxRecDepth 100000
set_option maxHeartbeats 4000000
namespace K14
open PySem L2 Ew Tb SRm GxR ND
local macro_rules | `(tactic| walk_at "len") => `(tactic| first | (intro h; obtain ⟨_, e, _⟩ := h; rw [e]; rfl) | (intro h; obtain ⟨_, _, e, _⟩ := h; rw [e]; rfl) | (intro h; obtain ⟨_, _, _, e, _⟩ := h; rw [e]; rfl) | (intro h; obtain ⟨_, _, _, _, e, _⟩ := h; rw [e]; rfl) | (intro h; obtain ⟨_, _, _, _, _, e, _⟩ := h; rw [e]; rfl) | (intro h; obtain ⟨_, _, _, _, _, _, e, _⟩ := h; rw [e]; rfl) | (intro h; obtain ⟨_, _, _, _, _, _, _, e, _⟩ := h; rw [e]; rfl) | (intro h; obtain ⟨_, _, _, _, _, _, _, _, e, _⟩ := h; rw [e]; rfl) | (intro h; obtain ⟨_, _, _, _, _, _, _, _, _, e, _⟩ := h; rw [e]; rfl) | (intro h; obtain ⟨_, _, _, _, _, _, _, _, _, _, e, _⟩ := h; rw [e]; rfl) | (intro h; obtain ⟨_, _, _, _, _, _, _, _, _, _, _, e, _⟩ := h; rw [e]; rfl) | (intro h; obtain ⟨_, _, _, _, _, _, _, _, _, _, _, _, e, _⟩ := h; rw [e]; rfl) | (intro h; obtain ⟨_, _, _, _, _, _, _, _, _, _, _, _, _, e, _⟩ := h; rw [e]; rfl))
local macro_rules | `(tactic| walk_at "len") => `(tactic| first | (intro h; obtain ⟨_, _, _, _, _, _, _, _, e, _⟩ := h; rw [e]; rfl) | (intro h; obtain ⟨_, _, _, _, _, _, _, _, _, e, _⟩ := h; rw [e]; rfl) | (intro h; obtain ⟨_, _, _, _, _, _, _, _, _, _, e, _⟩ := h; rw [e]; rfl) | (intro h; obtain ⟨_, _, _, _, _, _, _, _, _, _, _, e, _⟩ := h; rw [e]; rfl) | (intro h; obtain ⟨_, _, _, _, _, _, _, _, _, _, _, _, e, _⟩ := h; rw [e]; rfl) | (intro h; obtain ⟨_, _, _, _, _, _, _, _, _, _, _, _, _, e, _⟩ := h; rw [e]; rfl) | (intro h; obtain ⟨_, _, _, _, _, _, _, _, _, _, _, _, _, _, e, _⟩ := h; rw [e]; rfl) | (intro h; obtain ⟨_, _, _, _, _, _, _, _, _, _, _, _, _, _, _, e, _⟩ := h; rw [e]; rfl) | (intro h; obtain ⟨_, _, _, _, _, _, _, _, _, _, _, _, _, _, _, _, e, _⟩ := h; rw [e]; rfl) | (intro h; obtain ⟨_, _, _, _, _, _, _, _, _, _, _, _, _, _, _, _, _, e, _⟩ := h; rw [e]; rfl))
section
variable {P : Program} {w : World} {K : PySem.W.Frag} {mg : Str → Option Value} {base : Heap} {ad : Ad}
/-! ### worth, leaves -/
theorem foldl_lt {n : Nat} {f : Nat → Nat → Nat} (hc : ∀ a, a < n → ∀ b, b < n → f a b < n) : ∀ {xs : List Nat} {a : Nat}, a < n → (∀ x ∈ xs, x < n) → xs.foldl f a < n
  | [], _, ha, _ => ha
  | x :: xs, a, ha, h => foldl_lt (xs := xs) (a := f a x) hc (hc a ha x (h x (List.mem_cons_self ..))) fun y hy => h y (List.mem_cons_of_mem _ hy)
theorem foldN_lt {n z : Nat} {f : Nat → Nat → Nat} (hc : ∀ a, a < n → ∀ b, b < n → f a b < n) (hz : z < n) : ∀ {xs : List Nat}, (∀ x ∈ xs, x < n) → foldN f z xs < n
  | [], _ => hz
  | x :: xs, h => foldl_lt hc (h x (List.mem_cons_self ..)) fun y hy => h y (List.mem_cons_of_mem _ hy)
/-- told stars are stars -/
def StL (n : Nat) (f g : Nat → Nat → Nat) (o : Nat) (st : List (Option Nat)) : Prop := ∀ (i s : Nat), st[i]? = some (some s) → s < n ∧ f o (g i s) = s
theorem join_lt {n : Nat} {f g : Nat → Nat → Nat} {o : Nat} {st : List (Option Nat)} (h : StL n f g o st) {x s : Nat} (e : (st[x]?).join = some s) : s < n := by
  rcases hx : st[x]? with _ | _ | s'
  · rw [hx] at e; cases e
  · rw [hx] at e; cases e
  · rw [hx] at e
    cases e
    exact (h x s hx).1
/-- the methods of a Finite -/
structure FinM (P : Program) (w : World) (K : PySem.W.Frag) (mg : Str → Option Value) (base : Heap) (ad : Ad) : Prop where
  zero : ∀ n f g o st, MetX P w K mg base 3 ad.Finite "zero" (spNulG ad.Finite (okF n f g o st) (.int 0))
  one : ∀ n f g o st, MetX P w K mg base 3 ad.Finite "one" (spNulG ad.Finite (okF n f g o st) (.int (o : Int)))
  plus : ∀ n f g o st, MetX P w K mg base 3 ad.Finite "plus" (spBinG ad.Finite (okF n f g o st) (elF n) (binF f))
  times : ∀ n f g o st, MetX P w K mg base 3 ad.Finite "times" (spBinG ad.Finite (okF n f g o st) (elF n) (binF g))
  star : ∀ n f g o st, MetX P w K mg base 3 ad.Finite "star" (spStG ad.Finite ad.NoStar (okF n f g o st) (elF n) (starF st))
theorem okR_same {CF : Addr} {n : Nat} {f g : Nat → Nat → Nat} {o : Nat} {st : List (Option Nat)} {fa : Nat → Prop} {wf : Nat → Nat} {H H' : Hp} {fs : List (Str × V)} (x : okR CF n f g o st fa wf H fs) (s : Same H H') : okR CF n f g o st fa wf H' fs := by
  obtain ⟨r, wd, dx, ffs, kvs, rfl, h1, h2, h3, h4⟩ := x
  exact ⟨r, wd, dx, ffs, kvs, rfl, s _ _ h1, h2.same s, s _ _ h3, h4⟩
theorem Rch.trans {tbl : List Nd} {a b c : Nat} (h1 : Rch tbl a b) (h2 : Rch tbl b c) : Rch tbl a c := by
  induction h2 with
  | refl => exact h1
  | step _ e hp ih => exact .step ih e hp
theorem val_el {A : Alg} {el fa : Nat → Prop} {tbl : List Nd} {v : Nat → Option Nat} (eF : ∀ k, fa k → el (A.fact k)) (eP : ∀ xs, (∀ x ∈ xs, el x) → el (A.pl xs)) (eT : ∀ xs, (∀ x ∈ xs, el x) → el (A.tm xs)) (eS : ∀ x s, el x → A.st x = some s → el s) (wf : Wf tbl) (hv : Val A tbl v) :
    ∀ m, m < tbl.length → (∀ m' k, Rch tbl m m' → tbl[m']? = some (.fact k) → fa k) → ∀ x, v m = some x → el x := by
  intro m
  induction m using Nat.strongRecOn with
  | ind m ih =>
    intro hm hf x hx
    have hnd : tbl[m]? = some tbl[m] := List.getElem?_eq_getElem hm
    have ihp : ∀ p ∈ tbl[m].parts, ∀ y, v p = some y → el y := fun p hp y hy => by
      have hpm := wf m _ hnd p hp
      exact ih p hpm (by omega) (fun m' k hr e => hf m' k (Rch.trans (.step .refl hnd hp) hr) e) y hy
    rw [hv m _ hnd] at hx
    have all_ : ∀ {ps xs : List Nat}, (∀ p ∈ ps, ∀ y, v p = some y → el y) → allS v ps = some xs → ∀ y ∈ xs, el y := by
      intro ps
      induction ps with
      | nil => intro xs _ e y hy; cases e; cases hy
      | cons p ps ih =>
        intro xs h e y hy
        have e' : (match v p, allS v ps with | some x, some xs => some (x :: xs) | _, _ => none) = some xs := e
        rcases h1 : v p with _ | z
        · rw [h1] at e'; cases e'
        · rcases h2 : allS v ps with _ | zs
          · rw [h1, h2] at e'; cases e'
          · rw [h1, h2] at e'
            cases e'
            rcases List.mem_cons.mp hy with rfl | hy
            · exact h p (List.mem_cons_self ..) y h1
            · exact ih (fun q hq => h q (List.mem_cons_of_mem _ hq)) h2 y hy
    generalize tbl[m] = nd at hnd ihp hx
    cases nd with
    | zero => cases hx; exact eP [] (fun _ z => nomatch z)
    | one => cases hx; exact eT [] (fun _ z => nomatch z)
    | fact k => cases hx; exact eF k (hf m k .refl hnd)
    | star p =>
      have hx' : (v p).bind A.st = some x := hx
      obtain ⟨y, h1, h2⟩ := Option.bind_eq_some_iff.mp hx'
      exact eS y x (ihp p (by simp [Nd.parts]) y h1) h2
    | plus ps =>
      have hx' : (allS v ps).map A.pl = some x := hx
      obtain ⟨xs, h1, rfl⟩ := Option.map_eq_some_iff.mp hx'
      exact eP xs (all_ (ps := ps) ihp h1)
    | times ps =>
      have hx' : (allS v ps).map A.tm = some x := hx
      obtain ⟨xs, h1, rfl⟩ := Option.map_eq_some_iff.mp hx'
      exact eT xs (all_ (ps := ps) ihp h1)
structure RkM (P : Program) (w : World) (K : PySem.W.Frag) (mg : Str → Option Value) (base : Heap) (ad : Ad) (n : Nat) (f g : Nat → Nat → Nat) (o : Nat) (st : List (Option Nat)) (fa : Nat → Prop) (wf : Nat → Nat) : Prop where
  fact : MetX P w K mg base 5 ad.Reckoner "fact" (spMF ad.Reckoner (okR ad.Finite n f g o st fa wf) fa wf)
  plus : MetX P w K mg base 5 ad.Reckoner "plus" (spML ad.Reckoner (okR ad.Finite n f g o st fa wf) (fun x => x < n) (foldN f 0))
  times : MetX P w K mg base 5 ad.Reckoner "times" (spML ad.Reckoner (okR ad.Finite n f g o st fa wf) (fun x => x < n) (foldN g o))
  star : MetX P w K mg base 5 ad.Reckoner "star" (spMS ad.Reckoner ad.NoStar (okR ad.Finite n f g o st fa wf) (fun x => x < n) (fun x => (st[x]?).join))
theorem mk_reck {n : Nat} {f g : Nat → Nat → Nat} {o : Nat} {st : List (Option Nat)} {fa : Nat → Prop} {wf : Nat → Nat} (sr : SR n f g o) (sl : StL n f g o st) (hw : ∀ k, fa k → wf k < n) (M : RkM P w K mg base ad n f g o st fa wf) : MakerX P w K mg base ad.Reckoner ad.NoStar (okR ad.Finite n f g o st fa wf) fa (fun x => x < n) (RA f g o st wf) where
  no := fun H fs h => by
    obtain ⟨r, wd, dx, ffs, kvs, rfl, _⟩ := h
    exact ⟨fR_no _ _ (by decide) (by decide), fR_no _ _ (by decide) (by decide), fR_no _ _ (by decide) (by decide), fR_no _ _ (by decide) (by decide)⟩
  same := fun H H' fs h s => okR_same h s
  fact := M.fact
  plus := M.plus
  times := M.times
  star := M.star
  eF := hw
  eP := fun xs h => foldN_lt sr.pc sr.pos h
  eT := fun xs h => foldN_lt sr.tc sr.oo h
  eS := fun x s _ e => join_lt sl e
/-- a semiring object, worths of facts, as the law has them -/
structure Wor (ad : Ad) (H : Hp) (r wd : Addr) (n : Nat) (f g : Nat → Nat → Nat) (o : Nat) (st : List (Option Nat)) (fa : Nat → Prop) (wf : Nat → Nat) : Prop where
  ring : ∃ dx ffs, H r = some (.ins ad.Finite dx ffs) ∧ okF n f g o st H ffs
  sr : SR n f g o
  sl : StL n f g o st
  wd : ∃ kvs, H wd = some (.dK kvs) ∧ ∀ k, fa k → valV kvs (.inl (k : Int)) = some (.int (wf k : Nat))
  hw : ∀ k, fa k → wf k < n
theorem Wor.same {H H' : Hp} {r wd : Addr} {n : Nat} {f g : Nat → Nat → Nat} {o : Nat} {st : List (Option Nat)} {fa : Nat → Prop} {wf : Nat → Nat} (x : Wor ad H r wd n f g o st fa wf) (s : Same H H') : Wor ad H' r wd n f g o st fa wf :=
  ⟨let ⟨dx, ffs, h1, h2⟩ := x.ring; ⟨dx, ffs, s _ _ h1, h2.same s⟩, x.sr, x.sl, let ⟨kvs, h1, h2⟩ := x.wd; ⟨kvs, s _ _ h1, h2⟩, x.hw⟩
/-- a store and a node in it, its facts told -/
structure Nod (P : Program) (w : World) (C : Addr) (H : Hp) (c S D : Addr) (tbl : List Nd) (m : Nat) (fa : Nat → Prop) : Prop where
  cc : Circ P w C H c S D tbl
  wf : Wf tbl
  len : tbl.length < 64
  lt : m < tbl.length
  ps : ∀ nd ∈ tbl, nd.parts.length ≤ 1000
  fa_ : ∀ m' k, Rch tbl m m' → tbl[m']? = some (.fact k) → fa k
theorem Nod.same {C c S D : Addr} {H H' : Hp} {tbl : List Nd} {m : Nat} {fa : Nat → Prop} (x : Nod P w C H c S D tbl m fa) (s : Same H H') : Nod P w C H' c S D tbl m fa := ⟨x.cc.same s, x.wf, x.len, x.lt, x.ps, x.fa_⟩
def spWorth (P : Program) (w : World) (ad : Ad) : Sp := fun vs H Q E => ∃ (c S D r wd : Addr) (tbl : List Nd) (m n : Nat) (f g : Nat → Nat → Nat) (o : Nat) (st : List (Option Nat)) (fa : Nat → Prop) (wf : Nat → Nat), vs = [.ref c, .int (m : Int), .ref r, .ref wd] ∧ Nod P w ad.Circuits H c S D tbl m fa ∧ Wor ad H r wd n f g o st fa wf ∧
  (∀ H' x, Same H H' → val (RA f g o st wf) tbl m = some x → Q (.int (x : Nat)) H') ∧ (∀ H', Same H H' → val (RA f g o st wf) tbl m = none → E (.ref ad.NoStar) none H')
theorem made_same {H : Hp} {y dy : Addr} {o1 o2 : HO} (h1 : H y = none) (h2 : H dy = none) : Same H (upd (upd H dy o1) y o2) := fun b o e => by
  rw [upd_ne (ne_of_none e h1), upd_ne (ne_of_none e h2)]
  exact e
theorem ok_worth (mReck : MakX P w K mg base 1 "Reckoner" ad.Reckoner (spRI ad.Reckoner)) (rk : ∀ n f g o st fa wf, (∀ a, a < n → ∀ b, b < n → f a b < n) → (∀ a, a < n → ∀ b, b < n → g a b < n) → RkM P w K mg base ad n f g o st fa wf) (c_all : ∀ ok fa el AA, MakerX P w K mg base ad.Reckoner ad.NoStar ok fa el AA → CalX P w K mg base 7 "all_made" (spAll P w ad.Circuits ad.Reckoner ad.NoStar ok fa AA)) {f : Addr} {fd : FuncData} (F : Fun K "worth" "worth" s_worth f fd) (T : Txt K mg ad) : FnOk P w K mg base (L2.CX P w) 9 f fd ["circuits", "node", "semiring", "worths"] (spWorth P w ad) := by
  refine F.okX sc_worth (fun vs H Q E => ?_) (fun cdv A outer s H vs Q E hr h => ?_)
  · walk_at "len"
  ·
    obtain ⟨c, S, D, r, wd, tbl, m, n, rf, rg, o, st, fa, wf, rfl, nod, wor, k1, k2⟩ := h
    refine ⟨_, (pss_one (ps_ret (pe_dget (hu_of hr) (pd_call hr (takes_of rfl rfl rfl rfl) (by rfl) (pa_cons (pv 0) (pa_cons (pe_lst (pa_cons (pv 1) pa_nil)) (pa_cons (pd_make hr (takes_of rfl rfl rfl rfl) (by rfl) (pa_cons (pv 2) (pa_cons (pv 3) pa_nil))) pa_nil)))) (pv 1) (fun _ _ => rfl)))), ?_⟩
    obtain ⟨dx, ffs, hring, hokf⟩ := wor.ring
    obtain ⟨kvs, hwd, hk⟩ := wor.wd
    refine ⟨7, _, by decide, c_all _ _ _ _ (mk_reck wor.sr wor.sl wor.hw (rk n rf rg o st fa wf wor.sr.pc wor.sr.tc)), _, rfl, _, rfl, (show 1 ≤ sizeLine by decide), fun L hL => ?_⟩
    have s1 : Same H (upd H L (.lst [.int (m : Int)])) := same_new (Same.refl _) hL
    refine ⟨1, ad.Reckoner, _, by decide, mReck, _, rfl, _, rfl, fun y dy hy hdy nyd => ⟨y, dy, r, wd, rfl, upd_same, rfl, ?_⟩⟩
    rw [upd_upd]
    have s2 := made_same (o1 := .own y) (o2 := .ins ad.Reckoner dy (fR r wd)) hy hdy
    have s12 : Same H _ := fun b o e => s2 _ _ (s1 _ _ e)
    refine ⟨c, S, D, tbl, L, y, dy, fR r wd, m, val (RA rf rg o st wf) tbl, rfl, nod.cc.same s12, nod.wf, nod.len, nod.lt, s2 _ _ upd_same, upd_same, ⟨r, wd, dx, ffs, kvs, rfl, s12 _ _ hring, hokf.same s12, s12 _ _ hwd, hk⟩, nod.fa_, nod.ps, val_val nod.wf, fun H' M kvs' x s' e' hv hx => ?_, fun H' s' hn => k2 H' (fun b o e => s' _ _ (s12 _ _ e)) hn⟩
    refine ⟨_, rfl, M, .int (x : Nat), rfl, ?_, k1 H' x (fun b o e => s' _ _ (s12 _ _ e)) hv⟩
    have := DGet.k (k := .inl (m : Int)) e'
    rw [hx] at this
    exact this
def oV : Option Nat → V
  | none => .non
  | some x => .int (x : Int)
def spFound (P : Program) (w : World) (ad : Ad) : Sp := fun vs H Q _ => ∃ (c S D r wd : Addr) (tbl : List Nd) (m n : Nat) (f g : Nat → Nat → Nat) (o : Nat) (st : List (Option Nat)) (fa : Nat → Prop) (wf : Nat → Nat), vs = [.ref c, .int (m : Int), .ref r, .ref wd] ∧ Nod P w ad.Circuits H c S D tbl m fa ∧ Wor ad H r wd n f g o st fa wf ∧
  (∀ H', Same H H' → Q (oV (val (RA f g o st wf) tbl m)) H')
theorem ok_law_found (c_worth : CalX P w K mg base 9 "worth" (spWorth P w ad)) {f : Addr} {fd : FuncData} (F : Fun K "_law_found" "_law_found" s_law_found f fd) (T : Txt K mg ad) : FnOk P w K mg base (L2.CX P w) 10 f fd ["circuits", "node", "ring", "worths"] (spFound P w ad) := by
  refine F.okX sc_law_found (fun vs H Q E => ?_) (fun cdv A outer s H vs Q E hr h => ?_)
  · walk_at "len"
  ·
    obtain ⟨c, S, D, r, wd, tbl, m, n, rf, rg, o, st, fa, wf, rfl, nod, wor, k⟩ := h
    refine ⟨_, (pss_one (ps_tryD (i := 4) rfl rfl sc_law_found.nd rfl rfl ⟨rfl, by decide, .inl T.g_WorthError⟩ (takes_of rfl rfl rfl rfl))), ?_⟩
    intro pn1 xe1 tk1 po1
    refine ⟨_, (pss_one (ps_ret (pc_call c_worth hr (by first | decide | omega) tk1 (by rfl) (pa_cons (pv 0) (pa_cons (pv 1) (pa_cons (pv 2) (pa_cons (pv 3) pa_nil))))))), ?_⟩
    refine ⟨_, rfl, _, rfl, _, rfl, _, rfl, c, S, D, r, wd, tbl, m, n, rf, rg, o, st, fa, wf, rfl, nod, wor, fun H' x s e => ?_, fun H' s e => ?_⟩
    · have := k H' s
      rw [e] at this
      exact this
    · refine ⟨true, T.em_NoStar, fun _ a ha => ?_, fun q => Bool.noConfusion q⟩
      intro oe pn hz hf
      refine ⟨_, (pss_one (ps_ret (pe_ifExp (pt_val (pe_callB (call_isED hz hf) (by rfl) T.z_isinstance (by decide +kernel) (pa_cons (pv 4) (pa_cons (pe_gcls (by rfl) T.g_NoStar) pa_nil)))) pe_non pe_str))), ?_⟩
      have := k H' s
      rw [e] at this
      exact ⟨_, rfl, _, rfl, rfl, T.ec_NoStar, _, _, true, rfl, fun u hu => hu, T.ki_NoStar, true, rfl, iteT this⟩
end
end K14

set_option Elab.async false
set_option linter.all false
set_option maxRecDepth 100000
set_option maxHeartbeats 4000000
namespace K14
open PySem L2 Ew Tb SRm GxR ND
local macro_rules | `(tactic| walk_at "len") => `(tactic| first | (intro h; obtain ⟨_, e, _⟩ := h; rw [e]; rfl) | (intro h; obtain ⟨_, _, e, _⟩ := h; rw [e]; rfl) | (intro h; obtain ⟨_, _, _, e, _⟩ := h; rw [e]; rfl) | (intro h; obtain ⟨_, _, _, _, e, _⟩ := h; rw [e]; rfl) | (intro h; obtain ⟨_, _, _, _, _, e, _⟩ := h; rw [e]; rfl) | (intro h; obtain ⟨_, _, _, _, _, _, e, _⟩ := h; rw [e]; rfl) | (intro h; obtain ⟨_, _, _, _, _, _, _, e, _⟩ := h; rw [e]; rfl) | (intro h; obtain ⟨_, _, _, _, _, _, _, _, e, _⟩ := h; rw [e]; rfl) | (intro h; obtain ⟨_, _, _, _, _, _, _, _, _, e, _⟩ := h; rw [e]; rfl) | (intro h; obtain ⟨_, _, _, _, _, _, _, _, _, _, e, _⟩ := h; rw [e]; rfl) | (intro h; obtain ⟨_, _, _, _, _, _, _, _, _, _, _, e, _⟩ := h; rw [e]; rfl) | (intro h; obtain ⟨_, _, _, _, _, _, _, _, _, _, _, _, e, _⟩ := h; rw [e]; rfl) | (intro h; obtain ⟨_, _, _, _, _, _, _, _, _, _, _, _, _, e, _⟩ := h; rw [e]; rfl))
local macro_rules | `(tactic| walk_at "len") => `(tactic| first | (intro h; obtain ⟨_, _, _, _, _, _, _, _, e, _⟩ := h; rw [e]; rfl) | (intro h; obtain ⟨_, _, _, _, _, _, _, _, _, e, _⟩ := h; rw [e]; rfl) | (intro h; obtain ⟨_, _, _, _, _, _, _, _, _, _, e, _⟩ := h; rw [e]; rfl) | (intro h; obtain ⟨_, _, _, _, _, _, _, _, _, _, _, e, _⟩ := h; rw [e]; rfl) | (intro h; obtain ⟨_, _, _, _, _, _, _, _, _, _, _, _, e, _⟩ := h; rw [e]; rfl) | (intro h; obtain ⟨_, _, _, _, _, _, _, _, _, _, _, _, _, e, _⟩ := h; rw [e]; rfl) | (intro h; obtain ⟨_, _, _, _, _, _, _, _, _, _, _, _, _, _, e, _⟩ := h; rw [e]; rfl) | (intro h; obtain ⟨_, _, _, _, _, _, _, _, _, _, _, _, _, _, _, e, _⟩ := h; rw [e]; rfl) | (intro h; obtain ⟨_, _, _, _, _, _, _, _, _, _, _, _, _, _, _, _, e, _⟩ := h; rw [e]; rfl) | (intro h; obtain ⟨_, _, _, _, _, _, _, _, _, _, _, _, _, _, _, _, _, e, _⟩ := h; rw [e]; rfl))
section
variable {P : Program} {w : World} {K : PySem.W.Frag} {mg : Str → Option Value} {base : Heap} {ad : Ad}
/-! ### nodes are grown -/
structure Good (tbl : List Nd) : Prop where
  nd : tbl.Nodup
  wf : Wf tbl
  two : 2 ≤ tbl.length
  ps : ∀ x ∈ tbl, x.parts.length ≤ 1000
/-- the table behind an asking -/
structure Nxt (tbl tbl' : List Nd) : Prop where
  good : Good tbl'
  le : tbl.length ≤ tbl'.length
  len : tbl'.length ≤ tbl.length + 1
theorem Good.self {tbl : List Nd} (g : Good tbl) : Nxt tbl tbl := ⟨g, Nat.le_refl _, Nat.le_succ _⟩
theorem Good.ins {tbl : List Nd} {nd : Nd} (g : Good tbl) (hp : ∀ p ∈ nd.parts, p < tbl.length) (hl : nd.parts.length ≤ 1000) : Nxt tbl (insN tbl nd) := by
  unfold insN
  by_cases m : nd ∈ tbl
  · rw [if_pos m]; exact g.self
  · rw [if_neg m]
    refine ⟨⟨List.nodup_append.mpr ⟨g.nd, by simp, fun a ha b hb z => m (by rw [List.mem_singleton.mp hb] at z; rw [← z]; exact ha)⟩, fun i x hx p hpx => ?_, ?_, fun x hx => ?_⟩, ?_, ?_⟩
    · rcases Nat.lt_or_ge i tbl.length with h | h
      · rw [List.getElem?_append_left h] at hx
        exact g.wf i x hx p hpx
      · rw [List.getElem?_append_right h] at hx
        have hi : i - tbl.length = 0 := by
          rcases Nat.eq_zero_or_pos (i - tbl.length) with z | z
          · exact z
          · rw [List.getElem?_eq_none (by rw [List.length_singleton]; omega)] at hx; cases hx
        rw [hi] at hx
        cases hx
        have := hp p hpx
        omega
    · rw [List.length_append]; have := g.two; omega
    · rcases List.mem_append.mp hx with h | h
      · exact g.ps x h
      · rw [List.mem_singleton.mp h]; exact hl
    · rw [List.length_append]; omega
    · rw [List.length_append]; simp
theorem good0 : Good [.zero, .one] where
  nd := by decide
  wf := fun i x hx p hp => by
    rcases i with _ | _ | i
    · cases hx; cases hp
    · cases hx; cases hp
    · simp at hx
  two := Nat.le_refl _
  ps := fun x hx => by
    rcases List.mem_cons.mp hx with rfl | hx
    · exact Nat.zero_le _
    · rw [List.mem_singleton.mp hx]; exact Nat.zero_le _
theorem sev_nxt {tbl : List Nd} {d : Kd} {ps : List Nat} (g : Good tbl) (hp : ∀ p ∈ ps, p < tbl.length) (hl : ps.length ≤ 1000) : Nxt tbl (sevN tbl d ps).1 := by
  rcases ps with _ | ⟨p0, _ | ⟨p1, ps⟩⟩
  · exact g.self
  · exact g.self
  · have pm : (d.mk (sortN (p0 :: p1 :: ps))).parts = sortN (p0 :: p1 :: ps) := by cases d <;> rfl
    refine g.ins (fun p h => ?_) ?_
    · rw [pm] at h
      exact hp p ((sortN_perm _).mem_iff.mp h)
    · rw [pm, (sortN_perm _).length_eq]
      exact hl
theorem Circ.fr {C c S D : Addr} {H H' : Hp} {tbl : List Nd} {p : Addr} {xs : List V} (x : Circ P w C H c S D tbl) (fr : Fr1 p H H') (hp : H p = some (.lst xs)) (hS : p ≠ S) : Circ P w C H' c S D tbl := by
  obtain ⟨dx, e1⟩ := x.ins
  obtain ⟨as, e2, hk⟩ := x.shown
  have tups : ∀ b ys, H b = some (.tup ys) → H' b = some (.tup ys) := fun b ys e => fr _ _ (ne_of e hp (fun z => nomatch z)) e
  obtain ⟨φ, hφ⟩ := x.nums.ext
  exact ⟨⟨dx, fr _ _ (ne_of e1 hp (fun z => nomatch z)) e1⟩, ⟨as, fr _ _ (Ne.symm hS) e2, hk.keeps tups⟩, x.nums.keeps (fun u e => fr _ _ (ne_of hφ hp (fun z => nomatch z)) e) tups⟩
theorem PotB.fr {p b q : Addr} {H H' : Hp} (x : PotB H p b) (fr : Fr1 q H H') (h1 : p ≠ q) (h2 : b ≠ q) : PotB H' p b := by
  obtain ⟨ns, i, c, sd, e1, e2, h⟩ := x
  exact ⟨ns, i, c, sd, fr _ _ h1 e1, fr _ _ h2 e2, h⟩
theorem PotB.ls {p b : Addr} {H : Hp} (x : PotB H p b) : ∃ xs, H p = some (.lst xs) := let ⟨_, _, _, _, e, _⟩ := x; ⟨_, e⟩
theorem PotB.lb {p b : Addr} {H : Hp} (x : PotB H p b) : ∃ xs, H b = some (.lst xs) := let ⟨_, _, _, _, _, e, _⟩ := x; ⟨_, e⟩
theorem Circ.lS {C c S D : Addr} {H : Hp} {tbl : List Nd} (x : Circ P w C H c S D tbl) : ∃ as : List Addr, H S = some (.lst (as.map V.ref)) ∧ as.length = tbl.length := by
  obtain ⟨as, e2, hk⟩ := x.shown
  have := Kys.length hk
  rw [List.length_map, List.length_map] at this
  exact ⟨as, e2, this.symm⟩
theorem FrC.ne {C c S D q : Addr} {H H' : Hp} {tbl : List Nd} (x : Circ P w C H c S D tbl) (fr : FrC S D H H') {o : HO} (hq : H q = some o) (h1 : q ≠ S) (h2 : ∀ φ, o ≠ .ext φ) : H' q = some o := by
  obtain ⟨φ, hφ⟩ := x.nums.ext
  exact fr _ _ h1 (ne_of hq hφ (fun z => h2 φ z)) hq
theorem toN {i : Int} (h : 0 ≤ i) : ∃ n : Nat, i = (n : Int) := ⟨i.toNat, by omega⟩
structure GS (P : Program) (w : World) (C : Addr) (H0 H : Hp) (p pb c S D N : Addr) (tbl : List Nd) (ns : List Nat) : Prop where
  pot : PotB H p pb
  cc : Circ P w C H c S D tbl
  nn : H N = some (.lst (nV ns))
  fr : ∀ b o, b ≠ p → b ≠ S → b ≠ D → H0 b = some o → H b = some o
structure Dis (p pb S N : Addr) : Prop where
  pS : p ≠ S
  bS : pb ≠ S
  pN : p ≠ N
  bN : pb ≠ N
  SN : S ≠ N
section
variable {C p pb c S D N : Addr} {H0 H H' : Hp} {tbl tbl2 : List Nd} {ns : List Nat}
theorem GS.same (x : GS P w C H0 H p pb c S D N tbl ns) (s : Same H H') : GS P w C H0 H' p pb c S D N tbl ns := ⟨x.pot.same s, x.cc.same s, s _ _ x.nn, fun b o h1 h2 h3 e => s _ _ (x.fr b o h1 h2 h3 e)⟩
theorem GS.draw (x : GS P w C H0 H p pb c S D N tbl ns) (d : Dis p pb S N) (fr : Fr1 p H H') (hb : ∀ b, PotB H p b → PotB H' p b) : GS P w C H0 H' p pb c S D N tbl ns := by
  obtain ⟨xs, hp⟩ := x.pot.ls
  exact ⟨hb _ x.pot, x.cc.fr fr hp d.pS, fr _ _ (Ne.symm d.pN) x.nn, fun b o h1 h2 h3 e => fr _ _ h1 (x.fr b o h1 h2 h3 e)⟩
theorem GS.made (x : GS P w C H0 H p pb c S D N tbl ns) (d : Dis p pb S N) (fr : FrC S D H H') (hc : Circ P w C H' c S D tbl2) : GS P w C H0 H' p pb c S D N tbl2 ns := by
  obtain ⟨zs, i, c', sd, e1, e2, h⟩ := x.pot
  exact ⟨⟨zs, i, c', sd, FrC.ne x.cc fr e1 d.pS (fun φ z => nomatch z), FrC.ne x.cc fr e2 d.bS (fun φ z => nomatch z), h⟩, hc, FrC.ne x.cc fr x.nn (Ne.symm d.SN) (fun φ z => nomatch z), fun b o h1 h2 h3 e => fr b o h2 h3 (x.fr b o h1 h2 h3 e)⟩
theorem GS.push (x : GS P w C H0 H p pb c S D N tbl ns) (d : Dis p pb S N) (h0 : H0 N = none) (y : Nat) : GS P w C H0 (upd H N (.lst (nV ns ++ [.int (y : Int)]))) p pb c S D N tbl (ns ++ [y]) := by
  have fr : Fr1 N H (upd H N (.lst (nV ns ++ [.int (y : Int)]))) := fun b o nb e => by rw [upd_ne nb]; exact e
  refine ⟨x.pot.fr fr d.pN d.bN, x.cc.fr fr x.nn (Ne.symm d.SN), ?_, fun b o h1 h2 h3 e => fr b o (ne_of_none e h0) (x.fr b o h1 h2 h3 e)⟩
  rw [upd_same]
  unfold nV
  rw [List.map_append]
  rfl
end
/-- a node as the identities leave it -/
def nfN : Nd → Prop
  | .star p => p ≠ 0
  | .plus ps => sortN ps = ps ∧ 2 ≤ ps.length ∧ ∀ p ∈ ps, p ≠ 0
  | .times ps => sortN ps = ps ∧ 2 ≤ ps.length ∧ ∀ p ∈ ps, p ≠ 0 ∧ p ≠ 1
  | _ => True
theorem sortN_idem (ns : List Nat) : sortN (sortN ns) = sortN ns := by
  have e := sortN_of (ns := sortN ns) (ns' := (sortN ns).map fun (n : Nat) => (n : Int)) (.refl _) ((sortN_rises ns).map (S := fun (a b : Int) => a ≤ b) _ fun a b hab => by omega)
  have id_ : ∀ zs : List Nat, (zs.map fun (n : Nat) => (n : Int)).map Int.toNat = zs := fun zs => by
    rw [List.map_map]
    exact (List.map_congr_left fun n _ => Int.toNat_natCast n).trans (List.map_id _)
  have e3 := congrArg (List.map Int.toNat) e
  rw [id_, id_] at e3
  exact e3.symm
theorem nf_mk {d : Kd} {p0 p1 : Nat} {ps : List Nat} (h0 : ∀ p ∈ p0 :: p1 :: ps, p ≠ 0) (h1 : d = .times → ∀ p ∈ p0 :: p1 :: ps, p ≠ 1) : nfN (d.mk (sortN (p0 :: p1 :: ps))) := by
  have hl : 2 ≤ (sortN (p0 :: p1 :: ps)).length := by rw [(sortN_perm _).length_eq]; simp
  cases d with
  | plus => exact ⟨sortN_idem _, hl, fun p hp => h0 p ((sortN_perm _).mem_iff.mp hp)⟩
  | times => exact ⟨sortN_idem _, hl, fun p hp => ⟨h0 p ((sortN_perm _).mem_iff.mp hp), h1 rfl p ((sortN_perm _).mem_iff.mp hp)⟩⟩
structure Fk4 (tbl : List Nd) : Prop where
  k4 : ∀ k, Nd.fact k ∈ tbl → k < 4
  z0 : tbl[0]? = some .zero
  z1 : tbl[1]? = some .one
  nf : ∀ nd ∈ tbl, nfN nd
def spGrown (P : Program) (w : World) (C : Addr) : Sp := fun vs H Q _ => ∃ (p pb c S D : Addr), vs = [.ref p, .ref c, .int 4, .bl true] ∧ PotB H p pb ∧ Circ P w C H c S D [.zero, .one] ∧ p ≠ S ∧ pb ≠ S ∧
  ∀ H' N tbl ns, PotB H' p pb → Circ P w C H' c S D tbl → H' N = some (.lst (nV ns)) → (∀ b o, b ≠ p → b ≠ S → b ≠ D → H b = some o → H' b = some o) → Good tbl → Fk4 tbl → (∀ x ∈ ns, x < tbl.length) → tbl.length ≤ 13 → ns.length ≤ 13 → 0 < ns.length → p ≠ N → pb ≠ N → H N = none → Q (.ref N) H'
theorem fact_ins {tbl : List Nd} {nd : Nd} (h : Fk4 tbl) (hn : ∀ k, nd = .fact k → k < 4) (hnf : nfN nd) : Fk4 (insN tbl nd) := by
  unfold insN
  split
  · exact h
  · refine ⟨fun k hk => ?_, ?_, ?_, fun z hz => (List.mem_append.mp hz).elim (h.nf z) fun e => by rw [List.mem_singleton.mp e]; exact hnf⟩
    · rcases List.mem_append.mp hk with h1 | h1
      · exact h.k4 k h1
      · exact hn k (List.mem_singleton.mp h1).symm
    · rw [List.getElem?_append_left (List.getElem?_eq_some_iff.mp h.z0).1]; exact h.z0
    · rw [List.getElem?_append_left (List.getElem?_eq_some_iff.mp h.z1).1]; exact h.z1
theorem fact_sev {tbl : List Nd} {d : Kd} {ps : List Nat} (h : Fk4 tbl) (h0 : ∀ p ∈ ps, p ≠ 0) (h1 : d = .times → ∀ p ∈ ps, p ≠ 1) : Fk4 (sevN tbl d ps).1 := by
  rcases ps with _ | ⟨p0, _ | ⟨p1, ps⟩⟩
  · exact h
  · exact h
  · exact fact_ins h (fun k e => by cases d <;> cases e) (nf_mk h0 h1)
theorem ins_idx (tbl : List Nd) (nd : Nd) : (insN tbl nd).idxOf nd < (insN tbl nd).length := List.idxOf_lt_length_of_mem (insN_mem tbl nd)
theorem sev_idx {tbl : List Nd} {d : Kd} {ps : List Nat} (g : Good tbl) (hp : ∀ p ∈ ps, p < tbl.length) : (sevN tbl d ps).2 < (sevN tbl d ps).1.length := by
  have := g.two
  rcases ps with _ | ⟨p0, _ | ⟨p1, ps⟩⟩
  · cases d
    · exact (by omega : 0 < tbl.length)
    · exact (by omega : 1 < tbl.length)
  · exact hp p0 (List.mem_cons_self ..)
  · exact ins_idx _ _
theorem ok_law_grown (m_fact : MetX P w K mg base 4 ad.Circuits "fact" (spFact P w ad.Circuits)) (m_star : MetX P w K mg base 4 ad.Circuits "star" (spStar P w ad.Circuits)) (m_plus : MetX P w K mg base 4 ad.Circuits "plus" (spPlus P w ad.Circuits .plus 0)) (m_times : MetX P w K mg base 4 ad.Circuits "times" (spPlus P w ad.Circuits .times 1)) (c_law_next : CalX P w K mg base 1 "_law_next" spNext) {f : Addr} {fd : FuncData} (F : Fun K "_law_grown" "_law_grown" s_law_grown f fd) (T : Txt K mg ad) : FnOk P w K mg base (L2.CX P w) 5 f fd ["pot", "circuits", "facts", "stars"] (spGrown P w ad.Circuits) := by
  refine F.okX sc_law_grown (fun vs H Q E => ?_) (fun cdv A outer s H vs Q E hr h => ?_)
  · walk_at "len"
  ·
    obtain ⟨p, pb, c, S, D, rfl, hp, cc, pS, bS, k⟩ := h
    have two : 2 ≤ sizeLine := by decide
    refine ⟨_, (pss_cons (ps_set (i := 4) sc_law_grown.nd rfl (by first | exact Or.inl rfl | exact Or.inr rfl) (pe_lst (pa_cons pe_int (pa_cons pe_int pa_nil))))
      (pss_cons (ps_for (passes_of rfl) rfl (pi_range1 (by rfl) T.z_range (pa_cons (pe_op op_add pe_int (pc_call c_law_next hr (by first | decide | omega) (takes_of rfl rfl rfl rfl) (by rfl) (pa_cons (pv 0) (pa_cons pe_int pa_nil)))) pa_nil)) (pg_name (i := 5) sc_law_grown.nd rfl (by first | exact Or.inl rfl | exact Or.inr rfl)) (pss_cons (ps_set (i := 6) sc_law_grown.nd rfl (by first | exact Or.inl rfl | exact Or.inr rfl) (pc_call c_law_next hr (by first | decide | omega) (takes_of rfl rfl rfl rfl) (by rfl) (pa_cons (pv 0) (pa_cons pe_int pa_nil))))
      (pss_cons (ps_setLc (i := 7) (own := [("j", 8)]) (tt := tYes) rfl sc_law_grown.nd rfl rfl (sw_true rfl rfl rfl (by decide +kernel)) (pi_range1 (by rfl) T.z_range (pa_cons (pc_call c_law_next hr (by first | decide | omega) (takes_of rfl rfl rfl rfl) (by rfl) (pa_cons (pv 0) (pa_cons pe_int pa_nil))) pa_nil)) (blkOk_by (by kernel_rfl)) (fun _ _ _ _ _ => (pg_name (i := 8) sc_law_grown.nd rfl (by first | exact Or.inl rfl | exact Or.inr rfl))) (fun _ _ _ _ _ => pts_nil) (fun _ _ _ _ _ => (pe_ix (kix_list (K := K)) (pv 4) (pe_op op_sub (pe_op op_sub (pe_callB (kcall_len (K := K)) (by rfl) T.z_len (by decide +kernel) (pa_cons (pv 4) pa_nil)) pe_int) (pc_call c_law_next hr (by first | decide | omega) takes0 (by rfl) (pa_cons (pv 0) (pa_cons (pe_callB (call_min2 rfl) (by rfl) T.z_min (by decide +kernel) (pa_cons pe_int (pa_cons (pe_callB (kcall_len (K := K)) (by rfl) T.z_len (by decide +kernel) (pa_cons (pv 4) pa_nil)) pa_nil))) pa_nil)))) (fun _ _ => rfl))))
      (pss_one (ps_if (pt_cmpR op_lt (pv 6) pe_int (nomark _)) (pss_one (ps_expr (pe_bm PySem.F.plainAttrs_list PySem.F.slot_list_append PySem.F.type_list_append mt_append (pv 4) (pa_cons (pd_meth hr (takes_of rfl rfl rfl rfl) (pv 1) (pa_cons (pc_call c_law_next hr (by first | decide | omega) (takes_of rfl rfl rfl rfl) (by rfl) (pa_cons (pv 0) (pa_cons (pv 2) pa_nil))) pa_nil)) pa_nil)))) (pss_one (ps_if (PW.pt (pw_and (pt_cmpR op_eq (pv 6) pe_int (nomark _)) (pw_and1 (pt_val (pv 3))))) (pss_one (ps_expr (pe_bm PySem.F.plainAttrs_list PySem.F.slot_list_append PySem.F.type_list_append mt_append (pv 4) (pa_cons (pd_meth hr (takes_of rfl rfl rfl rfl) (pv 1) (pa_cons (pe_ix ix_list (pv 4) (pc_call c_law_next hr (by first | decide | omega) (takes_of rfl rfl rfl rfl) (by rfl) (pa_cons (pv 0) (pa_cons (pe_callB call_len (by rfl) T.z_len (by decide +kernel) (pa_cons (pv 4) pa_nil)) pa_nil))) (fun _ _ => rfl)) pa_nil)) pa_nil)))) (pss_one (ps_if (PW.pt (pw_or (pt_cmpR op_eq (pv 6) pe_int (nomark _)) (pw_or1 (pt_cmpR op_eq (pv 6) pe_int (nomark _))))) (pss_one (ps_expr (pe_bm PySem.F.plainAttrs_list PySem.F.slot_list_append PySem.F.type_list_append mt_append (pv 4) (pa_cons (pd_meth hr (takes_of rfl rfl rfl rfl) (pv 1) (pa_cons (pv 7) pa_nil)) pa_nil)))) (pss_one (ps_expr (pe_bm PySem.F.plainAttrs_list PySem.F.slot_list_append PySem.F.type_list_append mt_append (pv 4) (pa_cons (pd_meth hr (takes_of rfl rfl rfl rfl) (pv 1) (pa_cons (pv 7) pa_nil)) pa_nil)))))))))))))
      (pss_one (ps_ret (pv 4))))), ?_⟩
    refine go_seq ⟨two, fun N hN => go_name rfl ?_⟩
    obtain ⟨xp, hxp⟩ := hp.ls
    obtain ⟨xb, hxb⟩ := hp.lb
    obtain ⟨aS, hS, _⟩ := cc.lS
    have dis : Dis p pb S N := ⟨pS, bS, ne_of_none hxp hN, ne_of_none hxb hN, ne_of_none hS hN⟩
    have s1 : Same H (upd H N (.lst [.int 0, .int 1])) := same_new (Same.refl _) hN
    have g0 : GS P w ad.Circuits H (upd H N (.lst [.int 0, .int 1])) p pb c S D N [.zero, .one] [0, 1] := ⟨hp.same s1, cc.same s1, upd_same, fun b o _ _ _ e => s1 _ _ e⟩
    refine go_sq ⟨_, rfl, p, 8, rfl, g0.pot.at_, by decide, by decide, fun H2 r fr2 _ r0 r1 hb2 => ?_⟩
    obtain ⟨j, rfl⟩ := toN r0
    have g2 := g0.draw dis fr2 hb2
    refine ⟨_, _, rfl, rfl, _, rfl, by omega, by omega, ?_⟩
    obtain ⟨m, hm, hm11⟩ : ∃ m : Nat, (4 : Int) + (j : Int) = (m : Int) ∧ m ≤ 11 := ⟨4 + j, by omega, by omega⟩
    rw [hm, Int.toNat_natCast]
    refine for_range (lo := 0) (n := m) (fun i σ H' => ∃ (v5 v6 v7 : Option V) (tbl : List Nd) (ns : List Nat), σ = [some (.ref p), some (.ref c), some (.int 4), some (.bl true), some (.ref N), v5, v6, v7, none] ∧ GS P w ad.Circuits H H' p pb c S D N tbl ns ∧ Good tbl ∧ Fk4 tbl ∧ (∀ x ∈ ns, x < tbl.length) ∧ tbl.length ≤ i + 2 ∧ ns.length = i + 2)
      ⟨none, none, none, _, _, rfl, g2, good0, ⟨fun k hk => by simp at hk, rfl, rfl, fun z hz => by rcases List.mem_cons.mp hz with rfl | hz <;> first | trivial | (rw [List.mem_singleton.mp hz]; trivial)⟩, fun x hx => by simp at hx; (show x < 2); omega, Nat.le_refl _, rfl⟩ ?_ ?_
    · rintro i σ H3 hi ⟨v5, v6, v7, tbl, ns, rfl, g3, gd, fk, lt, tl, nl⟩
      rw [Int.zero_add]
      refine go_name rfl ?_
      refine go_seq ⟨_, rfl, p, 6, rfl, g3.pot.at_, by decide, by decide, fun H4 kd fr4 _ kd0 kd1 hb4 => go_name rfl ?_⟩
      obtain ⟨kd, rfl⟩ := toN kd0
      have g4 := g3.draw dis fr4 hb4
      -- drawn
      refine go_sq ⟨_, rfl, p, 3, rfl, g4.pot.at_, by decide, by decide, fun H5 r3 fr5 _ r30 r31 hb5 => ?_⟩
      obtain ⟨j3, rfl⟩ := toN r30
      have g5 := g4.draw dis fr5 hb5
      refine ⟨_, rfl, by omega, by omega, fun D5 hD5 => ?_⟩
      rw [Int.toNat_natCast]
      obtain ⟨_, hp5⟩ := g5.pot.ls
      obtain ⟨_, hb5'⟩ := g5.pot.lb
      obtain ⟨_, hS5, _⟩ := g5.cc.lS
      have n1 : D5 ≠ p := (ne_of_none hp5 hD5).symm
      have n2 : D5 ≠ pb := (ne_of_none hb5' hD5).symm
      have n3 : D5 ≠ S := (ne_of_none hS5 hD5).symm
      have n4 : D5 ≠ N := (ne_of_none g5.nn hD5).symm
      have h0D : H D5 = none ∨ D5 = D := by
        by_cases hd : D5 = D
        · exact .inr hd
        · refine .inl ?_
          cases h : H D5 with
          | none => rfl
          | some u => rw [g5.fr D5 u n1 n3 hd h] at hD5; cases hD5
      have n5 : D5 ≠ D := by
        obtain ⟨φ, hφ⟩ := g5.cc.nums.ext
        exact (ne_of_none hφ hD5).symm
      have h0D := h0D.resolve_right n5
      refine lc_range (lo := 0) (n := j3) (fun i' H' => GS P w ad.Circuits H H' p pb c S D N tbl ns ∧ ∃ qs : List Nat, H' D5 = some (.lst (nV qs)) ∧ qs.length = i' ∧ ∀ x ∈ qs, x < tbl.length) ⟨g5.same (same_new (Same.refl _) hD5), [], upd_same, rfl, fun x z => nomatch z⟩ (fun i' H6 hi' ⟨g6, qs, e6, l6, m6⟩ => ?_) (fun H6 ⟨g6, ps, e6, l6, m6⟩ => ?_)
      · have eL : (nV ns).length = ns.length := nV_length ns
        refine ⟨rfl, yes_then (iteT ⟨_, rfl, _, rfl, .ref N, _, rfl, .inl ⟨_, SqL.of g6.nn, rfl⟩, _, _, rfl, rfl, _, rfl, _, rfl, .ref N, _, rfl, .inl ⟨_, SqL.of g6.nn, rfl⟩, _, _, rfl, ?_⟩)⟩
        obtain ⟨lm, hlm, lm0, lm1⟩ : ∃ lm : Nat, (if (((nV ns).length : Nat) : Int) < 6 then (((nV ns).length : Nat) : Int) else 6) = (lm : Int) ∧ 0 < lm ∧ lm ≤ ns.length := by
          refine ⟨min ns.length 6, ?_, by omega, by omega⟩
          rw [eL]
          split <;> omega
        rw [hlm]
        refine ⟨p, _, rfl, g6.pot.at_, by omega, by omega, fun H7 r5 fr7 _ r50 r51 hb7 => ?_⟩
        obtain ⟨j5, rfl⟩ := toN r50
        have g7 := g6.draw dis fr7 hb7
        have hix : ns.length - 1 - j5 < ns.length := by omega
        have hget : ns[ns.length - 1 - j5]? = some ns[ns.length - 1 - j5] := List.getElem?_eq_getElem hix
        refine ⟨_, _, rfl, rfl, N, _, _, .int (ns[ns.length - 1 - j5] : Nat), rfl, rfl, SqL.of g7.nn, at_of (j := ns.length - 1 - j5) (by rw [eL]; omega) (by rw [List.getElem?_map, hget]; rfl), _, fr7 _ _ n1 e6, ?_, ?_⟩
        · rw [nV_length, l6]
          exact Nat.lt_of_le_of_lt (by omega : i' ≤ 100) (by decide)
        · have frD : Fr1 D5 H7 (upd H7 D5 (.lst (nV qs ++ [.int (ns[ns.length - 1 - j5] : Nat)]))) := fun b o nb e => by rw [upd_ne nb]; exact e
          have eD := fr7 _ _ n1 e6
          refine ⟨⟨g7.pot.fr frD (Ne.symm n1) (Ne.symm n2), g7.cc.fr frD eD n3, frD _ _ (Ne.symm n4) g7.nn, fun b o h1 h2 h3 e => frD _ _ (ne_of_none e h0D) (g7.fr b o h1 h2 h3 e)⟩, qs ++ [ns[ns.length - 1 - j5]], ?_, by rw [List.length_append, l6]; rfl, fun x hx => ?_⟩
          · rw [upd_same]
            unfold nV
            rw [List.map_append]
            rfl
          · rcases List.mem_append.mp hx with h | h
            · exact m6 x h
            · rw [List.mem_singleton.mp h]
              exact lt _ (List.getElem_mem hix)
      refine go_name rfl ?_
      have lb : tbl.length < 1000 := by omega
      have hlN : (nV ns).length < sizeLine := by rw [nV_length]; exact Nat.lt_of_le_of_lt (by omega : ns.length ≤ 100) (by decide)
      have fin : ∀ (H9 : Hp) (tbl2 : List Nd) (y : Nat) (v6 v7 : Option V), GS P w ad.Circuits H H9 p pb c S D N tbl2 ns → Nxt tbl tbl2 → Fk4 tbl2 → y < tbl2.length → ∃ (v5 v6' v7' : Option V) (tbl3 : List Nd) (ns3 : List Nat), [some (.ref p), some (.ref c), some (.int 4), some (.bl true), some (.ref N), some (.int (i : Int)), v6, v7, none] = [some (.ref p), some (.ref c), some (.int 4), some (.bl true), some (.ref N), v5, v6', v7', none] ∧ GS P w ad.Circuits H (upd H9 N (.lst (nV ns ++ [.int (y : Int)]))) p pb c S D N tbl3 ns3 ∧ Good tbl3 ∧ Fk4 tbl3 ∧ (∀ x ∈ ns3, x < tbl3.length) ∧ tbl3.length ≤ i + 1 + 2 ∧ ns3.length = i + 1 + 2 := fun H9 tbl2 y v6 v7 g9 nx fk2 hy => by
        refine ⟨_, _, _, tbl2, ns ++ [y], rfl, g9.push dis hN y, nx.good, fk2, fun x hx => ?_, by have := nx.len; omega, by rw [List.length_append, nl]; rfl⟩
        rcases List.mem_append.mp hx with h | h
        · have := lt x h; have := nx.le; omega
        · rw [List.mem_singleton.mp h]; exact hy
      obtain ⟨dxc, hc6⟩ := g6.cc.ins
      refine ⟨_, rfl, _, _, rfl, rfl, _, rfl, ?_⟩
      by_cases c2 : kd < 2
      · rw [decide_eq_true (show (kd : Int) < 2 by omega)]
        refine iteT ?_
        refine ⟨_, rfl, .inl ⟨rfl, _, SqL.of g6.nn⟩, _, rfl, c, _, dxc, _, 4, _, rfl, hc6, fC_no _ _ (by decide) (by decide), by decide, m_fact, _, rfl, _, rfl, p, 4, rfl, g6.pot.at_, by decide, by decide, fun H7 r7 fr7 _ r70 r71 hb7 => ?_⟩
        obtain ⟨q, rfl⟩ := toN r70
        have g7 := g6.draw dis fr7 hb7
        refine ⟨c, S, D, tbl, q, rfl, g7.cc, lb, fun H8 fr8 cc8 => ?_⟩
        have g8 := g7.made dis fr8 cc8
        refine ⟨N, _, _, rfl, rfl, g8.nn, hlN, go_nx ?_⟩
        exact fin H8 _ _ _ _ g8 (gd.ins (fun p h => nomatch h) (Nat.zero_le _)) (fact_ins fk (fun k e => by injection e with e; omega) trivial) (ins_idx _ _)
      · rw [decide_eq_false (show ¬ (kd : Int) < 2 by omega)]
        refine iteF ⟨_, rfl, rfl, _, rfl, ?_⟩
        have pls : ∀ (d : Kd) (out : Nat), d.neu = out → ps.length ≤ 1000 := fun _ _ _ => by omega
        by_cases c5 : kd = 5
        · subst c5
          refine iteT ⟨_, rfl, true, rfl, iteT ?_⟩
          refine ⟨_, rfl, .inl ⟨rfl, _, SqL.of g6.nn⟩, _, rfl, c, _, dxc, _, 4, _, rfl, hc6, fC_no _ _ (by decide) (by decide), by decide, m_star, _, rfl, _, rfl, _, rfl, .ref N, _, rfl, .inl ⟨_, SqL.of g6.nn, rfl⟩, p, _, rfl, g6.pot.at_, by (rw [nV_length]; omega), by (rw [nV_length]; exact Nat.lt_of_le_of_lt (by omega : _ ≤ 1000) (by decide)), fun H7 r7 fr7 _ r70 r71 hb7 => ?_⟩
          obtain ⟨q, rfl⟩ := toN r70
          rw [nV_length] at r71
          have g7 := g6.draw dis fr7 hb7
          have hq : q < ns.length := by omega
          have hget : ns[q]? = some ns[q] := List.getElem?_eq_getElem hq
          have hlt := lt _ (List.getElem_mem hq)
          refine ⟨N, _, _, .int (ns[q] : Nat), rfl, rfl, SqL.of g7.nn, at_of (j := q) rfl (by rw [List.getElem?_map, hget]; rfl), c, S, D, tbl, ns[q], rfl, g7.cc, lb, fun z => ?_, fun z H8 fr8 cc8 => ?_⟩
          · refine ⟨N, _, _, rfl, rfl, g7.nn, hlN, go_nx ?_⟩
            exact fin H7 tbl 1 _ _ g7 gd.self fk (by have := gd.two; omega)
          · have g8 := g7.made dis fr8 cc8
            refine ⟨N, _, _, rfl, rfl, g8.nn, hlN, go_nx ?_⟩
            exact fin H8 _ _ _ _ g8 (gd.ins (fun p h => by rw [List.mem_singleton.mp h]; exact hlt) (by show 1 ≤ 1000; decide)) (fact_ins fk (fun k e => nomatch e) z) (ins_idx _ _)
        · rw [decide_eq_false (show ¬ V.int (kd : Int) = V.int 5 from fun z => c5 (by injection z with z; omega))]
          refine iteF (iteF ⟨_, rfl, rfl, _, rfl, ?_⟩)
          have hl7 : ps.length ≤ 1000 := by omega
          by_cases ck2 : kd = 2
          · subst ck2
            refine iteT (iteT ?_)
            refine ⟨_, rfl, .inl ⟨rfl, _, SqL.of g6.nn⟩, _, rfl, c, _, dxc, _, 4, _, rfl, hc6, fC_no _ _ (by decide) (by decide), by decide, m_plus, _, rfl, c, S, D, tbl, D5, ps, rfl, g6.cc, lb, .inl e6, hl7, (fun z => (nomatch z)), fun hz H8 fr8 cc8 => ?_⟩
            have g8 := g6.made dis fr8 cc8
            refine ⟨N, _, _, rfl, rfl, g8.nn, hlN, go_nx ?_⟩
            exact fin H8 _ _ _ _ g8 (sev_nxt gd (fun p h => m6 p (List.mem_filter.mp h).1) (Nat.le_trans (List.length_filter_le _ _) hl7)) (fact_sev fk (fun p h => by simpa using (List.mem_filter.mp h).2) (fun e => nomatch e)) (sev_idx gd fun p h => m6 p (List.mem_filter.mp h).1)
          · rw [decide_eq_false (show ¬ V.int (kd : Int) = V.int 2 from fun z => ck2 (by injection z with z; omega))]
            refine iteF ⟨_, rfl, rfl, _, rfl, ?_⟩
            by_cases ck4 : kd = 4
            · subst ck4
              refine iteT ?_
              refine ⟨_, rfl, .inl ⟨rfl, _, SqL.of g6.nn⟩, _, rfl, c, _, dxc, _, 4, _, rfl, hc6, fC_no _ _ (by decide) (by decide), by decide, m_plus, _, rfl, c, S, D, tbl, D5, ps, rfl, g6.cc, lb, .inl e6, hl7, (fun z => (nomatch z)), fun hz H8 fr8 cc8 => ?_⟩
              have g8 := g6.made dis fr8 cc8
              refine ⟨N, _, _, rfl, rfl, g8.nn, hlN, go_nx ?_⟩
              exact fin H8 _ _ _ _ g8 (sev_nxt gd (fun p h => m6 p (List.mem_filter.mp h).1) (Nat.le_trans (List.length_filter_le _ _) hl7)) (fact_sev fk (fun p h => by simpa using (List.mem_filter.mp h).2) (fun e => nomatch e)) (sev_idx gd fun p h => m6 p (List.mem_filter.mp h).1)
            · rw [decide_eq_false (show ¬ V.int (kd : Int) = V.int 4 from fun z => ck4 (by injection z with z; omega))]
              refine iteF ?_
              refine ⟨_, rfl, .inl ⟨rfl, _, SqL.of g6.nn⟩, _, rfl, c, _, dxc, _, 4, _, rfl, hc6, fC_no _ _ (by decide) (by decide), by decide, m_times, _, rfl, c, S, D, tbl, D5, ps, rfl, g6.cc, lb, .inl e6, hl7, fun _ _ => ?_, fun hz H8 fr8 cc8 => ?_⟩
              · refine ⟨N, _, _, rfl, rfl, g6.nn, hlN, go_nx ?_⟩
                exact fin H6 tbl 0 _ _ g6 gd.self fk (by have := gd.two; omega)
              · have g8 := g6.made dis fr8 cc8
                refine ⟨N, _, _, rfl, rfl, g8.nn, hlN, go_nx ?_⟩
                exact fin H8 _ _ _ _ g8 (sev_nxt gd (fun p h => m6 p (List.mem_filter.mp h).1) (Nat.le_trans (List.length_filter_le _ _) hl7)) (fact_sev fk (fun p h e => hz rfl (e ▸ (List.mem_filter.mp h).1)) (fun _ p h => by simpa using (List.mem_filter.mp h).2)) (sev_idx gd fun p h => m6 p (List.mem_filter.mp h).1)
    · rintro σ H3 ⟨v5, v6, v7, tbl, ns, rfl, g3, gd, fk, lt, tl, nl⟩
      exact ⟨_, rfl, k H3 N tbl ns g3.pot g3.cc g3.nn g3.fr gd fk lt (by omega) (by omega) (by omega) dis.pN dis.bN hN⟩
end
end K14

set_option Elab.async false
set_option linter.all false
set_option maxRecDepth 100000
set_option maxHeartbeats 4000000
namespace K14
open PySem L2 Ew Tb SRm GxR ND
local macro_rules | `(tactic| walk_at "len") => `(tactic| first | (intro h; obtain ⟨_, e, _⟩ := h; rw [e]; rfl) | (intro h; obtain ⟨_, _, e, _⟩ := h; rw [e]; rfl) | (intro h; obtain ⟨_, _, _, e, _⟩ := h; rw [e]; rfl) | (intro h; obtain ⟨_, _, _, _, e, _⟩ := h; rw [e]; rfl) | (intro h; obtain ⟨_, _, _, _, _, e, _⟩ := h; rw [e]; rfl) | (intro h; obtain ⟨_, _, _, _, _, _, e, _⟩ := h; rw [e]; rfl) | (intro h; obtain ⟨_, _, _, _, _, _, _, e, _⟩ := h; rw [e]; rfl) | (intro h; obtain ⟨_, _, _, _, _, _, _, _, e, _⟩ := h; rw [e]; rfl) | (intro h; obtain ⟨_, _, _, _, _, _, _, _, _, e, _⟩ := h; rw [e]; rfl) | (intro h; obtain ⟨_, _, _, _, _, _, _, _, _, _, e, _⟩ := h; rw [e]; rfl) | (intro h; obtain ⟨_, _, _, _, _, _, _, _, _, _, _, e, _⟩ := h; rw [e]; rfl) | (intro h; obtain ⟨_, _, _, _, _, _, _, _, _, _, _, _, e, _⟩ := h; rw [e]; rfl) | (intro h; obtain ⟨_, _, _, _, _, _, _, _, _, _, _, _, _, e, _⟩ := h; rw [e]; rfl))
local macro_rules | `(tactic| walk_at "len") => `(tactic| first | (intro h; obtain ⟨_, _, _, _, _, _, _, _, e, _⟩ := h; rw [e]; rfl) | (intro h; obtain ⟨_, _, _, _, _, _, _, _, _, e, _⟩ := h; rw [e]; rfl) | (intro h; obtain ⟨_, _, _, _, _, _, _, _, _, _, e, _⟩ := h; rw [e]; rfl) | (intro h; obtain ⟨_, _, _, _, _, _, _, _, _, _, _, e, _⟩ := h; rw [e]; rfl) | (intro h; obtain ⟨_, _, _, _, _, _, _, _, _, _, _, _, e, _⟩ := h; rw [e]; rfl) | (intro h; obtain ⟨_, _, _, _, _, _, _, _, _, _, _, _, _, e, _⟩ := h; rw [e]; rfl) | (intro h; obtain ⟨_, _, _, _, _, _, _, _, _, _, _, _, _, _, e, _⟩ := h; rw [e]; rfl) | (intro h; obtain ⟨_, _, _, _, _, _, _, _, _, _, _, _, _, _, _, e, _⟩ := h; rw [e]; rfl) | (intro h; obtain ⟨_, _, _, _, _, _, _, _, _, _, _, _, _, _, _, _, e, _⟩ := h; rw [e]; rfl) | (intro h; obtain ⟨_, _, _, _, _, _, _, _, _, _, _, _, _, _, _, _, _, e, _⟩ := h; rw [e]; rfl))
/-! ### exchange: the mathematics -/
def idx_ (T : List Nd) (nd : Nd) : List Nd × Nat := (insN T nd, (insN T nd).idxOf nd)
def exN (ins : Nat → Option Nat) (T : List Nd) (x : Nat → Nat) : Nd → List Nd × Nat
  | .zero => (T, 0)
  | .one => (T, 1)
  | .fact k => match ins k with
    | some m => (T, m)
    | none => idx_ T (.fact k)
  | .star p => if x p = 0 then (T, 1) else idx_ T (.star (x p))
  | .plus ps => sevN T .plus ((ps.map x).filter fun n => decide (n ≠ 0))
  | .times ps => if 0 ∈ ps.map x then (T, 0) else sevN T .times ((ps.map x).filter fun n => decide (n ≠ 1))
/-- the table grows -/
def Ext (T T' : List Nd) : Prop := ∃ e, T' = T ++ e
theorem Ext.refl (T : List Nd) : Ext T T := ⟨[], (List.append_nil T).symm⟩
theorem Ext.trans {T T1 T2 : List Nd} (a : Ext T T1) (b : Ext T1 T2) : Ext T T2 := by
  obtain ⟨e, rfl⟩ := a
  obtain ⟨e', rfl⟩ := b
  exact ⟨e ++ e', List.append_assoc ..⟩
theorem Ext.at_ {T T' : List Nd} (a : Ext T T') {m : Nat} (h : m < T.length) : T'[m]? = T[m]? := by
  obtain ⟨e, rfl⟩ := a
  exact List.getElem?_append_left h
theorem Ext.le {T T' : List Nd} (a : Ext T T') : T.length ≤ T'.length := by
  obtain ⟨e, rfl⟩ := a
  rw [List.length_append]; omega
theorem ext_ins (T : List Nd) (nd : Nd) : Ext T (insN T nd) := by
  unfold insN
  split
  · exact .refl T
  · exact ⟨[nd], rfl⟩
theorem ext_sev (T : List Nd) (d : Kd) (ps : List Nat) : Ext T (sevN T d ps).1 := by
  rcases ps with _ | ⟨p0, _ | ⟨p1, ps⟩⟩
  · exact .refl T
  · exact .refl T
  · exact ext_ins _ _
theorem val_ext {A : Alg} {T T' : List Nd} (w : Wf T) (w' : Wf T') (e : Ext T T') : ∀ m, m < T.length → val A T' m = val A T m := by
  intro m
  induction m using Nat.strongRecOn with
  | ind m ih =>
    intro hm
    have h1 : T[m]? = some T[m] := List.getElem?_eq_getElem hm
    have h2 : T'[m]? = some T[m] := (e.at_ hm).trans h1
    rw [val_val (A := A) w' m _ h2, val_val (A := A) w m _ h1]
    refine evV_congr fun p hp => ?_
    have := w m _ h1 p hp
    exact ih p this (by omega)
theorem ins_at (T : List Nd) (nd : Nd) : (insN T nd)[(insN T nd).idxOf nd]? = some nd := by
  have h := ins_idx T nd
  rw [List.getElem?_eq_getElem h, List.getElem_idxOf]
/-- a good table in normal form -/
structure GN (T : List Nd) : Prop where
  good : Good T
  fk : Fk4 T
theorem gn_ins {T : List Nd} {nd : Nd} (g : GN T) (hp : ∀ p ∈ nd.parts, p < T.length) (hl : nd.parts.length ≤ 1000) (hk : ∀ k, nd = .fact k → k < 4) (hn : nfN nd) : GN (insN T nd) ∧ (insN T nd).length ≤ T.length + 1 := by
  have nx := g.good.ins hp hl
  exact ⟨⟨nx.good, fact_ins g.fk hk hn⟩, nx.len⟩
theorem gn_sev {T : List Nd} {d : Kd} {ps : List Nat} (g : GN T) (hp : ∀ p ∈ ps, p < T.length) (hl : ps.length ≤ 1000) (h0 : ∀ p ∈ ps, p ≠ 0) (h1 : d = .times → ∀ p ∈ ps, p ≠ 1) : GN (sevN T d ps).1 ∧ (sevN T d ps).1.length ≤ T.length + 1 := by
  have nx := sev_nxt (d := d) g.good hp hl
  exact ⟨⟨nx.good, fact_sev g.fk h0 h1⟩, nx.len⟩
/-- one exchange: what it leaves -/
theorem ex_gn {ins : Nat → Option Nat} {T : List Nd} {x : Nat → Nat} {nd : Nd} (g : GN T) (hx : ∀ p ∈ nd.parts, x p < T.length) (hl : nd.parts.length ≤ 1000) (hk : ∀ k, nd = .fact k → k < 4) (hi : ∀ k m, nd = .fact k → ins k = some m → m < T.length) :
    GN (exN ins T x nd).1 ∧ Ext T (exN ins T x nd).1 ∧ (exN ins T x nd).1.length ≤ T.length + 1 ∧ (exN ins T x nd).2 < (exN ins T x nd).1.length := by
  have two := g.good.two
  cases nd with
  | zero => exact ⟨g, .refl T, Nat.le_succ _, (by omega : 0 < T.length)⟩
  | one => exact ⟨g, .refl T, Nat.le_succ _, (by omega : 1 < T.length)⟩
  | fact k =>
    show GN (match ins k with | some m => (T, m) | none => idx_ T (.fact k) : List Nd × Nat).1 ∧ Ext T (match ins k with | some m => (T, m) | none => idx_ T (.fact k) : List Nd × Nat).1 ∧ (match ins k with | some m => (T, m) | none => idx_ T (.fact k) : List Nd × Nat).1.length ≤ T.length + 1 ∧ (match ins k with | some m => (T, m) | none => idx_ T (.fact k) : List Nd × Nat).2 < (match ins k with | some m => (T, m) | none => idx_ T (.fact k) : List Nd × Nat).1.length
    rcases e : ins k with _ | m
    · obtain ⟨h1, h2⟩ := gn_ins (nd := .fact k) g (fun p h => nomatch h) (Nat.zero_le _) (fun k' e => by injection e with e; exact e ▸ hk k rfl) trivial
      exact ⟨h1, ext_ins _ _, h2, ins_idx _ _⟩
    · exact ⟨g, .refl T, Nat.le_succ _, hi k m rfl e⟩
  | star p =>
    show GN (if x p = 0 then (T, 1) else idx_ T (.star (x p)) : List Nd × Nat).1 ∧ Ext T (if x p = 0 then (T, 1) else idx_ T (.star (x p)) : List Nd × Nat).1 ∧ (if x p = 0 then (T, 1) else idx_ T (.star (x p)) : List Nd × Nat).1.length ≤ T.length + 1 ∧ (if x p = 0 then (T, 1) else idx_ T (.star (x p)) : List Nd × Nat).2 < (if x p = 0 then (T, 1) else idx_ T (.star (x p)) : List Nd × Nat).1.length
    by_cases c : x p = 0
    · rw [if_pos c]
      exact ⟨g, .refl T, Nat.le_succ _, (by omega : 1 < T.length)⟩
    · rw [if_neg c]
      obtain ⟨h1, h2⟩ := gn_ins (nd := .star (x p)) g (fun q h => by rw [List.mem_singleton.mp h]; exact hx p (by simp [Nd.parts])) (by show 1 ≤ 1000; decide) (fun k' e => nomatch e) c
      exact ⟨h1, ext_ins _ _, h2, ins_idx _ _⟩
  | plus ps =>
    have hf : ∀ q ∈ (ps.map x).filter (fun n => decide (n ≠ 0)), q < T.length := fun q h => by
      obtain ⟨p, hp, rfl⟩ := List.mem_map.mp (List.mem_filter.mp h).1
      exact hx p hp
    obtain ⟨h1, h2⟩ := gn_sev (d := .plus) g hf (Nat.le_trans (List.length_filter_le _ _) (by rw [List.length_map]; exact hl)) (fun p h => by simpa using (List.mem_filter.mp h).2) (fun e => nomatch e)
    exact ⟨h1, ext_sev _ _ _, h2, sev_idx g.good hf⟩
  | times ps =>
    have hf : ∀ q ∈ (ps.map x).filter (fun n => decide (n ≠ 1)), q < T.length := fun q h => by
      obtain ⟨p, hp, rfl⟩ := List.mem_map.mp (List.mem_filter.mp h).1
      exact hx p hp
    show GN (if 0 ∈ ps.map x then (T, 0) else sevN T .times ((ps.map x).filter fun n => decide (n ≠ 1)) : List Nd × Nat).1 ∧ Ext T (if 0 ∈ ps.map x then (T, 0) else sevN T .times ((ps.map x).filter fun n => decide (n ≠ 1)) : List Nd × Nat).1 ∧ (if 0 ∈ ps.map x then (T, 0) else sevN T .times ((ps.map x).filter fun n => decide (n ≠ 1)) : List Nd × Nat).1.length ≤ T.length + 1 ∧ (if 0 ∈ ps.map x then (T, 0) else sevN T .times ((ps.map x).filter fun n => decide (n ≠ 1)) : List Nd × Nat).2 < (if 0 ∈ ps.map x then (T, 0) else sevN T .times ((ps.map x).filter fun n => decide (n ≠ 1)) : List Nd × Nat).1.length
    by_cases c : 0 ∈ ps.map x
    · rw [if_pos c]
      exact ⟨g, .refl T, Nat.le_succ _, (by omega : 0 < T.length)⟩
    · rw [if_neg c]
      obtain ⟨h1, h2⟩ := gn_sev (d := .times) g hf (Nat.le_trans (List.length_filter_le _ _) (by rw [List.length_map]; exact hl)) (fun p h e => c (e ▸ (List.mem_filter.mp h).1)) (fun _ p h => by simpa using (List.mem_filter.mp h).2)
      exact ⟨h1, ext_sev _ _ _, h2, sev_idx g.good hf⟩
/-- nothing is exchanged: the node itself -/
theorem ex_id {T : List Nd} (g : GN T) {m : Nat} {nd : Nd} (e : T[m]? = some nd) {x : Nat → Nat} (hx : ∀ p ∈ nd.parts, x p = p) {ins : Nat → Option Nat} (hi : ∀ k, ins k = none) : exN ins T x nd = (T, m) := by
  have hm := (List.getElem?_eq_some_iff.mp e).1
  have mem : nd ∈ T := List.mem_of_getElem? e
  have nf := g.fk.nf nd mem
  have same_ : ∀ {nd' : Nd}, nd' = nd → idx_ T nd' = (T, m) := fun {nd'} h => by
    subst h
    have hi : insN T nd' = T := by unfold insN; rw [if_pos mem]
    have h1 := ins_at T nd'
    have h2 := ins_idx T nd'
    unfold idx_
    rw [hi] at h1 h2 ⊢
    rw [(List.getElem?_inj h2 g.good.nd).mp (h1.trans e.symm)]
  have uni : ∀ {i : Nat}, T[i]? = some nd → i = m := fun {i} h => (List.getElem?_inj (List.getElem?_eq_some_iff.mp h).1 g.good.nd).mp (h.trans e.symm)
  have mapx : ∀ {ps : List Nat}, (∀ p ∈ ps, x p = p) → ps.map x = ps := fun h => (List.map_congr_left h).trans (List.map_id _)
  cases nd with
  | zero =>
    have h := uni g.fk.z0
    subst h
    rfl
  | one =>
    have h := uni g.fk.z1
    subst h
    rfl
  | fact k =>
    show (match ins k with | some m => (T, m) | none => idx_ T (.fact k) : List Nd × Nat) = _
    rw [hi k]
    exact same_ rfl
  | star p =>
    have hp := hx p (by simp [Nd.parts])
    show (if x p = 0 then (T, 1) else idx_ T (.star (x p)) : List Nd × Nat) = _
    rw [hp, if_neg nf]
    exact same_ rfl
  | plus ps =>
    obtain ⟨h1, h2, h3⟩ := nf
    show sevN T .plus ((ps.map x).filter fun n => decide (n ≠ 0)) = _
    rw [mapx (ps := ps) hx, List.filter_eq_self.mpr fun p hp => by simpa using h3 p hp]
    rcases ps with _ | ⟨p0, _ | ⟨p1, ps⟩⟩
    · simp at h2
    · simp at h2
    · exact same_ (congrArg Nd.plus h1)
  | times ps =>
    obtain ⟨h1, h2, h3⟩ := nf
    show (if 0 ∈ ps.map x then (T, 0) else sevN T .times ((ps.map x).filter fun n => decide (n ≠ 1)) : List Nd × Nat) = _
    rw [mapx (ps := ps) hx, if_neg fun z => (h3 0 z).1 rfl, List.filter_eq_self.mpr fun p hp => by simpa using (h3 p hp).2]
    rcases ps with _ | ⟨p0, _ | ⟨p1, ps⟩⟩
    · simp at h2
    · simp at h2
    · exact same_ (congrArg Nd.times h1)
/-! ### folds -/
structure CM (n : Nat) (f : Nat → Nat → Nat) (z : Nat) : Prop where
  zl : z < n
  cl : ∀ a, a < n → ∀ b, b < n → f a b < n
  co : ∀ a, a < n → ∀ b, b < n → f a b = f b a
  as : ∀ a, a < n → ∀ b, b < n → ∀ c, c < n → f a (f b c) = f (f a b) c
  ne : ∀ a, a < n → f z a = a
theorem cm_p {n o : Nat} {f g : Nat → Nat → Nat} (s : SR n f g o) : CM n f 0 := ⟨s.pos, s.pc, s.ps, s.pa, s.p0⟩
theorem cm_t {n o : Nat} {f g : Nat → Nat → Nat} (s : SR n f g o) : CM n g o := ⟨s.oo, s.tc, s.ts, s.ta, s.t1⟩
theorem fold_perm {n z : Nat} {f : Nat → Nat → Nat} (c : CM n f z) {xs ys : List Nat} (h : xs.Perm ys) : (∀ x ∈ xs, x < n) → ∀ a, a < n → xs.foldl f a = ys.foldl f a := by
  induction h with
  | nil => intro _ a _; rfl
  | cons x _ ih => intro hx a ha; exact ih (fun y hy => hx y (List.mem_cons_of_mem _ hy)) _ (c.cl a ha x (hx x (List.mem_cons_self ..)))
  | swap x y l =>
    intro hx a ha
    have h1 := hx y (List.mem_cons_self ..)
    have h2 := hx x (List.mem_cons_of_mem _ (List.mem_cons_self ..))
    show l.foldl f (f (f a y) x) = l.foldl f (f (f a x) y)
    rw [← c.as a ha y h1 x h2, c.co y h1 x h2, c.as a ha x h2 y h1]
  | trans p1 _ ih1 ih2 => intro hx a ha; exact (ih1 hx a ha).trans (ih2 (fun y hy => hx y (p1.mem_iff.mpr hy)) a ha)
theorem fold_filter {n z : Nat} {f : Nat → Nat → Nat} (c : CM n f z) {u : Nat → Nat} {p : Nat → Bool} : ∀ {qs : List Nat}, (∀ q ∈ qs, u q < n) → (∀ q ∈ qs, p q = false → u q = z) → ∀ a, a < n → ((qs.filter p).map u).foldl f a = (qs.map u).foldl f a
  | [], _, _, _, _ => rfl
  | q :: qs, h1, h2, a, ha => by
    have ih := fold_filter c (u := u) (p := p) (qs := qs) (fun r hr => h1 r (List.mem_cons_of_mem _ hr)) fun r hr => h2 r (List.mem_cons_of_mem _ hr)
    have hq := h1 q (List.mem_cons_self ..)
    cases e : p q with
    | true =>
      rw [List.filter_cons_of_pos e]
      exact ih _ (c.cl a ha _ hq)
    | false =>
      rw [List.filter_cons_of_neg (by rw [e]; exact Bool.false_ne_true)]
      show _ = (qs.map u).foldl f (f a (u q))
      rw [h2 q (List.mem_cons_self ..) e, c.co a ha z c.zl, c.ne a ha]
      exact ih a ha
theorem fold_zero {n o : Nat} {f g : Nat → Nat → Nat} (s : SR n f g o) : ∀ {xs : List Nat}, (∀ x ∈ xs, x < n) → ∀ a, a < n → 0 ∈ xs → xs.foldl g a = 0
  | x :: xs, h, a, ha, hm => by
    have hx := h x (List.mem_cons_self ..)
    have z0 : ∀ {ys : List Nat}, (∀ y ∈ ys, y < n) → ys.foldl g 0 = 0 := by
      intro ys
      induction ys with
      | nil => intro _; rfl
      | cons y ys ih =>
        intro hy
        show ys.foldl g (g 0 y) = 0
        rw [s.t0 y (hy y (List.mem_cons_self ..))]
        exact ih fun w hw => hy w (List.mem_cons_of_mem _ hw)
    show xs.foldl g (g a x) = 0
    rcases List.mem_cons.mp hm with e | hm
    · rw [← e, s.ts a ha 0 s.pos, s.t0 a ha]
      exact z0 fun y hy => h y (List.mem_cons_of_mem _ hy)
    · exact fold_zero s (fun y hy => h y (List.mem_cons_of_mem _ hy)) _ (s.tc a ha x hx) hm
theorem foldN_l {n z : Nat} {f : Nat → Nat → Nat} (c : CM n f z) {xs : List Nat} (h : ∀ x ∈ xs, x < n) : foldN f z xs = xs.foldl f z := by
  cases xs with
  | nil => rfl
  | cons x xs =>
    show xs.foldl f x = xs.foldl f (f z x)
    rw [c.ne x (h x (List.mem_cons_self ..))]
/-- what several parts are worth -/
theorem sev_val {n o : Nat} {f g : Nat → Nat → Nat} {st : List (Option Nat)} {wf : Nat → Nat} (s : SR n f g o) {T : List Nd} (gT : GN T) (d : Kd) {fs : List Nat} {u : Nat → Nat} (hfs : ∀ q ∈ fs, q < T.length ∧ val (RA f g o st wf) T q = some (u q) ∧ u q < n) (hl : fs.length ≤ 1000) (g' : GN (sevN T d fs).1) :
    val (RA f g o st wf) (sevN T d fs).1 (sevN T d fs).2 = some (match d with | .plus => (fs.map u).foldl f 0 | .times => (fs.map u).foldl g o) := by
  have hlt : ∀ x ∈ fs.map u, x < n := fun x hx => by obtain ⟨q, hq, rfl⟩ := List.mem_map.mp hx; exact (hfs q hq).2.2
  rcases fs with _ | ⟨p0, _ | ⟨p1, ps⟩⟩
  · cases d with
    | plus => exact (val_val gT.good.wf 0 _ gT.fk.z0)
    | times => exact (val_val gT.good.wf 1 _ gT.fk.z1)
  · have h0 := hfs p0 (List.mem_cons_self ..)
    cases d with
    | plus => exact h0.2.1.trans (congrArg some (s.p0 _ h0.2.2).symm)
    | times => exact h0.2.1.trans (congrArg some (s.t1 _ h0.2.2).symm)
  · have hv : ∀ q ∈ sortN (p0 :: p1 :: ps), val (RA f g o st wf) (insN T (d.mk (sortN (p0 :: p1 :: ps)))) q = some (u q) := fun q hq => by
      have h := hfs q ((sortN_perm _).mem_iff.mp hq)
      exact (val_ext gT.good.wf g'.good.wf (ext_ins T _) q h.1).trans h.2.1
    have perm := (sortN_perm (p0 :: p1 :: ps)).map u
    have hlt2 : ∀ x ∈ (sortN (p0 :: p1 :: ps)).map u, x < n := fun x hx => hlt x (perm.mem_iff.mp hx)
    have e := val_val (A := RA f g o st wf) g'.good.wf _ _ (ins_at T (d.mk (sortN (p0 :: p1 :: ps))))
    refine e.trans ?_
    cases d with
    | plus =>
      show (allS (val (RA f g o st wf) (insN T (Kd.plus.mk (sortN (p0 :: p1 :: ps))))) (sortN (p0 :: p1 :: ps))).map (foldN f 0) = _
      rw [allS_some hv]
      show some (foldN f 0 ((sortN (p0 :: p1 :: ps)).map u)) = some _
      rw [foldN_l (cm_p s) hlt2, fold_perm (cm_p s) perm hlt2 0 s.pos]
    | times =>
      show (allS (val (RA f g o st wf) (insN T (Kd.times.mk (sortN (p0 :: p1 :: ps))))) (sortN (p0 :: p1 :: ps))).map (foldN g o) = _
      rw [allS_some hv]
      show some (foldN g o ((sortN (p0 :: p1 :: ps)).map u)) = some _
      rw [foldN_l (cm_t s) hlt2, fold_perm (cm_t s) perm hlt2 o s.oo]
/-- the exchanged node is worth what the node is -/
theorem ex_val {n o : Nat} {f g : Nat → Nat → Nat} {st : List (Option Nat)} {wf wf' : Nat → Nat} (s : SR n f g o) (sl : StL n f g o st) {ins : Nat → Option Nat} {T : List Nd} {x v : Nat → Nat} {nd : Nd} (gT : GN T)
    (hx : ∀ p ∈ nd.parts, x p < T.length ∧ val (RA f g o st wf) T (x p) = some (v p) ∧ v p < n) (hl : nd.parts.length ≤ 1000) (hk : ∀ k, nd = .fact k → k < 4) (hi : ∀ k m, nd = .fact k → ins k = some m → m < T.length ∧ val (RA f g o st wf) T m = some (wf' k)) (hw : ∀ k, nd = .fact k → ins k = none → wf k = wf' k)
    {y : Nat} (hy : evV (RA f g o st wf') (fun p => some (v p)) nd = some y) : val (RA f g o st wf) (exN ins T x nd).1 (exN ins T x nd).2 = some y := by
  have v0 : val (RA f g o st wf) T 0 = some 0 := val_val gT.good.wf 0 _ gT.fk.z0
  have v1 : val (RA f g o st wf) T 1 = some o := val_val gT.good.wf 1 _ gT.fk.z1
  obtain ⟨g', e', _, _⟩ := ex_gn (ins := ins) gT (fun p hp => (hx p hp).1) hl hk (fun k m h1 h2 => (hi k m h1 h2).1)
  have zer : ∀ p ∈ nd.parts, x p = 0 → v p = 0 := fun p hp h => by
    have := (hx p hp).2.1
    rw [h, v0] at this
    exact (Option.some.inj this).symm
  cases nd with
  | zero => cases hy; exact v0
  | one => cases hy; exact v1
  | fact k =>
    cases hy
    have hi' := hi k
    have hw' := hw k rfl
    have ex : exN ins T x (.fact k) = (match ins k with | some m => (T, m) | none => idx_ T (.fact k)) := rfl
    rw [ex] at g' ⊢
    rcases e : ins k with _ | m
    · rw [e] at g'
      have := val_val (A := RA f g o st wf) g'.good.wf _ _ (ins_at T (.fact k))
      refine this.trans ?_
      show some (wf k) = some (wf' k)
      rw [hw' e]
    · exact (hi' m rfl e).2
  | star p =>
    have hp := hx p (by simp [Nd.parts])
    have hy' : (st[v p]?).join = some y := hy
    have ex : exN ins T x (.star p) = (if x p = 0 then (T, 1) else idx_ T (.star (x p))) := rfl
    rw [ex] at g' ⊢
    by_cases c : x p = 0
    · rw [if_pos c]
      have hv := zer p (by simp [Nd.parts]) c
      rw [hv] at hy'
      rcases h0 : st[0]? with _ | _ | s'
      · rw [h0] at hy'; cases hy'
      · rw [h0] at hy'; cases hy'
      · rw [h0] at hy'
        cases hy'
        obtain ⟨h1, h2⟩ := sl 0 y h0
        rw [s.t0 y h1, s.ps o s.oo 0 s.pos, s.p0 o s.oo] at h2
        rw [← h2]
        exact v1
    · rw [if_neg c] at g' ⊢
      have := val_val (A := RA f g o st wf) g'.good.wf _ _ (ins_at T (.star (x p)))
      refine this.trans ?_
      show (val (RA f g o st wf) (insN T (.star (x p))) (x p)).bind (fun x => (st[x]?).join) = some y
      have h9 : val (RA f g o st wf) (insN T (.star (x p))) (x p) = some (v p) := (val_ext gT.good.wf g'.good.wf (ext_ins T (.star (x p))) (x p) hp.1).trans hp.2.1
      rw [h9]
      exact hy'
  | plus ps =>
    have e1 : (allS (fun p => some (v p)) ps).map (foldN f 0) = some y := hy
    rw [allS_some (x := v) fun _ _ => rfl] at e1
    have hvn : ∀ a ∈ ps.map v, a < n := fun a ha => by obtain ⟨p, hp, rfl⟩ := List.mem_map.mp ha; exact (hx p hp).2.2
    have e2 : foldN f 0 (ps.map v) = y := Option.some.inj e1
    rw [foldN_l (cm_p s) hvn] at e2
    let u : Nat → Nat := fun q => (val (RA f g o st wf) T q).getD 0
    have hu : ∀ p ∈ ps, u (x p) = v p := fun p hp => by show (val (RA f g o st wf) T (x p)).getD 0 = v p; rw [(hx p hp).2.1]; rfl
    have hmap : (ps.map x).map u = ps.map v := by rw [List.map_map]; exact List.map_congr_left fun p hp => hu p hp
    have hq : ∀ q ∈ ps.map x, q < T.length ∧ val (RA f g o st wf) T q = some (u q) ∧ u q < n := fun q hq => by
      obtain ⟨p, hp, rfl⟩ := List.mem_map.mp hq
      rw [hu p hp]
      exact hx p hp
    have r := sev_val (wf := wf) (st := st) s gT .plus (fs := (ps.map x).filter fun n => decide (n ≠ 0)) (u := u) (fun q h => hq q (List.mem_filter.mp h).1) (Nat.le_trans (List.length_filter_le _ _) (by rw [List.length_map]; exact hl)) g'
    refine r.trans ?_
    show some ((((ps.map x).filter fun n => decide (n ≠ 0)).map u).foldl f 0) = some y
    rw [fold_filter (cm_p s) (fun q h => (hq q h).2.2) (fun q h hz => by
      have : q = 0 := by simpa using hz
      show (val (RA f g o st wf) T q).getD 0 = 0
      rw [this, v0]; rfl) 0 s.pos, hmap, e2]
  | times ps =>
    have e1 : (allS (fun p => some (v p)) ps).map (foldN g o) = some y := hy
    rw [allS_some (x := v) fun _ _ => rfl] at e1
    have hvn : ∀ a ∈ ps.map v, a < n := fun a ha => by obtain ⟨p, hp, rfl⟩ := List.mem_map.mp ha; exact (hx p hp).2.2
    have e2 : foldN g o (ps.map v) = y := Option.some.inj e1
    rw [foldN_l (cm_t s) hvn] at e2
    let u : Nat → Nat := fun q => (val (RA f g o st wf) T q).getD 0
    have hu : ∀ p ∈ ps, u (x p) = v p := fun p hp => by show (val (RA f g o st wf) T (x p)).getD 0 = v p; rw [(hx p hp).2.1]; rfl
    have hmap : (ps.map x).map u = ps.map v := by rw [List.map_map]; exact List.map_congr_left fun p hp => hu p hp
    have hq : ∀ q ∈ ps.map x, q < T.length ∧ val (RA f g o st wf) T q = some (u q) ∧ u q < n := fun q hq => by
      obtain ⟨p, hp, rfl⟩ := List.mem_map.mp hq
      rw [hu p hp]
      exact hx p hp
    have ex : exN ins T x (.times ps) = (if 0 ∈ ps.map x then (T, 0) else sevN T .times ((ps.map x).filter fun n => decide (n ≠ 1))) := rfl
    rw [ex] at g' ⊢
    by_cases c : 0 ∈ ps.map x
    · rw [if_pos c]
      obtain ⟨p, hp, hp0⟩ := List.mem_map.mp c
      have : 0 ∈ ps.map v := List.mem_map.mpr ⟨p, hp, zer p hp hp0⟩
      rw [fold_zero s hvn o s.oo this] at e2
      rw [← e2]
      exact v0
    · rw [if_neg c] at g' ⊢
      have r := sev_val (wf := wf) (st := st) s gT .times (fs := (ps.map x).filter fun n => decide (n ≠ 1)) (u := u) (fun q h => hq q (List.mem_filter.mp h).1) (Nat.le_trans (List.length_filter_le _ _) (by rw [List.length_map]; exact hl)) g'
      refine r.trans ?_
      show some ((((ps.map x).filter fun n => decide (n ≠ 1)).map u).foldl g o) = some y
      rw [fold_filter (cm_t s) (fun q h => (hq q h).2.2) (fun q h hz => by
        have : q = 1 := by simpa using hz
        show (val (RA f g o st wf) T q).getD 0 = o
        rw [this, v1]; rfl) o s.oo, hmap, e2]
/-- what an exchange of facts in the node m of T0 means for the node r of T -/
def SemS (ins : Nat → Option Nat) (T0 T : List Nd) (m r : Nat) : Prop := ∀ (n : Nat) (f g : Nat → Nat → Nat) (o : Nat) (st : List (Option Nat)) (wf wf' : Nat → Nat), SR n f g o → StL n f g o st → (∀ k, k < 4 → wf k < n) → (∀ k, k < 4 → wf' k < n) → (∀ k q, k < 4 → ins k = some q → val (RA f g o st wf) T0 q = some (wf' k)) → (∀ k, k < 4 → ins k = none → wf k = wf' k) →
  ∀ y, val (RA f g o st wf') T0 m = some y → val (RA f g o st wf) T r = some y
theorem SemS.ext {ins : Nat → Option Nat} {T0 T T' : List Nd} {m r : Nat} (x : SemS ins T0 T m r) (w : Wf T) (w' : Wf T') (e : Ext T T') (hr : r < T.length) : SemS ins T0 T' m r := fun n f g o st wf wf' h1 h2 h3 h4 h5 h6 y hy => (val_ext w w' e r hr).trans (x n f g o st wf wf' h1 h2 h3 h4 h5 h6 y hy)
theorem sem_step {ins : Nat → Option Nat} {T0 T : List Nd} (g0 : GN T0) (gT : GN T) (e : Ext T0 T) (hins : ∀ k q, ins k = some q → q < T0.length) {x : Nat → Nat} {m : Nat} {nd : Nd} (hnd : T0[m]? = some nd) (hx : ∀ p ∈ nd.parts, x p < T.length ∧ SemS ins T0 T p (x p)) : SemS ins T0 (exN ins T x nd).1 m (exN ins T x nd).2 := by
  intro n f g o st wf wf' s sl hw hw' hi hn y hy
  have hmem : nd ∈ T0 := List.mem_of_getElem? hnd
  have hml := (List.getElem?_eq_some_iff.mp hnd).1
  rw [val_val (A := RA f g o st wf') g0.good.wf m nd hnd] at hy
  have hp : ∀ p ∈ nd.parts, val (RA f g o st wf') T0 p = some ((val (RA f g o st wf') T0 p).getD 0) := fun p hp => by
    rcases h : val (RA f g o st wf') T0 p with _ | z
    · rw [ev_part hp h] at hy; cases hy
    · rfl
  have hpl : ∀ p ∈ nd.parts, p < T0.length := fun p h => by have := g0.good.wf m nd hnd p h; omega
  refine ex_val s sl gT (v := fun p => (val (RA f g o st wf') T0 p).getD 0) (wf' := wf') (fun p h => ⟨(hx p h).1, (hx p h).2 n f g o st wf wf' s sl hw hw' hi hn _ (hp p h), ?_⟩) (g0.good.ps nd hmem) (fun k h => g0.fk.k4 k (h ▸ hmem)) (fun k q h1 h2 => ?_) (fun k h1 h2 => hn k (g0.fk.k4 k (h1 ▸ hmem)) h2) ?_
  · exact val_el (A := RA f g o st wf') (el := fun z => z < n) (fa := fun k => k < 4) hw' (fun xs h => foldN_lt s.pc s.pos h) (fun xs h => foldN_lt s.tc s.oo h) (fun z s' _ h => join_lt sl h) g0.good.wf (val_val g0.good.wf) p (hpl p h) (fun m' k _ he => g0.fk.k4 k (List.mem_of_getElem? he)) _ (hp p h)
  · have hq := hins k q h2
    exact ⟨Nat.lt_of_lt_of_le hq e.le, (val_ext g0.good.wf gT.good.wf e q hq).trans (hi k q (g0.fk.k4 k (h1 ▸ hmem)) h2)⟩
  · rw [← hy]
    exact evV_congr fun p h => (hp p h).symm
end K14

set_option Elab.async false
set_option linter.all false
set_option maxRecDepth 100000
set_option maxHeartbeats 4000000
namespace K14
open PySem L2 Ew Tb SRm GxR ND
local macro_rules | `(tactic| walk_at "len") => `(tactic| first | (intro h; obtain ⟨_, e, _⟩ := h; rw [e]; rfl) | (intro h; obtain ⟨_, _, e, _⟩ := h; rw [e]; rfl) | (intro h; obtain ⟨_, _, _, e, _⟩ := h; rw [e]; rfl) | (intro h; obtain ⟨_, _, _, _, e, _⟩ := h; rw [e]; rfl) | (intro h; obtain ⟨_, _, _, _, _, e, _⟩ := h; rw [e]; rfl) | (intro h; obtain ⟨_, _, _, _, _, _, e, _⟩ := h; rw [e]; rfl) | (intro h; obtain ⟨_, _, _, _, _, _, _, e, _⟩ := h; rw [e]; rfl) | (intro h; obtain ⟨_, _, _, _, _, _, _, _, e, _⟩ := h; rw [e]; rfl) | (intro h; obtain ⟨_, _, _, _, _, _, _, _, _, e, _⟩ := h; rw [e]; rfl) | (intro h; obtain ⟨_, _, _, _, _, _, _, _, _, _, e, _⟩ := h; rw [e]; rfl) | (intro h; obtain ⟨_, _, _, _, _, _, _, _, _, _, _, e, _⟩ := h; rw [e]; rfl) | (intro h; obtain ⟨_, _, _, _, _, _, _, _, _, _, _, _, e, _⟩ := h; rw [e]; rfl) | (intro h; obtain ⟨_, _, _, _, _, _, _, _, _, _, _, _, _, e, _⟩ := h; rw [e]; rfl))
local macro_rules | `(tactic| walk_at "len") => `(tactic| first | (intro h; obtain ⟨_, _, _, _, _, _, _, _, e, _⟩ := h; rw [e]; rfl) | (intro h; obtain ⟨_, _, _, _, _, _, _, _, _, e, _⟩ := h; rw [e]; rfl) | (intro h; obtain ⟨_, _, _, _, _, _, _, _, _, _, e, _⟩ := h; rw [e]; rfl) | (intro h; obtain ⟨_, _, _, _, _, _, _, _, _, _, _, e, _⟩ := h; rw [e]; rfl) | (intro h; obtain ⟨_, _, _, _, _, _, _, _, _, _, _, _, e, _⟩ := h; rw [e]; rfl) | (intro h; obtain ⟨_, _, _, _, _, _, _, _, _, _, _, _, _, e, _⟩ := h; rw [e]; rfl) | (intro h; obtain ⟨_, _, _, _, _, _, _, _, _, _, _, _, _, _, e, _⟩ := h; rw [e]; rfl) | (intro h; obtain ⟨_, _, _, _, _, _, _, _, _, _, _, _, _, _, _, e, _⟩ := h; rw [e]; rfl) | (intro h; obtain ⟨_, _, _, _, _, _, _, _, _, _, _, _, _, _, _, _, e, _⟩ := h; rw [e]; rfl) | (intro h; obtain ⟨_, _, _, _, _, _, _, _, _, _, _, _, _, _, _, _, _, e, _⟩ := h; rw [e]; rfl))
section
variable {P : Program} {w : World} {K : PySem.W.Frag} {mg : Str → Option Value} {base : Heap} {ad : Ad}
/-! ### exchange: the class -/
def rInD : R2 := fun y x H Q => ∃ a o, x = .ref a ∧ DGet H a y o ∧ Q (.bl o.isSome) H
theorem op_inDx {X : Cx} (hu : X.A.units + 1 < cLine) : OpR X (compareOp .In) rInD := by
  intro pins s σ H y x u v Q I ry rx h
  obtain ⟨a, o, rfl, g, q⟩ := h
  cases rx
  exact d_in hu I g ry fun s3 I3 => ⟨.bl o.isSome, H, I3, rfl, q⟩
abbrev fE (c d : Addr) : List (Str × V) := putF "_nodes" (.ref d) (putF "_circuits" (.ref c) [])
theorem fE_c (c d : Addr) : (fE c d).lookup ("_circuits" : Str) = some (.ref c) := by rw [lookup_putF, if_neg (by decide), lookup_putF, if_pos rfl]
theorem fE_n (c d : Addr) : (fE c d).lookup ("_nodes" : Str) = some (.ref d) := by rw [lookup_putF, if_pos rfl]
theorem fE_no (c d : Addr) {m : Str} (h1 : ¬ m = "_circuits") (h2 : ¬ m = "_nodes") : (fE c d).lookup m = none := by rw [lookup_putF, if_neg h2, lookup_putF, if_neg h1]; rfl
/-- the dict of what is put in -/
def InsD (H : Hp) (d : Addr) (ins : Nat → Option Nat) : Prop := ∃ kvs, H d = some (.dK kvs) ∧ ∀ k : Nat, valV kvs (.inl (k : Int)) = (ins k).map fun (q : Nat) => V.int (q : Int)
theorem InsD.keep {H H' : Hp} {d : Addr} {ins : Nat → Option Nat} (x : InsD H d ins) (h : ∀ kvs, H d = some (.dK kvs) → H' d = some (.dK kvs)) : InsD H' d ins := let ⟨kvs, e, r⟩ := x; ⟨kvs, h _ e, r⟩
/-- an exchange at y over the store c -/
structure Exc (P : Program) (w : World) (ad : Ad) (H : Hp) (y dy c S D d : Addr) (T : List Nd) (ins : Nat → Option Nat) : Prop where
  y_ : H y = some (.ins ad.Exchange dy (fE c d))
  cc : Circ P w ad.Circuits H c S D T
  d_ : InsD H d ins
theorem Exc.same {H H' : Hp} {y dy c S D d : Addr} {T : List Nd} {ins : Nat → Option Nat} (x : Exc P w ad H y dy c S D d T ins) (s : Same H H') : Exc P w ad H' y dy c S D d T ins := ⟨s _ _ x.y_, x.cc.same s, x.d_.keep fun _ e => s _ _ e⟩
def xl (T : List Nd) (qs : List Nat) : Kd → List Nd × Nat
  | .plus => sevN T .plus (qs.filter fun n => decide (n ≠ 0))
  | .times => if 0 ∈ qs then (T, 0) else sevN T .times (qs.filter fun n => decide (n ≠ 1))
def spXI (C : Addr) : Sp := fun vs H Q _ => ∃ y dy c d, vs = [.ref y, .ref c, .ref d] ∧ H y = some (.ins C dy []) ∧ Q .non (upd H y (.ins C dy (fE c d)))
theorem ok_Exchange_init  {f : Addr} {fd : FuncData} (F : Fun K "__init__" "Exchange.__init__" s_Exchange_init f fd) (T : Txt K mg ad) : FnOk P w K mg base (L2.CX P w) 1 f fd ["self", "circuits", "nodes"] (spXI ad.Exchange) := by
  refine F.okX sc_Exchange_init (fun vs H Q E => ?_) (fun cdv A outer s H vs Q E hr h => ?_)
  · walk_at "len"
  ·
    obtain ⟨y, dy, r, wd, rfl, hy, k⟩ := h
    refine ⟨_, (pss_cons (ps_fld (pv 0) (pv 1) rfl)
      (pss_one (ps_fld (pv 0) (pv 2) rfl))), ?_⟩
    refine go_sq ⟨_, rfl, _, rfl, y, _, dy, _, rfl, hy, T.c_Exchange, T.n_circuits, (by show 0 < 1000; decide), ?_⟩
    exact ⟨_, rfl, _, rfl, y, _, dy, _, rfl, upd_same, T.c_Exchange, T.n_nodes, (by show 1 < 1000; decide), by rw [upd_upd]; exact k⟩
def spXF (P : Program) (w : World) (ad : Ad) : Sp := fun vs H Q _ => ∃ (y dy c S D d : Addr) (T : List Nd) (ins : Nat → Option Nat) (k : Nat) (x : Nat → Nat), vs = [.ref y, .int (k : Int)] ∧ Exc P w ad H y dy c S D d T ins ∧ T.length < 1000 ∧ ∀ H', FrC S D H H' → Circ P w ad.Circuits H' c S D (exN ins T x (.fact k)).1 → Q (.int ((exN ins T x (.fact k)).2 : Nat)) H'
theorem ok_Exchange_fact (m_fact : MetX P w K mg base 4 ad.Circuits "fact" (spFact P w ad.Circuits)) {f : Addr} {fd : FuncData} (F : Fun K "fact" "Exchange.fact" s_Exchange_fact f fd) (T : Txt K mg ad) : FnOk P w K mg base (L2.CX P w) 5 f fd ["self", "k"] (spXF P w ad) := by
  refine F.okX sc_Exchange_fact (fun vs H Q E => ?_) (fun cdv A outer s H vs Q E hr h => ?_)
  · walk_at "len"
  ·
    obtain ⟨y, dy, c, S, D, d, Tb_, ins, k, x, rfl, ex, hl, q⟩ := h
    refine ⟨_, (pss_cons (ps_if (pt_cmpR (op_inDx (hu_of hr)) (pv 1) (pe_fld (pv 0) rfl) (by rfl)) (pss_one (ps_ret (pe_dget (hu_of hr) (pe_fld (pv 0) rfl) (pv 1) (fun _ _ => rfl)))) pss_nil)
      (pss_one (ps_ret (pd_meth hr (takes_of rfl rfl rfl rfl) (pe_fld (pv 0) rfl) (pa_cons (pv 1) pa_nil))))), ?_⟩
    obtain ⟨kvs, hd, hk⟩ := ex.d_
    obtain ⟨dxc, hc⟩ := ex.cc.ins
    have e0 : exN ins Tb_ x (.fact k) = (match ins k with | some m => (Tb_, m) | none => idx_ Tb_ (.fact k)) := rfl
    rw [e0] at q
    refine ⟨_, rfl, _, rfl, y, _, dy, _, _, rfl, ex.y_, T.c_Exchange, T.n_nodes, fE_n _ _, d, _, rfl, DGet.k (k := .inl (k : Int)) hd, ?_⟩
    rw [hk k]
    rcases e : ins k with _ | m
    · rw [e] at q
      refine ⟨_, rfl, iteF (go_next ?_)⟩
      exact ⟨_, rfl, y, _, dy, _, _, rfl, ex.y_, T.c_Exchange, T.n_circuits, fE_c _ _, c, _, dxc, _, 4, _, rfl, hc, fC_no _ _ (by decide) (by decide), by decide, m_fact, _, rfl, c, S, D, Tb_, k, rfl, ex.cc, hl, fun H' fr cc => q H' fr cc⟩
    · rw [e] at q
      refine ⟨_, rfl, iteT ?_⟩
      refine ⟨_, rfl, y, _, dy, _, _, rfl, ex.y_, T.c_Exchange, T.n_nodes, fE_n _ _, _, rfl, d, .int (m : Nat), rfl, ?_, q H (FrC.refl _ _ _) ex.cc⟩
      have := DGet.k (k := .inl (k : Int)) hd
      rw [hk k, e] at this
      exact this
def spXL (P : Program) (w : World) (ad : Ad) (dd : Kd) : Sp := fun vs H Q _ => ∃ (y dy c S D d L : Addr) (T : List Nd) (ins : Nat → Option Nat) (qs : List Nat), vs = [.ref y, .ref L] ∧ Exc P w ad H y dy c S D d T ins ∧ T.length < 1000 ∧ H L = some (.lst (nV qs)) ∧ qs.length ≤ 1000 ∧ ∀ H', FrC S D H H' → Circ P w ad.Circuits H' c S D (xl T qs dd).1 → Q (.int ((xl T qs dd).2 : Nat)) H'
theorem ok_Exchange_plus (m_plus : MetX P w K mg base 4 ad.Circuits "plus" (spPlus P w ad.Circuits .plus 0)) {f : Addr} {fd : FuncData} (F : Fun K "plus" "Exchange.plus" s_Exchange_plus f fd) (T : Txt K mg ad) : FnOk P w K mg base (L2.CX P w) 5 f fd ["self", "parts"] (spXL P w ad .plus) := by
  refine F.okX sc_Exchange_plus (fun vs H Q E => ?_) (fun cdv A outer s H vs Q E hr h => ?_)
  · walk_at "len"
  ·
    obtain ⟨y, dy, c, S, D, d, L, Tb_, ins, qs, rfl, ex, hl, hL, hq, q⟩ := h
    refine ⟨_, (pss_one (ps_ret (pd_meth hr (takes_of rfl rfl rfl rfl) (pe_fld (pv 0) rfl) (pa_cons (pv 1) pa_nil)))), ?_⟩
    obtain ⟨dxc, hc⟩ := ex.cc.ins
    exact ⟨_, rfl, y, _, dy, _, _, rfl, ex.y_, T.c_Exchange, T.n_circuits, fE_c _ _, c, _, dxc, _, 4, _, rfl, hc, fC_no _ _ (by decide) (by decide), by decide, m_plus, _, rfl, c, S, D, Tb_, L, qs, rfl, ex.cc, hl, .inl hL, hq, (fun z => (nomatch z)), fun _ H' fr cc => q H' fr cc⟩
theorem ok_Exchange_times (m_times : MetX P w K mg base 4 ad.Circuits "times" (spPlus P w ad.Circuits .times 1)) {f : Addr} {fd : FuncData} (F : Fun K "times" "Exchange.times" s_Exchange_times f fd) (T : Txt K mg ad) : FnOk P w K mg base (L2.CX P w) 5 f fd ["self", "parts"] (spXL P w ad .times) := by
  refine F.okX sc_Exchange_times (fun vs H Q E => ?_) (fun cdv A outer s H vs Q E hr h => ?_)
  · walk_at "len"
  ·
    obtain ⟨y, dy, c, S, D, d, L, Tb_, ins, qs, rfl, ex, hl, hL, hq, q⟩ := h
    refine ⟨_, (pss_one (ps_ret (pd_meth hr (takes_of rfl rfl rfl rfl) (pe_fld (pv 0) rfl) (pa_cons (pv 1) pa_nil)))), ?_⟩
    obtain ⟨dxc, hc⟩ := ex.cc.ins
    have e0 : xl Tb_ qs .times = (if 0 ∈ qs then (Tb_, 0) else sevN Tb_ .times (qs.filter fun n => decide (n ≠ 1))) := rfl
    rw [e0] at q
    refine ⟨_, rfl, y, _, dy, _, _, rfl, ex.y_, T.c_Exchange, T.n_circuits, fE_c _ _, c, _, dxc, _, 4, _, rfl, hc, fC_no _ _ (by decide) (by decide), by decide, m_times, _, rfl, c, S, D, Tb_, L, qs, rfl, ex.cc, hl, .inl hL, hq, fun _ z => ?_, fun z H' fr cc => ?_⟩
    · rw [if_pos z] at q
      exact q H (FrC.refl _ _ _) ex.cc
    · rw [if_neg (z rfl)] at q
      exact q H' fr cc
def spXS (P : Program) (w : World) (ad : Ad) : Sp := fun vs H Q _ => ∃ (y dy c S D d : Addr) (T : List Nd) (ins : Nat → Option Nat) (p : Nat) (x : Nat → Nat), vs = [.ref y, .int ((x p : Nat) : Int)] ∧ Exc P w ad H y dy c S D d T ins ∧ T.length < 1000 ∧ ∀ H', FrC S D H H' → Circ P w ad.Circuits H' c S D (exN ins T x (.star p)).1 → Q (.int ((exN ins T x (.star p)).2 : Nat)) H'
theorem ok_Exchange_star (m_star : MetX P w K mg base 4 ad.Circuits "star" (spStar P w ad.Circuits)) {f : Addr} {fd : FuncData} (F : Fun K "star" "Exchange.star" s_Exchange_star f fd) (T : Txt K mg ad) : FnOk P w K mg base (L2.CX P w) 5 f fd ["self", "part"] (spXS P w ad) := by
  refine F.okX sc_Exchange_star (fun vs H Q E => ?_) (fun cdv A outer s H vs Q E hr h => ?_)
  · walk_at "len"
  ·
    obtain ⟨y, dy, c, S, D, d, Tb_, ins, p, x, rfl, ex, hl, q⟩ := h
    refine ⟨_, (pss_one (ps_ret (pd_meth hr (takes_of rfl rfl rfl rfl) (pe_fld (pv 0) rfl) (pa_cons (pv 1) pa_nil)))), ?_⟩
    obtain ⟨dxc, hc⟩ := ex.cc.ins
    have e0 : exN ins Tb_ x (.star p) = (if x p = 0 then (Tb_, 1) else idx_ Tb_ (.star (x p))) := rfl
    rw [e0] at q
    refine ⟨_, rfl, y, _, dy, _, _, rfl, ex.y_, T.c_Exchange, T.n_circuits, fE_c _ _, c, _, dxc, _, 4, _, rfl, hc, fC_no _ _ (by decide) (by decide), by decide, m_star, _, rfl, c, S, D, Tb_, x p, rfl, ex.cc, hl, fun z => ?_, fun z H' fr cc => ?_⟩
    · rw [if_pos z] at q
      exact q H (FrC.refl _ _ _) ex.cc
    · rw [if_neg z] at q
      exact q H' fr cc
end
namespace Ex
section
variable {P : Program} {w : World} {K : PySem.W.Frag} {mg : Str → Option Value} {base : Heap} {ad : Ad}
structure ExM (P : Program) (w : World) (K : PySem.W.Frag) (mg : Str → Option Value) (base : Heap) (ad : Ad) : Prop where
  fact : MetX P w K mg base 5 ad.Exchange "fact" (spXF P w ad)
  plus : MetX P w K mg base 5 ad.Exchange "plus" (spXL P w ad .plus)
  times : MetX P w K mg base 5 ad.Exchange "times" (spXL P w ad .times)
  star : MetX P w K mg base 5 ad.Exchange "star" (spXS P w ad)
def spMadeX (P : Program) (w : World) (ad : Ad) : Sp := fun vs H Q _ => ∃ (a M mk dy c S D d : Addr) (T : List Nd) (ins : Nat → Option Nat) (nd : Nd) (kvs : List (Key × V)) (x : Nat → Nat), vs = [.ref a, .ref M, .ref mk] ∧ NdAt H a nd ∧ H M = some (.dK kvs) ∧ Exc P w ad H mk dy c S D d T ins ∧ T.length < 1000 ∧ (∀ p ∈ nd.parts, valV kvs (.inl (p : Int)) = some (.int (x p : Nat))) ∧ nd.parts.length ≤ 1000 ∧
  ∀ H', FrC S D H H' → Circ P w ad.Circuits H' c S D (exN ins T x nd).1 → Q (.int ((exN ins T x nd).2 : Nat)) H'
theorem ok_made (M : ExM P w K mg base ad) (c_parts : CalX P w K mg base 1 "_parts" spParts) {f : Addr} {fd : FuncData} (F : Fun K "_made" "_made" s_made f fd) (T : Txt K mg ad) : FnOk P w K mg base (L2.CX P w) 6 f fd ["shown", "made", "maker"] (spMadeX P w ad) := by
  refine F.okX sc_made (fun vs H Q E => ?_) (fun cdv A outer s H vs Q E hr h => ?_)
  · walk_at "len"
  ·
    obtain ⟨a, Md, mk, dy, c, S, D, d, Tb_, ins, nd, kvs, x, rfl, ha, hM, ex, hTl, hx, hl, k⟩ := h
    refine ⟨_, (pss_cons (ps_set (i := 3) sc_made.nd rfl (by first | exact Or.inl rfl | exact Or.inr rfl) (pe_ix ix_tup (pv 0) pe_int (fun _ _ => rfl)))
      (pss_cons (ps_if (pt_cmpR op_eq (pv 3) pe_str (nomark _)) (pss_one (ps_ret (pd_meth hr (takes_of rfl rfl rfl rfl) (pv 2) (pa_cons (pe_ix ix_tup (pv 0) pe_int (fun _ _ => rfl)) pa_nil)))) pss_nil)
      (pss_cons (ps_if (pt_cmpR op_eq (pv 3) pe_str (nomark _)) (pss_one (ps_ret (pd_meth hr (takes_of rfl rfl rfl rfl) (pv 2) (pa_cons (pe_dget (hu_of hr) (pv 1) (pe_ix ix_tup (pv 0) pe_int (fun _ _ => rfl)) (fun _ _ => rfl)) pa_nil)))) pss_nil)
      (pss_cons (ps_setLc (i := 4) (own := [("part", 5)]) (tt := tYes) rfl sc_made.nd rfl rfl (sw_true rfl rfl rfl (by decide +kernel)) (pi_tup (pc_call c_parts hr (by first | decide | omega) (takes_of rfl rfl rfl rfl) (by rfl) (pa_cons (pv 0) pa_nil))) (blkOk_by (by kernel_rfl)) (fun _ _ _ _ _ => (pg_name (i := 5) sc_made.nd rfl (by first | exact Or.inl rfl | exact Or.inr rfl))) (fun _ _ _ _ _ => pts_nil) (fun _ _ _ _ _ => (pe_dget (hu_of hr) (pv 1) (pv 5) (fun _ _ => rfl))))
      (pss_cons (ps_if (pt_cmpR op_in_seq (pv 3) (pe_tup (pa_cons pe_str (pa_cons pe_str pa_nil))) (by rfl)) (pss_one (ps_ret (pd_meth hr (takes_of rfl rfl rfl rfl) (pv 2) (pa_cons (pv 4) pa_nil)))) pss_nil)
      (pss_one (ps_ret (pd_meth hr (takes_of rfl rfl rfl rfl) (pv 2) (pa_cons (pv 4) pa_nil))))))))), ?_⟩
    obtain ⟨l, el_, hin⟩ := ha.inv
    have lcp : ∀ (ps : List Nat) (D L : Addr) (H2 : Hp), H2 D = none → H2 L = some (.tup (nV ps)) → Same H H2 → (∀ p ∈ ps, valV kvs (.inl (p : Int)) = some (.int (x p : Nat))) → ps.length ≤ 1000 → ∀ {te : TE} {σ : L2.St} {vs : List Nat} {kx : Nat},
        (∀ (i : Nat) (H3 : Hp) (Kt : VK) (v : V) (n : Nat), ps[i]? = some n → Same H2 H3 → valV kvs (.inl (n : Int)) = some v → Kt v H3 → te ((wipe σ vs).set kx (some (.int (n : Int)))) H3 Kt) → (∀ z, wipe ((wipe σ vs).set kx (some z)) vs = wipe σ vs) → ∀ {Qd : Hp → Prop},
        (∀ H3, Same H2 H3 → H3 D = some (.lst (nV (ps.map x))) → Qd H3) → ∃ W : Nat → Nat → Hp → Prop, (∃ m, W 0 m (upd H2 D (.lst []))) ∧ ∀ i m H, W i m H →
      ((Itt K L).stop i H ∧ Qd H) ∨ ((Itt K L).go i H ∧ ∃ Nx : Hp → Prop, (∀ H', Nx H' → ∃ m', m' < m ∧ W (i + 1) m' H') ∧ ∀ x H', (Itt K L).yld i H x H' → gName kx x (wipe σ vs) H' fun σ2 H2 => wipe σ2 vs = wipe σ vs ∧ tYes σ2 H2 fun b H3 =>
        if b = true then te σ2 H3 fun y H4 => ∃ acc, H4 D = some (.lst acc) ∧ acc.length < sizeLine ∧ Nx (upd H4 D (.lst (acc ++ [y]))) else Nx H3) := by
      intro ps D L H2 hD hL s2 hp hlp te σ vs kx ht hw Qd hd
      refine lc_tup (xs := nV ps) (fun i H3 => Same H2 H3 ∧ H3 D = some (.lst (nV ((ps.take i).map x)))) ⟨same_new (Same.refl _) hD, upd_same⟩ (fun i H3 _ ⟨s3, _⟩ => SqT.of (s3 _ _ hL)) (fun i y H3 hy ⟨s3, e3⟩ => ?_) (fun H3 ⟨s3, e3⟩ => ?_)
      · obtain ⟨n, hn, rfl⟩ := nV_in hy
        have hi : i < ps.length := (List.getElem?_eq_some_iff.mp hn).1
        refine ⟨hw _, yes_then (iteT (ht i H3 _ _ n hn s3 (hp n (List.mem_of_getElem? hn)) ⟨_, e3, ?_, same_but hD s3 but_app, ?_⟩))⟩
        · have := List.length_take_le i ps
          rw [nV_length, List.length_map]
          exact Nat.lt_of_le_of_lt (by omega : _ ≤ 1000) (by decide)
        · rw [upd_same, List.take_add_one, hn, List.map_append]
          show some (HO.lst (nV _ ++ nV [x n])) = _
          unfold nV
          rw [← List.map_append]
          rfl
      · rw [nV_length, List.take_length] at e3
        exact hd H3 s3 e3
    refine go_seq ⟨_, rfl, a, _, _, _, rfl, rfl, SqT.of el_, at_of (j := 0) rfl (nd.vals0 l), go_name rfl ?_⟩
    refine ⟨_, rfl, rfl, _, rfl, ?_⟩
    cases nd with
    | fact q =>
      exact iteT ⟨_, rfl, mk, _, dy, _, 5, _, rfl, ex.y_, fE_no _ _ (by decide) (by decide), by decide, M.fact, _, rfl, a, _, _, _, rfl, rfl, SqT.of el_, at_of (j := 1) rfl rfl, mk, dy, c, S, D, d, Tb_, ins, q, x, rfl, ex, hTl, k⟩
    | star p =>
      have hp := hx p (by simp [Nd.parts])
      refine iteF (go_next ⟨_, rfl, rfl, _, rfl, iteT ?_⟩)
      exact ⟨_, rfl, mk, _, dy, _, 5, _, rfl, ex.y_, fE_no _ _ (by decide) (by decide), by decide, M.star, _, rfl, _, rfl, a, _, _, _, rfl, rfl, SqT.of el_, at_of (j := 1) rfl rfl, Md, _, rfl, by have := DGet.k (k := .inl (p : Int)) hM; rw [hp] at this; exact this, mk, dy, c, S, D, d, Tb_, ins, p, x, rfl, ex, hTl, k⟩
    | zero =>
      refine iteF (go_next ⟨_, rfl, rfl, _, rfl, iteF (go_next ?_)⟩)
      refine go_seq ⟨_, rfl, a, .zero, rfl, ha, fun H2 l2 s2 e2 => ⟨l2, rfl, ⟨_, SqT.of e2⟩, fun D1 hD => ?_⟩⟩
      refine lcp ([] : List Nat) D1 l2 H2 hD e2 s2 (fun p hp => hx p hp) hl ?_ (fun _ => rfl) fun H3 s3 e3 => go_name rfl ?_
      · intro i H3 Kt v n hn s3 hv kt
        exact ⟨_, rfl, _, rfl, Md, _, rfl, by have := DGet.k (k := .inl (n : Int)) (s3 _ _ (s2 _ _ hM)); rw [hv] at this; exact this, kt⟩
      have s03 : Same H H3 := fun b o e => s3 _ _ (s2 _ _ e)
      refine ⟨_, rfl, (show 2 ≤ sizeLine by decide), fun p hp => ⟨p, _, rfl, .inr (SqT.of upd_same), rfl, rfl, _, rfl, iteT ?_⟩⟩
      have s4 : Same H3 (upd H3 p (.tup [.str "zero", .str "plus"])) := same_new (Same.refl _) hp
      have s04 : Same H _ := fun b o e => s4 _ _ (s03 _ _ e)
      exact ⟨_, rfl, mk, _, dy, _, 5, _, rfl, s04 _ _ ex.y_, fE_no _ _ (by decide) (by decide), by decide, M.plus, _, rfl, mk, dy, c, S, D, d, D1, Tb_, ins, ([] : List Nat).map x, rfl, ex.same s04, hTl, s4 _ _ e3, by rw [List.length_map]; exact hl, fun H5 fr cc => k H5 ((FrC.of s04).trans fr) cc⟩
    | one =>
      refine iteF (go_next ⟨_, rfl, rfl, _, rfl, iteF (go_next ?_)⟩)
      refine go_seq ⟨_, rfl, a, .one, rfl, ha, fun H2 l2 s2 e2 => ⟨l2, rfl, ⟨_, SqT.of e2⟩, fun D1 hD => ?_⟩⟩
      refine lcp ([] : List Nat) D1 l2 H2 hD e2 s2 (fun p hp => hx p hp) hl ?_ (fun _ => rfl) fun H3 s3 e3 => go_name rfl ?_
      · intro i H3 Kt v n hn s3 hv kt
        exact ⟨_, rfl, _, rfl, Md, _, rfl, by have := DGet.k (k := .inl (n : Int)) (s3 _ _ (s2 _ _ hM)); rw [hv] at this; exact this, kt⟩
      have s03 : Same H H3 := fun b o e => s3 _ _ (s2 _ _ e)
      refine ⟨_, rfl, (show 2 ≤ sizeLine by decide), fun p hp => ⟨p, _, rfl, .inr (SqT.of upd_same), rfl, rfl, _, rfl, iteF ?_⟩⟩
      have s4 : Same H3 (upd H3 p (.tup [.str "zero", .str "plus"])) := same_new (Same.refl _) hp
      have s04 : Same H _ := fun b o e => s4 _ _ (s03 _ _ e)
      exact ⟨_, rfl, mk, _, dy, _, 5, _, rfl, s04 _ _ ex.y_, fE_no _ _ (by decide) (by decide), by decide, M.times, _, rfl, mk, dy, c, S, D, d, D1, Tb_, ins, ([] : List Nat).map x, rfl, ex.same s04, hTl, s4 _ _ e3, by rw [List.length_map]; exact hl, fun H5 fr cc => k H5 ((FrC.of s04).trans fr) cc⟩
    | plus ps =>
      refine iteF (go_next ⟨_, rfl, rfl, _, rfl, iteF (go_next ?_)⟩)
      refine go_seq ⟨_, rfl, a, .plus ps, rfl, ha, fun H2 l2 s2 e2 => ⟨l2, rfl, ⟨_, SqT.of e2⟩, fun D1 hD => ?_⟩⟩
      refine lcp ps D1 l2 H2 hD e2 s2 (fun p hp => hx p hp) hl ?_ (fun _ => rfl) fun H3 s3 e3 => go_name rfl ?_
      · intro i H3 Kt v n hn s3 hv kt
        exact ⟨_, rfl, _, rfl, Md, _, rfl, by have := DGet.k (k := .inl (n : Int)) (s3 _ _ (s2 _ _ hM)); rw [hv] at this; exact this, kt⟩
      have s03 : Same H H3 := fun b o e => s3 _ _ (s2 _ _ e)
      refine ⟨_, rfl, (show 2 ≤ sizeLine by decide), fun p hp => ⟨p, _, rfl, .inr (SqT.of upd_same), rfl, rfl, _, rfl, iteT ?_⟩⟩
      have s4 : Same H3 (upd H3 p (.tup [.str "zero", .str "plus"])) := same_new (Same.refl _) hp
      have s04 : Same H _ := fun b o e => s4 _ _ (s03 _ _ e)
      exact ⟨_, rfl, mk, _, dy, _, 5, _, rfl, s04 _ _ ex.y_, fE_no _ _ (by decide) (by decide), by decide, M.plus, _, rfl, mk, dy, c, S, D, d, D1, Tb_, ins, ps.map x, rfl, ex.same s04, hTl, s4 _ _ e3, by rw [List.length_map]; exact hl, fun H5 fr cc => k H5 ((FrC.of s04).trans fr) cc⟩
    | times ps =>
      refine iteF (go_next ⟨_, rfl, rfl, _, rfl, iteF (go_next ?_)⟩)
      refine go_seq ⟨_, rfl, a, .times ps, rfl, ha, fun H2 l2 s2 e2 => ⟨l2, rfl, ⟨_, SqT.of e2⟩, fun D1 hD => ?_⟩⟩
      refine lcp ps D1 l2 H2 hD e2 s2 (fun p hp => hx p hp) hl ?_ (fun _ => rfl) fun H3 s3 e3 => go_name rfl ?_
      · intro i H3 Kt v n hn s3 hv kt
        exact ⟨_, rfl, _, rfl, Md, _, rfl, by have := DGet.k (k := .inl (n : Int)) (s3 _ _ (s2 _ _ hM)); rw [hv] at this; exact this, kt⟩
      have s03 : Same H H3 := fun b o e => s3 _ _ (s2 _ _ e)
      refine ⟨_, rfl, (show 2 ≤ sizeLine by decide), fun p hp => ⟨p, _, rfl, .inr (SqT.of upd_same), rfl, rfl, _, rfl, iteF ?_⟩⟩
      have s4 : Same H3 (upd H3 p (.tup [.str "zero", .str "plus"])) := same_new (Same.refl _) hp
      have s04 : Same H _ := fun b o e => s4 _ _ (s03 _ _ e)
      exact ⟨_, rfl, mk, _, dy, _, 5, _, rfl, s04 _ _ ex.y_, fE_no _ _ (by decide) (by decide), by decide, M.times, _, rfl, mk, dy, c, S, D, d, D1, Tb_, ins, ps.map x, rfl, ex.same s04, hTl, s4 _ _ e3, by rw [List.length_map]; exact hl, fun H5 fr cc => k H5 ((FrC.of s04).trans fr) cc⟩
end
end Ex
end K14

set_option Elab.async false
set_option linter.all false
set_option maxRecDepth 100000
set_option maxHeartbeats 4000000
namespace K14
open PySem L2 Ew Tb SRm GxR ND
local macro_rules | `(tactic| walk_at "len") => `(tactic| first | (intro h; obtain ⟨_, e, _⟩ := h; rw [e]; rfl) | (intro h; obtain ⟨_, _, e, _⟩ := h; rw [e]; rfl) | (intro h; obtain ⟨_, _, _, e, _⟩ := h; rw [e]; rfl) | (intro h; obtain ⟨_, _, _, _, e, _⟩ := h; rw [e]; rfl) | (intro h; obtain ⟨_, _, _, _, _, e, _⟩ := h; rw [e]; rfl) | (intro h; obtain ⟨_, _, _, _, _, _, e, _⟩ := h; rw [e]; rfl) | (intro h; obtain ⟨_, _, _, _, _, _, _, e, _⟩ := h; rw [e]; rfl) | (intro h; obtain ⟨_, _, _, _, _, _, _, _, e, _⟩ := h; rw [e]; rfl) | (intro h; obtain ⟨_, _, _, _, _, _, _, _, _, e, _⟩ := h; rw [e]; rfl) | (intro h; obtain ⟨_, _, _, _, _, _, _, _, _, _, e, _⟩ := h; rw [e]; rfl) | (intro h; obtain ⟨_, _, _, _, _, _, _, _, _, _, _, e, _⟩ := h; rw [e]; rfl) | (intro h; obtain ⟨_, _, _, _, _, _, _, _, _, _, _, _, e, _⟩ := h; rw [e]; rfl) | (intro h; obtain ⟨_, _, _, _, _, _, _, _, _, _, _, _, _, e, _⟩ := h; rw [e]; rfl))
local macro_rules | `(tactic| walk_at "len") => `(tactic| first | (intro h; obtain ⟨_, _, _, _, _, _, _, _, e, _⟩ := h; rw [e]; rfl) | (intro h; obtain ⟨_, _, _, _, _, _, _, _, _, e, _⟩ := h; rw [e]; rfl) | (intro h; obtain ⟨_, _, _, _, _, _, _, _, _, _, e, _⟩ := h; rw [e]; rfl) | (intro h; obtain ⟨_, _, _, _, _, _, _, _, _, _, _, e, _⟩ := h; rw [e]; rfl) | (intro h; obtain ⟨_, _, _, _, _, _, _, _, _, _, _, _, e, _⟩ := h; rw [e]; rfl) | (intro h; obtain ⟨_, _, _, _, _, _, _, _, _, _, _, _, _, e, _⟩ := h; rw [e]; rfl) | (intro h; obtain ⟨_, _, _, _, _, _, _, _, _, _, _, _, _, _, e, _⟩ := h; rw [e]; rfl) | (intro h; obtain ⟨_, _, _, _, _, _, _, _, _, _, _, _, _, _, _, e, _⟩ := h; rw [e]; rfl) | (intro h; obtain ⟨_, _, _, _, _, _, _, _, _, _, _, _, _, _, _, _, e, _⟩ := h; rw [e]; rfl) | (intro h; obtain ⟨_, _, _, _, _, _, _, _, _, _, _, _, _, _, _, _, _, e, _⟩ := h; rw [e]; rfl))
namespace Ex
section
variable {P : Program} {w : World} {K : PySem.W.Frag} {mg : Str → Option Value} {base : Heap} {ad : Ad}
theorem circ_frD {C c S D : Addr} {H H' : Hp} {tbl : List Nd} {p : Addr} {kv : List (Key × V)} (x : Circ P w C H c S D tbl) (fr : Fr1 p H H') (hp : H p = some (.dK kv)) : Circ P w C H' c S D tbl := by
  obtain ⟨dx, e1⟩ := x.ins
  obtain ⟨as, e2, hk⟩ := x.shown
  have tups : ∀ b ys, H b = some (.tup ys) → H' b = some (.tup ys) := fun b ys e => fr _ _ (ne_of e hp (fun z => nomatch z)) e
  obtain ⟨φ, hφ⟩ := x.nums.ext
  exact ⟨⟨dx, fr _ _ (ne_of e1 hp (fun z => nomatch z)) e1⟩, ⟨as, fr _ _ (ne_of e2 hp (fun z => nomatch z)) e2, hk.keeps tups⟩, x.nums.keeps (fun u e => fr _ _ (ne_of hφ hp (fun z => nomatch z)) e) tups⟩
theorem frC_no {C c S D q : Addr} {H H' : Hp} {tbl : List Nd} (x : Circ P w C H c S D tbl) (fr : FrC S D H H') {o : HO} (hq : H q = some o) (h1 : ∀ xs, o ≠ .lst xs) (h2 : ∀ φ, o ≠ .ext φ) : H' q = some o := by
  obtain ⟨as, e2, _⟩ := x.shown
  exact FrC.ne x fr hq (ne_of hq e2 (fun z => h1 _ z)) h2
theorem exc_fr {H H' : Hp} {y dy c S D d : Addr} {T T' : List Nd} {ins : Nat → Option Nat} (x : Exc P w ad H y dy c S D d T ins) (fr : FrC S D H H') (cc : Circ P w ad.Circuits H' c S D T') : Exc P w ad H' y dy c S D d T' ins :=
  ⟨frC_no x.cc fr x.y_ (fun _ z => nomatch z) (fun _ z => nomatch z), cc, x.d_.keep fun _ e => frC_no x.cc fr e (fun _ z => nomatch z) (fun _ z => nomatch z)⟩
def xUp (x : Nat → Nat) (m r : Nat) : Nat → Nat := fun q => if q = m then r else x q
theorem kvX_up (x : Nat → Nat) {m r : Nat} {ms : List Nat} (h : ¬ m ∈ ms) : kvX (xUp x m r) (ms ++ [m]) = kvX x ms ++ [(.inl (m : Int), .int (r : Nat))] := by
  show List.map _ (ms ++ [m]) = _
  rw [List.map_append]
  congr 1
  · refine List.map_congr_left fun q hq => ?_
    have : ¬ q = m := fun z => h (z ▸ hq)
    show ((.inl (q : Int), .int ((if q = m then r else x q : Nat) : Int)) : Key × V) = _
    rw [if_neg this]
  · show [((.inl (m : Int), .int ((if m = m then r else x m : Nat) : Int)) : Key × V)] = _
    rw [if_pos rfl]
/-- what an exchange in the node n of T0 leaves -/
structure Out (P : Program) (w : World) (C : Addr) (H H' : Hp) (c S D : Addr) (T0 : List Nd) (ins : Nat → Option Nat) (n : Nat) (T' : List Nd) (r : Nat) : Prop where
  fr : FrC S D H H'
  cc : Circ P w C H' c S D T'
  gn : GN T'
  ext : Ext T0 T'
  len : T'.length ≤ T0.length + n + 1
  lt : r < T'.length
  sem : SemS ins T0 T' n r
  id_ : (∀ k, ins k = none) → T' = T0 ∧ r = n
def spAllX (P : Program) (w : World) (ad : Ad) : Sp := fun vs H Q _ => ∃ (c L y dy S D d : Addr) (T0 : List Nd) (ins : Nat → Option Nat) (n : Nat), vs = [.ref c, .ref L, .ref y] ∧ Exc P w ad H y dy c S D d T0 ins ∧ GN T0 ∧ T0.length < 64 ∧ n < T0.length ∧ H L = some (.lst [.int (n : Int)]) ∧ (∀ k q, ins k = some q → q < T0.length) ∧
  ∀ H' M kvs r T', Out P w ad.Circuits H H' c S D T0 ins n T' r → H' M = some (.dK kvs) → valV kvs (.inl (n : Int)) = some (.int (r : Nat)) → Q (.ref M) H'
theorem ok_all_made (c_made : CalX P w K mg base 6 "_made" (spMadeX P w ad)) (c_nodes_within : CalX P w K mg base 2 "nodes_within" (spWithin P w ad.Circuits)) (m_shown : MetX P w K mg base 1 ad.Circuits "shown" (spShown P w ad.Circuits)) {f : Addr} {fd : FuncData} (F : Fun K "all_made" "all_made" s_all_made f fd) (T : Txt K mg ad) : FnOk P w K mg base (L2.CX P w) 7 f fd ["circuits", "nodes", "maker"] (spAllX P w ad) := by
  refine F.okX sc_all_made (fun vs H Q E => ?_) (fun cdv A outer s H vs Q E hr h => ?_)
  · walk_at "len"
  ·
    obtain ⟨c, L, mk, dy, S, D, d, T0, ins, n, rfl, ex, g0, hl, hn, hL, hins, k1⟩ := h
    refine ⟨_, (pss_cons (ps_set (i := 3) sc_all_made.nd rfl (by first | exact Or.inl rfl | exact Or.inr rfl) pe_dnewK)
      (pss_cons (ps_for (passes_of rfl) rfl (pi_list (pc_call c_nodes_within hr (by first | decide | omega) (takes_of rfl rfl rfl rfl) (by rfl) (pa_cons (pv 0) (pa_cons (pv 1) pa_nil)))) (pg_name (i := 4) sc_all_made.nd rfl (by first | exact Or.inl rfl | exact Or.inr rfl)) (pss_one (ps_dput (hu_of hr) (pv 3) (pv 4) (pc_call c_made hr (by first | decide | omega) (takes_of rfl rfl rfl rfl) (by rfl) (pa_cons (pd_meth hr (takes_of rfl rfl rfl rfl) (pv 0) (pa_cons (pv 4) pa_nil)) (pa_cons (pv 3) (pa_cons (pv 2) pa_nil)))) rfl)))
      (pss_one (ps_ret (pv 3))))), ?_⟩
    refine go_seq (fun md hd => go_name rfl ?_)
    have s0 : Same H (upd H md (.dK [])) := same_new (Same.refl _) hd
    refine go_sq ⟨_, rfl, _, rfl, c, S, D, T0, L, n, rfl, ex.cc.same s0, g0.good.wf, hl, hn, s0 _ _ hL, fun H2 l ys s2 l0 e2 ynd yp ym => ⟨l, rfl, ⟨_, SqL.of e2⟩, ?_⟩⟩
    have s02 : Same H H2 := fun b o e => s2 _ _ (s0 _ _ e)
    obtain ⟨dxc, hc⟩ := ex.cc.ins
    obtain ⟨as0, hS0, _⟩ := ex.cc.shown
    obtain ⟨φ0, hD0⟩ := ex.cc.nums.ext
    have lS : l ≠ S := (ne_of_none (s0 _ _ hS0) l0).symm
    have lD : l ≠ D := (ne_of_none (s0 _ _ hD0) l0).symm
    have mS : md ≠ S := (ne_of_none hS0 hd).symm
    have mD : md ≠ D := (ne_of_none hD0 hd).symm
    have lm : l ≠ md := fun z => by rw [z, upd_same] at l0; cases l0
    have ylen : ys.length ≤ n + 1 := by
      have h1 := ynd.length_le_of_subset (l₂ := List.range (n + 1)) fun m hm => List.mem_range.mpr (Nat.lt_succ_of_le (((ym m).mp hm).le g0.good.wf))
      rw [List.length_range] at h1
      exact h1
    refine for_list (K := K) (a := l) (xs := nV ys) (fun i σ H3 => ∃ (vn : Option V) (x : Nat → Nat) (T : List Nd), σ = [some (.ref c), some (.ref L), some (.ref mk), some (.ref md), vn] ∧ FrC S D H H3 ∧ H3 l = some (.lst (nV ys)) ∧ H3 md = some (.dK (kvX x (ys.take i))) ∧ Circ P w ad.Circuits H3 c S D T ∧ GN T ∧ Ext T0 T ∧ T.length ≤ T0.length + i ∧ (∀ m ∈ ys.take i, x m < T.length ∧ SemS ins T0 T m (x m)) ∧ ((∀ k, ins k = none) → T = T0 ∧ ∀ m ∈ ys.take i, x m = m))
      ⟨none, fun q => q, T0, rfl, FrC.of s02, e2, s2 _ _ upd_same, ex.cc.same s02, g0, Ext.refl _, Nat.le_refl _, fun m hm => (by simp at hm), fun _ => ⟨rfl, fun m hm => (by simp at hm)⟩⟩ (fun i σ H3 _ ⟨_, _, _, _, _, e, _⟩ => SqL.of e) ?_ ?_
    · rintro i y σ H3 hy ⟨vn, x, T, rfl, f3, e3, d3, c3, g3, x3, l3, m3, i3⟩
      obtain ⟨m, hm, rfl⟩ := nV_in hy
      have hil : i < ys.length := (List.getElem?_eq_some_iff.mp hm).1
      have hmy : m ∈ ys := List.mem_of_getElem? hm
      have hr := (ym m).mp hmy
      have hmt : m < T0.length := Nat.lt_of_le_of_lt (hr.le g0.good.wf) hn
      have hnd : T0[m]? = some T0[m] := List.getElem?_eq_getElem hmt
      have hndT : T[m]? = some T0[m] := (x3.at_ hmt).trans hnd
      have hmem : T0[m] ∈ T0 := List.getElem_mem hmt
      refine go_name rfl ?_
      have parts_ : ∀ p ∈ T0[m].parts, p ∈ ys.take i := fun p hp => take_lt yp hm ((ym p).mpr (.step hr hnd hp)) (g0.good.wf m _ hnd p hp)
      have pl := g0.good.ps _ hmem
      have hTl : T.length < 1000 := by omega
      obtain ⟨gn4, ext4, len4, lt4⟩ := ex_gn (ins := ins) (x := x) (nd := T0[m]) g3 (fun p hp => (m3 p (parts_ p hp)).1) pl (fun k e => g0.fk.k4 k (e ▸ hmem)) (fun k q _ h => Nat.lt_of_lt_of_le (hins k q h) x3.le)
      have sem4 := sem_step g0 g3 x3 hins (x := x) hnd fun p hp => m3 p (parts_ p hp)
      have id4 : (∀ k, ins k = none) → exN ins T x T0[m] = (T0, m) := fun hi => by
        obtain ⟨rfl, hx⟩ := i3 hi
        exact ex_id g0 hnd (fun p hp => hx p (parts_ p hp)) hi
      have nin : ¬ m ∈ ys.take i := fun z => by
        obtain ⟨j, hj⟩ := List.mem_iff_getElem?.mp z
        rw [List.getElem?_take] at hj
        split at hj
        · rename_i hji
          have := (List.getElem?_inj hil ynd).mp (hm.trans hj.symm)
          omega
        · cases hj
      refine ⟨_, rfl, c, _, dxc, _, 1, _, rfl, frC_no ex.cc f3 hc (fun _ z => nomatch z) (fun _ z => nomatch z), fC_no _ _ (by decide) (by decide), by decide, m_shown, _, rfl, c, S, D, T, m, _, rfl, c3, hndT, fun a ha => ?_⟩
      refine ⟨_, rfl, _, rfl, a, md, mk, dy, c, S, D, d, T, ins, T0[m], _, x, rfl, ha, d3, exc_fr ex f3 c3, hTl, fun p hp => valV_X x p _ (parts_ p hp), pl, fun H4 f4 c4 => ?_⟩
      generalize hE : exN ins T x T0[m] = E4 at gn4 ext4 len4 lt4 sem4 id4 c4 ⊢
      obtain ⟨T4, r⟩ := E4
      have d4 := f4 _ _ mS mD d3
      refine ⟨_, rfl, _, rfl, md, _, rfl, DPut.k (k := .inl (m : Int)) d4 ?_, ?_⟩
      · have := List.length_take_le i ys
        rw [List.length_map]
        exact Nat.lt_of_le_of_lt (by omega : _ ≤ 64) (by decide)
      · have frd : Fr1 md H4 (upd H4 md (.dK (putK (kvX x (ys.take i)) (.inl (m : Int)) (.int (r : Nat))))) := fun b o nb e => by rw [upd_ne nb]; exact e
        refine ⟨_, xUp x m r, T4, rfl, fun b o n1 n2 e => ?_, ?_, ?_, circ_frD c4 frd d4, gn4, x3.trans ext4, by (have l4 : T4.length ≤ T.length + 1 := len4); omega, fun q hq => ?_, fun hi => ?_⟩
        · exact frd _ _ (ne_of_none e hd) (f4 _ _ n1 n2 (f3 _ _ n1 n2 e))
        · exact frd _ _ lm (f4 _ _ lS lD e3)
        · rw [upd_same, putK_new _ (valV_X0 _ m _ nin), List.take_add_one, hm]
          show _ = some (HO.dK (kvX (xUp x m r) (ys.take i ++ [m])))
          rw [kvX_up x nin]
        · rw [List.take_add_one, hm] at hq
          rcases List.mem_append.mp hq with h | h
          · have e : xUp x m r q = x q := if_neg fun (z : q = m) => nin (z ▸ h)
            rw [e]
            obtain ⟨h1, h2⟩ := m3 q h
            exact ⟨Nat.lt_of_lt_of_le h1 ext4.le, h2.ext g3.good.wf gn4.good.wf ext4 h1⟩
          · obtain rfl : q = m := by simpa using h
            rw [show xUp x q r q = r from if_pos rfl]
            exact ⟨lt4, sem4⟩
        · have e4 := id4 hi
          obtain ⟨_, hx⟩ := i3 hi
          injection e4 with e5 e6
          refine ⟨e5, fun q hq => ?_⟩
          rw [List.take_add_one, hm] at hq
          rcases List.mem_append.mp hq with h | h
          · rw [show xUp x m r q = x q from if_neg fun (z : q = m) => nin (z ▸ h)]
            exact hx q h
          · obtain rfl : q = m := by simpa using h
            rw [show xUp x q r q = r from if_pos rfl]
            exact e6
    · rintro σ H3 ⟨vn, x, T, rfl, f3, e3, d3, c3, g3, x3, l3, m3, i3⟩
      rw [nV_length] at d3 l3 m3 i3
      rw [List.take_length] at d3 m3 i3
      have hny : n ∈ ys := (ym n).mpr .refl
      refine ⟨_, rfl, ?_⟩
      exact k1 H3 md _ (x n) T ⟨f3, c3, g3, x3, by omega, (m3 n hny).1, (m3 n hny).2, fun hi => ⟨(i3 hi).1, (i3 hi).2 n hny⟩⟩ d3 (valV_X _ n ys hny)
end
end Ex
end K14

set_option Elab.async false
set_option linter.all false
set_option maxRecDepth 100000
set_option maxHeartbeats 4000000
namespace K14
open PySem L2 Ew Tb SRm GxR ND
local macro_rules | `(tactic| walk_at "len") => `(tactic| first | (intro h; obtain ⟨_, e, _⟩ := h; rw [e]; rfl) | (intro h; obtain ⟨_, _, e, _⟩ := h; rw [e]; rfl) | (intro h; obtain ⟨_, _, _, e, _⟩ := h; rw [e]; rfl) | (intro h; obtain ⟨_, _, _, _, e, _⟩ := h; rw [e]; rfl) | (intro h; obtain ⟨_, _, _, _, _, e, _⟩ := h; rw [e]; rfl) | (intro h; obtain ⟨_, _, _, _, _, _, e, _⟩ := h; rw [e]; rfl) | (intro h; obtain ⟨_, _, _, _, _, _, _, e, _⟩ := h; rw [e]; rfl) | (intro h; obtain ⟨_, _, _, _, _, _, _, _, e, _⟩ := h; rw [e]; rfl) | (intro h; obtain ⟨_, _, _, _, _, _, _, _, _, e, _⟩ := h; rw [e]; rfl) | (intro h; obtain ⟨_, _, _, _, _, _, _, _, _, _, e, _⟩ := h; rw [e]; rfl) | (intro h; obtain ⟨_, _, _, _, _, _, _, _, _, _, _, e, _⟩ := h; rw [e]; rfl) | (intro h; obtain ⟨_, _, _, _, _, _, _, _, _, _, _, _, e, _⟩ := h; rw [e]; rfl) | (intro h; obtain ⟨_, _, _, _, _, _, _, _, _, _, _, _, _, e, _⟩ := h; rw [e]; rfl))
local macro_rules | `(tactic| walk_at "len") => `(tactic| first | (intro h; obtain ⟨_, _, _, _, _, _, _, _, e, _⟩ := h; rw [e]; rfl) | (intro h; obtain ⟨_, _, _, _, _, _, _, _, _, e, _⟩ := h; rw [e]; rfl) | (intro h; obtain ⟨_, _, _, _, _, _, _, _, _, _, e, _⟩ := h; rw [e]; rfl) | (intro h; obtain ⟨_, _, _, _, _, _, _, _, _, _, _, e, _⟩ := h; rw [e]; rfl) | (intro h; obtain ⟨_, _, _, _, _, _, _, _, _, _, _, _, e, _⟩ := h; rw [e]; rfl) | (intro h; obtain ⟨_, _, _, _, _, _, _, _, _, _, _, _, _, e, _⟩ := h; rw [e]; rfl) | (intro h; obtain ⟨_, _, _, _, _, _, _, _, _, _, _, _, _, _, e, _⟩ := h; rw [e]; rfl) | (intro h; obtain ⟨_, _, _, _, _, _, _, _, _, _, _, _, _, _, _, e, _⟩ := h; rw [e]; rfl) | (intro h; obtain ⟨_, _, _, _, _, _, _, _, _, _, _, _, _, _, _, _, e, _⟩ := h; rw [e]; rfl) | (intro h; obtain ⟨_, _, _, _, _, _, _, _, _, _, _, _, _, _, _, _, _, e, _⟩ := h; rw [e]; rfl))
namespace Ex
section
variable {X : Cx} {j : Nat} {x : Str} {p pos : Pos} {e : Expr} {es : List Expr} {t : TA} {W : WX}
theorem pd_makeT {P : Program} {w : World} {K : PySem.W.Frag} {mg : Str → Option Value} {base : Heap} (hX : X.prog = P ∧ X.w = w ∧ X.K = K ∧ X.mg = mg ∧ X.base = base) (hr : Room j X.A) (tk : Takes X W) (hg : Gl X x) (ha : PA X (e :: es) t)
    (hdb : (x == ("__debug__" : Str)) = false := by decide) (he : starEach (e :: es) X.env = (false, eval e X.env) :: starEach es X.env := by rfl) (hpl : (backTo pos (starEach es X.env)).any (·.1) = false := by rfl) :
    PE X (.Call (.Name x p) (e :: es) [] pos) (tMakeD P w K mg base j x W t) := by
  obtain ⟨rfl, rfl, rfl, rfl, rfl⟩ := hX
  exact pd_make hr tk hg ha hdb he hpl
end
section
variable {P : Program} {w : World} {K : PySem.W.Frag} {mg : Str → Option Value} {base : Heap} {ad : Ad}
def spCarr (P : Program) (w : World) (ad : Ad) : Sp := fun vs H Q _ => ∃ (c S D d : Addr) (T0 : List Nd) (ins : Nat → Option Nat) (n : Nat), vs = [.ref c, .int (n : Int), .ref c, .ref d] ∧ Circ P w ad.Circuits H c S D T0 ∧ InsD H d ins ∧ GN T0 ∧ T0.length < 64 ∧ n < T0.length ∧ (∀ k q, ins k = some q → q < T0.length) ∧
  ∀ H' r T', Out P w ad.Circuits H H' c S D T0 ins n T' r → Q (.int (r : Nat)) H'
def spPut (P : Program) (w : World) (ad : Ad) : Sp := fun vs H Q _ => ∃ (c S D d : Addr) (T0 : List Nd) (ins : Nat → Option Nat) (n : Nat), vs = [.ref c, .int (n : Int), .ref d] ∧ Circ P w ad.Circuits H c S D T0 ∧ InsD H d ins ∧ GN T0 ∧ T0.length < 64 ∧ n < T0.length ∧ (∀ k q, ins k = some q → q < T0.length) ∧
  ∀ H' r T', Out P w ad.Circuits H H' c S D T0 ins n T' r → Q (.int (r : Nat)) H'
theorem out_same {C c S D : Addr} {H0 H H' : Hp} {T0 T' : List Nd} {ins : Nat → Option Nat} {n r : Nat} (s : Same H0 H) (o : Out P w C H H' c S D T0 ins n T' r) : Out P w C H0 H' c S D T0 ins n T' r := { o with fr := (FrC.of s).trans o.fr }
theorem ok_carried (mExc : MakX P w K mg base 1 "Exchange" ad.Exchange (spXI ad.Exchange)) (m_count : MetX P w K mg base 1 ad.Circuits "count" (spCount ad.Circuits)) (c_all_made : CalX P w K mg base 7 "all_made" (spAllX P w ad)) {f : Addr} {fd : FuncData} (F : Fun K "carried" "carried" s_carried f fd) (T : Txt K mg ad) : FnOk P w K mg base (L2.CX P w) 9 f fd ["source", "node", "target", "nodes"] (spCarr P w ad) := by
  refine F.okX sc_carried (fun vs H Q E => ?_) (fun cdv A outer s H vs Q E hr h => ?_)
  · walk_at "len"
  ·
    obtain ⟨c, S, D, d, T0, ins, n, rfl, cc, hd, g0, hl, hn, hins, k⟩ := h
    refine ⟨_, (pss_cons (ps_set (i := 4) sc_carried.nd rfl (by first | exact Or.inl rfl | exact Or.inr rfl) (pd_meth0 hr (takes_of rfl rfl rfl rfl) (pv 2)))
      (pss_one (ps_try_only rfl rfl ⟨rfl, by decide, .inl T.g_TooLarge⟩ (takes_of rfl rfl rfl rfl) (fun W pn xe tk1 po1 => (pss_one (ps_ret (pe_dget (hu_of hr) (pc_call c_all_made hr (by first | decide | omega) tk1 (by rfl) (pa_cons (pv 0) (pa_cons (pe_lst (pa_cons (pv 1) pa_nil)) (pa_cons (pd_makeT (P := P) (w := w) (K := K) (mg := mg) (base := base) (x := "Exchange") ⟨rfl, rfl, rfl, rfl, rfl⟩ hr tk1 (by rfl) (pa_cons (pv 2) (pa_cons (pv 3) pa_nil))) pa_nil)))) (pv 1) (fun _ _ => rfl))))) (fun a oe cls d pn _ _ => (pss_cons Tb.ps_never (pss_one Tb.ps_never)))))), ?_⟩
    obtain ⟨dxc, hc⟩ := cc.ins
    obtain ⟨as, hS, _⟩ := cc.shown
    refine go_seq ⟨_, rfl, c, _, dxc, _, 1, _, rfl, hc, fC_no _ _ (by decide) (by decide), by decide, m_count, c, dxc, S, D, _, rfl, hc, hS, go_name rfl ?_⟩
    refine ⟨_, rfl, _, rfl, (show 1 ≤ sizeLine by decide), fun L hL => ?_⟩
    have s1 : Same H (upd H L (.lst [.int (n : Int)])) := same_new (Same.refl _) hL
    refine ⟨1, ad.Exchange, _, by decide, mExc, _, rfl, _, rfl, fun y dy hy hdy nyd => ⟨y, dy, c, d, rfl, upd_same, rfl, ?_⟩⟩
    rw [upd_upd]
    have s2 := made_same (o1 := .own y) (o2 := .ins ad.Exchange dy (fE c d)) hy hdy
    have s12 : Same H _ := fun b o e => s2 _ _ (s1 _ _ e)
    refine ⟨c, L, y, dy, S, D, d, T0, ins, n, rfl, ⟨upd_same, cc.same s12, hd.keep fun _ e => s12 _ _ e⟩, g0, hl, hn, s2 _ _ upd_same, hins, fun H' M kvs r T' o e' hx => ?_⟩
    refine ⟨_, rfl, M, .int (r : Nat), rfl, ?_, k H' r T' (out_same s12 o)⟩
    have := DGet.k (k := .inl (n : Int)) e'
    rw [hx] at this
    exact this
theorem ok_put_in (c_carried : CalX P w K mg base 9 "carried" (spCarr P w ad)) {f : Addr} {fd : FuncData} (F : Fun K "put_in" "put_in" s_put_in f fd) (T : Txt K mg ad) : FnOk P w K mg base (L2.CX P w) 10 f fd ["circuits", "node", "nodes"] (spPut P w ad) := by
  refine F.okX sc_put_in (fun vs H Q E => ?_) (fun cdv A outer s H vs Q E hr h => ?_)
  · walk_at "len"
  ·
    obtain ⟨c, S, D, d, T0, ins, n, rfl, cc, hd, g0, hl, hn, hins, k⟩ := h
    refine ⟨_, (pss_one (ps_ret (pc_call c_carried hr (by first | decide | omega) (takes_of rfl rfl rfl rfl) (by rfl) (pa_cons (pv 0) (pa_cons (pv 1) (pa_cons (pv 0) (pa_cons (pv 2) pa_nil))))))), ?_⟩
    exact ⟨_, rfl, _, rfl, _, rfl, _, rfl, c, S, D, d, T0, ins, n, rfl, cc, hd, g0, hl, hn, hins, k⟩
end
end Ex
end K14

set_option Elab.async false
set_option linter.all false
set_option maxRecDepth 100000
set_option maxHeartbeats 4000000
namespace K14
open PySem L2 Ew Tb SRm GxR ND
local macro_rules | `(tactic| walk_at "len") => `(tactic| first | (intro h; obtain ⟨_, e, _⟩ := h; rw [e]; rfl) | (intro h; obtain ⟨_, _, e, _⟩ := h; rw [e]; rfl) | (intro h; obtain ⟨_, _, _, e, _⟩ := h; rw [e]; rfl) | (intro h; obtain ⟨_, _, _, _, e, _⟩ := h; rw [e]; rfl) | (intro h; obtain ⟨_, _, _, _, _, e, _⟩ := h; rw [e]; rfl) | (intro h; obtain ⟨_, _, _, _, _, _, e, _⟩ := h; rw [e]; rfl) | (intro h; obtain ⟨_, _, _, _, _, _, _, e, _⟩ := h; rw [e]; rfl) | (intro h; obtain ⟨_, _, _, _, _, _, _, _, e, _⟩ := h; rw [e]; rfl) | (intro h; obtain ⟨_, _, _, _, _, _, _, _, _, e, _⟩ := h; rw [e]; rfl) | (intro h; obtain ⟨_, _, _, _, _, _, _, _, _, _, e, _⟩ := h; rw [e]; rfl) | (intro h; obtain ⟨_, _, _, _, _, _, _, _, _, _, _, e, _⟩ := h; rw [e]; rfl) | (intro h; obtain ⟨_, _, _, _, _, _, _, _, _, _, _, _, e, _⟩ := h; rw [e]; rfl) | (intro h; obtain ⟨_, _, _, _, _, _, _, _, _, _, _, _, _, e, _⟩ := h; rw [e]; rfl))
local macro_rules | `(tactic| walk_at "len") => `(tactic| first | (intro h; obtain ⟨_, _, _, _, _, _, _, _, e, _⟩ := h; rw [e]; rfl) | (intro h; obtain ⟨_, _, _, _, _, _, _, _, _, e, _⟩ := h; rw [e]; rfl) | (intro h; obtain ⟨_, _, _, _, _, _, _, _, _, _, e, _⟩ := h; rw [e]; rfl) | (intro h; obtain ⟨_, _, _, _, _, _, _, _, _, _, _, e, _⟩ := h; rw [e]; rfl) | (intro h; obtain ⟨_, _, _, _, _, _, _, _, _, _, _, _, e, _⟩ := h; rw [e]; rfl) | (intro h; obtain ⟨_, _, _, _, _, _, _, _, _, _, _, _, _, e, _⟩ := h; rw [e]; rfl) | (intro h; obtain ⟨_, _, _, _, _, _, _, _, _, _, _, _, _, _, e, _⟩ := h; rw [e]; rfl) | (intro h; obtain ⟨_, _, _, _, _, _, _, _, _, _, _, _, _, _, _, e, _⟩ := h; rw [e]; rfl) | (intro h; obtain ⟨_, _, _, _, _, _, _, _, _, _, _, _, _, _, _, _, e, _⟩ := h; rw [e]; rfl) | (intro h; obtain ⟨_, _, _, _, _, _, _, _, _, _, _, _, _, _, _, _, _, e, _⟩ := h; rw [e]; rfl))
namespace Ex
section
variable {P : Program} {w : World} {K : PySem.W.Frag} {mg : Str → Option Value} {base : Heap} {ad : Ad}
/-! ### the law -/
def kvW (ws : List Nat) : List (Key × V) := (List.range ws.length).map fun (k : Nat) => (.inl (k : Int), .int ((ws.getD k 0 : Nat) : Int))
theorem kvW_snoc (ws : List Nat) (x : Nat) : kvW (ws ++ [x]) = kvW ws ++ [(.inl (ws.length : Int), .int (x : Nat))] := by
  unfold kvW
  rw [List.length_append, List.length_singleton, List.range_succ, List.map_append]
  congr 1
  · refine List.map_congr_left fun k hk => ?_
    have hk := List.mem_range.mp hk
    rw [List.getD_eq_getElem?_getD, List.getD_eq_getElem?_getD, List.getElem?_append_left hk]
  · show [((.inl (ws.length : Int), .int (((ws ++ [x]).getD ws.length 0 : Nat) : Int)) : Key × V)] = _
    rw [List.getD_eq_getElem?_getD, List.getElem?_append_right (Nat.le_refl _), Nat.sub_self]
    rfl
theorem merge4 {ws : List Nat} (h : ws.length = 4) : ∀ k : Nat, k < 4 → valV (mergeK [] (kvW ws)) (.inl (k : Int)) = some (.int (ws.getD k 0 : Nat)) := by
  rcases ws with _ | ⟨a, _ | ⟨b, _ | ⟨c, _ | ⟨d, _ | ⟨e, ws⟩⟩⟩⟩⟩
  · cases h
  · cases h
  · cases h
  · cases h
  · intro k hk
    rcases k with _ | _ | _ | _ | k
    · rfl
    · rfl
    · rfl
    · rfl
    · omega
  · simp at h

abbrev kvO (u : Nat → Option Nat) : List (Key × V) := [(.inl 0, oV (u 0)), (.inl 1, oV (u 1)), (.inl 2, oV (u 2)), (.inl 3, oV (u 3))]
def setO (u : Nat → Option Nat) (j : Nat) (y : Option Nat) : Nat → Option Nat := fun q => if q = j then y else u q
theorem kvO_at (u : Nat → Option Nat) : ∀ k : Nat, k < 4 → valV (kvO u) (.inl (k : Int)) = some (oV (u k))
  | 0, _ => rfl
  | 1, _ => rfl
  | 2, _ => rfl
  | 3, _ => rfl
  | k + 4, h => absurd h (by omega)
theorem kvO_put (u : Nat → Option Nat) (y : Option Nat) : ∀ j : Nat, j < 4 → putK (kvO u) (.inl (j : Int)) (oV y) = kvO (setO u j y)
  | 0, _ => rfl
  | 1, _ => rfl
  | 2, _ => rfl
  | 3, _ => rfl
  | k + 4, h => absurd h (by omega)
theorem merge4O {ws : List Nat} (h : ws.length = 4) : mergeK [] (kvW ws) = kvO fun k => some (ws.getD k 0) := by
  rcases ws with _ | ⟨a, _ | ⟨b, _ | ⟨c, _ | ⟨d, _ | ⟨e, ws⟩⟩⟩⟩⟩
  · cases h
  · cases h
  · cases h
  · cases h
  · rfl
  · simp at h
theorem kvO_key (u : Nat → Option Nat) : ∀ (i : Nat) (k : Key) (v : V), (kvO u)[i]? = some (k, v) → i < 4 ∧ k = .inl (i : Int)
  | 0, _, _, h => by cases h; exact ⟨by decide, rfl⟩
  | 1, _, _, h => by cases h; exact ⟨by decide, rfl⟩
  | 2, _, _, h => by cases h; exact ⟨by decide, rfl⟩
  | 3, _, _, h => by cases h; exact ⟨by decide, rfl⟩
  | k + 4, _, _, h => by simp at h
abbrev rowO (u : Nat → Option Nat) (i : Nat) : List V := (List.range i).map fun k => oV (u k)
theorem rowO_flat (u : Nat → Option Nat) (i : Nat) : (rowO u i).all flatV = true := by
  rw [List.all_eq_true]
  intro x hx
  obtain ⟨k, _, rfl⟩ := List.mem_map.mp hx
  cases u k <;> rfl
theorem rowO_all {u : Nat → Option Nat} (h : (!inV .non (rowO u 4)) = true) : ∀ k, k < 4 → u k = some ((u k).getD 0) := by
  intro k hk
  rcases e : u k with _ | x
  · have : inV .non (rowO u 4) = true := List.any_eq_true.mpr ⟨oV (u k), List.mem_map.mpr ⟨k, List.mem_range.mpr hk, rfl⟩, by rw [e]; rfl⟩
    rw [this] at h
    cases h
  · rfl
theorem lc_keys {d : Addr} {o : Obj} {kvs : List (Key × V)} {g : TG} {tt : TT} {te : TE} {vs : List Nat} {σ : L2.St} {H1 : Hp} {D : Addr} {Qd : Hp → Prop} (Pv : Nat → Hp → Prop) (h0 : Pv 0 (upd H1 D (.lst []))) (hl : ∀ i H, i ≤ kvs.length → Pv i H → H d = some (.frz o (.dK kvs)))
    (hs : ∀ i k v H, kvs[i]? = some (k, v) → Pv i H → g (kV k) (wipe σ vs) H fun σ2 H2 => wipe σ2 vs = wipe σ vs ∧ tt σ2 H2 fun b H3 =>
      if b = true then te σ2 H3 fun y H4 => ∃ acc, H4 D = some (.lst acc) ∧ acc.length < sizeLine ∧ Pv (i + 1) (upd H4 D (.lst (acc ++ [y]))) else Pv (i + 1) H3) (hd : ∀ H, Pv kvs.length H → Qd H) :
    ∃ W : Nat → Nat → Hp → Prop, (∃ m, W 0 m (upd H1 D (.lst []))) ∧ ∀ i m H, W i m H →
      ((Itk d o kvs).stop i H ∧ Qd H) ∨ ((Itk d o kvs).go i H ∧ ∃ Nx : Hp → Prop, (∀ H', Nx H' → ∃ m', m' < m ∧ W (i + 1) m' H') ∧ ∀ x H', (Itk d o kvs).yld i H x H' → g x (wipe σ vs) H' fun σ2 H2 => wipe σ2 vs = wipe σ vs ∧ tt σ2 H2 fun b H3 =>
        if b = true then te σ2 H3 fun y H4 => ∃ acc, H4 D = some (.lst acc) ∧ acc.length < sizeLine ∧ Nx (upd H4 D (.lst (acc ++ [y]))) else Nx H3) := by
  refine ⟨fun i m H => m = kvs.length - i ∧ i ≤ kvs.length ∧ Pv i H, ⟨kvs.length, by simp, Nat.zero_le _, h0⟩, ?_⟩
  rintro i m H ⟨rfl, hi, p⟩
  have q := hl i H hi p
  by_cases hlt : i < kvs.length
  · refine .inr ⟨⟨q, hlt⟩, Pv (i + 1), fun H' p' => ⟨kvs.length - (i + 1), by omega, rfl, hlt, p'⟩, ?_⟩
    rintro x H' ⟨rfl, k, v, e, rfl⟩
    exact hs i k v _ e p
  · have e : i = kvs.length := by omega
    subst e
    exact .inl ⟨⟨q, Nat.le_refl _⟩, hd H p⟩
theorem wor_tr {H H' : Hp} {r wd : Addr} {n : Nat} {f g : Nat → Nat → Nat} {o : Nat} {st : List (Option Nat)} {fa : Nat → Prop} {wf : Nat → Nat} (x : Wor ad H r wd n f g o st fa wf) (hr : ∀ dx ffs, H r = some (.ins ad.Finite dx ffs) → H' r = some (.ins ad.Finite dx ffs)) (tup : ∀ b xs, H b = some (.tup xs) → H' b = some (.tup xs)) (hw : ∀ kv, H wd = some (.dK kv) → H' wd = some (.dK kv)) : Wor ad H' r wd n f g o st fa wf := by
  obtain ⟨dx, ffs, h1, tp, tm, ts, e, h2, h3, h4, h5⟩ := x.ring
  obtain ⟨kvs, h6, h7⟩ := x.wd
  exact ⟨⟨dx, ffs, hr _ _ h1, tp, tm, ts, e, h2.same tup, h3.same tup, tup _ _ h4, h5⟩, x.sr, x.sl, ⟨kvs, hw _ h6, h7⟩, x.hw⟩
/-- the law's things -/
structure LS (P : Program) (w : World) (ad : Ad) (H : Hp) (p pb c S D N y wd : Addr) (tbl : List Nd) (nn : List Nat) (n : Nat) (f g : Nat → Nat → Nat) (o : Nat) (st : List (Option Nat)) (kv : List (Key × V)) (wf : Nat → Nat) (T : List Nd) : Prop where
  pot : PotB H p pb
  cc : Circ P w ad.Circuits H c S D T
  gn : GN T
  ext : Ext tbl T
  nn_ : H N = some (.lst (nV nn))
  wor : Wor ad H y wd n f g o st (fun k => k < 4) wf
  wd_ : H wd = some (.dK kv)
section
variable {H H' : Hp} {p pb c S D N y wd : Addr} {tbl : List Nd} {nn : List Nat} {n : Nat} {f g : Nat → Nat → Nat} {o : Nat} {st : List (Option Nat)} {kv : List (Key × V)} {wf : Nat → Nat} {T T' : List Nd}
theorem LS.same (x : LS P w ad H p pb c S D N y wd tbl nn n f g o st kv wf T) (s : Same H H') : LS P w ad H' p pb c S D N y wd tbl nn n f g o st kv wf T :=
  ⟨x.pot.same s, x.cc.same s, x.gn, x.ext, s _ _ x.nn_, x.wor.same s, s _ _ x.wd_⟩
theorem LS.draw (x : LS P w ad H p pb c S D N y wd tbl nn n f g o st kv wf T) (d : Dis p pb S N) (fr : Fr1 p H H') (hb : ∀ b, PotB H p b → PotB H' p b) : LS P w ad H' p pb c S D N y wd tbl nn n f g o st kv wf T := by
  obtain ⟨xs, hp⟩ := x.pot.ls
  exact ⟨hb _ x.pot, x.cc.fr fr hp d.pS, x.gn, x.ext, fr _ _ (Ne.symm d.pN) x.nn_, wor_tr x.wor (fun dx ffs e => fr _ _ (ne_of e hp (fun z => nomatch z)) e) (fun b xs e => fr _ _ (ne_of e hp (fun z => nomatch z)) e) (fun kv e => fr _ _ (ne_of e hp (fun z => nomatch z)) e), fr _ _ (ne_of x.wd_ hp (fun z => nomatch z)) x.wd_⟩
theorem LS.made (x : LS P w ad H p pb c S D N y wd tbl nn n f g o st kv wf T) (d : Dis p pb S N) (fr : FrC S D H H') (cc : Circ P w ad.Circuits H' c S D T') (gn : GN T') (ext : Ext T T') : LS P w ad H' p pb c S D N y wd tbl nn n f g o st kv wf T' := by
  obtain ⟨zs, i, c', sd, e1, e2, h⟩ := x.pot
  exact ⟨⟨zs, i, c', sd, FrC.ne x.cc fr e1 d.pS (fun φ z => nomatch z), FrC.ne x.cc fr e2 d.bS (fun φ z => nomatch z), h⟩, cc, gn, x.ext.trans ext, FrC.ne x.cc fr x.nn_ (Ne.symm d.SN) (fun φ z => nomatch z),
    wor_tr x.wor (fun dx ffs e => frC_no x.cc fr e (fun _ z => nomatch z) (fun _ z => nomatch z)) (fun b xs e => frC_no x.cc fr e (fun _ z => nomatch z) (fun _ z => nomatch z)) (fun kv e => frC_no x.cc fr e (fun _ z => nomatch z) (fun _ z => nomatch z)), frC_no x.cc fr x.wd_ (fun _ z => nomatch z) (fun _ z => nomatch z)⟩
theorem LS.dput {q : Addr} {kv' : List (Key × V)} (x : LS P w ad H p pb c S D N y wd tbl nn n f g o st kv wf T) (fr : Fr1 q H H') (hq : H q = some (.dK kv')) (nq : wd ≠ q) : LS P w ad H' p pb c S D N y wd tbl nn n f g o st kv wf T := by
  obtain ⟨xs, hp⟩ := x.pot.ls
  obtain ⟨ys, hb⟩ := x.pot.lb
  exact ⟨x.pot.fr fr (ne_of hp hq (fun z => nomatch z)) (ne_of hb hq (fun z => nomatch z)), circ_frD x.cc fr hq, x.gn, x.ext, fr _ _ (ne_of x.nn_ hq (fun z => nomatch z)) x.nn_, wor_tr x.wor (fun dx ffs e => fr _ _ (ne_of e hq (fun z => nomatch z)) e) (fun b xs e => fr _ _ (ne_of e hq (fun z => nomatch z)) e) (fun kv e => fr _ _ nq e), fr _ _ nq x.wd_⟩
theorem LS.nod (x : LS P w ad H p pb c S D N y wd tbl nn n f g o st kv wf T) {m : Nat} (hl : T.length < 64) (hm : m < T.length) : Nod P w ad.Circuits H c S D T m (fun k => k < 4) := ⟨x.cc, x.gn.good.wf, hl, hm, x.gn.good.ps, fun m' k _ e => x.gn.fk.k4 k (List.mem_of_getElem? e)⟩
end
theorem fr_upd {q : Addr} {H : Hp} {o : HO} : Fr1 q H (upd H q o) := fun b u nb e => by rw [upd_ne nb]; exact e
end
end Ex
end K14

set_option Elab.async false
set_option linter.all false
set_option maxRecDepth 100000
set_option maxHeartbeats 4000000
namespace K14
open PySem L2 Ew Tb SRm GxR ND
local macro_rules | `(tactic| walk_at "len") => `(tactic| first | (intro h; obtain ⟨_, e, _⟩ := h; rw [e]; rfl) | (intro h; obtain ⟨_, _, e, _⟩ := h; rw [e]; rfl) | (intro h; obtain ⟨_, _, _, e, _⟩ := h; rw [e]; rfl) | (intro h; obtain ⟨_, _, _, _, e, _⟩ := h; rw [e]; rfl) | (intro h; obtain ⟨_, _, _, _, _, e, _⟩ := h; rw [e]; rfl) | (intro h; obtain ⟨_, _, _, _, _, _, e, _⟩ := h; rw [e]; rfl) | (intro h; obtain ⟨_, _, _, _, _, _, _, e, _⟩ := h; rw [e]; rfl) | (intro h; obtain ⟨_, _, _, _, _, _, _, _, e, _⟩ := h; rw [e]; rfl) | (intro h; obtain ⟨_, _, _, _, _, _, _, _, _, e, _⟩ := h; rw [e]; rfl) | (intro h; obtain ⟨_, _, _, _, _, _, _, _, _, _, e, _⟩ := h; rw [e]; rfl) | (intro h; obtain ⟨_, _, _, _, _, _, _, _, _, _, _, e, _⟩ := h; rw [e]; rfl) | (intro h; obtain ⟨_, _, _, _, _, _, _, _, _, _, _, _, e, _⟩ := h; rw [e]; rfl) | (intro h; obtain ⟨_, _, _, _, _, _, _, _, _, _, _, _, _, e, _⟩ := h; rw [e]; rfl))
local macro_rules | `(tactic| walk_at "len") => `(tactic| first | (intro h; obtain ⟨_, _, _, _, _, _, _, _, e, _⟩ := h; rw [e]; rfl) | (intro h; obtain ⟨_, _, _, _, _, _, _, _, _, e, _⟩ := h; rw [e]; rfl) | (intro h; obtain ⟨_, _, _, _, _, _, _, _, _, _, e, _⟩ := h; rw [e]; rfl) | (intro h; obtain ⟨_, _, _, _, _, _, _, _, _, _, _, e, _⟩ := h; rw [e]; rfl) | (intro h; obtain ⟨_, _, _, _, _, _, _, _, _, _, _, _, e, _⟩ := h; rw [e]; rfl) | (intro h; obtain ⟨_, _, _, _, _, _, _, _, _, _, _, _, _, e, _⟩ := h; rw [e]; rfl) | (intro h; obtain ⟨_, _, _, _, _, _, _, _, _, _, _, _, _, _, e, _⟩ := h; rw [e]; rfl) | (intro h; obtain ⟨_, _, _, _, _, _, _, _, _, _, _, _, _, _, _, e, _⟩ := h; rw [e]; rfl) | (intro h; obtain ⟨_, _, _, _, _, _, _, _, _, _, _, _, _, _, _, _, e, _⟩ := h; rw [e]; rfl) | (intro h; obtain ⟨_, _, _, _, _, _, _, _, _, _, _, _, _, _, _, _, _, e, _⟩ := h; rw [e]; rfl))
namespace Ex
section
variable {P : Program} {w : World} {K : PySem.W.Frag} {mg : Str → Option Value} {base : Heap} {ad : Ad}
theorem scal_oV (x : Option Nat) : scal (oV x) (oV x) = true := by cases x <;> rfl
def spLaw (K : PySem.W.Frag) (sz en sy ag ne di : Addr) : Sp := fun vs H Q _ => ∃ (a : Addr) (ns : List Int), vs = [.ref a] ∧ SqL K H a (ns.map V.int) ∧ ns.length ≤ 63 ∧ TabG H sz ∧ TabG H en ∧ TabG H sy ∧ TabG H ag ∧ TabG H ne ∧ TabG H di ∧ ∀ H', Q (.bl true) H'
theorem ok_law {sz en sy ag ne di : Addr} (c_law_pot : CalX P w K mg base 1 "_law_pot" (spPot K)) (c_law_next : CalX P w K mg base 1 "_law_next" spNext) (c_law_ring : CalX P w K mg base 4 "_law_ring" spRing) (mFin : MakX P w K mg base 6 "Finite" ad.Finite (spFI ad.Finite (Six sz en sy ag ne di))) (mCirc : MakX P w K mg base 1 "Circuits" ad.Circuits (spInit P w ad.Circuits)) (c_law_grown : CalX P w K mg base 5 "_law_grown" (spGrown P w ad.Circuits)) (c_law_found : CalX P w K mg base 10 "_law_found" (spFound P w ad)) (c_put_in : CalX P w K mg base 10 "put_in" (spPut P w ad)) {f : Addr} {fd : FuncData} (F : Fun K "law" "law" s_law f fd) (T : Txt K mg ad) : FnOk P w K mg base (L2.CX P w) 21 f fd ["script"] (spLaw K sz en sy ag ne di) := by
  refine F.okX sc_law (fun vs H Q E => ?_) (fun cdv A outer s H vs Q E hr h => ?_)
  · walk_at "len"
  ·
    obtain ⟨a, ns, rfl, hS, hl, t1, t2, t3, t4, t5, t6, k⟩ := h
    have six : Six sz en sy ag ne di H := ⟨t1, t2, t3, t4, t5, t6⟩
    refine ⟨_, (pss_cons (ps_set (i := 1) sc_law.nd rfl (by first | exact Or.inl rfl | exact Or.inr rfl) (pc_call c_law_pot hr (by first | decide | omega) (takes_of rfl rfl rfl rfl) (by rfl) (pa_cons (pv 0) pa_nil)))
      (pss_cons (ps_set (i := 2) sc_law.nd rfl (by first | exact Or.inl rfl | exact Or.inr rfl) (pc_call c_law_ring hr (by first | decide | omega) (takes_of rfl rfl rfl rfl) (by rfl) (pa_cons (pv 1) pa_nil)))
      (pss_cons (ps_set (i := 3) sc_law.nd rfl (by first | exact Or.inl rfl | exact Or.inr rfl) (pd_make hr (takes_of rfl rfl rfl rfl) (by rfl) (pa_cons (pe_ix ix_tup (pv 2) pe_int (fun _ _ => rfl)) (pa_cons (pe_ix ix_tup (pv 2) pe_int (fun _ _ => rfl)) (pa_cons (pe_ix ix_tup (pv 2) pe_int (fun _ _ => rfl)) (pa_cons (pe_ix ix_tup (pv 2) pe_int (fun _ _ => rfl)) pa_nil))))))
      (pss_cons (ps_set (i := 4) sc_law.nd rfl (by first | exact Or.inl rfl | exact Or.inr rfl) (pd_make0 hr (takes_of rfl rfl rfl rfl) (by rfl)))
      (pss_cons (ps_set (i := 5) sc_law.nd rfl (by first | exact Or.inl rfl | exact Or.inr rfl) (pc_call c_law_grown hr (by first | decide | omega) (takes_of rfl rfl rfl rfl) (by rfl) (pa_cons (pv 1) (pa_cons (pv 4) (pa_cons pe_int (pa_cons pe_bl pa_nil))))))
      (pss_cons (ps_set (i := 6) sc_law.nd rfl (by first | exact Or.inl rfl | exact Or.inr rfl) (pe_callTy (call_dictP rfl) (by rfl) T.z_dict (by decide +kernel) (pa_cons (pe_lc (own := [("k", 7)]) (tt := tYes) rfl sc_law.nd (pi_range1 (by rfl) T.z_range (pa_cons pe_int pa_nil)) (blkOk_by (by kernel_rfl)) (fun _ _ _ _ _ => (pg_name (i := 7) sc_law.nd rfl (by first | exact Or.inl rfl | exact Or.inr rfl))) (fun _ _ _ _ _ => pts_nil) (fun _ _ _ _ _ => (pe_tup (pa_cons (pv 7) (pa_cons (pc_call c_law_next hr (by first | decide | omega) takes0 (by rfl) (pa_cons (pv 1) (pa_cons (pe_callB (kcall_len (K := K)) (by rfl) T.z_len (by decide +kernel) (pa_cons (pe_ix (kix_tup (K := K)) (pv 2) pe_int (fun _ _ => rfl)) pa_nil)) pa_nil))) pa_nil))))) pa_nil)))
      (pss_cons (ps_for (passes_of rfl) rfl (pi_range1 (by rfl) T.z_range (pa_cons pe_int pa_nil)) (pg_name (i := 7) sc_law.nd rfl (by first | exact Or.inl rfl | exact Or.inr rfl)) (pss_cons (ps_set (i := 8) sc_law.nd rfl (by first | exact Or.inl rfl | exact Or.inr rfl) (pe_ix ix_list (pv 5) (pc_call c_law_next hr (by first | decide | omega) (takes_of rfl rfl rfl rfl) (by rfl) (pa_cons (pv 1) (pa_cons (pe_callB call_len (by rfl) T.z_len (by decide +kernel) (pa_cons (pv 5) pa_nil)) pa_nil))) (fun _ _ => rfl)))
      (pss_cons (ps_set (i := 9) sc_law.nd rfl (by first | exact Or.inl rfl | exact Or.inr rfl) (pc_call c_law_found hr (by first | decide | omega) (takes_of rfl rfl rfl rfl) (by rfl) (pa_cons (pv 4) (pa_cons (pv 8) (pa_cons (pv 3) (pa_cons (pv 6) pa_nil))))))
      (pss_cons (ps_set (i := 10) sc_law.nd rfl (by first | exact Or.inl rfl | exact Or.inr rfl) pe_dnewK)
      (pss_cons (ps_set (i := 11) sc_law.nd rfl (by first | exact Or.inl rfl | exact Or.inr rfl) (pe_callTy call_dictD (by rfl) T.z_dict (by decide +kernel) (pa_cons (pv 6) pa_nil)))
      (pss_cons (ps_for (passes_of rfl) rfl (pi_range1 (by rfl) T.z_range (pa_cons pe_int pa_nil)) (pg_name (i := 12) sc_law.nd rfl (by first | exact Or.inl rfl | exact Or.inr rfl)) (pss_one (ps_if (pt_cmpR op_eq (pc_call c_law_next hr (by first | decide | omega) (takes_of rfl rfl rfl rfl) (by rfl) (pa_cons (pv 1) (pa_cons pe_int pa_nil))) pe_int (nomark _)) (pss_cons (ps_dput (hu_of hr) (pv 10) (pv 12) (pe_ix ix_list (pv 5) (pc_call c_law_next hr (by first | decide | omega) (takes_of rfl rfl rfl rfl) (by rfl) (pa_cons (pv 1) (pa_cons (pe_callB call_len (by rfl) T.z_len (by decide +kernel) (pa_cons (pv 5) pa_nil)) pa_nil))) (fun _ _ => rfl)) rfl)
      (pss_one (ps_dput (hu_of hr) (pv 11) (pv 12) (pc_call c_law_found hr (by first | decide | omega) (takes_of rfl rfl rfl rfl) (by rfl) (pa_cons (pv 4) (pa_cons (pe_dget (hu_of hr) (pv 10) (pv 12) (fun _ _ => rfl)) (pa_cons (pv 3) (pa_cons (pv 6) pa_nil))))) rfl))) pss_nil)))
      (pss_cons (ps_if (PW.pt (pw_and (pt_cmpR op_notIn_seq pe_non (pe_lock (pe_lc (own := [("fact", 12)]) (tt := tYes) rfl sc_law.nd (pi_keys (pv 11)) (blkOk_by (by kernel_rfl)) (fun _ _ _ _ _ => (pg_name (i := 12) sc_law.nd rfl (by first | exact Or.inl rfl | exact Or.inr rfl))) (fun _ _ _ _ _ => pts_nil) (fun _ _ _ _ _ => (pe_dget (hu_of hr) (pv 11) (pv 12) (fun _ _ => rfl))))) (by rfl)) (pw_and1 (pt_cmpR op_notN (pv 9) pe_non (nomark _))))) (pss_cons (ps_set (i := 13) sc_law.nd rfl (by first | exact Or.inl rfl | exact Or.inr rfl) (pc_call c_put_in hr (by first | decide | omega) (takes_of rfl rfl rfl rfl) (by rfl) (pa_cons (pv 4) (pa_cons (pv 8) (pa_cons (pv 10) pa_nil)))))
      (pss_cons (ps_set (i := 14) sc_law.nd rfl (by first | exact Or.inl rfl | exact Or.inr rfl) (pc_call c_law_found hr (by first | decide | omega) (takes_of rfl rfl rfl rfl) (by rfl) (pa_cons (pv 4) (pa_cons (pv 8) (pa_cons (pv 3) (pa_cons (pv 11) pa_nil))))))
      (pss_one (ps_if (PW.pt (pw_and (pt_cmpR op_notN (pv 14) pe_non (nomark _)) (pw_and1 (pt_cmpR op_ne (pc_call c_law_found hr (by first | decide | omega) (takes_of rfl rfl rfl rfl) (by rfl) (pa_cons (pv 4) (pa_cons (pv 13) (pa_cons (pv 3) (pa_cons (pv 6) pa_nil))))) (pv 14) (nomark _))))) (pss_one (ps_ret pe_bl)) pss_nil)))) pss_nil)
      (pss_one (ps_if (PW.pt (pw_or (pt_cmpR op_ne (pc_call c_law_found hr (by first | decide | omega) (takes_of rfl rfl rfl rfl) (by rfl) (pa_cons (pv 4) (pa_cons (pv 8) (pa_cons (pv 3) (pa_cons (pv 6) pa_nil))))) (pv 9) (nomark _)) (pw_or1 (pt_cmpR op_ne (pc_call c_put_in hr (by first | decide | omega) (takes_of rfl rfl rfl rfl) (by rfl) (pa_cons (pv 4) (pa_cons (pv 8) (pa_cons pe_dnewK pa_nil)))) (pv 8) (nomark _))))) (pss_one (ps_ret pe_bl)) pss_nil)))))))))
      (pss_one (ps_ret pe_bl))))))))), ?_⟩
    refine go_seq ⟨_, rfl, a, ns, rfl, hS, hl, fun H1 pot s1 _ p1 => go_name rfl ?_⟩
    refine go_seq ⟨_, rfl, pot, rfl, p1, fun H2 t n rf rg o st fr2 p2 R => go_name rfl ?_⟩
    have six2 : Six sz en sy ag ne di H2 := by
      have tabs : ∀ P, TabG H1 P → TabG H2 P := fun P ht => by
        obtain ⟨_, _, _, _, _, e1, _⟩ := p1
        obtain ⟨ps, e, t⟩ := ht
        exact ⟨ps, fr2 _ _ (fun z => by rw [z, e1] at e; cases e) e, t⟩
      have T1 := six.fr (FrT.of s1)
      exact ⟨tabs _ T1.sz, tabs _ T1.en, tabs _ T1.sy, tabs _ T1.ag, tabs _ T1.ne, tabs _ T1.di⟩
    obtain ⟨tp, tm, tu, ht, hp, hm, hu, sr, hn⟩ := id R
    -- ring
    refine go_seq ⟨6, ad.Finite, _, by decide, mFin, _, rfl, t, _, _, _, rfl, rfl, SqT.of ht, (by rfl), _, rfl, t, _, _, _, rfl, rfl, SqT.of ht, (by rfl), _, rfl, t, _, _, _, rfl, rfl, SqT.of ht, (by rfl), _, rfl, t, _, _, _, rfl, rfl, SqT.of ht, (by rfl), fun y1 d1 hy1 hd1 hyd1 => ?_⟩
    have sA : Same H2 (upd (upd H2 d1 (.own y1)) y1 (.ins ad.Finite d1 [])) := same_new (same_new (Same.refl _) hd1) hy1
    refine ⟨y1, d1, tp, tm, tu, n, o, rf, rg, st, rfl, upd_same, hp.same (fun c xs e => sA _ _ e), hm.same (fun c xs e => sA _ _ e), hu.same (fun c xs e => sA _ _ e), sr, hn, six2.fr (FrT.of sA), fun H4 fs1 fp1 hy4 okf4 => ⟨rfl, go_name rfl ?_⟩⟩
    have keep4 : ∀ b ob, H2 b = some ob → (∀ ps, ob ≠ .tbl ps) → H4 b = some ob := fun b ob e nt => fp1.keep b ob (ne_of_none e hy1) (sA _ _ e) nt
    have R4 := R.same (H' := H4) fun c xs e => keep4 _ _ e (fun ps z => nomatch z)
    have p4 : PotAt H4 pot := by
      obtain ⟨b, xs, i, c, sd, e1, e2, e3⟩ := p2
      exact ⟨b, xs, i, c, sd, keep4 _ _ e1 (fun ps z => nomatch z), keep4 _ _ e2 (fun ps z => nomatch z), e3⟩
    obtain ⟨pb, P4⟩ := p4.b_
    -- circuits
    refine go_seq ⟨1, ad.Circuits, _, by decide, mCirc, fun c dc hc hdc ndc => ⟨c, dc, rfl, upd_same, fun H5 S D fr5 hS5 hD5 cc5 => ⟨rfl, go_name rfl ?_⟩⟩⟩
    have s5 : Same H4 H5 := fun b o e => fr5 _ _ (ne_of_none e hc) (by rw [upd_ne (ne_of_none e hc), upd_ne (ne_of_none e hdc)]; exact e)
    have none4 : ∀ q, (upd (upd H4 dc (.own c)) c (.ins ad.Circuits dc [])) q = none → H4 q = none := fun q e => by
      cases h : H4 q with
      | none => rfl
      | some u => rw [upd_ne (ne_of_none h hc), upd_ne (ne_of_none h hdc), h] at e; cases e
    obtain ⟨xp, hxp⟩ := P4.ls
    obtain ⟨xb, hxb⟩ := P4.lb
    have pS : pot ≠ S := ne_of_none hxp (none4 _ hS5)
    have bS : pb ≠ S := ne_of_none hxb (none4 _ hS5)
    -- nodes
    refine go_seq ⟨_, rfl, _, rfl, pot, pb, c, S, D, rfl, P4.same s5, cc5, pS, bS, fun H6 N tbl nn P6 cc6 nn6 fr6 gd fk lt tl nl nl0 npN nbN hN0 => go_name rfl ?_⟩
    have keep6 : ∀ b ob, H4 b = some ob → b ≠ pot → H6 b = some ob := fun b ob e nb => fr6 b ob nb (ne_of_none e (none4 _ hS5)) (ne_of_none e (none4 _ hD5)) (s5 _ _ e)
    have R6 := R4.same (H' := H6) fun c xs e => keep6 _ _ e (ne_of e hxp (fun z => nomatch z))
    have nyp : y1 ≠ pot := ne_of hy4 hxp (fun z => nomatch z)
    have hy6 := keep6 _ _ hy4 nyp
    have okf6 : okF n rf rg o st H6 fs1 := by
      obtain ⟨tp, tm, ts, e, h1, h2, h3, h4⟩ := okf4
      have up : ∀ c xs, H4 c = some (.tup xs) → H6 c = some (.tup xs) := fun c xs e => keep6 _ _ e (ne_of e hxp (fun z => nomatch z))
      exact ⟨tp, tm, ts, e, h1.same up, h2.same up, up _ _ h3, h4⟩
    obtain ⟨tp6, tm6, tu6, ht6, hp6, hm6, hu6, sr6, hn6⟩ := id R6
    obtain ⟨rows6, er6, el6⟩ := tt_len hp6
    have sl : StL n rf rg o st := hu6.2.2
    -- worths
    refine go_seq ⟨_, rfl, by decide, by decide, fun DD hDD => ?_⟩
    obtain ⟨xp6, hxp6⟩ := P6.ls
    obtain ⟨xb6, hxb6⟩ := P6.lb
    have nDp : DD ≠ pot := (ne_of_none hxp6 hDD).symm
    have nDb : DD ≠ pb := (ne_of_none hxb6 hDD).symm
    refine lc_range (lo := 0) (n := 4) (fun i H' => Fr1 pot H6 H' ∧ PotB H' pot pb ∧ ∃ (qs : List Addr) (ws : List Nat), H' DD = some (.lst (qs.map V.ref)) ∧ Paired (fun q kv => H' q = some (.tup [kV kv.1, kv.2])) qs (kvW ws) ∧ ws.length = i ∧ ∀ x ∈ ws, x < n) ⟨(Fr1.refl _ _).new hDD, P6.same (same_new (Same.refl _) hDD), [], [], upd_same, .nil, rfl, fun x hx => nomatch hx⟩ (fun i H7 hi ⟨f7, p7, qs, ws, e7, pr7, l7, m7⟩ => ?_) (fun H7 ⟨f7, p7, qs, ws, e7, pr7, l7, m7⟩ => ?_)
    · rw [Int.zero_add]
      obtain ⟨xp7, hxp7⟩ := p7.ls
      have tup7 : ∀ c xs, H6 c = some (.tup xs) → H7 c = some (.tup xs) := fun c xs e => f7 _ _ (ne_of e hxp6 (fun z => nomatch z)) e
      refine ⟨rfl, yes_then (iteT ⟨_, rfl, _, rfl, _, rfl, t, _, _, _, rfl, rfl, SqT.of (tup7 _ _ ht6), (by rfl), .ref tp6, _, rfl, .inr ⟨_, SqT.of (tup7 _ _ er6), rfl⟩, ?_⟩)⟩
      rw [el6]
      refine ⟨pot, _, rfl, p7.at_, by have := sr.pos; omega, Nat.lt_of_le_of_lt (by omega : _ ≤ 1000) (by decide), fun H8 r fr8 _ r0 r1 hb8 => ⟨(show 2 ≤ sizeLine by decide), fun q hq => ?_⟩⟩
      obtain ⟨x, rfl⟩ : ∃ x : Nat, r = (x : Int) := ⟨r.toNat, by omega⟩
      have e8 := fr8 _ _ nDp e7
      have p8 := hb8 _ p7
      have sq : Same H8 (upd H8 q (.tup [.int (i : Int), .int (x : Int)])) := same_new (Same.refl _) hq
      have hqDD : DD ≠ q := ne_of_none e8 hq
      have l7q : qs.length = i := by
        have := Paired.length pr7
        unfold kvW at this
        rw [List.length_map, List.length_range] at this
        omega
      refine ⟨_, sq _ _ e8, ?_, fun b ob nb e => ?_, ?_, qs ++ [q], ws ++ [x], by rw [upd_same, List.map_append]; rfl, ?_, by rw [List.length_append, l7]; rfl, fun y hy => ?_⟩
      · rw [List.length_map, l7q]; exact Nat.lt_of_lt_of_le hi (by decide)
      · rw [upd_ne (ne_of_none e hDD)]
        exact sq _ _ (fr8 _ _ nb (f7 _ _ nb e))
      · exact (p8.same sq).fr (q := DD) (fun b ob nb e => by rw [upd_ne nb]; exact e) (Ne.symm nDp) (Ne.symm nDb)
      · rw [kvW_snoc]
        have up : ∀ b xs, H8 b = some (.tup xs) ∨ (upd H8 q (.tup [.int (i : Int), .int (x : Int)])) b = some (.tup xs) → upd (upd H8 q (.tup [.int (i : Int), .int (x : Int)])) DD (.lst (qs.map V.ref ++ [.ref q])) b = some (.tup xs) := fun b xs h => by
          have h' : (upd H8 q (.tup [.int (i : Int), .int (x : Int)])) b = some (.tup xs) := h.elim (sq _ _) id
          rw [upd_ne (ne_of h' (sq _ _ e8) (fun z => nomatch z))]
          exact h'
        refine Paired.snoc (Paired.mono (fun (b : Addr) (kv : Key × V) (e : H7 b = some (.tup [kV kv.1, kv.2])) => up _ _ (.inl (fr8 _ _ (ne_of e hxp7 (fun z => nomatch z)) e))) pr7) ?_
        rw [l7]
        exact up _ _ (.inr upd_same)
      · rcases List.mem_append.mp hy with h | h
        · exact m7 y h
        · rw [List.mem_singleton.mp h]; omega
    refine ⟨DD, qs, kvW ws, rfl, SqL.of e7, Paired.mono (fun b kv e => SqT.of e) pr7, fun wd hwd => go_name rfl ?_⟩
    have p8 := p7.same (same_new (o := .dK (mergeK [] (kvW ws))) (Same.refl _) hwd)
    have f8 : Fr1 pot H6 (upd H7 wd (.dK (mergeK [] (kvW ws)))) := f7.trans (Fr1.of (same_new (Same.refl _) hwd))
    have hwd8 : (upd H7 wd (.dK (mergeK [] (kvW ws)))) wd = some (.dK (mergeK [] (kvW ws))) := upd_same
    generalize upd H7 wd (.dK (mergeK [] (kvW ws))) = H8 at f8 hwd8 p8
    have tup8 : ∀ c xs, H6 c = some (.tup xs) → H8 c = some (.tup xs) := fun c xs e => f8 _ _ (ne_of e hxp6 (fun z => nomatch z)) e
    have R8 := R6.same tup8
    have cc8 := cc6.fr f8 hxp6 pS
    have nn8 := f8 _ _ (Ne.symm npN) nn6
    have wor8 : Wor ad H8 y1 wd n rf rg o st (fun k => k < 4) (fun k => ws.getD k 0) := by
      refine ⟨⟨d1, fs1, f8 _ _ nyp hy6, ?_⟩, sr, sl, ⟨_, hwd8, fun k hk => merge4 l7 k hk⟩, fun k hk => ?_⟩
      · obtain ⟨tp, tm, ts, e, h1, h2, h3, h4⟩ := okf6
        exact ⟨tp, tm, ts, e, h1.same tup8, h2.same tup8, tup8 _ _ h3, h4⟩
      · have hk' : k < ws.length := by omega
        have : ws.getD k 0 ∈ ws := by
          rw [List.getD_eq_getElem?_getD, List.getElem?_eq_getElem hk']
          exact List.getElem_mem _
        exact m7 _ this
    have kv8 := merge4O l7
    rw [kv8] at hwd8
    have L8 : LS P w ad H8 pot pb c S D N y1 wd tbl nn n rf rg o st (kvO fun k => some (ws.getD k 0)) (fun k => ws.getD k 0) tbl := ⟨p8, cc8, ⟨gd, fk⟩, Ext.refl _, nn8, wor8, hwd8⟩
    have dis : Dis pot pb S N := ⟨pS, bS, npN, nbN, (let ⟨_, eS5, _⟩ := cc5.lS; ne_of_none eS5 hN0)⟩
    have eL : (nV nn).length = nn.length := nV_length nn
    refine go_sq ⟨_, rfl, by decide, by decide, ?_⟩
    refine for_range (lo := 0) (n := 3) (fun i σ H' => ∃ (v7 v8 v9 v10 v11 v12 v13 v14 : Option V) (T : List Nd), σ = [some (.ref a), some (.ref pot), some (.ref t), some (.ref y1), some (.ref c), some (.ref N), some (.ref wd), v7, v8, v9, v10, v11, v12, v13, v14] ∧ LS P w ad H' pot pb c S D N y1 wd tbl nn n rf rg o st (kvO fun k => some (ws.getD k 0)) (fun k => ws.getD k 0) T ∧ T.length ≤ 13 + 13 * i) ⟨none, none, none, none, none, none, none, none, tbl, rfl, L8, tl⟩ ?_ ?_
    · rintro i σ H9 hi ⟨v7, v8, v9, v10, v11, v12, v13, v14, T, rfl, L9, tl9⟩
      rw [Int.zero_add]
      refine go_name rfl ?_
      have extT := L9.ext.le
      refine go_seq ⟨_, rfl, _, rfl, _, rfl, .ref N, _, rfl, .inl ⟨_, SqL.of L9.nn_, rfl⟩, pot, _, rfl, L9.pot.at_, by (rw [nV_length]; omega), by (rw [nV_length]; exact Nat.lt_of_le_of_lt (by omega : _ ≤ 1000) (by decide)), fun H10 r10 fr10 _ r100 r101 hb10 => ?_⟩
      obtain ⟨q, rfl⟩ := toN r100
      rw [nV_length] at r101
      have L10 := L9.draw dis fr10 hb10
      obtain ⟨m, hmq, hm⟩ : ∃ m, nn[q]? = some m ∧ m < tbl.length := ⟨nn[q], List.getElem?_eq_getElem (by omega), lt _ (List.getElem_mem _)⟩
      have hmT : m < T.length := by omega
      refine ⟨N, _, _, .int (m : Nat), rfl, rfl, SqL.of L10.nn_, at_of (j := q) rfl (by rw [List.getElem?_map, hmq]; rfl), go_name rfl ?_⟩
      refine go_seq ⟨_, rfl, _, rfl, _, rfl, _, rfl, c, S, D, y1, wd, T, m, n, rf, rg, o, st, fun k => k < 4, (fun k => ws.getD k 0), rfl, L10.nod (by omega) hmT, L10.wor, fun H11 s11 => go_name rfl ?_⟩
      have L11 := L10.same s11
      refine go_seq (fun di hdi => go_name rfl ?_)
      have L12 := L11.same (same_new (o := .dK []) (Same.refl _) hdi)
      have eI12 : (upd H11 di (.dK [])) di = some (.dK []) := upd_same
      have nwi : wd ≠ di := ne_of_none L11.wd_ hdi
      generalize upd H11 di (.dK []) = H12 at L12 eI12
      refine go_seq ⟨_, rfl, wd, _, rfl, .inl L12.wd_, fun dn hdn => go_name rfl ?_⟩
      have s13 := same_new (o := .dK (kvO fun k => some (ws.getD k 0))) (Same.refl H12) hdn
      have L13 := L12.same s13
      have eI13 := s13 _ _ eI12
      have eN13 : (upd H12 dn (.dK (kvO fun k => some (ws.getD k 0)))) dn = some (.dK (kvO fun k => some (ws.getD k 0))) := upd_same
      have nwn : wd ≠ dn := ne_of_none L12.wd_ hdn
      have nin : di ≠ dn := ne_of_none eI12 hdn
      generalize upd H12 dn (.dK (kvO fun k => some (ws.getD k 0))) = H13 at L13 eI13 eN13
      refine go_sq ⟨_, rfl, by decide, by decide, ?_⟩
      refine for_range (lo := 0) (n := 4) (fun j σ H' => ∃ (v12 : Option V) (ins u : Nat → Option Nat) (kvI : List (Key × V)), σ = [some (.ref a), some (.ref pot), some (.ref t), some (.ref y1), some (.ref c), some (.ref N), some (.ref wd), some (.int (i : Int)), some (.int (m : Int)), some (oV (val (RA rf rg o st (fun k => ws.getD k 0)) T m)), some (.ref di), some (.ref dn), v12, v13, v14] ∧ LS P w ad H' pot pb c S D N y1 wd tbl nn n rf rg o st (kvO fun k => some (ws.getD k 0)) (fun k => ws.getD k 0) T ∧ H' di = some (.dK kvI) ∧ (∀ k : Nat, valV kvI (.inl (k : Int)) = (ins k).map fun (q : Nat) => V.int (q : Int)) ∧ kvI.length ≤ j ∧ (∀ k q, ins k = some q → q < tbl.length) ∧ (∀ k, j ≤ k → ins k = none) ∧ H' dn = some (.dK (kvO u)) ∧ ∀ k, u k = (match ins k with | none => some (ws.getD k 0) | some q => val (RA rf rg o st (fun k => ws.getD k 0)) T q)) ⟨v12, fun _ => none, fun k => some (ws.getD k 0), [], rfl, L13, eI13, fun _ => rfl, Nat.le_refl _, (fun k q h => nomatch h), fun _ _ => rfl, eN13, fun _ => rfl⟩ ?_ ?_
      · rintro j σ H14 hj ⟨v12, ins, u, kvI, rfl, L14, eI, hI, lI, nI, zI, eN, hu⟩
        rw [Int.zero_add]
        refine go_name rfl ?_
        obtain ⟨xp14, hp14⟩ := L14.pot.ls
        refine ⟨_, rfl, pot, 2, rfl, L14.pot.at_, by decide, by decide, fun H15 r15 fr15 _ r150 r151 hb15 => ⟨rfl, _, rfl, ?_⟩⟩
        have L15 := L14.draw dis fr15 hb15
        have eI15 := fr15 _ _ (ne_of eI hp14 (fun z => nomatch z)) eI
        have eN15 := fr15 _ _ (ne_of eN hp14 (fun z => nomatch z)) eN
        refine ite2 (fun _ => ?_) (fun _ => go_nx ⟨_, ins, u, kvI, rfl, L15, eI15, hI, by omega, nI, fun k hk => zI k (by omega), eN15, hu⟩)
        obtain ⟨xp15, hp15⟩ := L15.pot.ls
        refine go_sq ⟨_, rfl, _, rfl, _, rfl, .ref N, _, rfl, .inl ⟨_, SqL.of L15.nn_, rfl⟩, pot, _, rfl, L15.pot.at_, by (rw [nV_length]; omega), by (rw [nV_length]; exact Nat.lt_of_le_of_lt (by omega : _ ≤ 1000) (by decide)), fun H16 r16 fr16 _ r160 r161 hb16 => ?_⟩
        obtain ⟨q6, rfl⟩ := toN r160
        rw [nV_length] at r161
        have L16 := L15.draw dis fr16 hb16
        have eI16 := fr16 _ _ (ne_of eI15 hp15 (fun z => nomatch z)) eI15
        have eN16 := fr16 _ _ (ne_of eN15 hp15 (fun z => nomatch z)) eN15
        obtain ⟨m6, hmq6, hm6⟩ : ∃ m6, nn[q6]? = some m6 ∧ m6 < tbl.length := ⟨nn[q6], List.getElem?_eq_getElem (by omega), lt _ (List.getElem_mem _)⟩
        refine ⟨N, _, _, .int (m6 : Nat), rfl, rfl, SqL.of L16.nn_, at_of (j := q6) rfl (by rw [List.getElem?_map, hmq6]; rfl), _, rfl, _, rfl, di, _, rfl, DPut.k (k := .inl (j : Int)) eI16 (Nat.lt_of_le_of_lt (by omega : _ ≤ 1000) (by decide)), ?_⟩
        have L17 := L16.dput (fr_upd (o := .dK (putK kvI (.inl (j : Int)) (.int (m6 : Nat))))) eI16 nwi
        have eN17 := fr_upd (o := .dK (putK kvI (.inl (j : Int)) (.int (m6 : Nat)))) (H := H16) _ _ (Ne.symm nin) eN16
        have eI17 : (upd H16 di (.dK (putK kvI (.inl (j : Int)) (.int (m6 : Nat))))) di = some (.dK (putK kvI (.inl (j : Int)) (.int (m6 : Nat)))) := upd_same
        generalize upd H16 di (.dK (putK kvI (.inl (j : Int)) (.int (m6 : Nat)))) = H17 at L17 eN17 eI17
        have hI17 : ∀ k : Nat, valV (putK kvI (.inl (j : Int)) (.int (m6 : Nat))) (.inl (k : Int)) = (setO ins j (some m6) k).map fun (q : Nat) => V.int (q : Int) := fun k => by
          rw [valV_put]
          by_cases hk : k = j
          · subst hk
            rw [if_pos rfl, show setO ins k (some m6) k = some m6 from if_pos rfl]
            rfl
          · rw [if_neg (fun z => hk (by injection z with z; omega)), show setO ins j (some m6) k = ins k from if_neg hk]
            exact hI k
        have g17 : DGet H17 di (.int (j : Int)) (some (.int (m6 : Nat))) := by
          have := DGet.k (k := .inl (j : Int)) eI17
          rw [hI17 j, show setO ins j (some m6) j = some m6 from if_pos rfl] at this
          exact this
        refine ⟨_, rfl, _, rfl, _, rfl, di, _, rfl, g17, _, rfl, _, rfl, c, S, D, y1, wd, T, m6, n, rf, rg, o, st, fun k => k < 4, (fun k => ws.getD k 0), rfl, L17.nod (by omega) (by omega), L17.wor, fun H18 s18 => ?_⟩
        have L18 := L17.same s18
        refine ⟨_, rfl, _, rfl, dn, _, rfl, DPut.k (k := .inl (j : Int)) (s18 _ _ eN17) (by show 4 < sizeLine; decide), ?_⟩
        rw [kvO_put _ _ j hj]
        refine go_nx ⟨_, setO ins j (some m6), setO u j (val (RA rf rg o st (fun k => ws.getD k 0)) T m6), _, rfl, L18.dput fr_upd (s18 _ _ eN17) nwn, fr_upd _ _ nin (s18 _ _ eI17), hI17, ?_, fun k q h => ?_, fun k hk => ?_, upd_same, fun k => ?_⟩
        · rw [putK_new _ (by rw [hI j, zI j (Nat.le_refl _)]; rfl), List.length_append, List.length_singleton]
          omega
        · by_cases hk : k = j
          · rw [show setO ins j (some m6) k = some m6 from if_pos hk] at h
            cases h
            exact hm6
          · rw [show setO ins j (some m6) k = ins k from if_neg hk] at h
            exact nI k q h
        · rw [show setO ins j (some m6) k = ins k from if_neg (by omega : ¬ k = j)]
          exact zI k (by omega)
        · by_cases hk : k = j
          · rw [show setO ins j (some m6) k = some m6 from if_pos hk, show setO u j (val (RA rf rg o st (fun k => ws.getD k 0)) T m6) k = _ from if_pos hk]
          · rw [show setO ins j (some m6) k = ins k from if_neg hk, show setO u j (val (RA rf rg o st (fun k => ws.getD k 0)) T m6) k = u k from if_neg hk]
            exact hu k
      · rintro σ H14 ⟨v12, ins, u, kvI, rfl, L14, eI, hI, lI, nI, zI, eN, hu⟩
        refine go_nx ?_
        refine go_sq ⟨dn, _, eN, trivial, fun od => ?_⟩
        refine ⟨_, rfl, dn, od, rfl, .inl ⟨kvO u, upd_same, fun D5 hD5 => ?_⟩⟩
        refine lc_keys (fun i H' => Same (upd H14 dn (.frz od (.dK (kvO u)))) H' ∧ H' D5 = some (.lst (rowO u i))) ⟨same_new (Same.refl _) hD5, upd_same⟩ (fun i H' _ ⟨s', _⟩ => s' _ _ upd_same) (fun i k v H' hk ⟨s', e'⟩ => ?_) (fun H15 ⟨s15, e15⟩ => ?_)
        · obtain ⟨hi4, rfl⟩ := kvO_key u i k v hk
          refine ⟨rfl, yes_then (iteT ⟨_, rfl, _, rfl, dn, _, rfl, .inl ⟨kvO u, .inl (i : Int), .inr ⟨od, s' _ _ upd_same⟩, rfl, (kvO_at u i hi4).symm⟩, _, e', ?_, same_but hD5 s' but_app, ?_⟩)⟩
          · rw [List.length_map, List.length_range]
            exact Nat.lt_of_lt_of_le hi4 (by decide)
          · rw [upd_same]
            unfold rowO
            rw [List.range_succ, List.map_append]
            rfl
        have nD5 : D5 ≠ dn := fun z => by rw [z, upd_same] at hD5; cases hD5
        have s16 : Same H14 (upd H15 dn (.dK (kvO u))) := fun b ob e => by
          by_cases hb : b = dn
          · subst hb
            rw [eN] at e
            cases e
            exact upd_same
          · rw [upd_ne hb]
            exact s15 _ _ (by rw [upd_ne hb]; exact e)
        have e16 : (upd H15 dn (.dK (kvO u))) D5 = some (.lst (rowO u 4)) := by rw [upd_ne nD5]; exact e15
        refine ⟨s15 _ _ upd_same, D5, rowO u 4, rfl, .inl (SqL.of e16), rfl, rowO_flat u 4, _, rfl, ?_⟩
        have L16 := L14.same s16
        have eI16 := s16 _ _ eI
        have eN16 := s16 _ _ eN
        generalize upd H15 dn (.dK (kvO u)) = H16 at L16 eI16 eN16 ⊢
        refine ite2 (fun hB => ?_) (fun _ => ?_)
        · have hall := rowO_all hB
          refine ⟨_, rfl, rfl, _, rfl, ?_⟩
          rcases hb : val (RA rf rg o st (fun k => ws.getD k 0)) T m with _ | y0
          · refine iteF (go_next ?_)
            rw [← hb]
            have ve : val (RA rf rg o st (fun k => ws.getD k 0)) T m = val (RA rf rg o st (fun k => ws.getD k 0)) T m := val_ext L9.gn.good.wf L16.gn.good.wf (Ext.refl T) m hmT
            refine ⟨_, rfl, _, rfl, _, rfl, _, rfl, c, S, D, y1, wd, T, m, n, rf, rg, o, st, fun k => k < 4, (fun k => ws.getD k 0), rfl, L16.nod (by omega) (by have := ((Ext.refl T)).le; omega), L16.wor, fun Ha sa => ?_⟩
            rw [ve]
            refine ⟨_, rfl, scal_oV _, _, rfl, ?_⟩
            rw [decide_eq_true rfl]
            refine iteF ?_
            have La := L16.same sa
            refine ⟨_, rfl, _, rfl, fun d2 hd2 => ?_⟩
            have Lb := La.same (same_new (o := .dK []) (Same.refl _) hd2)
            refine ⟨c, S, D, d2, T, fun _ => none, m, rfl, Lb.cc, ⟨[], upd_same, fun k => rfl⟩, Lb.gn, by omega, by have := ((Ext.refl T)).le; omega, (fun k q h => nomatch h), fun Hb r2 T2 out2 => ?_⟩
            obtain ⟨eT, er⟩ := out2.id_ fun _ => rfl
            subst eT
            subst er
            refine ⟨_, rfl, rfl, _, rfl, ?_⟩
            rw [decide_eq_true rfl]
            exact iteF (go_nx ⟨_, _, _, _, _, _, _, _, _, rfl, Lb.made dis out2.fr out2.cc out2.gn out2.ext, by omega⟩)
          · refine iteT ?_
            refine go_seq ⟨_, rfl, _, rfl, _, rfl, c, S, D, di, T, ins, m, rfl, L16.cc, ⟨kvI, eI16, hI⟩, L16.gn, by omega, hmT, (fun k q h => Nat.lt_of_lt_of_le (nI k q h) extT), fun H17 r T1 out => go_name rfl ?_⟩
            have ext1 := out.ext
            have len1 : T1.length ≤ T.length + 13 := by have := out.len; omega
            have L17 := L16.made dis out.fr out.cc out.gn out.ext
            have eN17 := frC_no L16.cc out.fr eN16 (fun _ z => nomatch z) (fun _ z => nomatch z)
            have hwn : ∀ k, k < 4 → (u k).getD 0 < n := fun k hk => by
              have h1 := hall k hk
              have h2 := hu k
              rcases e : ins k with _ | q9
              · rw [e] at h2
                have h3 : u k = some (ws.getD k 0) := h2
                rw [h3]
                exact L9.wor.hw k hk
              · rw [e] at h2
                have h3 : u k = val (RA rf rg o st (fun k => ws.getD k 0)) T q9 := h2
                rw [h1] at h3
                exact val_el (A := RA rf rg o st (fun k => ws.getD k 0)) (el := fun z => z < n) (fa := fun k => k < 4) L9.wor.hw (fun xs h => foldN_lt sr.pc sr.pos h) (fun xs h => foldN_lt sr.tc sr.oo h) (fun z s' _ h => join_lt sl h) L9.gn.good.wf (val_val L9.gn.good.wf) q9 (Nat.lt_of_lt_of_le (nI k q9 e) extT) (fun m' k _ he => L9.gn.fk.k4 k (List.mem_of_getElem? he)) _ h3.symm
            have worN : Wor ad H17 y1 dn n rf rg o st (fun k => k < 4) (fun k => (u k).getD 0) := ⟨L17.wor.ring, sr, sl, ⟨kvO u, eN17, fun k hk => by rw [kvO_at u k hk, hall k hk]; rfl⟩, hwn⟩
            have semT := out.sem n rf rg o st (fun k => ws.getD k 0) (fun k => (u k).getD 0) sr sl L9.wor.hw hwn (fun k q hk e => by
              have h2 := hu k
              rw [e] at h2
              have h3 : u k = val (RA rf rg o st (fun k => ws.getD k 0)) T q := h2
              rw [← h3]
              exact hall k hk) (fun k hk e => by
              have h2 := hu k
              rw [e] at h2
              have h3 : u k = some (ws.getD k 0) := h2
              rw [h3]
              rfl)
            have veN : val (RA rf rg o st fun k => (u k).getD 0) T1 m = val (RA rf rg o st fun k => (u k).getD 0) T m := val_ext L9.gn.good.wf out.gn.good.wf out.ext m hmT
            refine go_seq ⟨_, rfl, _, rfl, _, rfl, _, rfl, c, S, D, y1, dn, T1, m, n, rf, rg, o, st, fun k => k < 4, (fun k => (u k).getD 0), rfl, L17.nod (by omega) (by have := ext1.le; omega), worN, fun H18 s18 => go_name rfl ?_⟩
            have L18 := L17.same s18
            rw [veN]
            refine ⟨_, rfl, rfl, _, rfl, ?_⟩
            rcases hdue : val (RA rf rg o st fun k => (u k).getD 0) T m with _ | z0
            · refine iteF (iteF (go_next ?_))
              rw [← hb]
              have ve : val (RA rf rg o st (fun k => ws.getD k 0)) T1 m = val (RA rf rg o st (fun k => ws.getD k 0)) T m := val_ext L9.gn.good.wf L18.gn.good.wf ext1 m hmT
              refine ⟨_, rfl, _, rfl, _, rfl, _, rfl, c, S, D, y1, wd, T1, m, n, rf, rg, o, st, fun k => k < 4, (fun k => ws.getD k 0), rfl, L18.nod (by omega) (by have := (ext1).le; omega), L18.wor, fun Ha sa => ?_⟩
              rw [ve]
              refine ⟨_, rfl, scal_oV _, _, rfl, ?_⟩
              rw [decide_eq_true rfl]
              refine iteF ?_
              have La := L18.same sa
              refine ⟨_, rfl, _, rfl, fun d2 hd2 => ?_⟩
              have Lb := La.same (same_new (o := .dK []) (Same.refl _) hd2)
              refine ⟨c, S, D, d2, T1, fun _ => none, m, rfl, Lb.cc, ⟨[], upd_same, fun k => rfl⟩, Lb.gn, by omega, by have := (ext1).le; omega, (fun k q h => nomatch h), fun Hb r2 T2 out2 => ?_⟩
              obtain ⟨eT, er⟩ := out2.id_ fun _ => rfl
              subst eT
              subst er
              refine ⟨_, rfl, rfl, _, rfl, ?_⟩
              rw [decide_eq_true rfl]
              exact iteF (go_nx ⟨_, _, _, _, _, _, _, _, _, rfl, Lb.made dis out2.fr out2.cc out2.gn out2.ext, by omega⟩)
            · refine iteT ?_
              refine ⟨_, rfl, _, rfl, _, rfl, _, rfl, c, S, D, y1, wd, T1, r, n, rf, rg, o, st, fun k => k < 4, (fun k => ws.getD k 0), rfl, L18.nod (by omega) out.lt, L18.wor, fun H19 s19 => ?_⟩
              rw [semT z0 hdue]
              refine ⟨_, rfl, rfl, _, rfl, ?_⟩
              rw [decide_eq_true rfl]
              refine iteF (go_next ?_)
              have L19 := L18.same s19
              rw [← hb]
              have ve : val (RA rf rg o st (fun k => ws.getD k 0)) T1 m = val (RA rf rg o st (fun k => ws.getD k 0)) T m := val_ext L9.gn.good.wf L19.gn.good.wf ext1 m hmT
              refine ⟨_, rfl, _, rfl, _, rfl, _, rfl, c, S, D, y1, wd, T1, m, n, rf, rg, o, st, fun k => k < 4, (fun k => ws.getD k 0), rfl, L19.nod (by omega) (by have := (ext1).le; omega), L19.wor, fun Ha sa => ?_⟩
              rw [ve]
              refine ⟨_, rfl, scal_oV _, _, rfl, ?_⟩
              rw [decide_eq_true rfl]
              refine iteF ?_
              have La := L19.same sa
              refine ⟨_, rfl, _, rfl, fun d2 hd2 => ?_⟩
              have Lb := La.same (same_new (o := .dK []) (Same.refl _) hd2)
              refine ⟨c, S, D, d2, T1, fun _ => none, m, rfl, Lb.cc, ⟨[], upd_same, fun k => rfl⟩, Lb.gn, by omega, by have := (ext1).le; omega, (fun k q h => nomatch h), fun Hb r2 T2 out2 => ?_⟩
              obtain ⟨eT, er⟩ := out2.id_ fun _ => rfl
              subst eT
              subst er
              refine ⟨_, rfl, rfl, _, rfl, ?_⟩
              rw [decide_eq_true rfl]
              exact iteF (go_nx ⟨_, _, _, _, _, _, _, _, _, rfl, Lb.made dis out2.fr out2.cc out2.gn out2.ext, by omega⟩)
        · refine iteF (go_next ?_)
          have ve : val (RA rf rg o st (fun k => ws.getD k 0)) T m = val (RA rf rg o st (fun k => ws.getD k 0)) T m := val_ext L9.gn.good.wf L16.gn.good.wf (Ext.refl T) m hmT
          refine ⟨_, rfl, _, rfl, _, rfl, _, rfl, c, S, D, y1, wd, T, m, n, rf, rg, o, st, fun k => k < 4, (fun k => ws.getD k 0), rfl, L16.nod (by omega) (by have := ((Ext.refl T)).le; omega), L16.wor, fun Ha sa => ?_⟩
          rw [ve]
          refine ⟨_, rfl, scal_oV _, _, rfl, ?_⟩
          rw [decide_eq_true rfl]
          refine iteF ?_
          have La := L16.same sa
          refine ⟨_, rfl, _, rfl, fun d2 hd2 => ?_⟩
          have Lb := La.same (same_new (o := .dK []) (Same.refl _) hd2)
          refine ⟨c, S, D, d2, T, fun _ => none, m, rfl, Lb.cc, ⟨[], upd_same, fun k => rfl⟩, Lb.gn, by omega, by have := ((Ext.refl T)).le; omega, (fun k q h => nomatch h), fun Hb r2 T2 out2 => ?_⟩
          obtain ⟨eT, er⟩ := out2.id_ fun _ => rfl
          subst eT
          subst er
          refine ⟨_, rfl, rfl, _, rfl, ?_⟩
          rw [decide_eq_true rfl]
          exact iteF (go_nx ⟨_, _, _, _, _, _, _, _, _, rfl, Lb.made dis out2.fr out2.cc out2.gn out2.ext, by omega⟩)
    · rintro σ H9 ⟨v7, v8, v9, v10, v11, v12, v13, v14, T, rfl, L9, tl9⟩
      exact k _
end
end Ex
end K14

set_option Elab.async false
set_option linter.all false
set_option maxRecDepth 100000
set_option maxHeartbeats 8000000
namespace K14
open PySem PySem.Spec PyProof.Rows L2 Ew Tb GxR K14.Ex

theorem all_mk {l : PySem.W.OpenLaw} {w : World} {K : PySem.W.Frag} {h : Heap} {mg : Str → Option Value} {fa : Addr} (PP_sizes_fit : Addr) (PP_entries_fit : Addr) (PP_is_symmetric : Addr) (PP_is_associative : Addr) (PP_is_neutral : Addr) (PP_is_distributive : Addr) (X : K.In h) (G : h.Ns mainGlobals mg) (hfa : mg "law" = some (.ref fa)) (TA_sizes_fit : h.get? PP_sizes_fit = some { cls := .none, data := .fields #[] }) (TA_entries_fit : h.get? PP_entries_fit = some { cls := .none, data := .fields #[] }) (TA_is_symmetric : h.get? PP_is_symmetric = some { cls := .none, data := .fields #[] }) (TA_is_associative : h.get? PP_is_associative = some { cls := .none, data := .fields #[] }) (TA_is_neutral : h.get? PP_is_neutral = some { cls := .none, data := .fields #[] }) (TA_is_distributive : h.get? PP_is_distributive = some { cls := .none, data := .fields #[] })
    {C_Finite : Addr}
    {C_Exchange : Addr}
    {C_Reckoner : Addr}
    {C_Circuits : Addr}
    {C_AxiomError : Addr}
    {C_TooLarge : Addr}
    {C_NoStar : Addr}
    {C_WorthError : Addr}
    {f_Circuits_init : Addr} {od_Circuits_init an_Circuits_init : Option Addr} {sl_Circuits_init : Array (Option Value)} {oc_Circuits_init kV_Circuits_init dc_Circuits_init pm_Circuits_init cd_Circuits_init ct_Circuits_init : Value}
    {f_Circuits_fact : Addr} {od_Circuits_fact an_Circuits_fact : Option Addr} {sl_Circuits_fact : Array (Option Value)} {oc_Circuits_fact kV_Circuits_fact dc_Circuits_fact pm_Circuits_fact cd_Circuits_fact ct_Circuits_fact : Value}
    {f_Circuits_plus : Addr} {od_Circuits_plus an_Circuits_plus : Option Addr} {sl_Circuits_plus : Array (Option Value)} {oc_Circuits_plus kV_Circuits_plus dc_Circuits_plus pm_Circuits_plus cd_Circuits_plus ct_Circuits_plus : Value}
    {f_Circuits_times : Addr} {od_Circuits_times an_Circuits_times : Option Addr} {sl_Circuits_times : Array (Option Value)} {oc_Circuits_times kV_Circuits_times dc_Circuits_times pm_Circuits_times cd_Circuits_times ct_Circuits_times : Value}
    {f_Circuits_star : Addr} {od_Circuits_star an_Circuits_star : Option Addr} {sl_Circuits_star : Array (Option Value)} {oc_Circuits_star kV_Circuits_star dc_Circuits_star pm_Circuits_star cd_Circuits_star ct_Circuits_star : Value}
    {f_Circuits_shown : Addr} {od_Circuits_shown an_Circuits_shown : Option Addr} {sl_Circuits_shown : Array (Option Value)} {oc_Circuits_shown kV_Circuits_shown dc_Circuits_shown pm_Circuits_shown cd_Circuits_shown ct_Circuits_shown : Value}
    {f_Circuits_count : Addr} {od_Circuits_count an_Circuits_count : Option Addr} {sl_Circuits_count : Array (Option Value)} {oc_Circuits_count kV_Circuits_count dc_Circuits_count pm_Circuits_count cd_Circuits_count ct_Circuits_count : Value}
    {f_Circuits_several : Addr} {od_Circuits_several an_Circuits_several : Option Addr} {sl_Circuits_several : Array (Option Value)} {oc_Circuits_several kV_Circuits_several dc_Circuits_several pm_Circuits_several cd_Circuits_several ct_Circuits_several : Value}
    {f_Circuits_node : Addr} {od_Circuits_node an_Circuits_node : Option Addr} {sl_Circuits_node : Array (Option Value)} {oc_Circuits_node kV_Circuits_node dc_Circuits_node pm_Circuits_node cd_Circuits_node ct_Circuits_node : Value}
    {f_Reckoner_init : Addr} {od_Reckoner_init an_Reckoner_init : Option Addr} {sl_Reckoner_init : Array (Option Value)} {oc_Reckoner_init kV_Reckoner_init dc_Reckoner_init pm_Reckoner_init cd_Reckoner_init ct_Reckoner_init : Value}
    {f_Reckoner_fact : Addr} {od_Reckoner_fact an_Reckoner_fact : Option Addr} {sl_Reckoner_fact : Array (Option Value)} {oc_Reckoner_fact kV_Reckoner_fact dc_Reckoner_fact pm_Reckoner_fact cd_Reckoner_fact ct_Reckoner_fact : Value}
    {f_Reckoner_plus : Addr} {od_Reckoner_plus an_Reckoner_plus : Option Addr} {sl_Reckoner_plus : Array (Option Value)} {oc_Reckoner_plus kV_Reckoner_plus dc_Reckoner_plus pm_Reckoner_plus cd_Reckoner_plus ct_Reckoner_plus : Value}
    {f_Reckoner_times : Addr} {od_Reckoner_times an_Reckoner_times : Option Addr} {sl_Reckoner_times : Array (Option Value)} {oc_Reckoner_times kV_Reckoner_times dc_Reckoner_times pm_Reckoner_times cd_Reckoner_times ct_Reckoner_times : Value}
    {f_Reckoner_star : Addr} {od_Reckoner_star an_Reckoner_star : Option Addr} {sl_Reckoner_star : Array (Option Value)} {oc_Reckoner_star kV_Reckoner_star dc_Reckoner_star pm_Reckoner_star cd_Reckoner_star ct_Reckoner_star : Value}
    {f_Exchange_init : Addr} {od_Exchange_init an_Exchange_init : Option Addr} {sl_Exchange_init : Array (Option Value)} {oc_Exchange_init kV_Exchange_init dc_Exchange_init pm_Exchange_init cd_Exchange_init ct_Exchange_init : Value}
    {f_Exchange_fact : Addr} {od_Exchange_fact an_Exchange_fact : Option Addr} {sl_Exchange_fact : Array (Option Value)} {oc_Exchange_fact kV_Exchange_fact dc_Exchange_fact pm_Exchange_fact cd_Exchange_fact ct_Exchange_fact : Value}
    {f_Exchange_plus : Addr} {od_Exchange_plus an_Exchange_plus : Option Addr} {sl_Exchange_plus : Array (Option Value)} {oc_Exchange_plus kV_Exchange_plus dc_Exchange_plus pm_Exchange_plus cd_Exchange_plus ct_Exchange_plus : Value}
    {f_Exchange_times : Addr} {od_Exchange_times an_Exchange_times : Option Addr} {sl_Exchange_times : Array (Option Value)} {oc_Exchange_times kV_Exchange_times dc_Exchange_times pm_Exchange_times cd_Exchange_times ct_Exchange_times : Value}
    {f_Exchange_star : Addr} {od_Exchange_star an_Exchange_star : Option Addr} {sl_Exchange_star : Array (Option Value)} {oc_Exchange_star kV_Exchange_star dc_Exchange_star pm_Exchange_star cd_Exchange_star ct_Exchange_star : Value}
    {f_nodes_within : Addr} {od_nodes_within an_nodes_within : Option Addr} {sl_nodes_within : Array (Option Value)} {oc_nodes_within kV_nodes_within dc_nodes_within pm_nodes_within cd_nodes_within ct_nodes_within : Value}
    {f_parts : Addr} {od_parts an_parts : Option Addr} {sl_parts : Array (Option Value)} {oc_parts kV_parts dc_parts pm_parts cd_parts ct_parts : Value}
    {f_all_made : Addr} {od_all_made an_all_made : Option Addr} {sl_all_made : Array (Option Value)} {oc_all_made kV_all_made dc_all_made pm_all_made cd_all_made ct_all_made : Value}
    {f_made : Addr} {od_made an_made : Option Addr} {sl_made : Array (Option Value)} {oc_made kV_made dc_made pm_made cd_made ct_made : Value}
    {f_worth : Addr} {od_worth an_worth : Option Addr} {sl_worth : Array (Option Value)} {oc_worth kV_worth dc_worth pm_worth cd_worth ct_worth : Value}
    {f_put_in : Addr} {od_put_in an_put_in : Option Addr} {sl_put_in : Array (Option Value)} {oc_put_in kV_put_in dc_put_in pm_put_in cd_put_in ct_put_in : Value}
    {f_carried : Addr} {od_carried an_carried : Option Addr} {sl_carried : Array (Option Value)} {oc_carried kV_carried dc_carried pm_carried cd_carried ct_carried : Value}
    {f_is_integer : Addr} {od_is_integer an_is_integer : Option Addr} {sl_is_integer : Array (Option Value)} {oc_is_integer kV_is_integer dc_is_integer pm_is_integer cd_is_integer ct_is_integer : Value}
    {f_is_between : Addr} {od_is_between an_is_between : Option Addr} {sl_is_between : Array (Option Value)} {oc_is_between kV_is_between dc_is_between pm_is_between cd_is_between ct_is_between : Value}
    {f_Finite_init : Addr} {od_Finite_init an_Finite_init : Option Addr} {sl_Finite_init : Array (Option Value)} {oc_Finite_init kV_Finite_init dc_Finite_init pm_Finite_init cd_Finite_init ct_Finite_init : Value}
    {dT_Finite_init : Addr} {dc_d_Finite_init : Value} {dd_d_Finite_init : Option Addr} {dn_d_Finite_init : Nat} {ds_d_Finite_init : Array (Option Value)}
    {f_Finite_zero : Addr} {od_Finite_zero an_Finite_zero : Option Addr} {sl_Finite_zero : Array (Option Value)} {oc_Finite_zero kV_Finite_zero dc_Finite_zero pm_Finite_zero cd_Finite_zero ct_Finite_zero : Value}
    {f_Finite_one : Addr} {od_Finite_one an_Finite_one : Option Addr} {sl_Finite_one : Array (Option Value)} {oc_Finite_one kV_Finite_one dc_Finite_one pm_Finite_one cd_Finite_one ct_Finite_one : Value}
    {f_Finite_plus : Addr} {od_Finite_plus an_Finite_plus : Option Addr} {sl_Finite_plus : Array (Option Value)} {oc_Finite_plus kV_Finite_plus dc_Finite_plus pm_Finite_plus cd_Finite_plus ct_Finite_plus : Value}
    {f_Finite_times : Addr} {od_Finite_times an_Finite_times : Option Addr} {sl_Finite_times : Array (Option Value)} {oc_Finite_times kV_Finite_times dc_Finite_times pm_Finite_times cd_Finite_times ct_Finite_times : Value}
    {f_Finite_star : Addr} {od_Finite_star an_Finite_star : Option Addr} {sl_Finite_star : Array (Option Value)} {oc_Finite_star kV_Finite_star dc_Finite_star pm_Finite_star cd_Finite_star ct_Finite_star : Value}
    {f_Finite_size : Addr} {od_Finite_size an_Finite_size : Option Addr} {sl_Finite_size : Array (Option Value)} {oc_Finite_size kV_Finite_size dc_Finite_size pm_Finite_size cd_Finite_size ct_Finite_size : Value}
    {f_copied : Addr} {od_copied an_copied : Option Addr} {sl_copied : Array (Option Value)} {oc_copied kV_copied dc_copied pm_copied cd_copied ct_copied : Value}
    {f_first_failure : Addr} {od_first_failure an_first_failure : Option Addr} {sl_first_failure : Array (Option Value)} {oc_first_failure kV_first_failure dc_first_failure pm_first_failure cd_first_failure ct_first_failure : Value}
    {f_sizes_fit cc_sizes_fit : Addr} {od_sizes_fit an_sizes_fit : Option Addr} {sl_sizes_fit : Array (Option Value)} {oc_sizes_fit kV_sizes_fit dc_sizes_fit pm_sizes_fit ct_sizes_fit : Value}
    {f_entries_fit cc_entries_fit : Addr} {od_entries_fit an_entries_fit : Option Addr} {sl_entries_fit : Array (Option Value)} {oc_entries_fit kV_entries_fit dc_entries_fit pm_entries_fit ct_entries_fit : Value}
    {f_is_symmetric cc_is_symmetric : Addr} {od_is_symmetric an_is_symmetric : Option Addr} {sl_is_symmetric : Array (Option Value)} {oc_is_symmetric kV_is_symmetric dc_is_symmetric pm_is_symmetric ct_is_symmetric : Value}
    {f_is_associative cc_is_associative : Addr} {od_is_associative an_is_associative : Option Addr} {sl_is_associative : Array (Option Value)} {oc_is_associative kV_is_associative dc_is_associative pm_is_associative ct_is_associative : Value}
    {f_is_neutral cc_is_neutral : Addr} {od_is_neutral an_is_neutral : Option Addr} {sl_is_neutral : Array (Option Value)} {oc_is_neutral kV_is_neutral dc_is_neutral pm_is_neutral ct_is_neutral : Value}
    {f_is_distributive cc_is_distributive : Addr} {od_is_distributive an_is_distributive : Option Addr} {sl_is_distributive : Array (Option Value)} {oc_is_distributive kV_is_distributive dc_is_distributive pm_is_distributive ct_is_distributive : Value}
    {f_stars_fit : Addr} {od_stars_fit an_stars_fit : Option Addr} {sl_stars_fit : Array (Option Value)} {oc_stars_fit kV_stars_fit dc_stars_fit pm_stars_fit cd_stars_fit ct_stars_fit : Value}
    {f_law_pot : Addr} {od_law_pot an_law_pot : Option Addr} {sl_law_pot : Array (Option Value)} {oc_law_pot kV_law_pot dc_law_pot pm_law_pot cd_law_pot ct_law_pot : Value}
    {f_law_next : Addr} {od_law_next an_law_next : Option Addr} {sl_law_next : Array (Option Value)} {oc_law_next kV_law_next dc_law_next pm_law_next cd_law_next ct_law_next : Value}
    {f_law_family : Addr} {od_law_family an_law_family : Option Addr} {sl_law_family : Array (Option Value)} {oc_law_family kV_law_family dc_law_family pm_law_family cd_law_family ct_law_family : Value}
    {f_law_paired : Addr} {od_law_paired an_law_paired : Option Addr} {sl_law_paired : Array (Option Value)} {oc_law_paired kV_law_paired dc_law_paired pm_law_paired cd_law_paired ct_law_paired : Value}
    {f_law_renamed : Addr} {od_law_renamed an_law_renamed : Option Addr} {sl_law_renamed : Array (Option Value)} {oc_law_renamed kV_law_renamed dc_law_renamed pm_law_renamed cd_law_renamed ct_law_renamed : Value}
    {f_law_stars : Addr} {od_law_stars an_law_stars : Option Addr} {sl_law_stars : Array (Option Value)} {oc_law_stars kV_law_stars dc_law_stars pm_law_stars cd_law_stars ct_law_stars : Value}
    {f_law_ring : Addr} {od_law_ring an_law_ring : Option Addr} {sl_law_ring : Array (Option Value)} {oc_law_ring kV_law_ring dc_law_ring pm_law_ring cd_law_ring ct_law_ring : Value}
    {f_law_grown : Addr} {od_law_grown an_law_grown : Option Addr} {sl_law_grown : Array (Option Value)} {oc_law_grown kV_law_grown dc_law_grown pm_law_grown cd_law_grown ct_law_grown : Value}
    {f_law_found : Addr} {od_law_found an_law_found : Option Addr} {sl_law_found : Array (Option Value)} {oc_law_found kV_law_found dc_law_found pm_law_found cd_law_found ct_law_found : Value}
    {f_law : Addr} {od_law an_law : Option Addr} {sl_law : Array (Option Value)} {oc_law kV_law dc_law pm_law cd_law ct_law : Value}
    {tk_MOST_NODES : Tok}
    {tk_MOST_IN_ONE : Tok}
    {tk_ZERO : Tok}
    {tk_ONE : Tok}
    {tk_MOST_NUMBERS : Tok}
    (aC_WorthError : PySem.W.nsIn K mainGlobals "WorthError" = some (some (.ref C_WorthError)))
    (aC_NoStar : PySem.W.nsIn K mainGlobals "NoStar" = some (some (.ref C_NoStar)))
    (aC_TooLarge : PySem.W.nsIn K mainGlobals "TooLarge" = some (some (.ref C_TooLarge)))
    (aC_AxiomError : PySem.W.nsIn K mainGlobals "AxiomError" = some (some (.ref C_AxiomError)))
    (aC_Circuits : PySem.W.nsIn K mainGlobals "Circuits" = some (some (.ref C_Circuits)))
    (aC_Reckoner : PySem.W.nsIn K mainGlobals "Reckoner" = some (some (.ref C_Reckoner)))
    (aC_Exchange : PySem.W.nsIn K mainGlobals "Exchange" = some (some (.ref C_Exchange)))
    (aC_Finite : PySem.W.nsIn K mainGlobals "Finite" = some (some (.ref C_Finite)))
    (a_Circuits_init : PySem.W.findIn K (.ref C_Circuits) "__init__" = some (some (.ref f_Circuits_init)))
    (i_Circuits_init : PySem.W.isFn K (.ref f_Circuits_init) = true)
    (l_Circuits_init : K.lookup f_Circuits_init = some ⟨oc_Circuits_init, od_Circuits_init, .func (PySem.W.fnOf "__init__" "Circuits.__init__" (defArgs s_Circuits_init) (defBody s_Circuits_init) (defScope s_Circuits_init) .none kV_Circuits_init dc_Circuits_init pm_Circuits_init an_Circuits_init cd_Circuits_init ct_Circuits_init), sl_Circuits_init⟩)
    (c_Circuits_init : PySem.W.codeIn K cd_Circuits_init "Circuits.__init__" = true)
    (k_Circuits_init : PySem.W.keepIn K (.ref f_Circuits_init) = true)
    (a_Circuits_fact : PySem.W.findIn K (.ref C_Circuits) "fact" = some (some (.ref f_Circuits_fact)))
    (i_Circuits_fact : PySem.W.isFn K (.ref f_Circuits_fact) = true)
    (l_Circuits_fact : K.lookup f_Circuits_fact = some ⟨oc_Circuits_fact, od_Circuits_fact, .func (PySem.W.fnOf "fact" "Circuits.fact" (defArgs s_Circuits_fact) (defBody s_Circuits_fact) (defScope s_Circuits_fact) .none kV_Circuits_fact dc_Circuits_fact pm_Circuits_fact an_Circuits_fact cd_Circuits_fact ct_Circuits_fact), sl_Circuits_fact⟩)
    (c_Circuits_fact : PySem.W.codeIn K cd_Circuits_fact "Circuits.fact" = true)
    (k_Circuits_fact : PySem.W.keepIn K (.ref f_Circuits_fact) = true)
    (a_Circuits_plus : PySem.W.findIn K (.ref C_Circuits) "plus" = some (some (.ref f_Circuits_plus)))
    (i_Circuits_plus : PySem.W.isFn K (.ref f_Circuits_plus) = true)
    (l_Circuits_plus : K.lookup f_Circuits_plus = some ⟨oc_Circuits_plus, od_Circuits_plus, .func (PySem.W.fnOf "plus" "Circuits.plus" (defArgs s_Circuits_plus) (defBody s_Circuits_plus) (defScope s_Circuits_plus) .none kV_Circuits_plus dc_Circuits_plus pm_Circuits_plus an_Circuits_plus cd_Circuits_plus ct_Circuits_plus), sl_Circuits_plus⟩)
    (c_Circuits_plus : PySem.W.codeIn K cd_Circuits_plus "Circuits.plus" = true)
    (k_Circuits_plus : PySem.W.keepIn K (.ref f_Circuits_plus) = true)
    (a_Circuits_times : PySem.W.findIn K (.ref C_Circuits) "times" = some (some (.ref f_Circuits_times)))
    (i_Circuits_times : PySem.W.isFn K (.ref f_Circuits_times) = true)
    (l_Circuits_times : K.lookup f_Circuits_times = some ⟨oc_Circuits_times, od_Circuits_times, .func (PySem.W.fnOf "times" "Circuits.times" (defArgs s_Circuits_times) (defBody s_Circuits_times) (defScope s_Circuits_times) .none kV_Circuits_times dc_Circuits_times pm_Circuits_times an_Circuits_times cd_Circuits_times ct_Circuits_times), sl_Circuits_times⟩)
    (c_Circuits_times : PySem.W.codeIn K cd_Circuits_times "Circuits.times" = true)
    (k_Circuits_times : PySem.W.keepIn K (.ref f_Circuits_times) = true)
    (a_Circuits_star : PySem.W.findIn K (.ref C_Circuits) "star" = some (some (.ref f_Circuits_star)))
    (i_Circuits_star : PySem.W.isFn K (.ref f_Circuits_star) = true)
    (l_Circuits_star : K.lookup f_Circuits_star = some ⟨oc_Circuits_star, od_Circuits_star, .func (PySem.W.fnOf "star" "Circuits.star" (defArgs s_Circuits_star) (defBody s_Circuits_star) (defScope s_Circuits_star) .none kV_Circuits_star dc_Circuits_star pm_Circuits_star an_Circuits_star cd_Circuits_star ct_Circuits_star), sl_Circuits_star⟩)
    (c_Circuits_star : PySem.W.codeIn K cd_Circuits_star "Circuits.star" = true)
    (k_Circuits_star : PySem.W.keepIn K (.ref f_Circuits_star) = true)
    (a_Circuits_shown : PySem.W.findIn K (.ref C_Circuits) "shown" = some (some (.ref f_Circuits_shown)))
    (i_Circuits_shown : PySem.W.isFn K (.ref f_Circuits_shown) = true)
    (l_Circuits_shown : K.lookup f_Circuits_shown = some ⟨oc_Circuits_shown, od_Circuits_shown, .func (PySem.W.fnOf "shown" "Circuits.shown" (defArgs s_Circuits_shown) (defBody s_Circuits_shown) (defScope s_Circuits_shown) .none kV_Circuits_shown dc_Circuits_shown pm_Circuits_shown an_Circuits_shown cd_Circuits_shown ct_Circuits_shown), sl_Circuits_shown⟩)
    (c_Circuits_shown : PySem.W.codeIn K cd_Circuits_shown "Circuits.shown" = true)
    (k_Circuits_shown : PySem.W.keepIn K (.ref f_Circuits_shown) = true)
    (a_Circuits_count : PySem.W.findIn K (.ref C_Circuits) "count" = some (some (.ref f_Circuits_count)))
    (i_Circuits_count : PySem.W.isFn K (.ref f_Circuits_count) = true)
    (l_Circuits_count : K.lookup f_Circuits_count = some ⟨oc_Circuits_count, od_Circuits_count, .func (PySem.W.fnOf "count" "Circuits.count" (defArgs s_Circuits_count) (defBody s_Circuits_count) (defScope s_Circuits_count) .none kV_Circuits_count dc_Circuits_count pm_Circuits_count an_Circuits_count cd_Circuits_count ct_Circuits_count), sl_Circuits_count⟩)
    (c_Circuits_count : PySem.W.codeIn K cd_Circuits_count "Circuits.count" = true)
    (k_Circuits_count : PySem.W.keepIn K (.ref f_Circuits_count) = true)
    (a_Circuits_several : PySem.W.findIn K (.ref C_Circuits) "_several" = some (some (.ref f_Circuits_several)))
    (i_Circuits_several : PySem.W.isFn K (.ref f_Circuits_several) = true)
    (l_Circuits_several : K.lookup f_Circuits_several = some ⟨oc_Circuits_several, od_Circuits_several, .func (PySem.W.fnOf "_several" "Circuits._several" (defArgs s_Circuits_several) (defBody s_Circuits_several) (defScope s_Circuits_several) .none kV_Circuits_several dc_Circuits_several pm_Circuits_several an_Circuits_several cd_Circuits_several ct_Circuits_several), sl_Circuits_several⟩)
    (c_Circuits_several : PySem.W.codeIn K cd_Circuits_several "Circuits._several" = true)
    (k_Circuits_several : PySem.W.keepIn K (.ref f_Circuits_several) = true)
    (a_Circuits_node : PySem.W.findIn K (.ref C_Circuits) "_node" = some (some (.ref f_Circuits_node)))
    (i_Circuits_node : PySem.W.isFn K (.ref f_Circuits_node) = true)
    (l_Circuits_node : K.lookup f_Circuits_node = some ⟨oc_Circuits_node, od_Circuits_node, .func (PySem.W.fnOf "_node" "Circuits._node" (defArgs s_Circuits_node) (defBody s_Circuits_node) (defScope s_Circuits_node) .none kV_Circuits_node dc_Circuits_node pm_Circuits_node an_Circuits_node cd_Circuits_node ct_Circuits_node), sl_Circuits_node⟩)
    (c_Circuits_node : PySem.W.codeIn K cd_Circuits_node "Circuits._node" = true)
    (k_Circuits_node : PySem.W.keepIn K (.ref f_Circuits_node) = true)
    (a_Reckoner_init : PySem.W.findIn K (.ref C_Reckoner) "__init__" = some (some (.ref f_Reckoner_init)))
    (i_Reckoner_init : PySem.W.isFn K (.ref f_Reckoner_init) = true)
    (l_Reckoner_init : K.lookup f_Reckoner_init = some ⟨oc_Reckoner_init, od_Reckoner_init, .func (PySem.W.fnOf "__init__" "Reckoner.__init__" (defArgs s_Reckoner_init) (defBody s_Reckoner_init) (defScope s_Reckoner_init) .none kV_Reckoner_init dc_Reckoner_init pm_Reckoner_init an_Reckoner_init cd_Reckoner_init ct_Reckoner_init), sl_Reckoner_init⟩)
    (c_Reckoner_init : PySem.W.codeIn K cd_Reckoner_init "Reckoner.__init__" = true)
    (k_Reckoner_init : PySem.W.keepIn K (.ref f_Reckoner_init) = true)
    (a_Reckoner_fact : PySem.W.findIn K (.ref C_Reckoner) "fact" = some (some (.ref f_Reckoner_fact)))
    (i_Reckoner_fact : PySem.W.isFn K (.ref f_Reckoner_fact) = true)
    (l_Reckoner_fact : K.lookup f_Reckoner_fact = some ⟨oc_Reckoner_fact, od_Reckoner_fact, .func (PySem.W.fnOf "fact" "Reckoner.fact" (defArgs s_Reckoner_fact) (defBody s_Reckoner_fact) (defScope s_Reckoner_fact) .none kV_Reckoner_fact dc_Reckoner_fact pm_Reckoner_fact an_Reckoner_fact cd_Reckoner_fact ct_Reckoner_fact), sl_Reckoner_fact⟩)
    (c_Reckoner_fact : PySem.W.codeIn K cd_Reckoner_fact "Reckoner.fact" = true)
    (k_Reckoner_fact : PySem.W.keepIn K (.ref f_Reckoner_fact) = true)
    (a_Reckoner_plus : PySem.W.findIn K (.ref C_Reckoner) "plus" = some (some (.ref f_Reckoner_plus)))
    (i_Reckoner_plus : PySem.W.isFn K (.ref f_Reckoner_plus) = true)
    (l_Reckoner_plus : K.lookup f_Reckoner_plus = some ⟨oc_Reckoner_plus, od_Reckoner_plus, .func (PySem.W.fnOf "plus" "Reckoner.plus" (defArgs s_Reckoner_plus) (defBody s_Reckoner_plus) (defScope s_Reckoner_plus) .none kV_Reckoner_plus dc_Reckoner_plus pm_Reckoner_plus an_Reckoner_plus cd_Reckoner_plus ct_Reckoner_plus), sl_Reckoner_plus⟩)
    (c_Reckoner_plus : PySem.W.codeIn K cd_Reckoner_plus "Reckoner.plus" = true)
    (k_Reckoner_plus : PySem.W.keepIn K (.ref f_Reckoner_plus) = true)
    (a_Reckoner_times : PySem.W.findIn K (.ref C_Reckoner) "times" = some (some (.ref f_Reckoner_times)))
    (i_Reckoner_times : PySem.W.isFn K (.ref f_Reckoner_times) = true)
    (l_Reckoner_times : K.lookup f_Reckoner_times = some ⟨oc_Reckoner_times, od_Reckoner_times, .func (PySem.W.fnOf "times" "Reckoner.times" (defArgs s_Reckoner_times) (defBody s_Reckoner_times) (defScope s_Reckoner_times) .none kV_Reckoner_times dc_Reckoner_times pm_Reckoner_times an_Reckoner_times cd_Reckoner_times ct_Reckoner_times), sl_Reckoner_times⟩)
    (c_Reckoner_times : PySem.W.codeIn K cd_Reckoner_times "Reckoner.times" = true)
    (k_Reckoner_times : PySem.W.keepIn K (.ref f_Reckoner_times) = true)
    (a_Reckoner_star : PySem.W.findIn K (.ref C_Reckoner) "star" = some (some (.ref f_Reckoner_star)))
    (i_Reckoner_star : PySem.W.isFn K (.ref f_Reckoner_star) = true)
    (l_Reckoner_star : K.lookup f_Reckoner_star = some ⟨oc_Reckoner_star, od_Reckoner_star, .func (PySem.W.fnOf "star" "Reckoner.star" (defArgs s_Reckoner_star) (defBody s_Reckoner_star) (defScope s_Reckoner_star) .none kV_Reckoner_star dc_Reckoner_star pm_Reckoner_star an_Reckoner_star cd_Reckoner_star ct_Reckoner_star), sl_Reckoner_star⟩)
    (c_Reckoner_star : PySem.W.codeIn K cd_Reckoner_star "Reckoner.star" = true)
    (k_Reckoner_star : PySem.W.keepIn K (.ref f_Reckoner_star) = true)
    (a_Exchange_init : PySem.W.findIn K (.ref C_Exchange) "__init__" = some (some (.ref f_Exchange_init)))
    (i_Exchange_init : PySem.W.isFn K (.ref f_Exchange_init) = true)
    (l_Exchange_init : K.lookup f_Exchange_init = some ⟨oc_Exchange_init, od_Exchange_init, .func (PySem.W.fnOf "__init__" "Exchange.__init__" (defArgs s_Exchange_init) (defBody s_Exchange_init) (defScope s_Exchange_init) .none kV_Exchange_init dc_Exchange_init pm_Exchange_init an_Exchange_init cd_Exchange_init ct_Exchange_init), sl_Exchange_init⟩)
    (c_Exchange_init : PySem.W.codeIn K cd_Exchange_init "Exchange.__init__" = true)
    (k_Exchange_init : PySem.W.keepIn K (.ref f_Exchange_init) = true)
    (a_Exchange_fact : PySem.W.findIn K (.ref C_Exchange) "fact" = some (some (.ref f_Exchange_fact)))
    (i_Exchange_fact : PySem.W.isFn K (.ref f_Exchange_fact) = true)
    (l_Exchange_fact : K.lookup f_Exchange_fact = some ⟨oc_Exchange_fact, od_Exchange_fact, .func (PySem.W.fnOf "fact" "Exchange.fact" (defArgs s_Exchange_fact) (defBody s_Exchange_fact) (defScope s_Exchange_fact) .none kV_Exchange_fact dc_Exchange_fact pm_Exchange_fact an_Exchange_fact cd_Exchange_fact ct_Exchange_fact), sl_Exchange_fact⟩)
    (c_Exchange_fact : PySem.W.codeIn K cd_Exchange_fact "Exchange.fact" = true)
    (k_Exchange_fact : PySem.W.keepIn K (.ref f_Exchange_fact) = true)
    (a_Exchange_plus : PySem.W.findIn K (.ref C_Exchange) "plus" = some (some (.ref f_Exchange_plus)))
    (i_Exchange_plus : PySem.W.isFn K (.ref f_Exchange_plus) = true)
    (l_Exchange_plus : K.lookup f_Exchange_plus = some ⟨oc_Exchange_plus, od_Exchange_plus, .func (PySem.W.fnOf "plus" "Exchange.plus" (defArgs s_Exchange_plus) (defBody s_Exchange_plus) (defScope s_Exchange_plus) .none kV_Exchange_plus dc_Exchange_plus pm_Exchange_plus an_Exchange_plus cd_Exchange_plus ct_Exchange_plus), sl_Exchange_plus⟩)
    (c_Exchange_plus : PySem.W.codeIn K cd_Exchange_plus "Exchange.plus" = true)
    (k_Exchange_plus : PySem.W.keepIn K (.ref f_Exchange_plus) = true)
    (a_Exchange_times : PySem.W.findIn K (.ref C_Exchange) "times" = some (some (.ref f_Exchange_times)))
    (i_Exchange_times : PySem.W.isFn K (.ref f_Exchange_times) = true)
    (l_Exchange_times : K.lookup f_Exchange_times = some ⟨oc_Exchange_times, od_Exchange_times, .func (PySem.W.fnOf "times" "Exchange.times" (defArgs s_Exchange_times) (defBody s_Exchange_times) (defScope s_Exchange_times) .none kV_Exchange_times dc_Exchange_times pm_Exchange_times an_Exchange_times cd_Exchange_times ct_Exchange_times), sl_Exchange_times⟩)
    (c_Exchange_times : PySem.W.codeIn K cd_Exchange_times "Exchange.times" = true)
    (k_Exchange_times : PySem.W.keepIn K (.ref f_Exchange_times) = true)
    (a_Exchange_star : PySem.W.findIn K (.ref C_Exchange) "star" = some (some (.ref f_Exchange_star)))
    (i_Exchange_star : PySem.W.isFn K (.ref f_Exchange_star) = true)
    (l_Exchange_star : K.lookup f_Exchange_star = some ⟨oc_Exchange_star, od_Exchange_star, .func (PySem.W.fnOf "star" "Exchange.star" (defArgs s_Exchange_star) (defBody s_Exchange_star) (defScope s_Exchange_star) .none kV_Exchange_star dc_Exchange_star pm_Exchange_star an_Exchange_star cd_Exchange_star ct_Exchange_star), sl_Exchange_star⟩)
    (c_Exchange_star : PySem.W.codeIn K cd_Exchange_star "Exchange.star" = true)
    (k_Exchange_star : PySem.W.keepIn K (.ref f_Exchange_star) = true)
    (a_nodes_within : PySem.W.nsIn K mainGlobals "nodes_within" = some (some (.ref f_nodes_within)))
    (l_nodes_within : K.lookup f_nodes_within = some ⟨oc_nodes_within, od_nodes_within, .func (PySem.W.fnOf "nodes_within" "nodes_within" (defArgs s_nodes_within) (defBody s_nodes_within) (defScope s_nodes_within) .none kV_nodes_within dc_nodes_within pm_nodes_within an_nodes_within cd_nodes_within ct_nodes_within), sl_nodes_within⟩)
    (c_nodes_within : PySem.W.codeIn K cd_nodes_within "nodes_within" = true)
    (k_nodes_within : PySem.W.keepIn K (.ref f_nodes_within) = true)
    (a_parts : PySem.W.nsIn K mainGlobals "_parts" = some (some (.ref f_parts)))
    (l_parts : K.lookup f_parts = some ⟨oc_parts, od_parts, .func (PySem.W.fnOf "_parts" "_parts" (defArgs s_parts) (defBody s_parts) (defScope s_parts) .none kV_parts dc_parts pm_parts an_parts cd_parts ct_parts), sl_parts⟩)
    (c_parts : PySem.W.codeIn K cd_parts "_parts" = true)
    (k_parts : PySem.W.keepIn K (.ref f_parts) = true)
    (a_all_made : PySem.W.nsIn K mainGlobals "all_made" = some (some (.ref f_all_made)))
    (l_all_made : K.lookup f_all_made = some ⟨oc_all_made, od_all_made, .func (PySem.W.fnOf "all_made" "all_made" (defArgs s_all_made) (defBody s_all_made) (defScope s_all_made) .none kV_all_made dc_all_made pm_all_made an_all_made cd_all_made ct_all_made), sl_all_made⟩)
    (c_all_made : PySem.W.codeIn K cd_all_made "all_made" = true)
    (k_all_made : PySem.W.keepIn K (.ref f_all_made) = true)
    (a_made : PySem.W.nsIn K mainGlobals "_made" = some (some (.ref f_made)))
    (l_made : K.lookup f_made = some ⟨oc_made, od_made, .func (PySem.W.fnOf "_made" "_made" (defArgs s_made) (defBody s_made) (defScope s_made) .none kV_made dc_made pm_made an_made cd_made ct_made), sl_made⟩)
    (c_made : PySem.W.codeIn K cd_made "_made" = true)
    (k_made : PySem.W.keepIn K (.ref f_made) = true)
    (a_worth : PySem.W.nsIn K mainGlobals "worth" = some (some (.ref f_worth)))
    (l_worth : K.lookup f_worth = some ⟨oc_worth, od_worth, .func (PySem.W.fnOf "worth" "worth" (defArgs s_worth) (defBody s_worth) (defScope s_worth) .none kV_worth dc_worth pm_worth an_worth cd_worth ct_worth), sl_worth⟩)
    (c_worth : PySem.W.codeIn K cd_worth "worth" = true)
    (k_worth : PySem.W.keepIn K (.ref f_worth) = true)
    (a_put_in : PySem.W.nsIn K mainGlobals "put_in" = some (some (.ref f_put_in)))
    (l_put_in : K.lookup f_put_in = some ⟨oc_put_in, od_put_in, .func (PySem.W.fnOf "put_in" "put_in" (defArgs s_put_in) (defBody s_put_in) (defScope s_put_in) .none kV_put_in dc_put_in pm_put_in an_put_in cd_put_in ct_put_in), sl_put_in⟩)
    (c_put_in : PySem.W.codeIn K cd_put_in "put_in" = true)
    (k_put_in : PySem.W.keepIn K (.ref f_put_in) = true)
    (a_carried : PySem.W.nsIn K mainGlobals "carried" = some (some (.ref f_carried)))
    (l_carried : K.lookup f_carried = some ⟨oc_carried, od_carried, .func (PySem.W.fnOf "carried" "carried" (defArgs s_carried) (defBody s_carried) (defScope s_carried) .none kV_carried dc_carried pm_carried an_carried cd_carried ct_carried), sl_carried⟩)
    (c_carried : PySem.W.codeIn K cd_carried "carried" = true)
    (k_carried : PySem.W.keepIn K (.ref f_carried) = true)
    (a_is_integer : PySem.W.nsIn K mainGlobals "is_integer" = some (some (.ref f_is_integer)))
    (l_is_integer : K.lookup f_is_integer = some ⟨oc_is_integer, od_is_integer, .func (PySem.W.fnOf "is_integer" "is_integer" (defArgs s_is_integer) (defBody s_is_integer) (defScope s_is_integer) .none kV_is_integer dc_is_integer pm_is_integer an_is_integer cd_is_integer ct_is_integer), sl_is_integer⟩)
    (c_is_integer : PySem.W.codeIn K cd_is_integer "is_integer" = true)
    (k_is_integer : PySem.W.keepIn K (.ref f_is_integer) = true)
    (a_is_between : PySem.W.nsIn K mainGlobals "is_between" = some (some (.ref f_is_between)))
    (l_is_between : K.lookup f_is_between = some ⟨oc_is_between, od_is_between, .func (PySem.W.fnOf "is_between" "is_between" (defArgs s_is_between) (defBody s_is_between) (defScope s_is_between) .none kV_is_between dc_is_between pm_is_between an_is_between cd_is_between ct_is_between), sl_is_between⟩)
    (c_is_between : PySem.W.codeIn K cd_is_between "is_between" = true)
    (k_is_between : PySem.W.keepIn K (.ref f_is_between) = true)
    (a_Finite_init : PySem.W.findIn K (.ref C_Finite) "__init__" = some (some (.ref f_Finite_init)))
    (i_Finite_init : PySem.W.isFn K (.ref f_Finite_init) = true)
    (l_Finite_init : K.lookup f_Finite_init = some ⟨oc_Finite_init, od_Finite_init, .func (PySem.W.fnOf "__init__" "Finite.__init__" (defArgs s_Finite_init) (defBody s_Finite_init) (defScope s_Finite_init) (.ref dT_Finite_init) kV_Finite_init dc_Finite_init pm_Finite_init an_Finite_init cd_Finite_init ct_Finite_init), sl_Finite_init⟩)
    (c_Finite_init : PySem.W.codeIn K cd_Finite_init "Finite.__init__" = true)
    (k_Finite_init : PySem.W.keepIn K (.ref f_Finite_init) = true)
    (a_Finite_zero : PySem.W.findIn K (.ref C_Finite) "zero" = some (some (.ref f_Finite_zero)))
    (i_Finite_zero : PySem.W.isFn K (.ref f_Finite_zero) = true)
    (l_Finite_zero : K.lookup f_Finite_zero = some ⟨oc_Finite_zero, od_Finite_zero, .func (PySem.W.fnOf "zero" "Finite.zero" (defArgs s_Finite_zero) (defBody s_Finite_zero) (defScope s_Finite_zero) .none kV_Finite_zero dc_Finite_zero pm_Finite_zero an_Finite_zero cd_Finite_zero ct_Finite_zero), sl_Finite_zero⟩)
    (c_Finite_zero : PySem.W.codeIn K cd_Finite_zero "Finite.zero" = true)
    (k_Finite_zero : PySem.W.keepIn K (.ref f_Finite_zero) = true)
    (a_Finite_one : PySem.W.findIn K (.ref C_Finite) "one" = some (some (.ref f_Finite_one)))
    (i_Finite_one : PySem.W.isFn K (.ref f_Finite_one) = true)
    (l_Finite_one : K.lookup f_Finite_one = some ⟨oc_Finite_one, od_Finite_one, .func (PySem.W.fnOf "one" "Finite.one" (defArgs s_Finite_one) (defBody s_Finite_one) (defScope s_Finite_one) .none kV_Finite_one dc_Finite_one pm_Finite_one an_Finite_one cd_Finite_one ct_Finite_one), sl_Finite_one⟩)
    (c_Finite_one : PySem.W.codeIn K cd_Finite_one "Finite.one" = true)
    (k_Finite_one : PySem.W.keepIn K (.ref f_Finite_one) = true)
    (a_Finite_plus : PySem.W.findIn K (.ref C_Finite) "plus" = some (some (.ref f_Finite_plus)))
    (i_Finite_plus : PySem.W.isFn K (.ref f_Finite_plus) = true)
    (l_Finite_plus : K.lookup f_Finite_plus = some ⟨oc_Finite_plus, od_Finite_plus, .func (PySem.W.fnOf "plus" "Finite.plus" (defArgs s_Finite_plus) (defBody s_Finite_plus) (defScope s_Finite_plus) .none kV_Finite_plus dc_Finite_plus pm_Finite_plus an_Finite_plus cd_Finite_plus ct_Finite_plus), sl_Finite_plus⟩)
    (c_Finite_plus : PySem.W.codeIn K cd_Finite_plus "Finite.plus" = true)
    (k_Finite_plus : PySem.W.keepIn K (.ref f_Finite_plus) = true)
    (a_Finite_times : PySem.W.findIn K (.ref C_Finite) "times" = some (some (.ref f_Finite_times)))
    (i_Finite_times : PySem.W.isFn K (.ref f_Finite_times) = true)
    (l_Finite_times : K.lookup f_Finite_times = some ⟨oc_Finite_times, od_Finite_times, .func (PySem.W.fnOf "times" "Finite.times" (defArgs s_Finite_times) (defBody s_Finite_times) (defScope s_Finite_times) .none kV_Finite_times dc_Finite_times pm_Finite_times an_Finite_times cd_Finite_times ct_Finite_times), sl_Finite_times⟩)
    (c_Finite_times : PySem.W.codeIn K cd_Finite_times "Finite.times" = true)
    (k_Finite_times : PySem.W.keepIn K (.ref f_Finite_times) = true)
    (a_Finite_star : PySem.W.findIn K (.ref C_Finite) "star" = some (some (.ref f_Finite_star)))
    (i_Finite_star : PySem.W.isFn K (.ref f_Finite_star) = true)
    (l_Finite_star : K.lookup f_Finite_star = some ⟨oc_Finite_star, od_Finite_star, .func (PySem.W.fnOf "star" "Finite.star" (defArgs s_Finite_star) (defBody s_Finite_star) (defScope s_Finite_star) .none kV_Finite_star dc_Finite_star pm_Finite_star an_Finite_star cd_Finite_star ct_Finite_star), sl_Finite_star⟩)
    (c_Finite_star : PySem.W.codeIn K cd_Finite_star "Finite.star" = true)
    (k_Finite_star : PySem.W.keepIn K (.ref f_Finite_star) = true)
    (a_Finite_size : PySem.W.findIn K (.ref C_Finite) "size" = some (some (.ref f_Finite_size)))
    (i_Finite_size : PySem.W.isFn K (.ref f_Finite_size) = true)
    (l_Finite_size : K.lookup f_Finite_size = some ⟨oc_Finite_size, od_Finite_size, .func (PySem.W.fnOf "size" "Finite.size" (defArgs s_Finite_size) (defBody s_Finite_size) (defScope s_Finite_size) .none kV_Finite_size dc_Finite_size pm_Finite_size an_Finite_size cd_Finite_size ct_Finite_size), sl_Finite_size⟩)
    (c_Finite_size : PySem.W.codeIn K cd_Finite_size "Finite.size" = true)
    (k_Finite_size : PySem.W.keepIn K (.ref f_Finite_size) = true)
    (a_copied : PySem.W.nsIn K mainGlobals "_copied" = some (some (.ref f_copied)))
    (l_copied : K.lookup f_copied = some ⟨oc_copied, od_copied, .func (PySem.W.fnOf "_copied" "_copied" (defArgs s_copied) (defBody s_copied) (defScope s_copied) .none kV_copied dc_copied pm_copied an_copied cd_copied ct_copied), sl_copied⟩)
    (c_copied : PySem.W.codeIn K cd_copied "_copied" = true)
    (k_copied : PySem.W.keepIn K (.ref f_copied) = true)
    (a_first_failure : PySem.W.nsIn K mainGlobals "_first_failure" = some (some (.ref f_first_failure)))
    (l_first_failure : K.lookup f_first_failure = some ⟨oc_first_failure, od_first_failure, .func (PySem.W.fnOf "_first_failure" "_first_failure" (defArgs s_first_failure) (defBody s_first_failure) (defScope s_first_failure) .none kV_first_failure dc_first_failure pm_first_failure an_first_failure cd_first_failure ct_first_failure), sl_first_failure⟩)
    (c_first_failure : PySem.W.codeIn K cd_first_failure "_first_failure" = true)
    (k_first_failure : PySem.W.keepIn K (.ref f_first_failure) = true)
    (a_sizes_fit : PySem.W.nsIn K mainGlobals "_sizes_fit" = some (some (.ref f_sizes_fit)))
    (l_sizes_fit : K.lookup f_sizes_fit = some ⟨oc_sizes_fit, od_sizes_fit, .func (PySem.W.fnOf "_sizes_fit" "_sizes_fit" (defArgs s_sizes_fit) (defBody s_sizes_fit) (defScope s_sizes_fit) .none kV_sizes_fit dc_sizes_fit pm_sizes_fit an_sizes_fit (.ref cc_sizes_fit) ct_sizes_fit), sl_sizes_fit⟩)
    (c_sizes_fit : PySem.W.codeIn K (.ref cc_sizes_fit) "_sizes_fit" = true)
    (k_sizes_fit : PySem.W.keepIn K (.ref f_sizes_fit) = true)
    (a_entries_fit : PySem.W.nsIn K mainGlobals "_entries_fit" = some (some (.ref f_entries_fit)))
    (l_entries_fit : K.lookup f_entries_fit = some ⟨oc_entries_fit, od_entries_fit, .func (PySem.W.fnOf "_entries_fit" "_entries_fit" (defArgs s_entries_fit) (defBody s_entries_fit) (defScope s_entries_fit) .none kV_entries_fit dc_entries_fit pm_entries_fit an_entries_fit (.ref cc_entries_fit) ct_entries_fit), sl_entries_fit⟩)
    (c_entries_fit : PySem.W.codeIn K (.ref cc_entries_fit) "_entries_fit" = true)
    (k_entries_fit : PySem.W.keepIn K (.ref f_entries_fit) = true)
    (a_is_symmetric : PySem.W.nsIn K mainGlobals "_is_symmetric" = some (some (.ref f_is_symmetric)))
    (l_is_symmetric : K.lookup f_is_symmetric = some ⟨oc_is_symmetric, od_is_symmetric, .func (PySem.W.fnOf "_is_symmetric" "_is_symmetric" (defArgs s_is_symmetric) (defBody s_is_symmetric) (defScope s_is_symmetric) .none kV_is_symmetric dc_is_symmetric pm_is_symmetric an_is_symmetric (.ref cc_is_symmetric) ct_is_symmetric), sl_is_symmetric⟩)
    (c_is_symmetric : PySem.W.codeIn K (.ref cc_is_symmetric) "_is_symmetric" = true)
    (k_is_symmetric : PySem.W.keepIn K (.ref f_is_symmetric) = true)
    (a_is_associative : PySem.W.nsIn K mainGlobals "_is_associative" = some (some (.ref f_is_associative)))
    (l_is_associative : K.lookup f_is_associative = some ⟨oc_is_associative, od_is_associative, .func (PySem.W.fnOf "_is_associative" "_is_associative" (defArgs s_is_associative) (defBody s_is_associative) (defScope s_is_associative) .none kV_is_associative dc_is_associative pm_is_associative an_is_associative (.ref cc_is_associative) ct_is_associative), sl_is_associative⟩)
    (c_is_associative : PySem.W.codeIn K (.ref cc_is_associative) "_is_associative" = true)
    (k_is_associative : PySem.W.keepIn K (.ref f_is_associative) = true)
    (a_is_neutral : PySem.W.nsIn K mainGlobals "_is_neutral" = some (some (.ref f_is_neutral)))
    (l_is_neutral : K.lookup f_is_neutral = some ⟨oc_is_neutral, od_is_neutral, .func (PySem.W.fnOf "_is_neutral" "_is_neutral" (defArgs s_is_neutral) (defBody s_is_neutral) (defScope s_is_neutral) .none kV_is_neutral dc_is_neutral pm_is_neutral an_is_neutral (.ref cc_is_neutral) ct_is_neutral), sl_is_neutral⟩)
    (c_is_neutral : PySem.W.codeIn K (.ref cc_is_neutral) "_is_neutral" = true)
    (k_is_neutral : PySem.W.keepIn K (.ref f_is_neutral) = true)
    (a_is_distributive : PySem.W.nsIn K mainGlobals "_is_distributive" = some (some (.ref f_is_distributive)))
    (l_is_distributive : K.lookup f_is_distributive = some ⟨oc_is_distributive, od_is_distributive, .func (PySem.W.fnOf "_is_distributive" "_is_distributive" (defArgs s_is_distributive) (defBody s_is_distributive) (defScope s_is_distributive) .none kV_is_distributive dc_is_distributive pm_is_distributive an_is_distributive (.ref cc_is_distributive) ct_is_distributive), sl_is_distributive⟩)
    (c_is_distributive : PySem.W.codeIn K (.ref cc_is_distributive) "_is_distributive" = true)
    (k_is_distributive : PySem.W.keepIn K (.ref f_is_distributive) = true)
    (a_stars_fit : PySem.W.nsIn K mainGlobals "_stars_fit" = some (some (.ref f_stars_fit)))
    (l_stars_fit : K.lookup f_stars_fit = some ⟨oc_stars_fit, od_stars_fit, .func (PySem.W.fnOf "_stars_fit" "_stars_fit" (defArgs s_stars_fit) (defBody s_stars_fit) (defScope s_stars_fit) .none kV_stars_fit dc_stars_fit pm_stars_fit an_stars_fit cd_stars_fit ct_stars_fit), sl_stars_fit⟩)
    (c_stars_fit : PySem.W.codeIn K cd_stars_fit "_stars_fit" = true)
    (k_stars_fit : PySem.W.keepIn K (.ref f_stars_fit) = true)
    (a_law_pot : PySem.W.nsIn K mainGlobals "_law_pot" = some (some (.ref f_law_pot)))
    (l_law_pot : K.lookup f_law_pot = some ⟨oc_law_pot, od_law_pot, .func (PySem.W.fnOf "_law_pot" "_law_pot" (defArgs s_law_pot) (defBody s_law_pot) (defScope s_law_pot) .none kV_law_pot dc_law_pot pm_law_pot an_law_pot cd_law_pot ct_law_pot), sl_law_pot⟩)
    (c_law_pot : PySem.W.codeIn K cd_law_pot "_law_pot" = true)
    (k_law_pot : PySem.W.keepIn K (.ref f_law_pot) = true)
    (a_law_next : PySem.W.nsIn K mainGlobals "_law_next" = some (some (.ref f_law_next)))
    (l_law_next : K.lookup f_law_next = some ⟨oc_law_next, od_law_next, .func (PySem.W.fnOf "_law_next" "_law_next" (defArgs s_law_next) (defBody s_law_next) (defScope s_law_next) .none kV_law_next dc_law_next pm_law_next an_law_next cd_law_next ct_law_next), sl_law_next⟩)
    (c_law_next : PySem.W.codeIn K cd_law_next "_law_next" = true)
    (k_law_next : PySem.W.keepIn K (.ref f_law_next) = true)
    (a_law_family : PySem.W.nsIn K mainGlobals "_law_family" = some (some (.ref f_law_family)))
    (l_law_family : K.lookup f_law_family = some ⟨oc_law_family, od_law_family, .func (PySem.W.fnOf "_law_family" "_law_family" (defArgs s_law_family) (defBody s_law_family) (defScope s_law_family) .none kV_law_family dc_law_family pm_law_family an_law_family cd_law_family ct_law_family), sl_law_family⟩)
    (c_law_family : PySem.W.codeIn K cd_law_family "_law_family" = true)
    (k_law_family : PySem.W.keepIn K (.ref f_law_family) = true)
    (a_law_paired : PySem.W.nsIn K mainGlobals "_law_paired" = some (some (.ref f_law_paired)))
    (l_law_paired : K.lookup f_law_paired = some ⟨oc_law_paired, od_law_paired, .func (PySem.W.fnOf "_law_paired" "_law_paired" (defArgs s_law_paired) (defBody s_law_paired) (defScope s_law_paired) .none kV_law_paired dc_law_paired pm_law_paired an_law_paired cd_law_paired ct_law_paired), sl_law_paired⟩)
    (c_law_paired : PySem.W.codeIn K cd_law_paired "_law_paired" = true)
    (k_law_paired : PySem.W.keepIn K (.ref f_law_paired) = true)
    (a_law_renamed : PySem.W.nsIn K mainGlobals "_law_renamed" = some (some (.ref f_law_renamed)))
    (l_law_renamed : K.lookup f_law_renamed = some ⟨oc_law_renamed, od_law_renamed, .func (PySem.W.fnOf "_law_renamed" "_law_renamed" (defArgs s_law_renamed) (defBody s_law_renamed) (defScope s_law_renamed) .none kV_law_renamed dc_law_renamed pm_law_renamed an_law_renamed cd_law_renamed ct_law_renamed), sl_law_renamed⟩)
    (c_law_renamed : PySem.W.codeIn K cd_law_renamed "_law_renamed" = true)
    (k_law_renamed : PySem.W.keepIn K (.ref f_law_renamed) = true)
    (a_law_stars : PySem.W.nsIn K mainGlobals "_law_stars" = some (some (.ref f_law_stars)))
    (l_law_stars : K.lookup f_law_stars = some ⟨oc_law_stars, od_law_stars, .func (PySem.W.fnOf "_law_stars" "_law_stars" (defArgs s_law_stars) (defBody s_law_stars) (defScope s_law_stars) .none kV_law_stars dc_law_stars pm_law_stars an_law_stars cd_law_stars ct_law_stars), sl_law_stars⟩)
    (c_law_stars : PySem.W.codeIn K cd_law_stars "_law_stars" = true)
    (k_law_stars : PySem.W.keepIn K (.ref f_law_stars) = true)
    (a_law_ring : PySem.W.nsIn K mainGlobals "_law_ring" = some (some (.ref f_law_ring)))
    (l_law_ring : K.lookup f_law_ring = some ⟨oc_law_ring, od_law_ring, .func (PySem.W.fnOf "_law_ring" "_law_ring" (defArgs s_law_ring) (defBody s_law_ring) (defScope s_law_ring) .none kV_law_ring dc_law_ring pm_law_ring an_law_ring cd_law_ring ct_law_ring), sl_law_ring⟩)
    (c_law_ring : PySem.W.codeIn K cd_law_ring "_law_ring" = true)
    (k_law_ring : PySem.W.keepIn K (.ref f_law_ring) = true)
    (a_law_grown : PySem.W.nsIn K mainGlobals "_law_grown" = some (some (.ref f_law_grown)))
    (l_law_grown : K.lookup f_law_grown = some ⟨oc_law_grown, od_law_grown, .func (PySem.W.fnOf "_law_grown" "_law_grown" (defArgs s_law_grown) (defBody s_law_grown) (defScope s_law_grown) .none kV_law_grown dc_law_grown pm_law_grown an_law_grown cd_law_grown ct_law_grown), sl_law_grown⟩)
    (c_law_grown : PySem.W.codeIn K cd_law_grown "_law_grown" = true)
    (k_law_grown : PySem.W.keepIn K (.ref f_law_grown) = true)
    (a_law_found : PySem.W.nsIn K mainGlobals "_law_found" = some (some (.ref f_law_found)))
    (l_law_found : K.lookup f_law_found = some ⟨oc_law_found, od_law_found, .func (PySem.W.fnOf "_law_found" "_law_found" (defArgs s_law_found) (defBody s_law_found) (defScope s_law_found) .none kV_law_found dc_law_found pm_law_found an_law_found cd_law_found ct_law_found), sl_law_found⟩)
    (c_law_found : PySem.W.codeIn K cd_law_found "_law_found" = true)
    (k_law_found : PySem.W.keepIn K (.ref f_law_found) = true)
    (a_law : PySem.W.nsIn K mainGlobals "law" = some (some (.ref f_law)))
    (l_law : K.lookup f_law = some ⟨oc_law, od_law, .func (PySem.W.fnOf "law" "law" (defArgs s_law) (defBody s_law) (defScope s_law) .none kV_law dc_law pm_law an_law cd_law ct_law), sl_law⟩)
    (c_law : PySem.W.codeIn K cd_law "law" = true)
    (k_law : PySem.W.keepIn K (.ref f_law) = true)
    (x_WorthError : PySem.W.excIn K C_WorthError [.type "ValueError", .type "Exception", .type "BaseException", .type "object"] "ValueError.__new__" = true)
    (kp_WorthError : PySem.W.keepIn K (.ref C_WorthError) = true)
    (b_WorthError : PySem.W.subIn K (.ref C_WorthError) (.type "BaseException") = some true)
    (t_WorthError : PySem.W.typeIn K (.ref C_WorthError) = some (.type "type"))
    (hd_WorthError : PySem.W.hasDictIn K C_WorthError = true)
    (ga_WorthError : PySem.W.findIn K (.ref C_WorthError) "__getattribute__" = some (some (.builtin "BaseException.__getattribute__")))
    (gg_WorthError : PySem.W.findIn K (.ref C_WorthError) "__getattr__" = some none)
    (cc_WorthError : PySem.W.findIn K (.ref C_WorthError) "__class__" = some (some (.builtin "object.__class__")))
    (mo_WorthError : PySem.W.mroIn K C_WorthError (.type "object") = some true)
    (x_NoStar : PySem.W.excIn K C_NoStar [.type "ValueError", .type "Exception", .type "BaseException", .type "object"] "ValueError.__new__" = true)
    (kp_NoStar : PySem.W.keepIn K (.ref C_NoStar) = true)
    (b_NoStar : PySem.W.subIn K (.ref C_NoStar) (.type "BaseException") = some true)
    (t_NoStar : PySem.W.typeIn K (.ref C_NoStar) = some (.type "type"))
    (hd_NoStar : PySem.W.hasDictIn K C_NoStar = true)
    (ga_NoStar : PySem.W.findIn K (.ref C_NoStar) "__getattribute__" = some (some (.builtin "BaseException.__getattribute__")))
    (gg_NoStar : PySem.W.findIn K (.ref C_NoStar) "__getattr__" = some none)
    (cc_NoStar : PySem.W.findIn K (.ref C_NoStar) "__class__" = some (some (.builtin "object.__class__")))
    (mo_NoStar : PySem.W.mroIn K C_NoStar (.type "object") = some true)
    (s_NoStar_WorthError : PySem.W.subIn K (.ref C_NoStar) (.ref C_WorthError) = some true)
    (x_TooLarge : PySem.W.excIn K C_TooLarge [.type "ValueError", .type "Exception", .type "BaseException", .type "object"] "ValueError.__new__" = true)
    (kp_TooLarge : PySem.W.keepIn K (.ref C_TooLarge) = true)
    (b_TooLarge : PySem.W.subIn K (.ref C_TooLarge) (.type "BaseException") = some true)
    (t_TooLarge : PySem.W.typeIn K (.ref C_TooLarge) = some (.type "type"))
    (hd_TooLarge : PySem.W.hasDictIn K C_TooLarge = true)
    (ga_TooLarge : PySem.W.findIn K (.ref C_TooLarge) "__getattribute__" = some (some (.builtin "BaseException.__getattribute__")))
    (gg_TooLarge : PySem.W.findIn K (.ref C_TooLarge) "__getattr__" = some none)
    (cc_TooLarge : PySem.W.findIn K (.ref C_TooLarge) "__class__" = some (some (.builtin "object.__class__")))
    (mo_TooLarge : PySem.W.mroIn K C_TooLarge (.type "object") = some true)
    (s_TooLarge_WorthError : PySem.W.subIn K (.ref C_TooLarge) (.ref C_WorthError) = some true)
    (kp_AxiomError : PySem.W.keepIn K (.ref C_AxiomError) = true)
    (b_AxiomError : PySem.W.subIn K (.ref C_AxiomError) (.type "BaseException") = some true)
    (t_AxiomError : PySem.W.typeIn K (.ref C_AxiomError) = some (.type "type"))
    (hd_AxiomError : PySem.W.hasDictIn K C_AxiomError = true)
    (ga_AxiomError : PySem.W.findIn K (.ref C_AxiomError) "__getattribute__" = some (some (.builtin "BaseException.__getattribute__")))
    (gg_AxiomError : PySem.W.findIn K (.ref C_AxiomError) "__getattr__" = some none)
    (cc_AxiomError : PySem.W.findIn K (.ref C_AxiomError) "__class__" = some (some (.builtin "object.__class__")))
    (mo_AxiomError : PySem.W.mroIn K C_AxiomError (.type "object") = some true)
    (s_AxiomError_WorthError : PySem.W.subIn K (.ref C_AxiomError) (.ref C_WorthError) = some true)
    (pg_Circuits : PySem.W.plainGet K C_Circuits Str.empty = true)
    (hd_Circuits : PySem.W.hasDictIn K C_Circuits = true)
    (po_Circuits : PySem.W.plainOver K C_Circuits = true)
    (sa_Circuits : PySem.W.findIn K (.ref C_Circuits) "__setattr__" = some (some (.builtin "object.__setattr__")))
    (mk_Circuits : PySem.W.makesIn K C_Circuits = true)
    (kc_Circuits : PySem.W.keepIn K (.ref C_Circuits) = true)
    (pg_Reckoner : PySem.W.plainGet K C_Reckoner Str.empty = true)
    (hd_Reckoner : PySem.W.hasDictIn K C_Reckoner = true)
    (po_Reckoner : PySem.W.plainOver K C_Reckoner = true)
    (sa_Reckoner : PySem.W.findIn K (.ref C_Reckoner) "__setattr__" = some (some (.builtin "object.__setattr__")))
    (mk_Reckoner : PySem.W.makesIn K C_Reckoner = true)
    (kc_Reckoner : PySem.W.keepIn K (.ref C_Reckoner) = true)
    (pg_Exchange : PySem.W.plainGet K C_Exchange Str.empty = true)
    (hd_Exchange : PySem.W.hasDictIn K C_Exchange = true)
    (po_Exchange : PySem.W.plainOver K C_Exchange = true)
    (sa_Exchange : PySem.W.findIn K (.ref C_Exchange) "__setattr__" = some (some (.builtin "object.__setattr__")))
    (mk_Exchange : PySem.W.makesIn K C_Exchange = true)
    (kc_Exchange : PySem.W.keepIn K (.ref C_Exchange) = true)
    (pg_Finite : PySem.W.plainGet K C_Finite Str.empty = true)
    (hd_Finite : PySem.W.hasDictIn K C_Finite = true)
    (po_Finite : PySem.W.plainOver K C_Finite = true)
    (sa_Finite : PySem.W.findIn K (.ref C_Finite) "__setattr__" = some (some (.builtin "object.__setattr__")))
    (mk_Finite : PySem.W.makesIn K C_Finite = true)
    (kc_Finite : PySem.W.keepIn K (.ref C_Finite) = true)
    (spc : PySem.W.specialIn K (.builtin "object.__class__") "__get__" = some (some (.builtin "getset_descriptor.__get__")))
    (tki : PySem.W.takesIn K (.builtin "object.__class__") = some true)
    (n_Finite__plus : PySem.W.findIn K (.ref C_Finite) "_plus" = some none)
    (n_Finite__times : PySem.W.findIn K (.ref C_Finite) "_times" = some none)
    (n_Finite__one : PySem.W.findIn K (.ref C_Finite) "_one" = some none)
    (n_Finite__stars : PySem.W.findIn K (.ref C_Finite) "_stars" = some none)
    (n_Circuits__shown : PySem.W.findIn K (.ref C_Circuits) "_shown" = some none)
    (n_Circuits__numbers : PySem.W.findIn K (.ref C_Circuits) "_numbers" = some none)
    (n_Reckoner__semiring : PySem.W.findIn K (.ref C_Reckoner) "_semiring" = some none)
    (n_Reckoner__worths : PySem.W.findIn K (.ref C_Reckoner) "_worths" = some none)
    (n_Exchange__circuits : PySem.W.findIn K (.ref C_Exchange) "_circuits" = some none)
    (n_Exchange__nodes : PySem.W.findIn K (.ref C_Exchange) "_nodes" = some none)
    (g_MOST_NODES : PySem.W.nsIn K mainGlobals "MOST_NODES" = some (some (.int 20000 tk_MOST_NODES)))
    (g_MOST_IN_ONE : PySem.W.nsIn K mainGlobals "MOST_IN_ONE" = some (some (.int 2000 tk_MOST_IN_ONE)))
    (g_ZERO : PySem.W.nsIn K mainGlobals "ZERO" = some (some (.int 0 tk_ZERO)))
    (g_ONE : PySem.W.nsIn K mainGlobals "ONE" = some (some (.int 1 tk_ONE)))
    (g_MOST_NUMBERS : PySem.W.nsIn K mainGlobals "MOST_NUMBERS" = some (some (.int 32 tk_MOST_NUMBERS)))
    (z_isinstance : PySem.W.nsIn K mainGlobals "isinstance" = some none)
    (z_int : PySem.W.nsIn K mainGlobals "int" = some none)
    (z_bool : PySem.W.nsIn K mainGlobals "bool" = some none)
    (z_list : PySem.W.nsIn K mainGlobals "list" = some none)
    (z_tuple : PySem.W.nsIn K mainGlobals "tuple" = some none)
    (z_min : PySem.W.nsIn K mainGlobals "min" = some none)
    (z_max : PySem.W.nsIn K mainGlobals "max" = some none)
    (z_abs : PySem.W.nsIn K mainGlobals "abs" = some none)
    (z_len : PySem.W.nsIn K mainGlobals "len" = some none)
    (z_range : PySem.W.nsIn K mainGlobals "range" = some none)
    (z_all : PySem.W.nsIn K mainGlobals "all" = some none)
    (z_any : PySem.W.nsIn K mainGlobals "any" = some none)
    (z_dict : PySem.W.nsIn K mainGlobals "dict" = some none)
    (z_sorted : PySem.W.nsIn K mainGlobals "sorted" = some none)
    (z_sum : PySem.W.nsIn K mainGlobals "sum" = some none)
    (dl_Finite_init : K.lookup dT_Finite_init = some ⟨dc_d_Finite_init, dd_d_Finite_init, .seq #[Value.none] dn_d_Finite_init, ds_d_Finite_init⟩)
    (nt_sizes_fit : K.lookup PP_sizes_fit = none)
    (ch_sizes_fit : PySem.W.codeHdIn K cc_sizes_fit PP_sizes_fit = true)
    (nt_entries_fit : K.lookup PP_entries_fit = none)
    (ch_entries_fit : PySem.W.codeHdIn K cc_entries_fit PP_entries_fit = true)
    (nt_is_symmetric : K.lookup PP_is_symmetric = none)
    (ch_is_symmetric : PySem.W.codeHdIn K cc_is_symmetric PP_is_symmetric = true)
    (nt_is_associative : K.lookup PP_is_associative = none)
    (ch_is_associative : PySem.W.codeHdIn K cc_is_associative PP_is_associative = true)
    (nt_is_neutral : K.lookup PP_is_neutral = none)
    (ch_is_neutral : PySem.W.codeHdIn K cc_is_neutral PP_is_neutral = true)
    (nt_is_distributive : K.lookup PP_is_distributive = none)
    (ch_is_distributive : PySem.W.codeHdIn K cc_is_distributive PP_is_distributive = true)
    : LamX.LawAtS l w K (L2.CX l.prog w) 21 63 "script" mg fa h := by
  have e := hfa.symm.trans (PySem.W.mg_of X G a_law)
  cases e
  have F_Circuits_init := fun_mk (st := s_Circuits_init) l_Circuits_init c_Circuits_init k_Circuits_init
  have b_Circuits_init := F_Circuits_init.binds (ps := ["self"]) fun _ _ _ _ _ _ us hl => match us, hl with | [_], _ => rfl
  have F_Circuits_fact := fun_mk (st := s_Circuits_fact) l_Circuits_fact c_Circuits_fact k_Circuits_fact
  have b_Circuits_fact := F_Circuits_fact.binds (ps := ["self", "k"]) fun _ _ _ _ _ _ us hl => match us, hl with | [_, _], _ => rfl
  have F_Circuits_plus := fun_mk (st := s_Circuits_plus) l_Circuits_plus c_Circuits_plus k_Circuits_plus
  have b_Circuits_plus := F_Circuits_plus.binds (ps := ["self", "nodes"]) fun _ _ _ _ _ _ us hl => match us, hl with | [_, _], _ => rfl
  have F_Circuits_times := fun_mk (st := s_Circuits_times) l_Circuits_times c_Circuits_times k_Circuits_times
  have b_Circuits_times := F_Circuits_times.binds (ps := ["self", "nodes"]) fun _ _ _ _ _ _ us hl => match us, hl with | [_, _], _ => rfl
  have F_Circuits_star := fun_mk (st := s_Circuits_star) l_Circuits_star c_Circuits_star k_Circuits_star
  have b_Circuits_star := F_Circuits_star.binds (ps := ["self", "node"]) fun _ _ _ _ _ _ us hl => match us, hl with | [_, _], _ => rfl
  have F_Circuits_shown := fun_mk (st := s_Circuits_shown) l_Circuits_shown c_Circuits_shown k_Circuits_shown
  have b_Circuits_shown := F_Circuits_shown.binds (ps := ["self", "node"]) fun _ _ _ _ _ _ us hl => match us, hl with | [_, _], _ => rfl
  have F_Circuits_count := fun_mk (st := s_Circuits_count) l_Circuits_count c_Circuits_count k_Circuits_count
  have b_Circuits_count := F_Circuits_count.binds (ps := ["self"]) fun _ _ _ _ _ _ us hl => match us, hl with | [_], _ => rfl
  have F_Circuits_several := fun_mk (st := s_Circuits_several) l_Circuits_several c_Circuits_several k_Circuits_several
  have b_Circuits_several := F_Circuits_several.binds (ps := ["self", "word", "nodes", "neutral"]) fun _ _ _ _ _ _ us hl => match us, hl with | [_, _, _, _], _ => rfl
  have F_Circuits_node := fun_mk (st := s_Circuits_node) l_Circuits_node c_Circuits_node k_Circuits_node
  have b_Circuits_node := F_Circuits_node.binds (ps := ["self", "shown"]) fun _ _ _ _ _ _ us hl => match us, hl with | [_, _], _ => rfl
  have F_Reckoner_init := fun_mk (st := s_Reckoner_init) l_Reckoner_init c_Reckoner_init k_Reckoner_init
  have b_Reckoner_init := F_Reckoner_init.binds (ps := ["self", "semiring", "worths"]) fun _ _ _ _ _ _ us hl => match us, hl with | [_, _, _], _ => rfl
  have F_Reckoner_fact := fun_mk (st := s_Reckoner_fact) l_Reckoner_fact c_Reckoner_fact k_Reckoner_fact
  have b_Reckoner_fact := F_Reckoner_fact.binds (ps := ["self", "k"]) fun _ _ _ _ _ _ us hl => match us, hl with | [_, _], _ => rfl
  have F_Reckoner_plus := fun_mk (st := s_Reckoner_plus) l_Reckoner_plus c_Reckoner_plus k_Reckoner_plus
  have b_Reckoner_plus := F_Reckoner_plus.binds (ps := ["self", "parts"]) fun _ _ _ _ _ _ us hl => match us, hl with | [_, _], _ => rfl
  have F_Reckoner_times := fun_mk (st := s_Reckoner_times) l_Reckoner_times c_Reckoner_times k_Reckoner_times
  have b_Reckoner_times := F_Reckoner_times.binds (ps := ["self", "parts"]) fun _ _ _ _ _ _ us hl => match us, hl with | [_, _], _ => rfl
  have F_Reckoner_star := fun_mk (st := s_Reckoner_star) l_Reckoner_star c_Reckoner_star k_Reckoner_star
  have b_Reckoner_star := F_Reckoner_star.binds (ps := ["self", "part"]) fun _ _ _ _ _ _ us hl => match us, hl with | [_, _], _ => rfl
  have F_Exchange_init := fun_mk (st := s_Exchange_init) l_Exchange_init c_Exchange_init k_Exchange_init
  have b_Exchange_init := F_Exchange_init.binds (ps := ["self", "circuits", "nodes"]) fun _ _ _ _ _ _ us hl => match us, hl with | [_, _, _], _ => rfl
  have F_Exchange_fact := fun_mk (st := s_Exchange_fact) l_Exchange_fact c_Exchange_fact k_Exchange_fact
  have b_Exchange_fact := F_Exchange_fact.binds (ps := ["self", "k"]) fun _ _ _ _ _ _ us hl => match us, hl with | [_, _], _ => rfl
  have F_Exchange_plus := fun_mk (st := s_Exchange_plus) l_Exchange_plus c_Exchange_plus k_Exchange_plus
  have b_Exchange_plus := F_Exchange_plus.binds (ps := ["self", "parts"]) fun _ _ _ _ _ _ us hl => match us, hl with | [_, _], _ => rfl
  have F_Exchange_times := fun_mk (st := s_Exchange_times) l_Exchange_times c_Exchange_times k_Exchange_times
  have b_Exchange_times := F_Exchange_times.binds (ps := ["self", "parts"]) fun _ _ _ _ _ _ us hl => match us, hl with | [_, _], _ => rfl
  have F_Exchange_star := fun_mk (st := s_Exchange_star) l_Exchange_star c_Exchange_star k_Exchange_star
  have b_Exchange_star := F_Exchange_star.binds (ps := ["self", "part"]) fun _ _ _ _ _ _ us hl => match us, hl with | [_, _], _ => rfl
  have F_nodes_within := fun_mk (st := s_nodes_within) l_nodes_within c_nodes_within k_nodes_within
  have b_nodes_within := F_nodes_within.binds (ps := ["circuits", "nodes"]) fun _ _ _ _ _ _ us hl => match us, hl with | [_, _], _ => rfl
  have F_parts := fun_mk (st := s_parts) l_parts c_parts k_parts
  have b_parts := F_parts.binds (ps := ["shown"]) fun _ _ _ _ _ _ us hl => match us, hl with | [_], _ => rfl
  have F_all_made := fun_mk (st := s_all_made) l_all_made c_all_made k_all_made
  have b_all_made := F_all_made.binds (ps := ["circuits", "nodes", "maker"]) fun _ _ _ _ _ _ us hl => match us, hl with | [_, _, _], _ => rfl
  have F_made := fun_mk (st := s_made) l_made c_made k_made
  have b_made := F_made.binds (ps := ["shown", "made", "maker"]) fun _ _ _ _ _ _ us hl => match us, hl with | [_, _, _], _ => rfl
  have F_worth := fun_mk (st := s_worth) l_worth c_worth k_worth
  have b_worth := F_worth.binds (ps := ["circuits", "node", "semiring", "worths"]) fun _ _ _ _ _ _ us hl => match us, hl with | [_, _, _, _], _ => rfl
  have F_put_in := fun_mk (st := s_put_in) l_put_in c_put_in k_put_in
  have b_put_in := F_put_in.binds (ps := ["circuits", "node", "nodes"]) fun _ _ _ _ _ _ us hl => match us, hl with | [_, _, _], _ => rfl
  have F_carried := fun_mk (st := s_carried) l_carried c_carried k_carried
  have b_carried := F_carried.binds (ps := ["source", "node", "target", "nodes"]) fun _ _ _ _ _ _ us hl => match us, hl with | [_, _, _, _], _ => rfl
  have F_is_integer := fun_mk (st := s_is_integer) l_is_integer c_is_integer k_is_integer
  have b_is_integer := F_is_integer.binds (ps := ["thing"]) fun _ _ _ _ _ _ us hl => match us, hl with | [_], _ => rfl
  have F_is_between := fun_mk (st := s_is_between) l_is_between c_is_between k_is_between
  have b_is_between := F_is_between.binds (ps := ["thing", "low", "high"]) fun _ _ _ _ _ _ us hl => match us, hl with | [_, _, _], _ => rfl
  have F_Finite_init : FunD K "__init__" "Finite.__init__" (defArgs s_Finite_init) (defBody s_Finite_init) (defScope s_Finite_init) [V.non] [] f_Finite_init (PySem.W.fnOf "__init__" "Finite.__init__" (defArgs s_Finite_init) (defBody s_Finite_init) (defScope s_Finite_init) (.ref dT_Finite_init) kV_Finite_init dc_Finite_init pm_Finite_init an_Finite_init cd_Finite_init ct_Finite_init) := ⟨⟨_, _, _, _, _, _, _, _, _, _, rfl, l_Finite_init, c_Finite_init, .inr ⟨by simp, dT_Finite_init, _, [Value.none], _, rfl, dl_Finite_init, rfl, .cons rfl .nil⟩, .inl rfl⟩, k_Finite_init⟩
  have b_Finite_init : Binds K (PySem.W.fnOf "__init__" "Finite.__init__" (defArgs s_Finite_init) (defBody s_Finite_init) (defScope s_Finite_init) (.ref dT_Finite_init) kV_Finite_init dc_Finite_init pm_Finite_init an_Finite_init cd_Finite_init ct_Finite_init) ["self", "plus_table", "times_table", "one", "stars"] [] := by
    obtain ⟨ds, v, b⟩ := F_Finite_init.binds1 (ps := ["self", "plus_table", "times_table", "one", "stars"]) 5 1 (by simp) rfl fun T kV doc pm an cdv ct us its hl hl2 => match us, its, hl, hl2 with | [_, _, _, _, _], [_], _, _ => ⟨_, rfl, rfl⟩
    cases v
    exact b
  have F_Finite_zero := fun_mk (st := s_Finite_zero) l_Finite_zero c_Finite_zero k_Finite_zero
  have b_Finite_zero := F_Finite_zero.binds (ps := ["self"]) fun _ _ _ _ _ _ us hl => match us, hl with | [_], _ => rfl
  have F_Finite_one := fun_mk (st := s_Finite_one) l_Finite_one c_Finite_one k_Finite_one
  have b_Finite_one := F_Finite_one.binds (ps := ["self"]) fun _ _ _ _ _ _ us hl => match us, hl with | [_], _ => rfl
  have F_Finite_plus := fun_mk (st := s_Finite_plus) l_Finite_plus c_Finite_plus k_Finite_plus
  have b_Finite_plus := F_Finite_plus.binds (ps := ["self", "a", "b"]) fun _ _ _ _ _ _ us hl => match us, hl with | [_, _, _], _ => rfl
  have F_Finite_times := fun_mk (st := s_Finite_times) l_Finite_times c_Finite_times k_Finite_times
  have b_Finite_times := F_Finite_times.binds (ps := ["self", "a", "b"]) fun _ _ _ _ _ _ us hl => match us, hl with | [_, _, _], _ => rfl
  have F_Finite_star := fun_mk (st := s_Finite_star) l_Finite_star c_Finite_star k_Finite_star
  have b_Finite_star := F_Finite_star.binds (ps := ["self", "a"]) fun _ _ _ _ _ _ us hl => match us, hl with | [_, _], _ => rfl
  have F_Finite_size := fun_mk (st := s_Finite_size) l_Finite_size c_Finite_size k_Finite_size
  have b_Finite_size := F_Finite_size.binds (ps := ["self"]) fun _ _ _ _ _ _ us hl => match us, hl with | [_], _ => rfl
  have F_copied := fun_mk (st := s_copied) l_copied c_copied k_copied
  have b_copied := F_copied.binds (ps := ["table"]) fun _ _ _ _ _ _ us hl => match us, hl with | [_], _ => rfl
  have F_first_failure := fun_mk (st := s_first_failure) l_first_failure c_first_failure k_first_failure
  have b_first_failure := F_first_failure.binds (ps := ["plus", "times", "one", "stars"]) fun _ _ _ _ _ _ us hl => match us, hl with | [_, _, _, _], _ => rfl
  have FC_sizes_fit := Tb.func_mk (st := s_sizes_fit) l_sizes_fit c_sizes_fit k_sizes_fit
  have F_sizes_fit := FC_sizes_fit.fun_
  have b_sizes_fit := F_sizes_fit.binds (ps := ["plus", "times", "stars"]) fun _ _ _ _ _ _ us hl => match us, hl with | [_, _, _], _ => rfl
  have FC_entries_fit := Tb.func_mk (st := s_entries_fit) l_entries_fit c_entries_fit k_entries_fit
  have F_entries_fit := FC_entries_fit.fun_
  have b_entries_fit := F_entries_fit.binds (ps := ["plus", "times", "one", "stars"]) fun _ _ _ _ _ _ us hl => match us, hl with | [_, _, _, _], _ => rfl
  have FC_is_symmetric := Tb.func_mk (st := s_is_symmetric) l_is_symmetric c_is_symmetric k_is_symmetric
  have F_is_symmetric := FC_is_symmetric.fun_
  have b_is_symmetric := F_is_symmetric.binds (ps := ["table"]) fun _ _ _ _ _ _ us hl => match us, hl with | [_], _ => rfl
  have FC_is_associative := Tb.func_mk (st := s_is_associative) l_is_associative c_is_associative k_is_associative
  have F_is_associative := FC_is_associative.fun_
  have b_is_associative := F_is_associative.binds (ps := ["table"]) fun _ _ _ _ _ _ us hl => match us, hl with | [_], _ => rfl
  have FC_is_neutral := Tb.func_mk (st := s_is_neutral) l_is_neutral c_is_neutral k_is_neutral
  have F_is_neutral := FC_is_neutral.fun_
  have b_is_neutral := F_is_neutral.binds (ps := ["table", "number"]) fun _ _ _ _ _ _ us hl => match us, hl with | [_, _], _ => rfl
  have FC_is_distributive := Tb.func_mk (st := s_is_distributive) l_is_distributive c_is_distributive k_is_distributive
  have F_is_distributive := FC_is_distributive.fun_
  have b_is_distributive := F_is_distributive.binds (ps := ["plus", "times"]) fun _ _ _ _ _ _ us hl => match us, hl with | [_, _], _ => rfl
  have F_stars_fit := fun_mk (st := s_stars_fit) l_stars_fit c_stars_fit k_stars_fit
  have b_stars_fit := F_stars_fit.binds (ps := ["plus", "times", "one", "stars"]) fun _ _ _ _ _ _ us hl => match us, hl with | [_, _, _, _], _ => rfl
  have F_law_pot := fun_mk (st := s_law_pot) l_law_pot c_law_pot k_law_pot
  have b_law_pot := F_law_pot.binds (ps := ["script"]) fun _ _ _ _ _ _ us hl => match us, hl with | [_], _ => rfl
  have F_law_next := fun_mk (st := s_law_next) l_law_next c_law_next k_law_next
  have b_law_next := F_law_next.binds (ps := ["pot", "limit"]) fun _ _ _ _ _ _ us hl => match us, hl with | [_, _], _ => rfl
  have F_law_family := fun_mk (st := s_law_family) l_law_family c_law_family k_law_family
  have b_law_family := F_law_family.binds (ps := ["pot", "kind", "small"]) fun _ _ _ _ _ _ us hl => match us, hl with | [_, _, _], _ => rfl
  have F_law_paired := fun_mk (st := s_law_paired) l_law_paired c_law_paired k_law_paired
  have b_law_paired := F_law_paired.binds (ps := ["one", "other"]) fun _ _ _ _ _ _ us hl => match us, hl with | [_, _], _ => rfl
  have F_law_renamed := fun_mk (st := s_law_renamed) l_law_renamed c_law_renamed k_law_renamed
  have b_law_renamed := F_law_renamed.binds (ps := ["pot", "told"]) fun _ _ _ _ _ _ us hl => match us, hl with | [_, _], _ => rfl
  have F_law_stars := fun_mk (st := s_law_stars) l_law_stars c_law_stars k_law_stars
  have b_law_stars := F_law_stars.binds (ps := ["pot", "told"]) fun _ _ _ _ _ _ us hl => match us, hl with | [_, _], _ => rfl
  have F_law_ring := fun_mk (st := s_law_ring) l_law_ring c_law_ring k_law_ring
  have b_law_ring := F_law_ring.binds (ps := ["pot"]) fun _ _ _ _ _ _ us hl => match us, hl with | [_], _ => rfl
  have F_law_grown := fun_mk (st := s_law_grown) l_law_grown c_law_grown k_law_grown
  have b_law_grown := F_law_grown.binds (ps := ["pot", "circuits", "facts", "stars"]) fun _ _ _ _ _ _ us hl => match us, hl with | [_, _, _, _], _ => rfl
  have F_law_found := fun_mk (st := s_law_found) l_law_found c_law_found k_law_found
  have b_law_found := F_law_found.binds (ps := ["circuits", "node", "ring", "worths"]) fun _ _ _ _ _ _ us hl => match us, hl with | [_, _, _, _], _ => rfl
  have F_law := fun_mk (st := s_law) l_law c_law k_law
  have b_law := F_law.binds (ps := ["script"]) fun _ _ _ _ _ _ us hl => match us, hl with | [_], _ => rfl
  have cl_Finite : Cls K C_Finite := ⟨pg_Finite, hd_Finite, po_Finite, sa_Finite⟩
  have cl_Circuits : Cls K C_Circuits := ⟨pg_Circuits, hd_Circuits, po_Circuits, sa_Circuits⟩
  have cl_Reckoner : Cls K C_Reckoner := ⟨pg_Reckoner, hd_Reckoner, po_Reckoner, sa_Reckoner⟩
  have cl_Exchange : Cls K C_Exchange := ⟨pg_Exchange, hd_Exchange, po_Exchange, sa_Exchange⟩
  let ad : Ad := ⟨C_WorthError, C_NoStar, C_AxiomError, C_Finite, C_TooLarge, C_Circuits, C_Reckoner, C_Exchange⟩
  have kself : ∀ C : Addr, PySem.W.kitOne K (.ref C) (.ref C) = some true := fun C => by
    show (if (Value.ref C == Value.ref C) = true then some true else _) = some true
    rw [if_pos (by simp)]
  have T : Txt K mg ad :=
    { z_isinstance := PySem.W.mg_none_of X G z_isinstance, z_int := PySem.W.mg_none_of X G z_int, z_bool := PySem.W.mg_none_of X G z_bool, z_list := PySem.W.mg_none_of X G z_list, z_tuple := PySem.W.mg_none_of X G z_tuple,
      z_min := PySem.W.mg_none_of X G z_min, z_max := PySem.W.mg_none_of X G z_max, z_abs := PySem.W.mg_none_of X G z_abs, z_len := PySem.W.mg_none_of X G z_len, z_range := PySem.W.mg_none_of X G z_range, z_all := PySem.W.mg_none_of X G z_all, z_any := PySem.W.mg_none_of X G z_any, z_dict := PySem.W.mg_none_of X G z_dict, z_sorted := PySem.W.mg_none_of X G z_sorted, z_sum := PySem.W.mg_none_of X G z_sum,
      g_MOST_NUMBERS := ⟨_, PySem.W.mg_of X G g_MOST_NUMBERS⟩, g_MOST_NODES := ⟨_, PySem.W.mg_of X G g_MOST_NODES⟩, g_MOST_IN_ONE := ⟨_, PySem.W.mg_of X G g_MOST_IN_ONE⟩, g_ZERO := ⟨_, PySem.W.mg_of X G g_ZERO⟩, g_ONE := ⟨_, PySem.W.mg_of X G g_ONE⟩, g_TooLarge := PySem.W.mg_of X G aC_TooLarge,
      x_TooLarge := x_TooLarge, k_TooLarge := kp_TooLarge, b_TooLarge := b_TooLarge, t_TooLarge := t_TooLarge,
      g_WorthError := PySem.W.mg_of X G aC_WorthError, g_NoStar := PySem.W.mg_of X G aC_NoStar,
      x_NoStar := x_NoStar, k_NoStar := kp_NoStar, b_NoStar := b_NoStar, t_NoStar := t_NoStar,
      ec_NoStar := ⟨ga_NoStar, gg_NoStar, b_NoStar, hd_NoStar, cc_NoStar, spc, tki, mo_NoStar⟩,
      em_NoStar := PySem.W.exm_ref b_WorthError hd_WorthError t_WorthError s_NoStar_WorthError, ki_NoStar := kself _,
      c_Finite := cl_Finite, c_Circuits := cl_Circuits, c_Reckoner := cl_Reckoner, c_Exchange := cl_Exchange,
      n_plus := n_Finite__plus, n_times := n_Finite__times, n_one := n_Finite__one, n_stars := n_Finite__stars, n_shown := n_Circuits__shown, n_numbers := n_Circuits__numbers, n_semiring := n_Reckoner__semiring, n_worths := n_Reckoner__worths, n_circuits := n_Exchange__circuits, n_nodes := n_Exchange__nodes }
  refine ⟨PySem.W.fnOf "law" "law" (defArgs s_law) (defBody s_law) (defScope s_law) .none kV_law dc_law pm_law an_law cd_law ct_law, [(cc_sizes_fit, PP_sizes_fit), (cc_entries_fit, PP_entries_fit), (cc_is_symmetric, PP_is_symmetric), (cc_is_associative, PP_is_associative), (cc_is_neutral, PP_is_neutral), (cc_is_distributive, PP_is_distributive)], spLaw K PP_sizes_fit PP_entries_fit PP_is_symmetric PP_is_associative PP_is_neutral PP_is_distributive, (List.forall_mem_cons.mpr ⟨TA_sizes_fit, (List.forall_mem_cons.mpr ⟨TA_entries_fit, (List.forall_mem_cons.mpr ⟨TA_is_symmetric, (List.forall_mem_cons.mpr ⟨TA_is_associative, (List.forall_mem_cons.mpr ⟨TA_is_neutral, (List.forall_mem_cons.mpr ⟨TA_is_distributive, (fun _ z => nomatch z)⟩)⟩)⟩)⟩)⟩)⟩), (List.forall_mem_cons.mpr ⟨nt_sizes_fit, (List.forall_mem_cons.mpr ⟨nt_entries_fit, (List.forall_mem_cons.mpr ⟨nt_is_symmetric, (List.forall_mem_cons.mpr ⟨nt_is_associative, (List.forall_mem_cons.mpr ⟨nt_is_neutral, (List.forall_mem_cons.mpr ⟨nt_is_distributive, (fun _ z => nomatch z)⟩)⟩)⟩)⟩)⟩)⟩), (List.forall_mem_cons.mpr ⟨PySem.W.codeHd_of_K X ch_sizes_fit, (List.forall_mem_cons.mpr ⟨PySem.W.codeHd_of_K X ch_entries_fit, (List.forall_mem_cons.mpr ⟨PySem.W.codeHd_of_K X ch_is_symmetric, (List.forall_mem_cons.mpr ⟨PySem.W.codeHd_of_K X ch_is_associative, (List.forall_mem_cons.mpr ⟨PySem.W.codeHd_of_K X ch_is_neutral, (List.forall_mem_cons.mpr ⟨PySem.W.codeHd_of_K X ch_is_distributive, (fun _ z => nomatch z)⟩)⟩)⟩)⟩)⟩)⟩), fun s v => .of_eq rfl, ?_, fun base _ _ TBa => ?_⟩
  · intro H a ns hl _ hT hS
    have tg : ∀ P, H P = some (.tbl #[]) → TabG H P := fun P e => ⟨#[], e, by first | trivial | decide | exact TriplesOk_nil | simp [TriplesOk]⟩
    exact ⟨a, ns, rfl, hS, hl, tg _ (hT (cc_sizes_fit, PP_sizes_fit) (by simp)), tg _ (hT (cc_entries_fit, PP_entries_fit) (by simp)), tg _ (hT (cc_is_symmetric, PP_is_symmetric) (by simp)), tg _ (hT (cc_is_associative, PP_is_associative) (by simp)), tg _ (hT (cc_is_neutral, PP_is_neutral) (by simp)), tg _ (hT (cc_is_distributive, PP_is_distributive) (by simp)), fun _ => rfl⟩
  have TB_sizes_fit : GxR.TabB base mg cc_sizes_fit PP_sizes_fit := by
    have z := TBa (cc_sizes_fit, PP_sizes_fit) (by simp)
    exact ⟨z.code, z.bm, z.gP⟩
  have TB_entries_fit : GxR.TabB base mg cc_entries_fit PP_entries_fit := by
    have z := TBa (cc_entries_fit, PP_entries_fit) (by simp)
    exact ⟨z.code, z.bm, z.gP⟩
  have TB_is_symmetric : GxR.TabB base mg cc_is_symmetric PP_is_symmetric := by
    have z := TBa (cc_is_symmetric, PP_is_symmetric) (by simp)
    exact ⟨z.code, z.bm, z.gP⟩
  have TB_is_associative : GxR.TabB base mg cc_is_associative PP_is_associative := by
    have z := TBa (cc_is_associative, PP_is_associative) (by simp)
    exact ⟨z.code, z.bm, z.gP⟩
  have TB_is_neutral : GxR.TabB base mg cc_is_neutral PP_is_neutral := by
    have z := TBa (cc_is_neutral, PP_is_neutral) (by simp)
    exact ⟨z.code, z.bm, z.gP⟩
  have TB_is_distributive : GxR.TabB base mg cc_is_distributive PP_is_distributive := by
    have z := TBa (cc_is_distributive, PP_is_distributive) (by simp)
    exact ⟨z.code, z.bm, z.gP⟩
  have c_is_integer := cal_mk (x := "is_integer") (ok_is_integer (P := l.prog) (w := w) (K := K) (mg := mg) (base := base) (ad := ad) F_is_integer T) (PySem.W.mg_of X G a_is_integer) k_is_integer b_is_integer
  have c_is_between := cal_mk (x := "is_between") (ok_is_between (P := l.prog) (w := w) (K := K) (mg := mg) (base := base) (ad := ad) c_is_integer F_is_between T) (PySem.W.mg_of X G a_is_between) k_is_between b_is_between
  have c_copied := cal_mk (x := "_copied") (ok_copied (P := l.prog) (w := w) (K := K) (mg := mg) (base := base) (ad := ad) F_copied T) (PySem.W.mg_of X G a_copied) k_copied b_copied
  have c_sizes_fit := cal_mk (x := "_sizes_fit") (ok_sizes_fit (P := l.prog) (w := w) (K := K) (mg := mg) (base := base) (ad := ad) FC_sizes_fit TB_sizes_fit T) (PySem.W.mg_of X G a_sizes_fit) k_sizes_fit b_sizes_fit
  have c_entries_fit := cal_mk (x := "_entries_fit") (ok_entries_fit (P := l.prog) (w := w) (K := K) (mg := mg) (base := base) (ad := ad) c_is_between FC_entries_fit TB_entries_fit T) (PySem.W.mg_of X G a_entries_fit) k_entries_fit b_entries_fit
  have c_is_symmetric := cal_mk (x := "_is_symmetric") (ok_is_symmetric (P := l.prog) (w := w) (K := K) (mg := mg) (base := base) (ad := ad) FC_is_symmetric TB_is_symmetric T) (PySem.W.mg_of X G a_is_symmetric) k_is_symmetric b_is_symmetric
  have c_is_associative := cal_mk (x := "_is_associative") (ok_is_associative (P := l.prog) (w := w) (K := K) (mg := mg) (base := base) (ad := ad) FC_is_associative TB_is_associative T) (PySem.W.mg_of X G a_is_associative) k_is_associative b_is_associative
  have c_is_neutral := cal_mk (x := "_is_neutral") (ok_is_neutral (P := l.prog) (w := w) (K := K) (mg := mg) (base := base) (ad := ad) FC_is_neutral TB_is_neutral T) (PySem.W.mg_of X G a_is_neutral) k_is_neutral b_is_neutral
  have c_is_distributive := cal_mk (x := "_is_distributive") (ok_is_distributive (P := l.prog) (w := w) (K := K) (mg := mg) (base := base) (ad := ad) FC_is_distributive TB_is_distributive T) (PySem.W.mg_of X G a_is_distributive) k_is_distributive b_is_distributive
  have c_stars_fit := cal_mk (x := "_stars_fit") (ok_stars_fit (P := l.prog) (w := w) (K := K) (mg := mg) (base := base) (ad := ad) F_stars_fit T) (PySem.W.mg_of X G a_stars_fit) k_stars_fit b_stars_fit
  have c_first_failure := cal_mk (x := "_first_failure") (ok_first_failure (P := l.prog) (w := w) (K := K) (mg := mg) (base := base) (ad := ad) c_sizes_fit c_entries_fit c_is_symmetric c_is_associative c_is_neutral c_is_distributive c_stars_fit F_first_failure T) (PySem.W.mg_of X G a_first_failure) k_first_failure b_first_failure
  have c_law_pot := cal_mk (x := "_law_pot") (ok_law_pot (P := l.prog) (w := w) (K := K) (mg := mg) (base := base) (ad := ad) F_law_pot T) (PySem.W.mg_of X G a_law_pot) k_law_pot b_law_pot
  have c_law_next := cal_mk (x := "_law_next") (ok_law_next (P := l.prog) (w := w) (K := K) (mg := mg) (base := base) (ad := ad) F_law_next T) (PySem.W.mg_of X G a_law_next) k_law_next b_law_next
  have c_law_family := cal_mk (x := "_law_family") (ok_law_family (P := l.prog) (w := w) (K := K) (mg := mg) (base := base) (ad := ad) c_law_next F_law_family T) (PySem.W.mg_of X G a_law_family) k_law_family b_law_family
  have c_law_paired := cal_mk (x := "_law_paired") (ok_law_paired (P := l.prog) (w := w) (K := K) (mg := mg) (base := base) (ad := ad) F_law_paired T) (PySem.W.mg_of X G a_law_paired) k_law_paired b_law_paired
  have c_law_renamed := cal_mk (x := "_law_renamed") (ok_law_renamed (P := l.prog) (w := w) (K := K) (mg := mg) (base := base) (ad := ad) c_law_next F_law_renamed T) (PySem.W.mg_of X G a_law_renamed) k_law_renamed b_law_renamed
  have c_law_stars := cal_mk (x := "_law_stars") (ok_law_stars (P := l.prog) (w := w) (K := K) (mg := mg) (base := base) (ad := ad) c_law_next F_law_stars T) (PySem.W.mg_of X G a_law_stars) k_law_stars b_law_stars
  have c_law_ring := cal_mk (x := "_law_ring") (ok_law_ring (P := l.prog) (w := w) (K := K) (mg := mg) (base := base) (ad := ad) c_law_next c_law_family c_law_paired c_law_renamed c_law_stars F_law_ring T) (PySem.W.mg_of X G a_law_ring) k_law_ring b_law_ring
  have c_parts := cal_mk (x := "_parts") (ok_parts (P := l.prog) (w := w) (K := K) (mg := mg) (base := base) (ad := ad) F_parts T) (PySem.W.mg_of X G a_parts) k_parts b_parts
  have okF_init := ok_Finite_init (P := l.prog) (w := w) (K := K) (mg := mg) (base := base) (ad := ad) c_copied c_first_failure F_Finite_init T
  have mFin := mak_mk ⟨mk_Finite, a_Finite_init, i_Finite_init, kc_Finite⟩ (PySem.W.mg_of X G aC_Finite) okF_init b_Finite_init
  have FM : FinM l.prog w K mg base ad :=
    { zero := fun n f g o st => (met_mk cl_Finite ⟨a_Finite_zero, i_Finite_zero, k_Finite_zero⟩ ((ok_Finite_zero (P := l.prog) (w := w) (K := K) (mg := mg) (base := base) (ad := ad) F_Finite_zero T).mono (by decide)) b_Finite_zero)
      one := fun n f g o st => (met_mk cl_Finite ⟨a_Finite_one, i_Finite_one, k_Finite_one⟩ ((ok_Finite_one (P := l.prog) (w := w) (K := K) (mg := mg) (base := base) (ad := ad) F_Finite_one T).mono (by decide)) b_Finite_one)
      plus := fun n f g o st => (met_mk cl_Finite ⟨a_Finite_plus, i_Finite_plus, k_Finite_plus⟩ ((ok_Finite_plus (P := l.prog) (w := w) (K := K) (mg := mg) (base := base) (ad := ad) F_Finite_plus T).mono (by decide)) b_Finite_plus)
      times := fun n f g o st => (met_mk cl_Finite ⟨a_Finite_times, i_Finite_times, k_Finite_times⟩ ((ok_Finite_times (P := l.prog) (w := w) (K := K) (mg := mg) (base := base) (ad := ad) F_Finite_times T).mono (by decide)) b_Finite_times)
      star := fun n f g o st => (met_mk cl_Finite ⟨a_Finite_star, i_Finite_star, k_Finite_star⟩ ((ok_Finite_star (P := l.prog) (w := w) (K := K) (mg := mg) (base := base) (ad := ad) F_Finite_star T).mono (by decide)) b_Finite_star) }
  have m_count1 : MetX l.prog w K mg base 1 C_Circuits "count" (spCount C_Circuits) := (met_mk cl_Circuits ⟨a_Circuits_count, i_Circuits_count, k_Circuits_count⟩ ((ok_Circuits_count (P := l.prog) (w := w) (K := K) (mg := mg) (base := base) (ad := ad) F_Circuits_count T).mono (by decide)) b_Circuits_count)
  have m_shown1 : MetX l.prog w K mg base 1 C_Circuits "shown" (spShown l.prog w C_Circuits) := (met_mk cl_Circuits ⟨a_Circuits_shown, i_Circuits_shown, k_Circuits_shown⟩ ((ok_Circuits_shown (P := l.prog) (w := w) (K := K) (mg := mg) (base := base) (ad := ad) F_Circuits_shown T).mono (by decide)) b_Circuits_shown)
  have m_node2 : MetX l.prog w K mg base 2 C_Circuits "_node" (spNode l.prog w C_Circuits) := (met_mk cl_Circuits ⟨a_Circuits_node, i_Circuits_node, k_Circuits_node⟩ ((ok_Circuits_node (P := l.prog) (w := w) (K := K) (mg := mg) (base := base) (ad := ad) m_count1 F_Circuits_node T).mono (by decide)) b_Circuits_node)
  have m_several3 : MetX l.prog w K mg base 3 C_Circuits "_several" (spSev l.prog w C_Circuits) := (met_mk cl_Circuits ⟨a_Circuits_several, i_Circuits_several, k_Circuits_several⟩ ((ok_Circuits_several (P := l.prog) (w := w) (K := K) (mg := mg) (base := base) (ad := ad) m_node2 F_Circuits_several T).mono (by decide)) b_Circuits_several)
  have m_fact : MetX l.prog w K mg base 4 C_Circuits "fact" (spFact l.prog w C_Circuits) := (met_mk cl_Circuits ⟨a_Circuits_fact, i_Circuits_fact, k_Circuits_fact⟩ ((ok_Circuits_fact (P := l.prog) (w := w) (K := K) (mg := mg) (base := base) (ad := ad) m_node2 F_Circuits_fact T).mono (by decide)) b_Circuits_fact)
  have m_star : MetX l.prog w K mg base 4 C_Circuits "star" (spStar l.prog w C_Circuits) := (met_mk cl_Circuits ⟨a_Circuits_star, i_Circuits_star, k_Circuits_star⟩ ((ok_Circuits_star (P := l.prog) (w := w) (K := K) (mg := mg) (base := base) (ad := ad) m_node2 F_Circuits_star T).mono (by decide)) b_Circuits_star)
  have m_plus : MetX l.prog w K mg base 4 C_Circuits "plus" (spPlus l.prog w C_Circuits .plus 0) := (met_mk cl_Circuits ⟨a_Circuits_plus, i_Circuits_plus, k_Circuits_plus⟩ ((ok_Circuits_plus (P := l.prog) (w := w) (K := K) (mg := mg) (base := base) (ad := ad) m_several3 F_Circuits_plus T).mono (by decide)) b_Circuits_plus)
  have m_times : MetX l.prog w K mg base 4 C_Circuits "times" (spPlus l.prog w C_Circuits .times 1) := (met_mk cl_Circuits ⟨a_Circuits_times, i_Circuits_times, k_Circuits_times⟩ ((ok_Circuits_times (P := l.prog) (w := w) (K := K) (mg := mg) (base := base) (ad := ad) m_several3 F_Circuits_times T).mono (by decide)) b_Circuits_times)
  have c_nodes_within := cal_mk (x := "nodes_within") (ok_nodes_within (P := l.prog) (w := w) (K := K) (mg := mg) (base := base) (ad := ad) c_parts m_shown1 F_nodes_within T) (PySem.W.mg_of X G a_nodes_within) k_nodes_within b_nodes_within
  have mCirc : MakX l.prog w K mg base 1 "Circuits" C_Circuits (spInit l.prog w C_Circuits) := (mak_mk ⟨mk_Circuits, a_Circuits_init, i_Circuits_init, kc_Circuits⟩ (PySem.W.mg_of X G aC_Circuits) (ok_Circuits_init (P := l.prog) (w := w) (K := K) (mg := mg) (base := base) (ad := ad) F_Circuits_init T) b_Circuits_init)
  have mReck : MakX l.prog w K mg base 1 "Reckoner" C_Reckoner (spRI C_Reckoner) := (mak_mk ⟨mk_Reckoner, a_Reckoner_init, i_Reckoner_init, kc_Reckoner⟩ (PySem.W.mg_of X G aC_Reckoner) (ok_Reckoner_init (P := l.prog) (w := w) (K := K) (mg := mg) (base := base) (ad := ad) F_Reckoner_init T) b_Reckoner_init)
  have rk : ∀ n f g o st fa wf, (∀ a, a < n → ∀ b, b < n → f a b < n) → (∀ a, a < n → ∀ b, b < n → g a b < n) → RkM l.prog w K mg base ad n f g o st fa wf := fun n f g o st fa wf hf hg =>
    { fact := (met_mk cl_Reckoner ⟨a_Reckoner_fact, i_Reckoner_fact, k_Reckoner_fact⟩ ((ok_Reckoner_fact (P := l.prog) (w := w) (K := K) (mg := mg) (base := base) (ad := ad) F_Reckoner_fact T).mono (by decide)) b_Reckoner_fact)
      plus := (met_mk cl_Reckoner ⟨a_Reckoner_plus, i_Reckoner_plus, k_Reckoner_plus⟩ ((ok_Reckoner_plus (P := l.prog) (w := w) (K := K) (mg := mg) (base := base) (ad := ad) hf (FM.zero n f g o st) (FM.plus n f g o st) F_Reckoner_plus T).mono (by decide)) b_Reckoner_plus)
      times := (met_mk cl_Reckoner ⟨a_Reckoner_times, i_Reckoner_times, k_Reckoner_times⟩ ((ok_Reckoner_times (P := l.prog) (w := w) (K := K) (mg := mg) (base := base) (ad := ad) hg (FM.one n f g o st) (FM.times n f g o st) F_Reckoner_times T).mono (by decide)) b_Reckoner_times)
      star := (met_mk cl_Reckoner ⟨a_Reckoner_star, i_Reckoner_star, k_Reckoner_star⟩ ((ok_Reckoner_star (P := l.prog) (w := w) (K := K) (mg := mg) (base := base) (ad := ad) (FM.star n f g o st) F_Reckoner_star T).mono (by decide)) b_Reckoner_star) }
  have c_all : ∀ (C : Addr) ok fa el AA, MakerX l.prog w K mg base C C_NoStar ok fa el AA → CalX l.prog w K mg base 7 "all_made" (spAll l.prog w C_Circuits C C_NoStar ok fa AA) := fun C ok fa el AA M =>
    cal_mk (ok_all_made (ad := ad) M (cal_mk (ok_made (ad := ad) M c_parts F_made T) (PySem.W.mg_of X G a_made) k_made b_made) c_nodes_within m_shown1 F_all_made T) (PySem.W.mg_of X G a_all_made) k_all_made b_all_made
  have c_worth := cal_mk (x := "worth") (ok_worth (P := l.prog) (w := w) (K := K) (mg := mg) (base := base) (ad := ad) mReck rk (fun ok fa el AA M => c_all C_Reckoner ok fa el AA M) F_worth T) (PySem.W.mg_of X G a_worth) k_worth b_worth
  have c_law_found := cal_mk (x := "_law_found") (ok_law_found (P := l.prog) (w := w) (K := K) (mg := mg) (base := base) (ad := ad) c_worth F_law_found T) (PySem.W.mg_of X G a_law_found) k_law_found b_law_found
  have c_law_grown := cal_mk (x := "_law_grown") (ok_law_grown (P := l.prog) (w := w) (K := K) (mg := mg) (base := base) (ad := ad) m_fact m_star m_plus m_times c_law_next F_law_grown T) (PySem.W.mg_of X G a_law_grown) k_law_grown b_law_grown
  have mExc : MakX l.prog w K mg base 1 "Exchange" C_Exchange (spXI C_Exchange) := (mak_mk ⟨mk_Exchange, a_Exchange_init, i_Exchange_init, kc_Exchange⟩ (PySem.W.mg_of X G aC_Exchange) (ok_Exchange_init (P := l.prog) (w := w) (K := K) (mg := mg) (base := base) (ad := ad) F_Exchange_init T) b_Exchange_init)
  have EM : Ex.ExM l.prog w K mg base ad := { fact := (met_mk cl_Exchange ⟨a_Exchange_fact, i_Exchange_fact, k_Exchange_fact⟩ ((ok_Exchange_fact (P := l.prog) (w := w) (K := K) (mg := mg) (base := base) (ad := ad) m_fact F_Exchange_fact T).mono (by decide)) b_Exchange_fact), plus := (met_mk cl_Exchange ⟨a_Exchange_plus, i_Exchange_plus, k_Exchange_plus⟩ ((ok_Exchange_plus (P := l.prog) (w := w) (K := K) (mg := mg) (base := base) (ad := ad) m_plus F_Exchange_plus T).mono (by decide)) b_Exchange_plus), times := (met_mk cl_Exchange ⟨a_Exchange_times, i_Exchange_times, k_Exchange_times⟩ ((ok_Exchange_times (P := l.prog) (w := w) (K := K) (mg := mg) (base := base) (ad := ad) m_times F_Exchange_times T).mono (by decide)) b_Exchange_times), star := (met_mk cl_Exchange ⟨a_Exchange_star, i_Exchange_star, k_Exchange_star⟩ ((ok_Exchange_star (P := l.prog) (w := w) (K := K) (mg := mg) (base := base) (ad := ad) m_star F_Exchange_star T).mono (by decide)) b_Exchange_star) }
  have c_allX : CalX l.prog w K mg base 7 "all_made" (Ex.spAllX l.prog w ad) := cal_mk (Ex.ok_all_made (ad := ad) (cal_mk (Ex.ok_made (ad := ad) EM c_parts F_made T) (PySem.W.mg_of X G a_made) k_made b_made) c_nodes_within m_shown1 F_all_made T) (PySem.W.mg_of X G a_all_made) k_all_made b_all_made
  have c_carried := cal_mk (x := "carried") (Ex.ok_carried (P := l.prog) (w := w) (K := K) (mg := mg) (base := base) (ad := ad) mExc m_count1 c_allX F_carried T) (PySem.W.mg_of X G a_carried) k_carried b_carried
  have c_put_in := cal_mk (x := "put_in") (Ex.ok_put_in (P := l.prog) (w := w) (K := K) (mg := mg) (base := base) (ad := ad) c_carried F_put_in T) (PySem.W.mg_of X G a_put_in) k_put_in b_put_in
  exact Ex.ok_law (P := l.prog) (w := w) (base := base) (ad := ad) c_law_pot c_law_next c_law_ring mFin mCirc c_law_grown c_law_found c_put_in F_law T
theorem walk {l : PySem.W.OpenLaw} {q : Program} {loose : List Str} {XP : (Str → Option Value) → Heap → Prop} {YP : World → Heap → Prop} {d : DefRec} {K : Params → PySem.W.Frag} (hn : l.most = some 63) (hdf : d.params.defaults = [])
    (hY : ∀ (w : World) (h : Heap), YP w h → (K w.params).In h)
    (F : ∀ (w : World) (mg : Str → Option Value) (fa : Addr) (h : Heap), YP w h → (K w.params).In h → h.Ns mainGlobals mg → mg d.name = some (.ref fa) → LamX.LawAtS l w (K w.params) (L2.CX l.prog w) 21 63 "script" mg fa h) :
    PySem.W.WalkO q loose XP YP l.row.toRowW d [] (fun f vs => PySem.call f vs) :=
  LamX.walk_ofTs (n := 63) (k := 21) (x := "script") (CX := fun w => L2.CX l.prog w) hn (by decide) hdf ⟨rfl, by decide, by decide⟩ hY F fun _ _ _ _ _ h => by
    obtain ⟨_, _, _, _, _, _, _, _, _, _, _, _, z⟩ := h
    exact z
end K14
open PySem PySem.W PyProof.Rows
local macro_rules | `(tactic| o_head ($f:ident $a $b $c)) => `(tactic| o_head (PySem.W.kmHook $a $b $c [408, 415, 420, 427, 434, 441]))
set_option maxRecDepth 100000 in
set_option maxHeartbeats 0 in
theorem PySem.Challenge.cw_everyworth_k14_putting_nodes_in_holds : PySem.Challenge.rw_everyworth_k14_putting_nodes_in.Holds := by
  w_on; o_law; k_head; (case hw => w_witness2)
  k_fill
  refine K14.walk (l := PySem.Challenge.rw_everyworth_k14_putting_nodes_in) rfl rfl (fun w h Y => PySem.W.km_in_of Y) ?F
  case F =>
    intro w mg fa h Y KX G hmg
    refine' K14.all_mk 408 415 420 427 434 441 KX G hmg (PySem.W.km_tabs_of Y _ (by simp)) (PySem.W.km_tabs_of Y _ (by simp)) (PySem.W.km_tabs_of Y _ (by simp)) (PySem.W.km_tabs_of Y _ (by simp)) (PySem.W.km_tabs_of Y _ (by simp)) (PySem.W.km_tabs_of Y _ (by simp)) ?aC_WorthError ?aC_NoStar ?aC_TooLarge ?aC_AxiomError ?aC_Circuits ?aC_Reckoner ?aC_Exchange ?aC_Finite ?a_Circuits_init ?i_Circuits_init ?l_Circuits_init ?c_Circuits_init ?k_Circuits_init ?a_Circuits_fact ?i_Circuits_fact ?l_Circuits_fact ?c_Circuits_fact ?k_Circuits_fact ?a_Circuits_plus ?i_Circuits_plus ?l_Circuits_plus ?c_Circuits_plus ?k_Circuits_plus ?a_Circuits_times ?i_Circuits_times ?l_Circuits_times ?c_Circuits_times ?k_Circuits_times ?a_Circuits_star ?i_Circuits_star ?l_Circuits_star ?c_Circuits_star ?k_Circuits_star ?a_Circuits_shown ?i_Circuits_shown ?l_Circuits_shown ?c_Circuits_shown ?k_Circuits_shown ?a_Circuits_count ?i_Circuits_count ?l_Circuits_count ?c_Circuits_count ?k_Circuits_count ?a_Circuits_several ?i_Circuits_several ?l_Circuits_several ?c_Circuits_several ?k_Circuits_several ?a_Circuits_node ?i_Circuits_node ?l_Circuits_node ?c_Circuits_node ?k_Circuits_node ?a_Reckoner_init ?i_Reckoner_init ?l_Reckoner_init ?c_Reckoner_init ?k_Reckoner_init ?a_Reckoner_fact ?i_Reckoner_fact ?l_Reckoner_fact ?c_Reckoner_fact ?k_Reckoner_fact ?a_Reckoner_plus ?i_Reckoner_plus ?l_Reckoner_plus ?c_Reckoner_plus ?k_Reckoner_plus ?a_Reckoner_times ?i_Reckoner_times ?l_Reckoner_times ?c_Reckoner_times ?k_Reckoner_times ?a_Reckoner_star ?i_Reckoner_star ?l_Reckoner_star ?c_Reckoner_star ?k_Reckoner_star ?a_Exchange_init ?i_Exchange_init ?l_Exchange_init ?c_Exchange_init ?k_Exchange_init ?a_Exchange_fact ?i_Exchange_fact ?l_Exchange_fact ?c_Exchange_fact ?k_Exchange_fact ?a_Exchange_plus ?i_Exchange_plus ?l_Exchange_plus ?c_Exchange_plus ?k_Exchange_plus ?a_Exchange_times ?i_Exchange_times ?l_Exchange_times ?c_Exchange_times ?k_Exchange_times ?a_Exchange_star ?i_Exchange_star ?l_Exchange_star ?c_Exchange_star ?k_Exchange_star ?a_nodes_within ?l_nodes_within ?c_nodes_within ?k_nodes_within ?a_parts ?l_parts ?c_parts ?k_parts ?a_all_made ?l_all_made ?c_all_made ?k_all_made ?a_made ?l_made ?c_made ?k_made ?a_worth ?l_worth ?c_worth ?k_worth ?a_put_in ?l_put_in ?c_put_in ?k_put_in ?a_carried ?l_carried ?c_carried ?k_carried ?a_is_integer ?l_is_integer ?c_is_integer ?k_is_integer ?a_is_between ?l_is_between ?c_is_between ?k_is_between ?a_Finite_init ?i_Finite_init ?l_Finite_init ?c_Finite_init ?k_Finite_init ?a_Finite_zero ?i_Finite_zero ?l_Finite_zero ?c_Finite_zero ?k_Finite_zero ?a_Finite_one ?i_Finite_one ?l_Finite_one ?c_Finite_one ?k_Finite_one ?a_Finite_plus ?i_Finite_plus ?l_Finite_plus ?c_Finite_plus ?k_Finite_plus ?a_Finite_times ?i_Finite_times ?l_Finite_times ?c_Finite_times ?k_Finite_times ?a_Finite_star ?i_Finite_star ?l_Finite_star ?c_Finite_star ?k_Finite_star ?a_Finite_size ?i_Finite_size ?l_Finite_size ?c_Finite_size ?k_Finite_size ?a_copied ?l_copied ?c_copied ?k_copied ?a_first_failure ?l_first_failure ?c_first_failure ?k_first_failure ?a_sizes_fit ?l_sizes_fit ?c_sizes_fit ?k_sizes_fit ?a_entries_fit ?l_entries_fit ?c_entries_fit ?k_entries_fit ?a_is_symmetric ?l_is_symmetric ?c_is_symmetric ?k_is_symmetric ?a_is_associative ?l_is_associative ?c_is_associative ?k_is_associative ?a_is_neutral ?l_is_neutral ?c_is_neutral ?k_is_neutral ?a_is_distributive ?l_is_distributive ?c_is_distributive ?k_is_distributive ?a_stars_fit ?l_stars_fit ?c_stars_fit ?k_stars_fit ?a_law_pot ?l_law_pot ?c_law_pot ?k_law_pot ?a_law_next ?l_law_next ?c_law_next ?k_law_next ?a_law_family ?l_law_family ?c_law_family ?k_law_family ?a_law_paired ?l_law_paired ?c_law_paired ?k_law_paired ?a_law_renamed ?l_law_renamed ?c_law_renamed ?k_law_renamed ?a_law_stars ?l_law_stars ?c_law_stars ?k_law_stars ?a_law_ring ?l_law_ring ?c_law_ring ?k_law_ring ?a_law_grown ?l_law_grown ?c_law_grown ?k_law_grown ?a_law_found ?l_law_found ?c_law_found ?k_law_found ?a_law ?l_law ?c_law ?k_law ?x_WorthError ?kp_WorthError ?b_WorthError ?t_WorthError ?hd_WorthError ?ga_WorthError ?gg_WorthError ?cc_WorthError ?mo_WorthError ?x_NoStar ?kp_NoStar ?b_NoStar ?t_NoStar ?hd_NoStar ?ga_NoStar ?gg_NoStar ?cc_NoStar ?mo_NoStar ?s_NoStar_WorthError ?x_TooLarge ?kp_TooLarge ?b_TooLarge ?t_TooLarge ?hd_TooLarge ?ga_TooLarge ?gg_TooLarge ?cc_TooLarge ?mo_TooLarge ?s_TooLarge_WorthError ?kp_AxiomError ?b_AxiomError ?t_AxiomError ?hd_AxiomError ?ga_AxiomError ?gg_AxiomError ?cc_AxiomError ?mo_AxiomError ?s_AxiomError_WorthError ?pg_Circuits ?hd_Circuits ?po_Circuits ?sa_Circuits ?mk_Circuits ?kc_Circuits ?pg_Reckoner ?hd_Reckoner ?po_Reckoner ?sa_Reckoner ?mk_Reckoner ?kc_Reckoner ?pg_Exchange ?hd_Exchange ?po_Exchange ?sa_Exchange ?mk_Exchange ?kc_Exchange ?pg_Finite ?hd_Finite ?po_Finite ?sa_Finite ?mk_Finite ?kc_Finite ?spc ?tki ?n_Finite__plus ?n_Finite__times ?n_Finite__one ?n_Finite__stars ?n_Circuits__shown ?n_Circuits__numbers ?n_Reckoner__semiring ?n_Reckoner__worths ?n_Exchange__circuits ?n_Exchange__nodes ?g_MOST_NODES ?g_MOST_IN_ONE ?g_ZERO ?g_ONE ?g_MOST_NUMBERS ?z_isinstance ?z_int ?z_bool ?z_list ?z_tuple ?z_min ?z_max ?z_abs ?z_len ?z_range ?z_all ?z_any ?z_dict ?z_sorted ?z_sum ?dl_Finite_init ?nt_sizes_fit ?ch_sizes_fit ?nt_entries_fit ?ch_entries_fit ?nt_is_symmetric ?ch_is_symmetric ?nt_is_associative ?ch_is_associative ?nt_is_neutral ?ch_is_neutral ?nt_is_distributive ?ch_is_distributive
    (case aC_WorthError => k_is)
    (case aC_NoStar => k_is)
    (case aC_TooLarge => k_is)
    (case aC_AxiomError => k_is)
    (case aC_Circuits => k_is)
    (case aC_Reckoner => k_is)
    (case aC_Exchange => k_is)
    (case aC_Finite => k_is)
    (case a_Circuits_init => k_is)
    (case i_Circuits_init => k_is)
    (case l_Circuits_init => k_is)
    (case c_Circuits_init => k_is)
    (case k_Circuits_init => k_is)
    (case a_Circuits_fact => k_is)
    (case i_Circuits_fact => k_is)
    (case l_Circuits_fact => k_is)
    (case c_Circuits_fact => k_is)
    (case k_Circuits_fact => k_is)
    (case a_Circuits_plus => k_is)
    (case i_Circuits_plus => k_is)
    (case l_Circuits_plus => k_is)
    (case c_Circuits_plus => k_is)
    (case k_Circuits_plus => k_is)
    (case a_Circuits_times => k_is)
    (case i_Circuits_times => k_is)
    (case l_Circuits_times => k_is)
    (case c_Circuits_times => k_is)
    (case k_Circuits_times => k_is)
    (case a_Circuits_star => k_is)
    (case i_Circuits_star => k_is)
    (case l_Circuits_star => k_is)
    (case c_Circuits_star => k_is)
    (case k_Circuits_star => k_is)
    (case a_Circuits_shown => k_is)
    (case i_Circuits_shown => k_is)
    (case l_Circuits_shown => k_is)
    (case c_Circuits_shown => k_is)
    (case k_Circuits_shown => k_is)
    (case a_Circuits_count => k_is)
    (case i_Circuits_count => k_is)
    (case l_Circuits_count => k_is)
    (case c_Circuits_count => k_is)
    (case k_Circuits_count => k_is)
    (case a_Circuits_several => k_is)
    (case i_Circuits_several => k_is)
    (case l_Circuits_several => k_is)
    (case c_Circuits_several => k_is)
    (case k_Circuits_several => k_is)
    (case a_Circuits_node => k_is)
    (case i_Circuits_node => k_is)
    (case l_Circuits_node => k_is)
    (case c_Circuits_node => k_is)
    (case k_Circuits_node => k_is)
    (case a_Reckoner_init => k_is)
    (case i_Reckoner_init => k_is)
    (case l_Reckoner_init => k_is)
    (case c_Reckoner_init => k_is)
    (case k_Reckoner_init => k_is)
    (case a_Reckoner_fact => k_is)
    (case i_Reckoner_fact => k_is)
    (case l_Reckoner_fact => k_is)
    (case c_Reckoner_fact => k_is)
    (case k_Reckoner_fact => k_is)
    (case a_Reckoner_plus => k_is)
    (case i_Reckoner_plus => k_is)
    (case l_Reckoner_plus => k_is)
    (case c_Reckoner_plus => k_is)
    (case k_Reckoner_plus => k_is)
    (case a_Reckoner_times => k_is)
    (case i_Reckoner_times => k_is)
    (case l_Reckoner_times => k_is)
    (case c_Reckoner_times => k_is)
    (case k_Reckoner_times => k_is)
    (case a_Reckoner_star => k_is)
    (case i_Reckoner_star => k_is)
    (case l_Reckoner_star => k_is)
    (case c_Reckoner_star => k_is)
    (case k_Reckoner_star => k_is)
    (case a_Exchange_init => k_is)
    (case i_Exchange_init => k_is)
    (case l_Exchange_init => k_is)
    (case c_Exchange_init => k_is)
    (case k_Exchange_init => k_is)
    (case a_Exchange_fact => k_is)
    (case i_Exchange_fact => k_is)
    (case l_Exchange_fact => k_is)
    (case c_Exchange_fact => k_is)
    (case k_Exchange_fact => k_is)
    (case a_Exchange_plus => k_is)
    (case i_Exchange_plus => k_is)
    (case l_Exchange_plus => k_is)
    (case c_Exchange_plus => k_is)
    (case k_Exchange_plus => k_is)
    (case a_Exchange_times => k_is)
    (case i_Exchange_times => k_is)
    (case l_Exchange_times => k_is)
    (case c_Exchange_times => k_is)
    (case k_Exchange_times => k_is)
    (case a_Exchange_star => k_is)
    (case i_Exchange_star => k_is)
    (case l_Exchange_star => k_is)
    (case c_Exchange_star => k_is)
    (case k_Exchange_star => k_is)
    (case a_nodes_within => k_is)
    (case l_nodes_within => k_is)
    (case c_nodes_within => k_is)
    (case k_nodes_within => k_is)
    (case a_parts => k_is)
    (case l_parts => k_is)
    (case c_parts => k_is)
    (case k_parts => k_is)
    (case a_all_made => k_is)
    (case l_all_made => k_is)
    (case c_all_made => k_is)
    (case k_all_made => k_is)
    (case a_made => k_is)
    (case l_made => k_is)
    (case c_made => k_is)
    (case k_made => k_is)
    (case a_worth => k_is)
    (case l_worth => k_is)
    (case c_worth => k_is)
    (case k_worth => k_is)
    (case a_put_in => k_is)
    (case l_put_in => k_is)
    (case c_put_in => k_is)
    (case k_put_in => k_is)
    (case a_carried => k_is)
    (case l_carried => k_is)
    (case c_carried => k_is)
    (case k_carried => k_is)
    (case a_is_integer => k_is)
    (case l_is_integer => k_is)
    (case c_is_integer => k_is)
    (case k_is_integer => k_is)
    (case a_is_between => k_is)
    (case l_is_between => k_is)
    (case c_is_between => k_is)
    (case k_is_between => k_is)
    (case a_Finite_init => k_is)
    (case i_Finite_init => k_is)
    (case l_Finite_init => k_is)
    (case c_Finite_init => k_is)
    (case k_Finite_init => k_is)
    (case a_Finite_zero => k_is)
    (case i_Finite_zero => k_is)
    (case l_Finite_zero => k_is)
    (case c_Finite_zero => k_is)
    (case k_Finite_zero => k_is)
    (case a_Finite_one => k_is)
    (case i_Finite_one => k_is)
    (case l_Finite_one => k_is)
    (case c_Finite_one => k_is)
    (case k_Finite_one => k_is)
    (case a_Finite_plus => k_is)
    (case i_Finite_plus => k_is)
    (case l_Finite_plus => k_is)
    (case c_Finite_plus => k_is)
    (case k_Finite_plus => k_is)
    (case a_Finite_times => k_is)
    (case i_Finite_times => k_is)
    (case l_Finite_times => k_is)
    (case c_Finite_times => k_is)
    (case k_Finite_times => k_is)
    (case a_Finite_star => k_is)
    (case i_Finite_star => k_is)
    (case l_Finite_star => k_is)
    (case c_Finite_star => k_is)
    (case k_Finite_star => k_is)
    (case a_Finite_size => k_is)
    (case i_Finite_size => k_is)
    (case l_Finite_size => k_is)
    (case c_Finite_size => k_is)
    (case k_Finite_size => k_is)
    (case a_copied => k_is)
    (case l_copied => k_is)
    (case c_copied => k_is)
    (case k_copied => k_is)
    (case a_first_failure => k_is)
    (case l_first_failure => k_is)
    (case c_first_failure => k_is)
    (case k_first_failure => k_is)
    (case a_sizes_fit => k_is)
    (case l_sizes_fit => k_is)
    (case c_sizes_fit => k_is)
    (case k_sizes_fit => k_is)
    (case a_entries_fit => k_is)
    (case l_entries_fit => k_is)
    (case c_entries_fit => k_is)
    (case k_entries_fit => k_is)
    (case a_is_symmetric => k_is)
    (case l_is_symmetric => k_is)
    (case c_is_symmetric => k_is)
    (case k_is_symmetric => k_is)
    (case a_is_associative => k_is)
    (case l_is_associative => k_is)
    (case c_is_associative => k_is)
    (case k_is_associative => k_is)
    (case a_is_neutral => k_is)
    (case l_is_neutral => k_is)
    (case c_is_neutral => k_is)
    (case k_is_neutral => k_is)
    (case a_is_distributive => k_is)
    (case l_is_distributive => k_is)
    (case c_is_distributive => k_is)
    (case k_is_distributive => k_is)
    (case a_stars_fit => k_is)
    (case l_stars_fit => k_is)
    (case c_stars_fit => k_is)
    (case k_stars_fit => k_is)
    (case a_law_pot => k_is)
    (case l_law_pot => k_is)
    (case c_law_pot => k_is)
    (case k_law_pot => k_is)
    (case a_law_next => k_is)
    (case l_law_next => k_is)
    (case c_law_next => k_is)
    (case k_law_next => k_is)
    (case a_law_family => k_is)
    (case l_law_family => k_is)
    (case c_law_family => k_is)
    (case k_law_family => k_is)
    (case a_law_paired => k_is)
    (case l_law_paired => k_is)
    (case c_law_paired => k_is)
    (case k_law_paired => k_is)
    (case a_law_renamed => k_is)
    (case l_law_renamed => k_is)
    (case c_law_renamed => k_is)
    (case k_law_renamed => k_is)
    (case a_law_stars => k_is)
    (case l_law_stars => k_is)
    (case c_law_stars => k_is)
    (case k_law_stars => k_is)
    (case a_law_ring => k_is)
    (case l_law_ring => k_is)
    (case c_law_ring => k_is)
    (case k_law_ring => k_is)
    (case a_law_grown => k_is)
    (case l_law_grown => k_is)
    (case c_law_grown => k_is)
    (case k_law_grown => k_is)
    (case a_law_found => k_is)
    (case l_law_found => k_is)
    (case c_law_found => k_is)
    (case k_law_found => k_is)
    (case a_law => k_is)
    (case l_law => k_is)
    (case c_law => k_is)
    (case k_law => k_is)
    (case x_WorthError => k_exc)
    (case kp_WorthError => k_is)
    (case b_WorthError => k_is)
    (case t_WorthError => k_is)
    (case hd_WorthError => k_is)
    (case ga_WorthError => k_is)
    (case gg_WorthError => k_is)
    (case cc_WorthError => k_is)
    (case mo_WorthError => k_is)
    (case x_NoStar => k_exc)
    (case kp_NoStar => k_is)
    (case b_NoStar => k_is)
    (case t_NoStar => k_is)
    (case hd_NoStar => k_is)
    (case ga_NoStar => k_is)
    (case gg_NoStar => k_is)
    (case cc_NoStar => k_is)
    (case mo_NoStar => k_is)
    (case s_NoStar_WorthError => k_is)
    (case x_TooLarge => k_exc)
    (case kp_TooLarge => k_is)
    (case b_TooLarge => k_is)
    (case t_TooLarge => k_is)
    (case hd_TooLarge => k_is)
    (case ga_TooLarge => k_is)
    (case gg_TooLarge => k_is)
    (case cc_TooLarge => k_is)
    (case mo_TooLarge => k_is)
    (case s_TooLarge_WorthError => k_is)
    (case kp_AxiomError => k_is)
    (case b_AxiomError => k_is)
    (case t_AxiomError => k_is)
    (case hd_AxiomError => k_is)
    (case ga_AxiomError => k_is)
    (case gg_AxiomError => k_is)
    (case cc_AxiomError => k_is)
    (case mo_AxiomError => k_is)
    (case s_AxiomError_WorthError => k_is)
    (case pg_Circuits => k_is)
    (case hd_Circuits => k_is)
    (case po_Circuits => k_is)
    (case sa_Circuits => k_is)
    (case mk_Circuits => k_is)
    (case kc_Circuits => k_is)
    (case pg_Reckoner => k_is)
    (case hd_Reckoner => k_is)
    (case po_Reckoner => k_is)
    (case sa_Reckoner => k_is)
    (case mk_Reckoner => k_is)
    (case kc_Reckoner => k_is)
    (case pg_Exchange => k_is)
    (case hd_Exchange => k_is)
    (case po_Exchange => k_is)
    (case sa_Exchange => k_is)
    (case mk_Exchange => k_is)
    (case kc_Exchange => k_is)
    (case pg_Finite => k_is)
    (case hd_Finite => k_is)
    (case po_Finite => k_is)
    (case sa_Finite => k_is)
    (case mk_Finite => k_is)
    (case kc_Finite => k_is)
    (case spc => k_is)
    (case tki => k_is)
    (case n_Finite__plus => k_is)
    (case n_Finite__times => k_is)
    (case n_Finite__one => k_is)
    (case n_Finite__stars => k_is)
    (case n_Circuits__shown => k_is)
    (case n_Circuits__numbers => k_is)
    (case n_Reckoner__semiring => k_is)
    (case n_Reckoner__worths => k_is)
    (case n_Exchange__circuits => k_is)
    (case n_Exchange__nodes => k_is)
    (case g_MOST_NODES => k_is)
    (case g_MOST_IN_ONE => k_is)
    (case g_ZERO => k_is)
    (case g_ONE => k_is)
    (case g_MOST_NUMBERS => k_is)
    (case z_isinstance => k_is)
    (case z_int => k_is)
    (case z_bool => k_is)
    (case z_list => k_is)
    (case z_tuple => k_is)
    (case z_min => k_is)
    (case z_max => k_is)
    (case z_abs => k_is)
    (case z_len => k_is)
    (case z_range => k_is)
    (case z_all => k_is)
    (case z_any => k_is)
    (case z_dict => k_is)
    (case z_sorted => k_is)
    (case z_sum => k_is)
    (case dl_Finite_init => k_is)
    (case nt_sizes_fit => first | k_is | kernel_rfl)
    (case ch_sizes_fit => first | k_is | kernel_rfl)
    (case nt_entries_fit => first | k_is | kernel_rfl)
    (case ch_entries_fit => first | k_is | kernel_rfl)
    (case nt_is_symmetric => first | k_is | kernel_rfl)
    (case ch_is_symmetric => first | k_is | kernel_rfl)
    (case nt_is_associative => first | k_is | kernel_rfl)
    (case ch_is_associative => first | k_is | kernel_rfl)
    (case nt_is_neutral => first | k_is | kernel_rfl)
    (case ch_is_neutral => first | k_is | kernel_rfl)
    (case nt_is_distributive => first | k_is | kernel_rfl)
    (case ch_is_distributive => first | k_is | kernel_rfl)
