import PyProof.Rows.All
import Wide.All
import OpenK.AllK
import Wide.FinOn
import HandS.ForMost
import HandS.ForExc
import HandS.IsInst
import HandS.ExcIs
import HandS.CallSlots
import HandS.Wide
import HandS.EndBits
import HandS.Flow
import HandS.AnyAll
import HandS.SortKw
import HandS.GenOver
import HandS.GenList
import PyProof.GenRules
import PyProof.GenQ
import HandS.Steps
import HandS.Codes
import HandS.Dict
import KE.KeyNested
import KE.KDictKeyed
import KE.KDictDisplayH
import HandS.List
import KE.KIndexOf
import HandS.DictComp
import HandS.Iter
import PySem.Challenge.RW_everyworth_k12_nodes
import HandS.Style
import HandS.SortInts
import HandS.More
set_option Elab.async false
set_option linter.all false
set_option maxRecDepth 100000
set_option maxHeartbeats 4000000
/-! Rules whose callee is told by the reading: calls of defs, methods, classes by what stands in the heap. -/
namespace Ew
open PySem PySem.Spec PyProof.Rows L2

/-- a def under its name keeps sp at level k -/
structure CalX (P : Program) (w : World) (K : PySem.W.Frag) (mg : Str → Option Value) (base : Heap) (k : Nat) (x : Str) (sp : Sp) : Prop where
  ex : ∃ (f : Addr) (fd : FuncData) (ps : List Str) (ds : List Value) (dvs : List V) (sp0 : Sp), FnOk P w K mg base (L2.CX P w) k f fd ps sp0 ∧ mg x = some (.ref f) ∧ PySem.W.keepIn K (.ref f) = true ∧ Binds K fd ps ds ∧ Vals dvs ds ∧
    ∀ vs H Q E, sp vs H Q E → sp0 (vs ++ dvs) H Q E
/-- a method m of the class at C keeps sp at level k -/
structure MetX (P : Program) (w : World) (K : PySem.W.Frag) (mg : Str → Option Value) (base : Heap) (k : Nat) (C : Addr) (m : Str) (sp : Sp) : Prop where
  ex : ∃ (f : Addr) (fd : FuncData) (ps : List Str) (ds : List Value) (dvs : List V) (sp0 : Sp), Cls K C ∧ Meth K C m f ∧ FnOk P w K mg base (L2.CX P w) k f fd ps sp0 ∧ Binds K fd ps ds ∧ Vals dvs ds ∧
    ∀ vs H Q E, sp vs H Q E → sp0 (vs ++ dvs) H Q E
/-- a class under its name, its __init__ keeps sp at level k -/
structure MakX (P : Program) (w : World) (K : PySem.W.Frag) (mg : Str → Option Value) (base : Heap) (k : Nat) (x : Str) (C : Addr) (sp : Sp) : Prop where
  ex : ∃ (f : Addr) (fd : FuncData) (ps : List Str) (ds : List Value) (dvs : List V) (sp0 : Sp), Mk K C f ∧ mg x = some (.ref C) ∧ FnOk P w K mg base (L2.CX P w) k f fd ps sp0 ∧ Binds K fd ps ds ∧ Vals dvs ds ∧
    ∀ vs H Q E, sp vs H Q E → sp0 (vs ++ dvs) H Q E

def tCallD (P : Program) (w : World) (K : PySem.W.Frag) (mg : Str → Option Value) (base : Heap) (j : Nat) (x : Str) (W : WX) (t : TA) : TE := fun σ H Q =>
  ∃ (k : Nat) (sp : Sp), k ≤ j ∧ CalX P w K mg base k x sp ∧ t σ H fun vs H1 => sp vs H1 Q (WE W σ)
def tMethD (P : Program) (w : World) (K : PySem.W.Frag) (mg : Str → Option Value) (base : Heap) (j : Nat) (m : Str) (W : WX) (ta : TE) (t : TA) : TE := fun σ H Q => ta σ H fun x H1 =>
  ∃ (a C dx : Addr) (fs : List (Str × V)) (k : Nat) (sp : Sp), x = .ref a ∧ H1 a = some (.ins C dx fs) ∧ fs.lookup m = none ∧ k ≤ j ∧ MetX P w K mg base k C m sp ∧ t σ H1 fun vs H2 => sp (x :: vs) H2 Q (WE W σ)
def tMakeD (P : Program) (w : World) (K : PySem.W.Frag) (mg : Str → Option Value) (base : Heap) (j : Nat) (x : Str) (W : WX) (t : TA) : TE := fun σ H Q =>
  ∃ (k : Nat) (C : Addr) (sp : Sp), k + 1 ≤ j ∧ MakX P w K mg base k x C sp ∧ t σ H fun vs H1 => ∀ y dy, H1 y = none → H1 dy = none → dy ≠ y →
    sp (.ref y :: vs) (upd (upd H1 dy (.own y)) y (.ins C dy [])) (fun v H2 => v = .non ∧ Q (.ref y) H2) (WE W σ)

section
variable {X : Cx} {j : Nat} {x m : Str} {p pos apos : Pos} {e o : Expr} {es : List Expr} {ta : TE} {t : TA} {W : WX}

theorem pd_call (hr : Room j X.A) (tk : Takes X W) (hg : Gl X x) (ha : PA X (e :: es) t)
    (hdb : (x == ("__debug__" : Str)) = false := by decide) (he : starEach (e :: es) X.env = (false, eval e X.env) :: starEach es X.env := by rfl) (hpl : (backTo pos (starEach es X.env)).any (·.1) = false := by rfl) :
    PE X (.Call (.Name x p) (e :: es) [] pos) (tCallD X.prog X.w X.K X.mg X.base j x W t) := by
  refine ⟨fun pins s σ H Q I h => ?_⟩
  obtain ⟨k, sp, hk, c, h⟩ := h
  obtain ⟨f, fd, ps, ds, dvs, sp0, F, hm, kp, b, d, imp⟩ := c.ex
  refine wpAny_Call_Name_kw (ld_glob I hg hm ?_ hdb)
  refine PySem.W.callWith_K (h₀ := X.base) I.ok.mod.kin kp (thn (ha.run pos pins s σ H _ I h) fun us s1 ⟨vs, H1, I1, r, q⟩ => ⟨I1.kIn, ?_⟩) he hpl
  exact run_fnSD (E := WE W) F (hr.mono hk) b d (passAt tk σ) I1 r (imp _ _ _ _ q)
theorem pd_call0 (hr : Room j X.A) (tk : Takes X W) (hg : Gl X x) (hdb : (x == ("__debug__" : Str)) = false := by decide) :
    PE X (.Call (.Name x p) [] [] pos) (tCallD X.prog X.w X.K X.mg X.base j x W tNil) := by
  refine ⟨fun pins s σ H Q I h => ?_⟩
  obtain ⟨k, sp, hk, c, h⟩ := h
  obtain ⟨f, fd, ps, ds, dvs, sp0, F, hm, kp, b, d, imp⟩ := c.ex
  refine wpAny_Call_Name_kw (ld_glob I hg hm ?_ hdb)
  exact PySem.W.callWith_K0 I.kIn kp (run_fnSD (us := []) (E := WE W) F (hr.mono hk) b d (passAt tk σ) I .nil (imp _ _ _ _ h))

theorem pd_meth {pl : Sem Bool} (hr : Room j X.A) (tk : Takes X W) (he : PE X o ta) (ha : PA X (e :: es) t)
    (hst : starEach (e :: es) X.env = (false, eval e X.env) :: starEach es X.env := by rfl) (hpl : (backTo pos (starEach es X.env)).any (·.1) = false := by rfl)
    (ht : eval (.Call (.Attribute o m apos) (e :: es) [] pos) X.env = (do
      let ov ← eval o X.env
      standAt apos.atName
      let (f, first) ← holding [ov] (getMethod ov m pl)
      callWith pos f first (backTo pos (starEach (e :: es) X.env)) (backToKw pos (keywordEach [] X.env))) := by rfl) :
    PE X (.Call (.Attribute o m apos) (e :: es) [] pos) (tMethD X.prog X.w X.K X.mg X.base j m W ta t) := by
  refine ⟨fun pins s σ H Q I h => ?_⟩
  refine PySem.W.methodCall_KW (pl := pl) (thn (he.run pins s σ H _ I h) fun u s1 hh => ?_) ht
  obtain ⟨x, H1, I1, rx, a, C, dx, fs, k, sp, ex, ea, l, hk, c, q⟩ := hh
  obtain ⟨f, fd, ps, ds, dvs, sp0, hc, hm, F, b, d, imp⟩ := c.ex
  subst ex
  obtain rfl : u = Value.ref a := rx
  refine getmeth_ok I1 ea hc hm l ?_
  refine PySem.W.callWith_K (first := [.ref a]) (h₀ := X.base) I.ok.mod.kin hm.kp (thn (ha.run pos pins s1 σ H1 _ I1 q) fun us s2 ⟨vs, H2, I2, r, q2⟩ => ⟨I2.kIn, ?_⟩) hst hpl
  exact run_fnSD (us := .ref a :: us) (vs := .ref a :: vs) (E := WE W) F (hr.mono hk) b d (passAt tk σ) I2 (.cons rfl r) (imp _ _ _ _ q2)
theorem pd_meth0 {pl : Sem Bool} (hr : Room j X.A) (tk : Takes X W) (he : PE X o ta)
    (ht : eval (.Call (.Attribute o m apos) [] [] pos) X.env = (do
      let ov ← eval o X.env
      standAt apos.atName
      let (f, first) ← holding [ov] (getMethod ov m pl)
      callWith pos f first (backTo pos (starEach [] X.env)) (backToKw pos (keywordEach [] X.env))) := by rfl) :
    PE X (.Call (.Attribute o m apos) [] [] pos) (tMethD X.prog X.w X.K X.mg X.base j m W ta tNil) := by
  refine ⟨fun pins s σ H Q I h => ?_⟩
  refine PySem.W.methodCall_KW (pl := pl) (thn (he.run pins s σ H _ I h) fun u s1 hh => ?_) ht
  obtain ⟨x, H1, I1, rx, a, C, dx, fs, k, sp, ex, ea, l, hk, c, q⟩ := hh
  obtain ⟨f, fd, ps, ds, dvs, sp0, hc, hm, F, b, d, imp⟩ := c.ex
  subst ex
  obtain rfl : u = Value.ref a := rx
  refine getmeth_ok I1 ea hc hm l ?_
  exact PySem.W.callWith_K0 (first := [.ref a]) I1.kIn hm.kp (run_fnSD (us := [.ref a]) (vs := [.ref a]) (E := WE W) F (hr.mono hk) b d (passAt tk σ) I1 (.cons rfl .nil) (imp _ _ _ _ q))

theorem run_makeD {pins : List (Addr × Obj)} {σ : L2.St} {H : Hp} {s : Shared} {Q : VK} {us : List Value} {vs : List V} {k : Nat} {C f : Addr} {fd : FuncData} {ps : List Str} {ds : List Value} {dvs : List V} {sp : Sp} {E : L2.St → XK}
    (M : Mk X.K C f) (F : FnOk X.prog X.w X.K X.mg X.base (L2.CX X.prog X.w) k f fd ps sp) (hr : Room (k + 1) X.A) (hb : Binds X.K fd ps ds) (hd : Vals dvs ds)
    (hx : PassesAt (L2.CX X.prog X.w) X σ (E σ)) (I : Inv X pins σ H s) (r : Vals vs us)
    (h : ∀ x dx, H x = none → H dx = none → dx ≠ x → sp (.ref x :: (vs ++ dvs)) (upd (upd H dx (.own x)) x (.ins C dx [])) (fun v H2 => v = .non ∧ Q (.ref x) H2) (E σ)) :
    wpAny (model X.prog X.w) X.A (call (.ref C) us) (EP X pins σ Q) X.xe s := by
  have hq := h (s.heap.objs.size + 1) s.heap.objs.size (I.hok.fresh (Nat.le_succ _)) (I.hok.fresh (Nat.le_refl _)) (Nat.ne_of_lt (Nat.lt_succ_self _))
  have I2 := Inv.made (C := C) I
  have r2 : Vals (V.ref (s.heap.objs.size + 1) :: (vs ++ dvs)) (Value.ref (s.heap.objs.size + 1) :: (us ++ ds)) := .cons rfl (r.append hd)
  have hl : (Value.ref (s.heap.objs.size + 1) :: us ++ ds).length = ps.length := by
    have e := r2.length
    rw [F.len _ _ _ _ hq] at e
    exact e.symm
  refine wpAny_call (make_map (f := f) I.kIn M.makes M.init (beq_iff_eq.mp M.fn) (codeAny_mono (F.run _ X.stack _ _ ⟨Value.ref (s.heap.objs.size + 1) :: us, []⟩ (Value.ref (s.heap.objs.size + 1) :: (us ++ ds)) _ _ (E σ) (hr.make C us [])
    (I2.env0.make C us []) (hb _ (Value.ref (s.heap.objs.size + 1) :: us) I2.kIn hl) r2 hq) fun r s' hq' => ?_))
  cases r with
  | error e => exact hx pins _ _ e s' I2 hq'
  | ok fl =>
    cases fl with
    | ret u =>
      obtain ⟨v, H', I3, rv, ev, q3⟩ := I2.after hq'
      subst ev
      exact ⟨rv, ⟨V.ref (s.heap.objs.size + 1), H', I3, rfl, q3⟩⟩
    | next => exact False.elim hq'
    | brk => exact False.elim hq'
    | cont => exact False.elim hq'
theorem pd_make (hr : Room j X.A) (tk : Takes X W) (hg : Gl X x) (ha : PA X (e :: es) t)
    (hdb : (x == ("__debug__" : Str)) = false := by decide) (he : starEach (e :: es) X.env = (false, eval e X.env) :: starEach es X.env := by rfl) (hpl : (backTo pos (starEach es X.env)).any (·.1) = false := by rfl) :
    PE X (.Call (.Name x p) (e :: es) [] pos) (tMakeD X.prog X.w X.K X.mg X.base j x W t) := by
  refine ⟨fun pins s σ H Q I h => ?_⟩
  obtain ⟨k, C, sp, hk, c, h⟩ := h
  obtain ⟨f, fd, ps, ds, dvs, sp0, M, hm, F, b, d, imp⟩ := c.ex
  refine wpAny_Call_Name_kw (ld_glob I hg hm ?_ hdb)
  refine PySem.W.callWith_K (h₀ := X.base) I.ok.mod.kin M.kp (thn (ha.run pos pins s σ H _ I h) fun us s1 ⟨vs, H1, I1, r, q⟩ => ⟨I1.kIn, ?_⟩) he hpl
  exact run_makeD (E := WE W) M F (hr.mono hk) b d (passAt tk σ) I1 r fun y dy h1 h2 h3 => imp _ _ _ _ (q y dy h1 h2 h3)
theorem pd_make0 (hr : Room j X.A) (tk : Takes X W) (hg : Gl X x)
    (hdb : (x == ("__debug__" : Str)) = false := by decide) :
    PE X (.Call (.Name x p) [] [] pos) (tMakeD X.prog X.w X.K X.mg X.base j x W tNil) := by
  refine ⟨fun pins s σ H Q I h => ?_⟩
  obtain ⟨k, C, sp, hk, c, h⟩ := h
  obtain ⟨f, fd, ps, ds, dvs, sp0, M, hm, F, b, d, imp⟩ := c.ex
  refine wpAny_Call_Name_kw (ld_glob I hg hm ?_ hdb)
  exact PySem.W.callWith_K0 I.kIn M.kp (run_makeD (us := []) (E := WE W) M F (hr.mono hk) b d (passAt tk σ) I .nil fun y dy h1 h2 h3 => imp _ _ _ _ (h y dy h1 h2 h3))

/-- a class that has no __init__ of its own -/
structure Mk0 (K : PySem.W.Frag) (mg : Str → Option Value) (x : Str) (C : Addr) : Prop where
  mgC : mg x = some (.ref C)
  makes : PySem.W.makesIn K C = true
  init : PySem.W.findIn K (.ref C) "__init__" = some (some (.builtin "object.__init__"))
  kp : PySem.W.keepIn K (.ref C) = true
def tNew0D (K : PySem.W.Frag) (mg : Str → Option Value) (x : Str) : TE := fun _ H Q =>
  ∃ C, Mk0 K mg x C ∧ ∀ y dy, H y = none → H dy = none → dy ≠ y → Q (.ref y) (upd (upd H dy (.own y)) y (.ins C dy []))
theorem pd_new0 (hg : Gl X x) (hdb : (x == ("__debug__" : Str)) = false := by decide) : PE X (.Call (.Name x p) [] [] pos) (tNew0D X.K X.mg x) := by
  refine ⟨fun pins s σ H Q I h => ?_⟩
  obtain ⟨C, M, h⟩ := h
  refine wpAny_Call_Name_kw (ld_glob I hg M.mgC ?_ hdb)
  have hq := h (s.heap.objs.size + 1) s.heap.objs.size (I.hok.fresh (Nat.le_succ _)) (I.hok.fresh (Nat.le_refl _)) (Nat.ne_of_lt (Nat.lt_succ_self _))
  have I2 := Inv.made (C := C) I
  refine PySem.W.callWith_K0 I.kIn M.kp ?_
  show wpAny (model X.prog X.w) X.A (call (.ref C) []) _ _ _
  have I0 := I
  obtain ⟨hh, g, d, tk, os⟩ := s
  have Y := PySem.W.makes_of (M := model X.prog X.w) I0.kIn M.makes
  refine wpAny_call (PySem.W.make_core Y (PySem.W.looks_findIn I0.kIn M.init) (fun self => PySem.W.Looks.of_pure (PySem.W.oi_bind self)) (.inr ⟨rfl, rfl⟩) ?_)
  have hx : ((hh.push PySem.W.emptyDict).push (PySem.W.instObj C hh.objs.size)).get? (hh.objs.size + 1) = some (PySem.W.instObj C hh.objs.size) := by heap_get
  have t1 : PySem.W.Looks (model X.prog X.w) ((hh.push PySem.W.emptyDict).push (PySem.W.instObj C hh.objs.size)) (typeOf (.ref (hh.objs.size + 1))) (.ref C) := (PySem.W.Looks.ld hx).andThen .now
  have t2 : PySem.W.Looks (model X.prog X.w) ((hh.push PySem.W.emptyDict).push (PySem.W.instObj C hh.objs.size)) (isInstance (.ref (hh.objs.size + 1)) (.type "object")) true := t1.andThen (Y.top.keeps fun b o e => Heap.get?_push_of_some _ (Heap.get?_push_of_some _ e))
  refine codeAny_call_builtin PySem.W.oi_plain PySem.W.entry_oi (@PySem.W.check_slot (model X.prog X.w) _ _ _ "object.__init__" "object" "__init__" (.ref (hh.objs.size + 1)) [] [] _ PySem.W.oi_kind PySem.W.oi_split t2 (PySem.W.oi_args (.ref (hh.objs.size + 1))) ?_)
  rw [PySem.W.oi_run]
  exact wpAny_pure (And.intro rfl ⟨V.ref (hh.objs.size + 1), _, I2, rfl, hq⟩)

/-- f(e, ..) by a known promise -/
def tCallF (sp : Sp) (W : WX) (t : TA) : TE := fun σ H Q => t σ H fun vs H1 => sp vs H1 Q (WE W σ)
theorem pc_call {k : Nat} {sp : Sp} (c : CalX X.prog X.w X.K X.mg X.base k x sp) (hr : Room j X.A) (hk : k ≤ j) (tk : Takes X W) (hg : Gl X x) (ha : PA X (e :: es) t)
    (hdb : (x == ("__debug__" : Str)) = false := by decide) (he : starEach (e :: es) X.env = (false, eval e X.env) :: starEach es X.env := by rfl) (hpl : (backTo pos (starEach es X.env)).any (·.1) = false := by rfl) :
    PE X (.Call (.Name x p) (e :: es) [] pos) (tCallF sp W t) :=
  ⟨fun pins s σ H Q I h => (pd_call (p := p) (pos := pos) hr tk hg ha hdb he hpl).run pins s σ H Q I ⟨k, sp, hk, c, h⟩⟩
theorem pc_call0 {k : Nat} {sp : Sp} (c : CalX X.prog X.w X.K X.mg X.base k x sp) (hr : Room j X.A) (hk : k ≤ j) (tk : Takes X W) (hg : Gl X x) (hdb : (x == ("__debug__" : Str)) = false := by decide) :
    PE X (.Call (.Name x p) [] [] pos) (tCallF sp W tNil) :=
  ⟨fun pins s σ H Q I h => (pd_call0 (p := p) (pos := pos) hr tk hg hdb).run pins s σ H Q I ⟨k, sp, hk, c, h⟩⟩
theorem pe_gint {n : Int} (hg : Gl X x) (h : ∃ t, X.mg x = some (.int n t)) (hdb : (x == ("__debug__" : Str)) = false := by decide) : PE X (.Name x pos) (tC (.int n)) := by
  obtain ⟨t, h⟩ := h
  exact pe_glob hg h ⟨t, rfl⟩ hdb
theorem pe_gcls {C : Addr} (hg : Gl X x) (h : X.mg x = some (.ref C)) (hdb : (x == ("__debug__" : Str)) = false := by decide) : PE X (.Name x pos) (tC (.ref C)) := pe_glob hg h rfl hdb

/-! ### the same rules, the written part named K (within a comprehension's block the reading must not speak of the block) -/
section
variable {K : PySem.W.Frag}
theorem kix_list (hK : X.K = K := by rfl) : IxR X (rIxL K) := hK ▸ ix_list
theorem kix_tup (hK : X.K = K := by rfl) : IxR X (rIxT K) := hK ▸ ix_tup
theorem kix_seq (hK : X.K = K := by rfl) : IxR X (rIx K) := hK ▸ ix_seq
theorem kcall_len (hK : X.K = K := by rfl) : CallR X (.builtin "len") (fun xs H Q => ∃ x n, xs = [x] ∧ LenV K x H n ∧ Q (.int n) H) := hK ▸ call_len
theorem kcall_isi (hK : X.K = K := by rfl) : CallR X (.builtin "isinstance") (rIsi K) := hK ▸ call_isi
theorem kin_seq (hK : X.K = K := by rfl) : OpR X (compareOp .In) (rIn K false) := hK ▸ op_in_seq
theorem knotIn_seq (hK : X.K = K := by rfl) : OpR X (compareOp .NotIn) (rIn K true) := hK ▸ op_notIn_seq
theorem kpe_fld {f : Str} (he : PE X e ta) (hb : attributeBase e f X.env (eval e X.env) = eval e X.env) (hK : X.K = K := by rfl) : PE X (.Attribute e f pos) (tFld K ta f) := hK ▸ pe_fld he hb
theorem kpi_list {tg l : Expr} {tl : TE} (hl : PE X l tl) (hK : X.K = K := by rfl) : PI X tg l (iList K tl) := hK ▸ pi_list hl
theorem kpi_tup {tg l : Expr} {tl : TE} (hl : PE X l tl) (hK : X.K = K := by rfl) : PI X tg l (iTup K tl) := hK ▸ pi_tup hl
end
theorem kpd_meth {P : Program} {w : World} {K : PySem.W.Frag} {mg : Str → Option Value} {base : Heap} {pl : Sem Bool} (hr : Room j X.A) (tk : Takes X W) (he : PE X o ta) (ha : PA X (e :: es) t)
    (hP : X.prog = P := by rfl) (hw : X.w = w := by rfl) (hK : X.K = K := by rfl) (hm : X.mg = mg := by rfl) (hB : X.base = base := by rfl)
    (hst : starEach (e :: es) X.env = (false, eval e X.env) :: starEach es X.env := by rfl) (hpl : (backTo pos (starEach es X.env)).any (·.1) = false := by rfl)
    (ht : eval (.Call (.Attribute o m apos) (e :: es) [] pos) X.env = (do
      let ov ← eval o X.env
      standAt apos.atName
      let (f, first) ← holding [ov] (getMethod ov m pl)
      callWith pos f first (backTo pos (starEach (e :: es) X.env)) (backToKw pos (keywordEach [] X.env))) := by rfl) :
    PE X (.Call (.Attribute o m apos) (e :: es) [] pos) (tMethD P w K mg base j m W ta t) := by
  subst hP hw hK hm hB
  exact pd_meth (pl := pl) hr tk he ha hst hpl ht
theorem kpd_meth0 {P : Program} {w : World} {K : PySem.W.Frag} {mg : Str → Option Value} {base : Heap} {pl : Sem Bool} (hr : Room j X.A) (tk : Takes X W) (he : PE X o ta)
    (hP : X.prog = P := by rfl) (hw : X.w = w := by rfl) (hK : X.K = K := by rfl) (hm : X.mg = mg := by rfl) (hB : X.base = base := by rfl)
    (ht : eval (.Call (.Attribute o m apos) [] [] pos) X.env = (do
      let ov ← eval o X.env
      standAt apos.atName
      let (f, first) ← holding [ov] (getMethod ov m pl)
      callWith pos f first (backTo pos (starEach [] X.env)) (backToKw pos (keywordEach [] X.env))) := by rfl) :
    PE X (.Call (.Attribute o m apos) [] [] pos) (tMethD P w K mg base j m W ta tNil) := by
  subst hP hw hK hm hB
  exact pd_meth0 (pl := pl) hr tk he ht

/-! ### both ways of a two-place rule -/
def rOr (r r' : R2) : R2 := fun x y H Q => r x y H Q ∨ r' x y H Q
theorem op_or2 {f : Value → Value → Sem Value} {r r' : R2} (h : OpR X f r) (h' : OpR X f r') : OpR X f (rOr r r') := OpR.or h h'
theorem call_or2 {f : Value} {r r' : List V → Hp → VK → Prop} (h : CallR X f r) (h' : CallR X f r') : CallR X f (fun xs H Q => r xs H Q ∨ r' xs H Q) := by
  intro pins s σ H xs us Q I v q
  rcases q with q | q
  · exact h pins s σ H xs us Q I v q
  · exact h' pins s σ H xs us Q I v q
/-- isinstance(e, c) of what a suite holds, its class told by the reading -/
def rIsED (K : PySem.W.Frag) (a : Addr) (cls : Value) (d : Option Addr) : List V → Hp → VK → Prop := fun xs H Q => ∃ D, cls = .ref D ∧ d = none ∧ ExcC K D ∧ rIsE K D a xs H Q
theorem call_isED {a : Addr} {oe : Obj} {pn : List (Addr × Obj)} {cls : Value} {d : Option Addr} (hz : Zc cls d oe) (hf : ∃ vs, oe.data = .fields vs) : CallR (X.suite a ((a, oe) :: pn)) (.builtin "isinstance") (rIsED X.K a cls d) := by
  intro pins s σ H xs us Q I r h
  obtain ⟨D, rfl, rfl, C, q⟩ := h
  exact call_isE C hz hf pins s σ H xs us Q I r q
/-- text * 0 or 1 -/
def rMulS : R2 := fun x y H Q => ∃ (a : Str) (b : Bool), x = .str a ∧ y = .int (if b then 1 else 0) ∧ Q (.str (if b then a else Str.empty)) H
theorem op_mulS : OpR X (binaryOp .Mult) rMulS := by
  intro pins s σ H x y v u Q I rx ry h
  obtain ⟨a, b, rfl, rfl, q⟩ := h
  obtain ⟨t, rfl⟩ := rx
  obtain ⟨t', rfl⟩ := ry
  cases b with
  | true =>
    refine SB.mul ⟨by decide, fun _ z => absurd z (by simp), fun _ z => absurd z (by simp)⟩ fun t' k => ?_
    refine ⟨.str a, H, I.tok _, ⟨t', ?_⟩, q⟩
    unfold Txt.mul
    rfl
  | false =>
    refine SB.mul ⟨by decide, fun z => absurd (show (0:Int) < 1 by decide) z, fun z => absurd (show (0:Int) < 1 by decide) z⟩ fun t' k => ?_
    refine ⟨.str Str.empty, H, I.tok _, ⟨t', ?_⟩, q⟩
    unfold Txt.mul
    rfl
end
/-! ### try: the body's and the suite's terms are given where the reading stands -/
section
variable {X : Cx} {x n : Str} {c : Value} {i : Nat} {body suite : List Stmt} {b0 : Stmt} {np pos pos' : Pos} {Wout : WX}
def tsD (X : Cx) (b0 : Stmt) (suite : List Stmt) (a : Addr) (cls : Value) (d : Option Addr) : TS := fun D σ H =>
  ∀ (oe : Obj) (pn : List (Addr × Obj)), Zc cls d oe → (∃ vs, oe.data = .fields vs) → ∃ t, PSs (X.suite a ((a, oe) :: pn)) (b0 :: suite) t ∧ t D σ H
def tbD (X : Cx) (body : List Stmt) (W : WX) : TS := fun D σ H =>
  ∀ (pn : List (Addr × Obj)) (xe : Value → Shared → Prop), Takes (X.tr pn xe) W → PassesOwn (model X.prog X.w) X.A X.env xe → ∃ t, PSs (X.tr pn xe) body t ∧ t D σ H
theorem ps_tryD (hs : X.stack = X.env :: X.outer) (hf : X.env.frame = some X.env.locals) (hN : X.N.Nodup) (hi : X.N[i]? = some n) (hln : X.env.kindOf n = some .local) (hc : Names X x c) (tk : Takes X Wout) :
    PS X (.Try body [.ExceptHandler (some (.Name x np)) (some n) (b0 :: suite) pos'] [] [] pos) (fun D σ H => tbD X body (wAs X.K c i (tsD X b0 suite) Wout D) D σ H) :=
  ps_try_as (tb := tbD X body) (ts := tsD X b0 suite) hs hf hN hi hln hc tk
    (fun _ pn xe tk1 po => ⟨fun pins s σ H D I h => let ⟨_, p, q⟩ := h pn xe tk1 po; p.run pins s σ H D I q⟩)
    (fun a oe cls d pn hz hv => ⟨fun pins s σ H D I h => let ⟨_, p, q⟩ := h oe pn hz hv; p.run pins s σ H D I q⟩)
end
/-! ### from a def's own promise -/
section
variable {P : Program} {w : World} {K : PySem.W.Frag} {mg : Str → Option Value} {base : Heap} {k : Nat} {f C : Addr} {fd : FuncData} {ps : List Str} {sp : Sp} {x m : Str}
theorem cal_mk (G : FnOk P w K mg base (L2.CX P w) k f fd ps sp) (hm : mg x = some (.ref f)) (kp : PySem.W.keepIn K (.ref f) = true) (b : Binds K fd ps []) : CalX P w K mg base k x sp :=
  ⟨f, fd, ps, [], [], sp, G, hm, kp, b, .nil, fun _ _ _ _ h => by rw [List.append_nil]; exact h⟩
theorem met_mk (c : Cls K C) (me : Meth K C m f) (G : FnOk P w K mg base (L2.CX P w) k f fd ps sp) (b : Binds K fd ps []) : MetX P w K mg base k C m sp :=
  ⟨f, fd, ps, [], [], sp, c, me, G, b, .nil, fun _ _ _ _ h => by rw [List.append_nil]; exact h⟩
theorem mak_mk (M : Mk K C f) (hm : mg x = some (.ref C)) (G : FnOk P w K mg base (L2.CX P w) k f fd ps sp) (b : Binds K fd ps []) : MakX P w K mg base k x C sp :=
  ⟨f, fd, ps, [], [], sp, M, hm, G, b, .nil, fun _ _ _ _ h => by rw [List.append_nil]; exact h⟩
theorem cal_false (hm : mg x = some (.ref f)) (kp : PySem.W.keepIn K (.ref f) = true) (b : Binds K fd ps []) : CalX P w K mg base 0 x (fun _ _ _ _ => False) :=
  cal_mk ⟨fun _ _ _ _ h => h.elim, fun _ _ _ _ _ _ _ _ _ _ _ _ _ h => h.elim⟩ hm kp b
theorem CalX.imp {sp' : Sp} (c : CalX P w K mg base k x sp) (h : ∀ vs H Q E, sp' vs H Q E → sp vs H Q E) : CalX P w K mg base k x sp' := by
  obtain ⟨f, fd, ps, ds, dvs, sp0, F, hm, kp, b, d, imp⟩ := c.ex
  exact ⟨f, fd, ps, ds, dvs, sp0, F, hm, kp, b, d, fun vs H Q E q => imp vs H Q E (h vs H Q E q)⟩
theorem MetX.imp {sp' : Sp} (c : MetX P w K mg base k C m sp) (h : ∀ vs H Q E, sp' vs H Q E → sp vs H Q E) : MetX P w K mg base k C m sp' := by
  obtain ⟨f, fd, ps, ds, dvs, sp0, F, hm, kp, b, d, imp⟩ := c.ex
  exact ⟨f, fd, ps, ds, dvs, sp0, F, hm, kp, b, d, fun vs H Q E q => imp vs H Q E (h vs H Q E q)⟩
/-- two promises of one def at once -/
theorem FnOk.or {sp' : Sp} (F : FnOk P w K mg base (L2.CX P w) k f fd ps sp) (G : FnOk P w K mg base (L2.CX P w) k f fd ps sp') : FnOk P w K mg base (L2.CX P w) k f fd ps (fun vs H Q E => sp vs H Q E ∨ sp' vs H Q E) :=
  ⟨fun vs H Q E h => h.elim (F.len vs H Q E) (G.len vs H Q E), fun A outer s H args us vs Q E hr he hb hv hs => hs.elim (F.run A outer s H args us vs Q E hr he hb hv) (G.run A outer s H args us vs Q E hr he hb hv)⟩
end
end Ew

set_option Elab.async false
set_option linter.all false
set_option maxRecDepth 100000
set_option maxHeartbeats 4000000
/-! all(.. for ..), any(.. for ..): the element is any expression that the reading serves. -/
namespace EwG
open PySem PySem.Spec PyProof.Rows L2 Ew GxR

/-- the context of a generator expression's frame -/
abbrev gx (X : Cx) (A1 : Around) (s : Shared) (H : Hp) (cenv : Env) (fp : List Addr) (pn : List (Addr × Obj)) : Cx :=
  { X with A := A1, s_0 := s, H_0 := H, env := cenv, outer := X.stack, stack := cenv :: X.stack, ex := fp, fn := fun _ => false, calm := true, pn := pn, xe := fun _ _ => False }

theorem inv_same {X : Cx} {pins : List (Addr × Obj)} {σ : L2.St} {H : Hp} {s s' : Shared} (I : Inv X pins σ H s) (hh : s'.heap = s.heap) (ho : s'.os = s.os) (hb : AllBare s'.gens) : Inv X pins σ H s' := by
  obtain ⟨h', g', d', t', o'⟩ := s'
  have e1 : h' = s.heap := hh
  have e2 : o' = s.os := ho
  subst e1 e2
  exact ⟨I.ok, I.os, hb, I.base, I.loc, I.cell, I.free, I.freeC, I.pin, I.hok, I.len⟩

section
variable {X : Cx} {pins : List (Addr × Obj)} {σ : L2.St} {H : Hp} {s : Shared}
abbrev genv (X : Cx) (scope : Scope) (C : Addr) (code : Value) : Env := genEnv scope (cloFrom X.env.cells scope.names []) C code builtinsNs X.env

theorem gen_start {scope : Scope} {own : List (Str × Nat)} {fp : List Addr} {A1 : Around} {h' : Heap} {obj : Obj} {code : Value} {m : Str → Option Value} {g' : Array GenState} {t' : Nat}
    (I : Inv X pins σ H s) (ok : BlkOk X.N X.env.scope scope own) (hcell : ∀ y ∈ scope.names, y.2 ≠ .cell) (hN : X.N.Nodup) (hfp : ∀ b ∈ fp, FpOk X pins H b ∧ b < s.heap.objs.size)
    (hA : A1.handled = none) (hfr : A1.frames = some (genv X scope s.heap.objs.size code :: X.stack)) (hn' : h'.Ns s.heap.objs.size m) (kp0 : ∀ b o, s.heap.get? b = some o → h'.get? b = some o) (hs : h'.objs.size = s.heap.objs.size + 1)
    (hob : (h'.push obj).get? h'.objs.size = some obj) (hod : ∀ v, obj.data ≠ .cell v) (hg : AllBare g') :
    Inv (gx X A1 s H (genv X scope s.heap.objs.size code) fp [(h'.objs.size, obj)]) [] (wipe σ (own.map (·.2))) H { s with heap := h'.push obj, gens := g', toks := t' } := by
  have hfree : ∀ y ∈ scope.names, y.2 = .free → ∃ c, X.env.cells.lookup y.1 = some c := fun y hy e => by
    rcases ok.free y hy e with k | k
    · exact I.ok.has _ (.inl k)
    · exact I.ok.has _ (.inr k)
  have kp : ∀ b o, s.heap.get? b = some o → (h'.push obj).get? b = some o := fun b o e => Heap.get?_push_of_some _ (kp0 b o e)
  generalize hcenv : genv X scope s.heap.objs.size code = cenv at hfr
  have hL : cenv.locals = s.heap.objs.size := by rw [← hcenv]; rfl
  have hF : cenv.frame = some cenv.locals := by rw [← hcenv]; rfl
  have hcl : cenv.cells = cloFrom X.env.cells scope.names [] := by rw [← hcenv]; rfl
  have hsc : cenv.scope = scope := by rw [← hcenv]; rfl
  have cm : ∀ {y c}, cenv.cells.lookup y = some c → X.env.cells.lookup y = some c ∧ c < s.heap.objs.size := fun {y c} hm => by
    rw [hcl] at hm
    rcases cloFrom_mem (PySem.mem_of_lookup hm) with hm | ⟨h1, rfl⟩
    · cases hm
    · obtain ⟨c, hc⟩ := hfree _ h1 rfl
      rw [hc]
      obtain ⟨w, z⟩ := I.cell _ _ hc
      exact ⟨rfl, z.lt⟩
  have look : ∀ {y}, scope.names.lookup y = some .free → ∃ c, cenv.cells.lookup y = some c ∧ X.env.cells.lookup y = some c := fun {y} hl => by
    have hy : (y, NameKind.free) ∈ scope.names := PySem.mem_of_lookup hl
    obtain ⟨c', e'⟩ := mem_lookup (cloFrom_has (cells := X.env.cells) (acc := []) hy)
    rw [← hcl] at e'
    exact ⟨c', e', (cm e').1⟩
  have okB : (gx X A1 s H cenv fp [(h'.objs.size, obj)]).Ok := by
    refine ⟨I.ok.mod, by show cenv.scope.kind = _; rw [hsc]; exact ok.kind, by show cenv.globals = _; rw [← hcenv]; exact I.ok.glob, by show cenv.builtins = _; rw [← hcenv]; rfl, by show s.heap.objs.size ≤ cenv.locals; rw [hL]; exact Nat.le_refl _,
      fun y z c e1 e2 => I.ok.inj y z c (cm e1).1 (cm e2).1, fun y hy => ?_, fun y c z e => absurd (show false = true from z) Bool.false_ne_true, fun _ => hA, hfr, .inr ⟨rfl, hF⟩, fun b hb => ⟨?_, fun y c e z => ?_⟩, I.bs, Nat.le_trans I.ok.bsz I.sz, fun b o e hb => ?_, fun b hb z => ?_, I.stack, I.stkFree⟩
    · show ∃ c, cenv.cells.lookup y = some c
      rcases hy with hy | hy
      · have hy : cenv.scope.names.lookup y = some .cell := hy
        rw [hsc] at hy
        exact absurd rfl (hcell _ (PySem.mem_of_lookup hy))
      · have hy : cenv.scope.names.lookup y = some .free := hy
        rw [hsc] at hy
        obtain ⟨c, h1, _⟩ := look hy
        exact ⟨c, h1⟩
    · show b ≠ cenv.locals
      rw [hL]; exact Nat.ne_of_lt (hfp b hb).2
    · exact (hfp b hb).1.2.2.2.2.1 y c (cm e).1 z
    · rcases (hfp b hb).1.2.2.2.1 with z | z
      · exact I.ok.noex b o e z
      · exact absurd (Nat.lt_of_lt_of_le (Heap.lt_size e) (Nat.le_trans I.ok.bsz z)) (Nat.lt_irrefl _)
    · rcases List.mem_cons.mp (I.stkSub b z) with z | z
      · exact (hfp b hb).1.2.1 z
      · exact (hfp b hb).1.2.2.1 z
  refine ⟨okB, rfl, hg, Un.kept kp, ⟨m, ?_, fun i y av e1 e2 e3 => ?_⟩, fun y c e => ?_, ?_, fun y c e => ?_, fun p hp => ?_, I.hok.kept kp, by rw [wipe_length]; exact I.len⟩
  · show Heap.Ns _ cenv.locals _
    rw [hL]
    exact hn'.push _
  · obtain ⟨e2, hne⟩ := wipe_some e2
    have hfr : scope.names.lookup y = some .free := by
      have key : ∀ k, scope.names.lookup y = some k → k = .local ∨ k = .cell → False := fun k hk hh => by
        rcases ok.own _ (PySem.mem_of_lookup hk) hh with e' | e'
        · obtain ⟨p, hp, hpy⟩ := List.mem_map.mp e'
          have e3 := ok.ix p hp
          have : p.1 = y := hpy
          rw [this] at e3
          exact hne (List.mem_map.mpr ⟨p, hp, nodup_ix hN e3 e1⟩)
        · exact e' (List.mem_of_getElem? e1)
      have e3 : Vis cenv.scope y := e3
      rw [hsc] at e3
      rcases e3 with e3 | e3 | e3
      · exact (key _ e3 (.inl rfl)).elim
      · exact (key _ e3 (.inr rfl)).elim
      · exact e3
    obtain ⟨m, hn, hl⟩ := I.loc
    have hvis : Vis X.env.scope y := (ok.free _ (PySem.mem_of_lookup hfr) rfl).elim (fun k => .inr (.inl k)) (fun k => .inr (.inr k))
    obtain ⟨w, r, q⟩ := hl i y av e1 e2 hvis
    refine ⟨w, r, .inr ⟨.inr (by show cenv.scope.names.lookup y = _; rw [hsc]; exact hfr), ?_⟩⟩
    obtain ⟨c, h1, h2⟩ := look hfr
    rcases q with ⟨k, _⟩ | ⟨_, c', e', z⟩
    · have k : X.env.scope.names.lookup y = some .local := k
      rcases ok.free _ (PySem.mem_of_lookup hfr) rfl with k' | k' <;> rw [show X.env.scope.names.lookup y = _ from k'] at k <;> cases k
    · rw [h2] at e'; cases e'
      exact ⟨c, h1, z.keeps kp⟩
  · obtain ⟨w, z⟩ := I.cell y c (cm e).1
    exact ⟨w, z.keeps kp⟩
  · show H cenv.locals = none
    rw [hL]; exact I.hok.fresh (Nat.le_refl _)
  · exact I.freeC y c (cm e).1
  · have e : p = (h'.objs.size, obj) := by
      have hp : p ∈ [(h'.objs.size, obj)] ++ [] := hp
      simpa using hp
    subst e
    have le : s.heap.objs.size ≤ h'.objs.size := by omega
    refine ⟨hob, I.hok.fresh le, ?_, fun z => ?_, hod⟩
    · show h'.objs.size ≠ cenv.locals
      rw [hL, hs]; exact Nat.succ_ne_self _
    · rcases List.mem_cons.mp (I.stkSub _ z) with z | z
      · have := I.lt
        rw [← show h'.objs.size = X.env.locals from z] at this
        exact absurd (Nat.lt_of_lt_of_le this le) (Nat.lt_irrefl _)
      · exact I.nofs le z

/-- e: the truth that goes on (all: True, any: False) -/
def GW (J : It) (g : TG) (te : TE) (vs : List Nat) (σ : L2.St) (e : Bool) (Q : VK) (W : Nat → Nat → Hp → Prop) : Prop := ∀ i m H, W i m H →
  (J.stop i H ∧ Q (.bl e) H) ∨ (J.go i H ∧ ∀ x H', J.yld i H x H' → g x (wipe σ vs) H' fun σ2 H2 => wipe σ2 vs = wipe σ vs ∧ te σ2 H2 fun y H3 => ∃ b, y = .bl b ∧ (b = e → ∃ m', m' < m ∧ W (i + 1) m' H3) ∧ (b ≠ e → Q (.bl b) H3))
abbrev GP (Y : Cx) (e : Bool) (Q : VK) : Nat → Shared → Shared → Prop := fun _ _ s => ∃ σ H, Inv Y [] σ H s ∧ Q (.bl e) H
abbrev GRn (Y : Cx) (e : Bool) (Q : VK) : GenEnd := fun n s₀ r s => r = .ok .next ∧ GP Y e Q n s₀ s
def GYp (Y : Cx) (e : Bool) (Q : VK) : Protocol := fun n s₀ v s kap => ∃ b σ H, v = .bool b ∧ Inv Y [] σ H s ∧ (b ≠ e → Q (.bl b) H) ∧ (b = e → ∀ s' : Shared, s'.heap = s.heap → s'.os = s.os → AllBare s'.gens → kap (.send .none) s')

theorem seg_loop {Y : Cx} {A2 : Around} {elt tg iter : Expr} {scope : Scope} {pos : Pos} {it : Addr} {fp : List Addr} {tn : Nat → Heap → Prop} {J : It} {g : TG} {te : TE} {vs : List Nat} {σ : L2.St} {e : Bool} {Q : VK} {W : Nat → Nat → Hp → Prop}
    (hA : Y.A = A2.over (.compLoop (.GeneratorExp elt [⟨tg, iter, [], 0⟩] scope pos) 0 (.ref it) .none Y.env) []) (hex : Y.ex = fp) (hc : Y.calm = true) (hx : Y.xe = fun _ _ => False) (hpn : ∀ b ∈ fp, ∀ p ∈ Y.pn, p.1 ≠ b) (hco : Y.env.scope.isCoroutine = false)
    (T : Turn Y.prog Y.w Y.K tg J fp it tn) (pg : PG Y tg g) (pe : PE Y elt te) (hW : GW J g te vs σ e Q W) :
    ∀ (m i n : Nat) (s₀ s : Shared) (H : Hp), m < n → Inv Y [] (wipe σ vs) H s → tn i s.heap → (∀ b ∈ fp, H b = none) → W i m H →
      Seg (model Y.prog Y.w) A2 (GRn Y e Q) (GYp Y e Q) n s₀ (.compLoop (.GeneratorExp elt [⟨tg, iter, [], 0⟩] scope pos) 0 (.ref it) .none Y.env)
        ((model Y.prog Y.w).den (.compLoop (.GeneratorExp elt [⟨tg, iter, [], 0⟩] scope pos) 0 (.ref it) .none Y.env)) [] s := by
  have stat : ∀ {σ' : L2.St} {H' : Hp} {s' : Shared}, Inv Y [] σ' H' s' → (∀ b ∈ fp, H' b = none) → ∀ b ∈ fp, FpOk Y [] H' b := fun {σ' H' s'} I' hn b hb =>
    have hb' : b ∈ Y.ex := by rw [hex]; exact hb
    ⟨hn b hb, (I'.ok.exf b hb').1, I'.ok.exfs b hb', .inl hb', fun x c e => (I'.ok.exf b hb').2 x c e, fun p hp => hpn b hb p (by simpa using hp)⟩
  intro m
  induction m using Nat.strongRecOn with
  | ind m ih =>
    intro i n s₀ s H hmn I st hn w
    show Seg _ A2 _ _ _ s₀ _ ((compTurn (.GeneratorExp elt [⟨tg, iter, [], 0⟩] scope pos) 0 (.ref it) .none Y.env).onRaise (leaving Y.env)) [] s
    rw [compTurn_gen, Sem.onRaise_eq_wrap]
    refine seg_bind_wrap (wpAny_standAt ?_)
    rcases hW i m H w with ⟨stop, q⟩ | ⟨go, step⟩
    · refine seg_bind_wrap ?_
      rw [← hA]
      refine thnF (T.done Y rfl rfl rfl hc i [] s _ H (fun _ _ => False) I (stat I hn) st stop) fun r s6 ⟨hr, I6⟩ => ?_
      subst hr
      exact seg_end (.ok .next) ⟨rfl, _, H, I6, q⟩
    · refine seg_bind_wrap ?_
      rw [← hA]
      refine thnF (T.item Y rfl rfl rfl hc i [] s _ H (fun _ _ => False) I (stat I hn) st go) fun r s6 ⟨u, hr, h6⟩ => ?_
      subst hr
      refine seg_bind_wrap ?_
      rw [← hA]
      refine thnF h6 fun _ s7 ⟨x, H7, I7, r7, y7, st7, n7⟩ => ?_
      have I7' := I7.pinned (stat I7 n7) (T.obj _ _ st7)
      refine seg_bind_wrap ?_
      rw [← hA]
      have hpg := pg.run _ s7 _ H7 x u _ I7' r7 (step x H7 y7)
      rw [hx] at hpg
      refine thnF hpg fun _ s8 ⟨σ8, H8, I8, hw8, q8⟩ => ?_
      refine seg_bind_wrap ?_
      rw [← hA]
      refine wpAny_tests_nil ?_
      simp only [if_true]
      have hy : ∀ v, yieldOut Y.env v = yieldValue v := fun v => by simp only [yieldOut, hco, Bool.false_eq_true, if_false]
      simp only [hy]
      rw [Sem.bind_eq_wrap', Sem.bind_eq_wrap', Sem.wrap_wrap, Sem.wrap_wrap]
      refine seg_wrap ?_
      rw [← hA]
      have hpe := pe.run _ s8 σ8 H8 _ I8 q8
      rw [hx] at hpe
      refine thnF hpe fun z s9 ⟨y, H9, I9, r9, b, hyb, q9⟩ => ?_
      subst hyb
      have hz : z = .bool b := r9
      subst hz
      have pin' : ∀ c ∈ fp, ∀ o, s7.heap.get? c = some o → s9.heap.get? c = some o ∧ H9 c = none := fun c hb o e =>
        let z := I9.pin (c, o) (List.mem_append_right _ (List.mem_append_right _ (mem_pinsAt hb e)))
        ⟨z.1, z.2.1⟩
      have hl : (wipe σ vs).length = σ8.length := by rw [← hw8, wipe_length]
      have I10 : Inv Y [] (wipe σ vs) H9 s9 := (I9.unpinned (pins := [])).weak hl fun j v e => by
        rw [← hw8] at e
        exact (wipe_some e).1
      obtain ⟨n', rfl⟩ : ∃ n', n = n' + 1 := ⟨n - 1, by omega⟩
      refine seg_at (seg_yield rfl rfl rfl ⟨b, _, H9, rfl, I10, q9.2, fun hb s' hh ho hg => ?_⟩)
      obtain ⟨m', hm, w'⟩ := q9.1 hb
      refine seg_again rfl (ih m' hm (i + 1) n' s' s' H9 (by omega) (inv_same I10 hh ho hg) ?_ (fun c hc => ?_) w')
      · rw [hh]
        exact T.keep _ _ _ st7 fun c hb o e => (pin' c hb o e).1
      · obtain ⟨o, e, _⟩ := T.obj _ _ st7 c hc
        exact (pin' c hc o e).2

theorem seg_start {Y : Cx} {A2 : Around} {elt tg iter : Expr} {scope : Scope} {pos : Pos} {it : Addr} {fp : List Addr} {tn : Nat → Heap → Prop} {J : It} {e : Bool} {Q : VK} {n : Nat} {s₀ s : Shared}
    (T : Turn Y.prog Y.w Y.K tg J fp it tn) (st : tn 0 s.heap)
    (loop : Seg (model Y.prog Y.w) A2 (GRn Y e Q) (GYp Y e Q) n s₀ (.compLoop (.GeneratorExp elt [⟨tg, iter, [], 0⟩] scope pos) 0 (.ref it) .none Y.env)
        ((model Y.prog Y.w).den (.compLoop (.GeneratorExp elt [⟨tg, iter, [], 0⟩] scope pos) 0 (.ref it) .none Y.env)) [] s) :
    Seg (model Y.prog Y.w) A2 (GRn Y e Q) (GYp Y e Q) n s₀ (.compStart (.GeneratorExp elt [⟨tg, iter, [], 0⟩] scope pos) 0 (.ref it) .none Y.env)
        ((model Y.prog Y.w).den (.compStart (.GeneratorExp elt [⟨tg, iter, [], 0⟩] scope pos) 0 (.ref it) .none Y.env)) [] s := by
  show Seg _ A2 _ _ _ s₀ _ ((compStart (.GeneratorExp elt [⟨tg, iter, [], 0⟩] scope pos) 0 (.ref it) .none Y.env).onRaise (leaving Y.env)) [] s
  unfold compStart
  rw [Sem.onRaise_eq_wrap]
  show Seg _ A2 _ _ _ s₀ _ ((ask >>= _).wrap _ _ _ _) [] s
  refine seg_bind_wrap (wpAny_askSetting ?_)
  split
  · exact seg_again rfl loop
  · first
      | exact seg_bind_wrap (wpAny_rule (seg_bind_wrap (wpAny_standAt (seg_bind_wrap (T.self _ 0 s _ _ st (seg_again rfl loop))))))
      | (refine seg_bind_wrap (wpAny_rule ?_); show Seg _ A2 _ _ _ s₀ _ ((standAt iter.pos >>= _).wrap _ _ _ _) [] s; exact seg_bind_wrap (wpAny_standAt (seg_bind_wrap (T.self _ 0 s _ _ st (seg_again rfl loop)))))

theorem fin_heap {Y : Cx} {σ : L2.St} {H : Hp} {s₁ : Shared} {g : Nat} {h' : Heap} (I : Inv Y [] σ H s₁) (k : ∀ b o, s₁.heap.get? b = some o → h'.get? b = some o) : Inv Y [] σ H { s₁.setGen g .finished with heap := h' } :=
  inv_same (s' := { s₁.setGen g .finished with heap := h' }) (Inv.kept (t' := s₁.toks) I k) rfl rfl (allBare_setGen I.bare rfl)

/-- one step of the walk -/
theorem next_gen {Y : Cx} {A : Around} {a : Addr} {g n : Nat} {gs : GenState} {e : Bool} {Q : VK} {s : Shared} {Qo : Option Value → Shared → Prop} {E : Value → Shared → Prop} (hh : A.handled = none) (hroom : A.depth < recursionLimit)
    (hl : s.heap.NoLimit) (hg : s.heap.IsGen a g) (hgs : s.gens[g]? = some gs) (hb : AllBare s.gens)
    (hgo : ∀ s' : Shared, s'.heap = s.heap → s'.os = s.os → AllBare s'.gens → gs.Goes (model Y.prog Y.w) A.in1 (GRn Y e Q) (GYp Y e Q) n (.send .none) s')
    (hE : ∀ σ H s', Inv Y [] σ H s' → Q (.bl e) H → Qo none s')
    (hO : ∀ b σ H s', b ≠ e → Inv Y [] σ H s' → Q (.bl b) H → Qo (some (.bool b)) s')
    (hN : ∀ n' gs' σ H s', n = n' + 1 → Inv Y [] σ H s' → s'.gens[g]? = some gs' → (∀ s'' : Shared, s''.heap = s'.heap → s''.os = s'.os → AllBare s''.gens → gs'.Goes (model Y.prog Y.w) A.in1 (GRn Y e Q) (GYp Y e Q) n' (.send .none) s'') → Qo (some (.bool e)) s') :
    wpAny (model Y.prog Y.w) A (pyNext (.ref a)) Qo E s := by
  have hgl : g < s.gens.size := by
    rcases Nat.lt_or_ge g s.gens.size with h | h
    · exact h
    · rw [Array.getElem?_eq_none h] at hgs; cases hgs
  refine GenW.wpAny_gsz (Nat.le_refl s.gens.size) ?_
  refine wpAny_pyNext_genexpQ (P := GP Y e Q) hh hl hroom hg hgs (hgo _ rfl rfl (allBare_setGen hb rfl)) (fun v s₁ gs' hbr hY => ?_) (fun s₁ hP h' hk => ?_)
  · obtain ⟨b, σ, H, rfl, I, qne, qe⟩ := hY
    intro hsz
    have hsz1 : g < s₁.gens.size := by
      rw [GenW.setGen_size] at hsz
      omega
    have I' : Inv Y [] σ H (s₁.setGen g gs') := inv_same (s' := s₁.setGen g gs') I rfl rfl (allBare_setGen I.bare hbr)
    by_cases hbe : b = e
    · subst hbe
      have k := qe rfl
      cases n with
      | zero => exact False.elim (k s₁ rfl rfl I.bare)
      | succ n' =>
        refine hN n' gs' σ H _ rfl I' (setGen_self (gs := s₁.gens[g]) (Array.getElem?_eq_getElem hsz1)) fun s'' h1 h2 h3 => ?_
        exact k s'' h1 h2 h3
    · exact hO b σ H _ hbe I' (qne hbe)
  · obtain ⟨σ, H, I, q⟩ := hP
    intro _
    exact hE σ H _ (fin_heap I hk) q

theorem drv_all {Y : Cx} {A : Around} {a : Addr} {g : Nat} {Q : VK} {R : Result → Shared → Prop} {og : Obj} (hpn : (a, og) ∈ Y.pn) (hig : ∀ h : Heap, h.get? a = some og → h.IsGen a g)
    (hh : A.in1.handled = none) (hroom : A.in1.depth < recursionLimit) (hR : ∀ b σ H s', Inv Y [] σ H s' → Q (.bl b) H → R (.ok (.ret (.bool b))) s') :
    ∀ (n : Nat) (gs : GenState) (σ : L2.St) (H : Hp) (s : Shared), Inv Y [] σ H s → s.gens[g]? = some gs →
      (∀ s' : Shared, s'.heap = s.heap → s'.os = s.os → AllBare s'.gens → gs.Goes (model Y.prog Y.w) A.in1.in1 (GRn Y true Q) (GYp Y true Q) n (.send .none) s') →
      codeAny (model Y.prog Y.w) A (.builtin "all.loop" ⟨[.ref a], []⟩) R s := by
  intro n
  induction n with
  | zero =>
    intro gs σ H s I hgs hgo
    refine codeAny_builtin F.entry_all_loop ?_
    rw [Around.under_plainId F.plain_all_loop _]
    show wpAny _ A.in1 (pyNext (.ref a) >>= _) _ _ s
    refine wpAny_bind (next_gen hh hroom I.nolimit (hig _ (I.pin _ (List.mem_append_left _ hpn)).1) hgs I.bare hgo (fun σ H s' I' q => ?_) (fun b σ H s' hb I' q => ?_) fun n' gs' σ H s' hn I' h1 h2 => absurd hn (Nat.succ_ne_zero n').symm)
    · exact wpAny_bind (wpAny_rule (wpAny_pure (hR true σ H s' I' q)))
    · have hb : b = false := by cases b <;> simp_all
      subst hb
      refine wpAny_bind (wpAny_holding (wpAny_truthy_bool ?_))
      refine wpAny_bind (wpAny_letGo ?_)
      simp only [Bool.false_eq_true, if_false]
      exact wpAny_bind (wpAny_rule (wpAny_pure (hR false σ H s' I' q)))
  | succ n ih =>
    intro gs σ H s I hgs hgo
    refine codeAny_builtin F.entry_all_loop ?_
    rw [Around.under_plainId F.plain_all_loop _]
    show wpAny _ A.in1 (pyNext (.ref a) >>= _) _ _ s
    refine wpAny_bind (next_gen hh hroom I.nolimit (hig _ (I.pin _ (List.mem_append_left _ hpn)).1) hgs I.bare hgo (fun σ H s' I' q => ?_) (fun b σ H s' hb I' q => ?_) fun n' gs' σ H s' hn I' h1 h2 => ?_)
    · exact wpAny_bind (wpAny_rule (wpAny_pure (hR true σ H s' I' q)))
    · have hb : b = false := by cases b <;> simp_all
      subst hb
      refine wpAny_bind (wpAny_holding (wpAny_truthy_bool ?_))
      refine wpAny_bind (wpAny_letGo ?_)
      simp only [Bool.false_eq_true, if_false]
      exact wpAny_bind (wpAny_rule (wpAny_pure (hR false σ H s' I' q)))
    · cases hn
      refine wpAny_bind (wpAny_holding (wpAny_truthy_bool ?_))
      refine wpAny_bind (wpAny_letGo ?_)
      simp only [if_true]
      exact wpAny_pure ⟨plainId_quiet F.plain_all_loop _, ih gs' σ H s' I' h1 h2⟩
theorem drv_any {Y : Cx} {A : Around} {a : Addr} {g : Nat} {Q : VK} {R : Result → Shared → Prop} {og : Obj} (hpn : (a, og) ∈ Y.pn) (hig : ∀ h : Heap, h.get? a = some og → h.IsGen a g)
    (hh : A.in1.handled = none) (hroom : A.in1.depth < recursionLimit) (hR : ∀ b σ H s', Inv Y [] σ H s' → Q (.bl b) H → R (.ok (.ret (.bool b))) s') :
    ∀ (n : Nat) (gs : GenState) (σ : L2.St) (H : Hp) (s : Shared), Inv Y [] σ H s → s.gens[g]? = some gs →
      (∀ s' : Shared, s'.heap = s.heap → s'.os = s.os → AllBare s'.gens → gs.Goes (model Y.prog Y.w) A.in1.in1 (GRn Y false Q) (GYp Y false Q) n (.send .none) s') →
      codeAny (model Y.prog Y.w) A (.builtin "any.loop" ⟨[.ref a], []⟩) R s := by
  intro n
  induction n with
  | zero =>
    intro gs σ H s I hgs hgo
    refine codeAny_builtin F.entry_any_loop ?_
    rw [Around.under_plainId F.plain_any_loop _]
    show wpAny _ A.in1 (pyNext (.ref a) >>= _) _ _ s
    refine wpAny_bind (next_gen hh hroom I.nolimit (hig _ (I.pin _ (List.mem_append_left _ hpn)).1) hgs I.bare hgo (fun σ H s' I' q => ?_) (fun b σ H s' hb I' q => ?_) fun n' gs' σ H s' hn I' h1 h2 => absurd hn (Nat.succ_ne_zero n').symm)
    · exact wpAny_bind (wpAny_rule (wpAny_pure (hR false σ H s' I' q)))
    · have hb : b = true := by cases b <;> simp_all
      subst hb
      refine wpAny_bind (wpAny_holding (wpAny_truthy_bool ?_))
      refine wpAny_bind (wpAny_letGo ?_)
      simp only [if_true]
      exact wpAny_bind (wpAny_rule (wpAny_pure (hR true σ H s' I' q)))
  | succ n ih =>
    intro gs σ H s I hgs hgo
    refine codeAny_builtin F.entry_any_loop ?_
    rw [Around.under_plainId F.plain_any_loop _]
    show wpAny _ A.in1 (pyNext (.ref a) >>= _) _ _ s
    refine wpAny_bind (next_gen hh hroom I.nolimit (hig _ (I.pin _ (List.mem_append_left _ hpn)).1) hgs I.bare hgo (fun σ H s' I' q => ?_) (fun b σ H s' hb I' q => ?_) fun n' gs' σ H s' hn I' h1 h2 => ?_)
    · exact wpAny_bind (wpAny_rule (wpAny_pure (hR false σ H s' I' q)))
    · have hb : b = true := by cases b <;> simp_all
      subst hb
      refine wpAny_bind (wpAny_holding (wpAny_truthy_bool ?_))
      refine wpAny_bind (wpAny_letGo ?_)
      simp only [if_true]
      exact wpAny_bind (wpAny_rule (wpAny_pure (hR true σ H s' I' q)))
    · cases hn
      refine wpAny_bind (wpAny_holding (wpAny_truthy_bool ?_))
      refine wpAny_bind (wpAny_letGo ?_)
      simp only [Bool.false_eq_true, if_false]
      exact wpAny_pure ⟨plainId_quiet F.plain_any_loop _, ih gs' σ H s' I' h1 h2⟩

/-- the around of the generator's body, of a consumer that is called at A -/
abbrev gA (A : Around) (elt tg iter : Expr) (scope : Scope) (pos : Pos) (it : Addr) (cenv : Env) : Around := A.in1.in1.over (.compLoop (.GeneratorExp elt [⟨tg, iter, [], 0⟩] scope pos) 0 (.ref it) .none cenv) []
theorem gA_room {k : Nat} {A : Around} {elt tg iter : Expr} {scope : Scope} {pos : Pos} {it : Addr} {cenv : Env} (r : Room (k + 1) A) : Room k (gA A elt tg iter scope pos it cenv) :=
  ⟨r.hd, by have := r.dp; show A.depth + 0 + 1 + 3 * k + 5 < _; omega, by have := r.un; show A.units + 1 + 1 + 0 + 3 + 16 * k + 200 < _; omega⟩
theorem gA_frames {A : Around} {elt tg iter : Expr} {scope : Scope} {pos : Pos} {it : Addr} {cenv : Env} {l : List Env} (h : A.frames = some l) : (gA A elt tg iter scope pos it cenv).frames = some (cenv :: l) := by
  show pushEnvs [cenv] (pushEnvs [] A.frames) = _
  rw [h]
  rfl

/-- the generator at a, that has not begun -/
def Ready2 (X : Cx) (pins : List (Addr × Obj)) (σ : L2.St) (e : Bool) (Q : VK) (a : Addr) (s5 : Shared) : Prop :=
  ∃ (A1 : Around) (s4 : Shared) (H4 : Hp) (cenv : Env) (fp : List Addr) (pn : List (Addr × Obj)) (og : Obj) (g : Nat) (gs : GenState) (σ' : L2.St) (H5 : Hp) (n : Nat),
    (a, og) ∈ pn ∧ (∀ h : Heap, h.get? a = some og → h.IsGen a g) ∧ Inv (gx X A1 s4 H4 cenv fp pn) [] σ' H5 s5 ∧ s5.gens[g]? = some gs ∧
    (∀ s' : Shared, s'.heap = s5.heap → s'.os = s5.os → AllBare s'.gens → gs.Goes (model X.prog X.w) X.A.in1.in1 (GRn (gx X A1 s4 H4 cenv fp pn) e Q) (GYp (gx X A1 s4 H4 cenv fp pn) e Q) n (.send .none) s') ∧
    ∀ σ' H' s', Inv (gx X A1 s4 H4 cenv fp pn) [] σ' H' s' → Inv X pins σ H' s'

/-- all(.., any(..: the reading; e: the truth that goes on -/
def tGen (e : Bool) (P : Addr) (wi : TI) (g : TG) (te : TE) (vs : List Nat) : TE := fun σ H Q => wi σ H fun J H1 => TabG H1 P ∧ ∀ H2, Tabbed P H1 H2 → ∃ W : Nat → Nat → Hp → Prop, (∃ m, W 0 m H2) ∧ GW J g te vs σ e Q W

theorem gen_make {c P : Addr} {elt tg iter : Expr} {gpos : Pos} {scope : Scope} {own : List (Str × Nat)} {wi : TI} {g : TG} {te : TE} {k : Nat} {e : Bool} {Q : VK} {Q' : Value → Shared → Prop}
    (hr : Room (k + 1) X.A) (TB : TabB X.base X.mg c P) (hcode : X.env.code = .ref c) (hN : X.N.Nodup) (ok : BlkOk X.N X.env.scope scope own) (hcell : ∀ y ∈ scope.names, y.2 ≠ .cell) (hco : scope.isCoroutine = false) (h0 : scope.names.lookup (".0" : Str) = some NameKind.local)
    (hi : PI X tg iter wi)
    (hpg : ∀ (A1 : Around) (s : Shared) (H : Hp) (C : Addr) (code : Value) (fp : List Addr) (pn : List (Addr × Obj)), PG (gx X A1 s H (genv X scope C code) fp pn) tg g)
    (hpe : ∀ (A1 : Around) (s : Shared) (H : Hp) (C : Addr) (code : Value) (fp : List Addr) (pn : List (Addr × Obj)), Room k A1 → PE (gx X A1 s H (genv X scope C code) fp pn) elt te)
    (hs : ∀ v, genFold iter X.env v = pure v) (I : Inv X pins σ H s) (h : tGen e P wi g te (own.map (·.2)) σ H Q)
    (hQ : ∀ a s5, Ready2 X pins σ e Q a s5 → Q' (.ref a) s5) :
    wpAny (model X.prog X.w) X.A (eval (.GeneratorExp elt [⟨tg, iter, [], 0⟩] scope gpos) X.env) Q' X.xe s := by
  have hfree : ∀ y ∈ scope.names, y.2 = .free → ∃ c, X.env.cells.lookup y.1 = some c := fun y hy e => by
    rcases ok.free y hy e with k | k
    · exact I.ok.has _ (.inl k)
    · exact I.ok.has _ (.inr k)
  refine wpAny_GeneratorExp_make hco (closure_ok hfree) hcell h0 ok.kind (by have := hr.dp; omega) ?_ hs
  refine thn (hi.run pins s σ H _ I h) fun xv s1 hx => thn hx fun itv s2 h2 => ?_
  obtain ⟨it, fp, tn, J, H2, e2, I2, T, st2, f2, ⟨ps, hP, ht⟩, q⟩ := h2
  subst e2
  have hPs : s2.heap.get? P = some { cls := .none, data := .fields ps } := I2.hok P _ hP
  have cd : PySem.W.CodeHd s2.heap c P := TB.code.keeps fun b u e => I2.bk b u e
  have sz : ∀ b ∈ fp, b < s2.heap.objs.size := fun b hb => by
    obtain ⟨o, e, _⟩ := T.obj _ _ st2 b hb
    exact Heap.lt_size e
  have cont : ∀ (code : Value) (h3 : Heap) (tk : Nat) (ps' : Array Value), Heap.ExtBut P s2.heap h3 → s2.heap.objs.size ≤ h3.objs.size → h3.get? P = some { cls := .none, data := .fields ps' } → (∃ more, ps' = ps ++ more) → TriplesOk ps'.toList →
      wpAny (model X.prog X.w) X.A (builtinsFor X.env.globals X.env.builtins) (fun bi s₄ =>
        ∀ h', h'.Ns s₄.heap.objs.size (fun y => if y = ".0" then some (.ref it) else none) → Heap.SameBut s₄.heap.objs.size (s₄.heap.push { cls := .type "frame", data := .dict #[] }) h' →
          Q' (.ref h'.objs.size) { s₄ with
            gens := s₄.gens.push (.fresh (.compStart (.GeneratorExp elt [⟨tg, iter, [], 0⟩] scope gpos) 0 (.ref it) .none (genEnv scope (cloFrom X.env.cells scope.names []) s₄.heap.objs.size code bi X.env))),
            toks := s₄.toks + 1 + 1 + 1,
            heap := h'.push { cls := .type "generator", data := .fields #[.int s₄.gens.size 0, .str "<genexpr>" (s₄.toks + 1), .str (X.env.qual ++ "<genexpr>") (s₄.toks + 1 + 1)] } }) X.xe { s2 with heap := h3, toks := tk } := by
    intro code h3 tk ps' hx hsz hP3 hmore ht3
    obtain ⟨bm, ob, e1, e2, e3, e4, e5, e6, e7, e8⟩ := TB.bm
    have keep3 : ∀ b u, b ≠ P → s2.heap.get? b = some u → h3.get? b = some u := fun b u hb e => hx b u hb e
    refine wpAny_builtinsFor (m := X.mg) (by rw [I2.ok.glob]; exact (I2.mod.glob.keeps I2.bk).extBut hx TB.gP) e1 e2 (keep3 _ _ e4 (I2.bk _ _ e5)) e6 e7 e8 ?_
    obtain ⟨more, em⟩ := hmore
    have I4 : Inv X pins σ (upd H2 P (.tbl (ps ++ more))) { s2 with heap := h3, toks := tk } :=
      inv_tab (more := more) (h' := h3) (g' := s2.gens) (d' := s2.drawn) (t' := tk) I2 hP keep3 (by rw [← em]; exact hP3) I2.bare
    have nP : ∀ b ∈ fp, b ≠ P := fun b hb z => by
      have := (f2 b hb).1
      rw [z, hP] at this
      cases this
    have f4 : ∀ b ∈ fp, FpOk X pins (upd H2 P (.tbl (ps ++ more))) b ∧ b < h3.objs.size := fun b hb =>
      ⟨⟨by rw [upd_ne (nP b hb)]; exact (f2 b hb).1, (f2 b hb).2⟩, Nat.lt_of_lt_of_le (sz b hb) hsz⟩
    have st4 : tn 0 h3 := T.keep _ _ _ st2 fun b hb o e => keep3 b o (nP b hb) e
    obtain ⟨W, ⟨m0, w0⟩, gw⟩ := q _ ⟨⟨ps ++ more, upd_same, by rw [← em]; exact ht3⟩, fun b hb => upd_ne hb⟩
    intro h' hn' hs'
    have hn' : h'.Ns h3.objs.size (fun y => if y = ".0" then some (.ref it) else none) := hn'
    have hs' : Heap.SameBut h3.objs.size (h3.push { cls := .type "frame", data := .dict #[] }) h' := hs'
    have hsz' : h'.objs.size = h3.objs.size + 1 := by rw [hs'.1, Heap.size_push]
    have keep' : ∀ b o, h3.get? b = some o → h'.get? b = some o := fun b o e => hs'.extBut b o (Nat.ne_of_lt (Heap.lt_size e)) (Heap.get?_push_of_some _ e)
    generalize hcenv : genv X scope h3.objs.size code = cenv
    have I5 := gen_start (A1 := gA X.A elt tg iter scope gpos it cenv) (code := code) (t' := tk + 1 + 1 + 1)
      (obj := { cls := .type "generator", data := .fields #[.int s2.gens.size 0, .str "<genexpr>" (tk + 1), .str (X.env.qual ++ "<genexpr>") (tk + 1 + 1)] })
      (g' := s2.gens.push (.fresh (.compStart (.GeneratorExp elt [⟨tg, iter, [], 0⟩] scope gpos) 0 (.ref it) .none cenv)))
      I4 ok hcell hN f4 hr.hd (by rw [hcenv]; exact gA_frames I.ok.frames) hn' keep' hsz' (Heap.get?_push_size _ rfl) (fun v z => by cases z) (I2.bare.push rfl)
    have pg := hpg (gA X.A elt tg iter scope gpos it cenv) { s2 with heap := h3, toks := tk } (upd H2 P (.tbl (ps ++ more))) h3.objs.size code fp [(h'.objs.size, { cls := .type "generator", data := .fields #[.int s2.gens.size 0, .str "<genexpr>" (tk + 1), .str (X.env.qual ++ "<genexpr>") (tk + 1 + 1)] })]
    have pe := hpe (gA X.A elt tg iter scope gpos it cenv) { s2 with heap := h3, toks := tk } (upd H2 P (.tbl (ps ++ more))) h3.objs.size code fp [(h'.objs.size, { cls := .type "generator", data := .fields #[.int s2.gens.size 0, .str "<genexpr>" (tk + 1), .str (X.env.qual ++ "<genexpr>") (tk + 1 + 1)] })] (gA_room hr)
    have I5 : Inv (gx X (gA X.A elt tg iter scope gpos it cenv) { s2 with heap := h3, toks := tk } (upd H2 P (.tbl (ps ++ more))) (genv X scope h3.objs.size code) fp [(h'.objs.size, _)]) [] (wipe σ (own.map (·.2))) _ _ := I5
    rw [hcenv] at I5 pg pe
    have hcoE : cenv.scope.isCoroutine = false := by rw [← hcenv]; exact hco
    generalize hog : ({ cls := .type "generator", data := .fields #[.int s2.gens.size 0, .str "<genexpr>" (tk + 1), .str (X.env.qual ++ "<genexpr>") (tk + 1 + 1)] } : Obj) = og at I5 pg pe
    have hig : ∀ h : Heap, h.get? h'.objs.size = some og → h.IsGen h'.objs.size s2.gens.size := fun hh e => ⟨og, _, _, e, by rw [← hog], by rw [← hog], by rw [← hog]⟩
    have mI5 : ∀ b ∈ fp, (upd H2 P (.tbl (ps ++ more))) b = none := fun b hb => (f4 b hb).1.1
    have back : ∀ σ' H' s', Inv (gx X (gA X.A elt tg iter scope gpos it cenv) { s2 with heap := h3, toks := tk } (upd H2 P (.tbl (ps ++ more))) cenv fp [(h'.objs.size, og)]) [] σ' H' s' → Inv X pins σ H' s' := fun σ' H' s' I6 =>
      I4.call' (ch := fp) I6.os I6.base I6.hok I6.bare fun b hb => ⟨(f4 b hb).1.2.2.2.1, (f4 b hb).1.2.1, (f4 b hb).1.2.2.2.2.1, (f4 b hb).1.2.2.2.2.2⟩
    have goes : ∀ s' : Shared, s'.heap = h'.push og → s'.os = s2.os → AllBare s'.gens →
        Seg (model X.prog X.w) X.A.in1.in1 (GRn (gx X (gA X.A elt tg iter scope gpos it cenv) { s2 with heap := h3, toks := tk } (upd H2 P (.tbl (ps ++ more))) cenv fp [(h'.objs.size, og)]) e Q)
          (GYp (gx X (gA X.A elt tg iter scope gpos it cenv) { s2 with heap := h3, toks := tk } (upd H2 P (.tbl (ps ++ more))) cenv fp [(h'.objs.size, og)]) e Q) (m0 + 1) s'
          (.compStart (.GeneratorExp elt [⟨tg, iter, [], 0⟩] scope gpos) 0 (.ref it) .none cenv) ((model X.prog X.w).den (.compStart (.GeneratorExp elt [⟨tg, iter, [], 0⟩] scope gpos) 0 (.ref it) .none cenv)) [] s' := fun s' hh ho hg => by
      have I6 := inv_same (s' := s') I5 hh ho hg
      have st6 : tn 0 s'.heap := by
        rw [hh]
        exact T.keep _ _ _ st4 fun b _ o e => Heap.get?_push_of_some _ (keep' b o e)
      refine seg_start (Y := gx X (gA X.A elt tg iter scope gpos it cenv) { s2 with heap := h3, toks := tk } (upd H2 P (.tbl (ps ++ more))) cenv fp [(h'.objs.size, og)]) T st6
        (seg_loop rfl rfl rfl rfl (fun b hb p hp z => ?_) hcoE T pg pe gw m0 0 (m0 + 1) s' s' _ (Nat.lt_succ_self _) I6 st6 mI5 w0)
      have hp : p ∈ [(h'.objs.size, og)] := hp
      rw [List.mem_singleton.mp hp] at z
      have z : h'.objs.size = b := z
      have h9 := (f4 b hb).2
      rw [← z, hsz'] at h9
      exact absurd h9 (Nat.not_lt.mpr (Nat.le_succ _))
    have ee : genEnv scope (cloFrom X.env.cells scope.names []) h3.objs.size code builtinsNs X.env = cenv := hcenv
    have fin := hQ h'.objs.size { s2 with heap := h'.push og, gens := s2.gens.push (.fresh (.compStart (.GeneratorExp elt [⟨tg, iter, [], 0⟩] scope gpos) 0 (.ref it) .none cenv)), toks := tk + 1 + 1 + 1 }
      ⟨gA X.A elt tg iter scope gpos it cenv, { s2 with heap := h3, toks := tk }, upd H2 P (.tbl (ps ++ more)), cenv, fp, [(h'.objs.size, og)], og, s2.gens.size, .fresh (.compStart (.GeneratorExp elt [⟨tg, iter, [], 0⟩] scope gpos) 0 (.ref it) .none cenv), wipe σ (own.map (·.2)), upd H2 P (.tbl (ps ++ more)), m0 + 1,
        List.mem_singleton.mpr rfl, hig, I5, Array.getElem?_push_size .., fun s' hh ho hg => ⟨rfl, goes s' hh ho hg⟩, back⟩
    rw [← ee] at fin
    exact fin
  cases hf : codeAmong gpos ps.toList with
  | none =>
    refine ⟨I2.nolimit, ?_⟩
    refine wpAny_genexprCodeX hcode (cd.code hPs ht) (cd.tab hPs) hf fun c' h' tk hx hge hlt hco' _ htab' _ => ?_
    obtain ⟨o1, vs, f1, tf, fl, tg, inF, tx, tt, op, _, _, _, _, _, _, _, _, _, htr, _⟩ := hco'
    exact cont _ h' tk _ hx (Nat.le_trans hge (Nat.le_of_lt hlt)) htab'.2 ⟨_, rfl⟩ htr
  | some cv =>
    refine ⟨I2.nolimit, ?_⟩
    refine wpAny_genexprCode_hit hcode (cd.code hPs ht) hf ?_
    exact cont cv s2.heap s2.toks ps (Heap.ExtBut.refl _ _) (Nat.le_refl _) hPs ⟨#[], by simp⟩ ht

theorem pe_all {c P : Addr} {elt tg iter : Expr} {p pos gpos : Pos} {scope : Scope} {own : List (Str × Nat)} {wi : TI} {g : TG} {te : TE} {k : Nat}
    (hr : Room (k + 1) X.A) (hg : Gl X "all") (hm : X.mg "all" = none) (TB : TabB X.base X.mg c P) (hcode : X.env.code = .ref c) (hN : X.N.Nodup) (ok : BlkOk X.N X.env.scope scope own) (hcell : ∀ y ∈ scope.names, y.2 ≠ .cell) (hco : scope.isCoroutine = false) (h0 : scope.names.lookup (".0" : Str) = some NameKind.local)
    (hi : PI X tg iter wi)
    (hpg : ∀ (A1 : Around) (s : Shared) (H : Hp) (C : Addr) (code : Value) (fp : List Addr) (pn : List (Addr × Obj)), PG (gx X A1 s H (genv X scope C code) fp pn) tg g)
    (hpe : ∀ (A1 : Around) (s : Shared) (H : Hp) (C : Addr) (code : Value) (fp : List Addr) (pn : List (Addr × Obj)), Room k A1 → PE (gx X A1 s H (genv X scope C code) fp pn) elt te)
    (hs : ∀ v, genFold iter X.env v = pure v := by intro _; rfl)
    (he : starEach [.GeneratorExp elt [⟨tg, iter, [], 0⟩] scope gpos] X.env = (false, eval (.GeneratorExp elt [⟨tg, iter, [], 0⟩] scope gpos) X.env) :: starEach [] X.env := by rfl) :
    PE X (.Call (.Name "all" p) [.GeneratorExp elt [⟨tg, iter, [], 0⟩] scope gpos] [] pos) (tGen true P wi g te (own.map (·.2))) := by
  refine ⟨fun pins s σ H Q I h => ?_⟩
  refine wpAny_Call_Name_kw (ld_blt I hg hm boot_all ?_)
  refine PyProof.Rows.callWith_builtin1 ?_ he (by rfl)
  rw [he]
  show wpAny _ _ (spliced ((false, eval (.GeneratorExp elt [⟨tg, iter, [], 0⟩] scope gpos) X.env) :: backTo pos (starEach [] X.env))) _ _ s
  refine Calls.spliced_cons (gen_make (e := true) (Q := Q) hr TB hcode hN ok hcell hco h0 hi hpg hpe hs I h fun a s5 hG => ?_)
  obtain ⟨A1, s4, H4, cenv, fp, pn, og, gi, gs, σ', H5, n, hpn, hig, I5, hgs, hgo, back⟩ := hG
  refine Calls.spliced_nil ?_
  refine call_function_tree F.kind_all F.plain_all F.entry_all (F.args_all1 _) ?_
  unfold Builtin.«all»
  refine wpAny_bind (m := oneArg "all" _) (wpAny_pure ?_)
  refine wpAny_bind (wpAny_pyIter_gen (hig _ (I5.pin _ (List.mem_append_left _ hpn)).1) ?_)
  refine wpAny_pure ⟨plainId_quiet F.plain_all_loop _, drv_all (Y := gx X A1 s4 H4 cenv fp pn) (A := X.A) hpn hig hr.hd (by have := hr.dp; show X.A.depth + 0 < _; omega) (fun b σ6 H6 s6 I6 q => ?_) n gs σ' H5 s5 I5 hgs hgo⟩
  exact ⟨.bl b, H6, back σ6 H6 s6 I6, rfl, q⟩
theorem pe_any {c P : Addr} {elt tg iter : Expr} {p pos gpos : Pos} {scope : Scope} {own : List (Str × Nat)} {wi : TI} {g : TG} {te : TE} {k : Nat}
    (hr : Room (k + 1) X.A) (hg : Gl X "any") (hm : X.mg "any" = none) (TB : TabB X.base X.mg c P) (hcode : X.env.code = .ref c) (hN : X.N.Nodup) (ok : BlkOk X.N X.env.scope scope own) (hcell : ∀ y ∈ scope.names, y.2 ≠ .cell) (hco : scope.isCoroutine = false) (h0 : scope.names.lookup (".0" : Str) = some NameKind.local)
    (hi : PI X tg iter wi)
    (hpg : ∀ (A1 : Around) (s : Shared) (H : Hp) (C : Addr) (code : Value) (fp : List Addr) (pn : List (Addr × Obj)), PG (gx X A1 s H (genv X scope C code) fp pn) tg g)
    (hpe : ∀ (A1 : Around) (s : Shared) (H : Hp) (C : Addr) (code : Value) (fp : List Addr) (pn : List (Addr × Obj)), Room k A1 → PE (gx X A1 s H (genv X scope C code) fp pn) elt te)
    (hs : ∀ v, genFold iter X.env v = pure v := by intro _; rfl)
    (he : starEach [.GeneratorExp elt [⟨tg, iter, [], 0⟩] scope gpos] X.env = (false, eval (.GeneratorExp elt [⟨tg, iter, [], 0⟩] scope gpos) X.env) :: starEach [] X.env := by rfl) :
    PE X (.Call (.Name "any" p) [.GeneratorExp elt [⟨tg, iter, [], 0⟩] scope gpos] [] pos) (tGen false P wi g te (own.map (·.2))) := by
  refine ⟨fun pins s σ H Q I h => ?_⟩
  refine wpAny_Call_Name_kw (ld_blt I hg hm boot_any ?_)
  refine PyProof.Rows.callWith_builtin1 ?_ he (by rfl)
  rw [he]
  show wpAny _ _ (spliced ((false, eval (.GeneratorExp elt [⟨tg, iter, [], 0⟩] scope gpos) X.env) :: backTo pos (starEach [] X.env))) _ _ s
  refine Calls.spliced_cons (gen_make (e := false) (Q := Q) hr TB hcode hN ok hcell hco h0 hi hpg hpe hs I h fun a s5 hG => ?_)
  obtain ⟨A1, s4, H4, cenv, fp, pn, og, gi, gs, σ', H5, n, hpn, hig, I5, hgs, hgo, back⟩ := hG
  refine Calls.spliced_nil ?_
  refine call_function_tree F.kind_any F.plain_any F.entry_any (F.args_any1 _) ?_
  unfold Builtin.«any»
  refine wpAny_bind (m := oneArg "any" _) (wpAny_pure ?_)
  refine wpAny_bind (wpAny_pyIter_gen (hig _ (I5.pin _ (List.mem_append_left _ hpn)).1) ?_)
  refine wpAny_pure ⟨plainId_quiet F.plain_any_loop _, drv_any (Y := gx X A1 s4 H4 cenv fp pn) (A := X.A) hpn hig hr.hd (by have := hr.dp; show X.A.depth + 0 < _; omega) (fun b σ6 H6 s6 I6 q => ?_) n gs σ' H5 s5 I5 hgs hgo⟩
  exact ⟨.bl b, H6, back σ6 H6 s6 I6, rfl, q⟩
end
end EwG

set_option Elab.async false
set_option linter.all false
set_option maxRecDepth 100000
set_option maxHeartbeats 4000000
/-! all(.. for .. for ..): two clauses. -/
namespace EwG
open PySem PySem.Spec PyProof.Rows L2 Ew GxR
open Sem (wp)

theorem eval_GE2 (elt t0 i0 t1 i1 : Expr) (scope : Scope) (pos : Pos) (env : Env) (hco : scope.isCoroutine = false) :
    eval (.GeneratorExp elt [⟨t0, i0, [], 0⟩, ⟨t1, i1, [], 0⟩] scope pos) env = (do
      let x ← eval i0 env
      standAt i0.pos
      let x ← genFold i0 env x
      let it ← holding [x] (pyIter x)
      enterFrame
      let cl ← closureFor scope env
      let code ← genexprCode env pos (env.qual ++ "<genexpr>") scope
      let bi ← builtinsFor env.globals env.builtins
      let cenv ← newFunctionEnv scope env.globals cl [(".0", it)] (env.qual ++ "<genexpr>.") none code none bi
      newGenerator (.compStart (.GeneratorExp elt [⟨t0, i0, [], 0⟩, ⟨t1, i1, [], 0⟩] scope pos) 0 it .none cenv) "<genexpr>" (env.qual ++ "<genexpr>")) := by
  rw [arm_eval_GeneratorExp]
  simp only [hco, Bool.false_eq_true, if_false]
  cases i0 <;> rfl

theorem make_GE2 {M : Model} {A : Around} {E : Value → Shared → Prop} {s : Shared} {env : Env} {elt t0 i0 t1 i1 : Expr} {scope : Scope} {cl : List (Str × Addr)} {pos : Pos} {Q : Value → Shared → Prop}
    (hco : scope.isCoroutine = false) (hclos : closureFor scope env = pure cl) (hcell : ∀ y ∈ scope.names, y.2 ≠ .cell) (h0 : scope.names.lookup (".0" : Str) = some NameKind.local) (hkind : scope.kind = .function)
    (hroom : A.depth < recursionLimit)
    (h : wpAny M A (eval i0 env) (fun xv s₁ => wpAny M A (pyIter xv) (fun it s₂ => s₂.heap.NoLimit ∧
      wpAny M A (genexprCode env pos (env.qual ++ "<genexpr>") scope) (fun code s₃ => wpAny M A (builtinsFor env.globals env.builtins) (fun bi s₄ =>
        ∀ h', h'.Ns s₄.heap.objs.size (fun y => if y = ".0" then some it else none) → Heap.SameBut s₄.heap.objs.size (s₄.heap.push { cls := .type "frame", data := .dict #[] }) h' →
          Q (.ref h'.objs.size) { s₄ with
            gens := s₄.gens.push (.fresh (.compStart (.GeneratorExp elt [⟨t0, i0, [], 0⟩, ⟨t1, i1, [], 0⟩] scope pos) 0 it .none (genEnv scope cl s₄.heap.objs.size code bi env))),
            toks := s₄.toks + 1 + 1 + 1,
            heap := h'.push { cls := .type "generator", data := .fields #[.int s₄.gens.size 0, .str "<genexpr>" (s₄.toks + 1), .str (env.qual ++ "<genexpr>") (s₄.toks + 1 + 1)] } }) E s₃) E s₂) E s₁) E s)
    (hs : ∀ x, genFold i0 env x = pure x) :
    wpAny M A (eval (.GeneratorExp elt [⟨t0, i0, [], 0⟩, ⟨t1, i1, [], 0⟩] scope pos) env) Q E s := by
  rw [eval_GE2 _ _ _ _ _ _ _ _ hco, hclos]
  refine wpAny_bind (wpAny_mono h (fun xv s₁ h₁ => ?_) fun _ _ e => e)
  refine wpAny_bind (wpAny_standAt ?_)
  refine wpAny_bind (wpAny_of_eq (hs xv) ?_)
  refine wpAny_bind (wpAny_holding (wpAny_mono h₁ (fun it s₂ h₂ => ?_) fun _ _ e => e))
  refine wpAny_bind (wpAny_enterFrame h₂.1 hroom ?_)
  refine wpAny_bind (wpAny_pure ?_)
  refine wpAny_bind (wpAny_mono h₂.2 (fun code s₃ h₃ => ?_) fun _ _ e => e)
  refine wpAny_bind (wpAny_mono h₃ (fun bi s₄ h₄ => ?_) fun _ _ e => e)
  have hbinds : ∀ y ∈ ([((".0" : Str), it)] : List (Str × Value)), scope.names.lookup y.1 = some NameKind.local := by
    intro y hy
    rcases List.mem_cons.mp hy with rfl | hy
    · exact h0
    · cases hy
  refine wpAny_bind (wpAny_newFunctionEnv hcell hbinds (fun h' hn' hs' => ?_) hkind)
  have e : (fun y : Str => ([((".0" : Str), it)] : List (Str × Value)).reverse.lookup y) = fun y : Str => if y = (".0" : Str) then some it else none := by
    funext y
    by_cases hy : y = ".0"
    · subst hy; simp
    · have : (y == (".0" : Str)) = false := by simpa using hy
      simp [List.lookup, this, hy]
  rw [e] at hn'
  simp only [newGenerator, newFields]
  refine wpAny_bind (wpAny_newGen (wpAny_bind (wpAny_mkText (wpAny_bind (wpAny_mkText (wpAny_newObj_type ?_ (by size_fits)))))))
  exact h₄ h' hn' hs'

theorem turn2_out (elt t0 i0 t1 i1 : Expr) (scope : Scope) (pos : Pos) (it acc : Value) (env : Env) :
    compTurn (.GeneratorExp elt [⟨t0, i0, [], 0⟩, ⟨t1, i1, [], 0⟩] scope pos) 0 it acc env = (do
      standAt i0.pos
      match ← pyNext it with
      | none => pure (.done .next)
      | some v =>
        letOwnedTupleGo t0 it v
        assign t0 env v
        let mut ok := true
        for c in ([] : List Expr) do
          if ok then ok ← isTrue c env (eval c env)
        if ok then
          let x ← eval i1 env
          standAt i1.pos
          let x ← foldedSetIterable i1 env x
          let _ ← runOwn (.compStart (.GeneratorExp elt [⟨t0, i0, [], 0⟩, ⟨t1, i1, [], 0⟩] scope pos) 1 (← holding [x] (pyIter x)) acc env) env
        again (.compLoop (.GeneratorExp elt [⟨t0, i0, [], 0⟩, ⟨t1, i1, [], 0⟩] scope pos) 0 it acc env)) := by rfl
theorem turn2_in (elt t0 i0 t1 i1 : Expr) (scope : Scope) (pos : Pos) (it acc : Value) (env : Env) :
    compTurn (.GeneratorExp elt [⟨t0, i0, [], 0⟩, ⟨t1, i1, [], 0⟩] scope pos) 1 it acc env = (do
      standAt i1.pos
      match ← pyNext it with
      | none => pure (.done .next)
      | some v =>
        letOwnedTupleGo t1 it v
        assign t1 env v
        let mut ok := true
        for c in ([] : List Expr) do
          if ok then ok ← isTrue c env (eval c env)
        if ok then
          (do let v ← eval elt env; standAt elt.pos; let _ ← yieldOut env v)
        again (.compLoop (.GeneratorExp elt [⟨t0, i0, [], 0⟩, ⟨t1, i1, [], 0⟩] scope pos) 1 it acc env)) := by rfl

def GW2 (J : It) (g : TG) (wi1 : TI) (g1 : TG) (te : TE) (vs vs1 : List Nat) (σ : L2.St) (e : Bool) (Q : VK) (W : Nat → Nat → Hp → Prop) : Prop := ∀ i m H, W i m H →
  (J.stop i H ∧ Q (.bl e) H) ∨ (J.go i H ∧ ∀ x H', J.yld i H x H' → g x (wipe σ vs) H' fun σ2 H2 => wipe σ2 vs = wipe σ vs ∧ wi1 σ2 H2 fun J1 H3 => ∃ W1 : Nat → Nat → Hp → Prop, (∃ k, k < m ∧ W1 0 k H3) ∧ ∀ j k H, W1 j k H →
    (J1.stop j H ∧ ∃ m', m' ≤ k ∧ m' < m ∧ W (i + 1) m' H) ∨ (J1.go j H ∧ ∀ x H', J1.yld j H x H' → g1 x (wipe σ2 vs1) H' fun σ3 H5 => wipe σ3 vs1 = wipe σ2 vs1 ∧ te σ3 H5 fun y H6 => ∃ b, y = .bl b ∧ (b = e → ∃ k', k' < k ∧ W1 (j + 1) k' H6) ∧ (b ≠ e → Q (.bl b) H6)))

section
variable {X : Cx} {pins : List (Addr × Obj)} {σ : L2.St} {H : Hp} {s : Shared}
theorem seg_in {Y : Cx} {A2 : Around} {elt t0 i0 t1 i1 : Expr} {scope : Scope} {pos : Pos} {it1 : Addr} {fp1 : List Addr} {tn1 : Nat → Heap → Prop} {J1 : It} {g1 : TG} {te : TE} {vs1 : List Nat} {σ8 : L2.St} {e : Bool} {Q : VK} {W1 : Nat → Nat → Hp → Prop} {Nx : Nat → Hp → Prop} {fs : List Frame} {pins : List (Addr × Obj)}
    (hA : Y.A = A2.over (.compLoop (.GeneratorExp elt [⟨t0, i0, [], 0⟩, ⟨t1, i1, [], 0⟩] scope pos) 1 (.ref it1) .none Y.env) fs) (hsp : splitAtGen fs = none) (hgd : fs.any Frame.guarded = false) (hc : Y.calm = true) (hx : Y.xe = fun _ _ => False) (hco : Y.env.scope.isCoroutine = false)
    (T1 : Turn Y.prog Y.w Y.K t1 J1 fp1 it1 tn1) (stat1 : ∀ {H' : Hp}, (∀ b ∈ fp1, H' b = none) → ∀ b ∈ fp1, FpOk Y pins H' b) (pg1 : PG Y t1 g1) (pe : PE Y elt te)
    (hW1 : ∀ j k H, W1 j k H → (J1.stop j H ∧ Nx k H) ∨ (J1.go j H ∧ ∀ x H', J1.yld j H x H' → g1 x (wipe σ8 vs1) H' fun σ3 H5 => wipe σ3 vs1 = wipe σ8 vs1 ∧ te σ3 H5 fun y H6 => ∃ b, y = .bl b ∧ (b = e → ∃ k', k' < k ∧ W1 (j + 1) k' H6) ∧ (b ≠ e → Q (.bl b) H6)))
    (leave : ∀ (k n : Nat) (s₀ s : Shared) (H : Hp), k < n → Inv Y pins (wipe σ8 vs1) H s → Nx k H → Seg (model Y.prog Y.w) A2 (GRn Y e Q) (GYp Y e Q) n s₀ (.compLoop (.GeneratorExp elt [⟨t0, i0, [], 0⟩, ⟨t1, i1, [], 0⟩] scope pos) 1 (.ref it1) .none Y.env) (leafOf (.ok .next)) fs s) :
    ∀ (k j n : Nat) (s₀ s : Shared) (H : Hp), k < n → Inv Y pins (wipe σ8 vs1) H s → tn1 j s.heap → (∀ b ∈ fp1, H b = none) → W1 j k H →
      Seg (model Y.prog Y.w) A2 (GRn Y e Q) (GYp Y e Q) n s₀ (.compLoop (.GeneratorExp elt [⟨t0, i0, [], 0⟩, ⟨t1, i1, [], 0⟩] scope pos) 1 (.ref it1) .none Y.env)
        ((model Y.prog Y.w).den (.compLoop (.GeneratorExp elt [⟨t0, i0, [], 0⟩, ⟨t1, i1, [], 0⟩] scope pos) 1 (.ref it1) .none Y.env)) fs s := by
  intro k
  induction k using Nat.strongRecOn with
  | ind k ih =>
    intro j n s₀ s H hkn I st hn w
    show Seg _ A2 _ _ _ s₀ _ ((compTurn (.GeneratorExp elt [⟨t0, i0, [], 0⟩, ⟨t1, i1, [], 0⟩] scope pos) 1 (.ref it1) .none Y.env).onRaise (fun x => do noteFrame x Y.env; theTreesLotGoes x)) fs s
    rw [turn2_in, Sem.onRaise_eq_wrap]
    refine seg_bind_wrap (wpAny_standAt ?_)
    rcases hW1 j k H w with ⟨stop, q⟩ | ⟨go, step⟩
    · refine seg_bind_wrap ?_
      rw [← hA]
      refine thnF (T1.done Y rfl rfl rfl hc j pins s _ H (fun _ _ => False) I (stat1 hn) st stop) fun r s6 ⟨hr, I6⟩ => ?_
      subst hr
      exact leave k n s₀ s6 H hkn I6 q
    · refine seg_bind_wrap ?_
      rw [← hA]
      refine thnF (T1.item Y rfl rfl rfl hc j pins s _ H (fun _ _ => False) I (stat1 hn) st go) fun r s6 ⟨u, hr, h6⟩ => ?_
      subst hr
      refine seg_bind_wrap ?_
      rw [← hA]
      refine thnF h6 fun _ s7 ⟨x, H7, I7, r7, y7, st7, n7⟩ => ?_
      have I7' := I7.pinned (stat1 n7) (T1.obj _ _ st7)
      refine seg_bind_wrap ?_
      rw [← hA]
      have hpg := pg1.run _ s7 _ H7 x u _ I7' r7 (step x H7 y7)
      rw [hx] at hpg
      refine thnF hpg fun _ s8 ⟨σ15, H8, I8, hw8, q8⟩ => ?_
      refine seg_bind_wrap ?_
      rw [← hA]
      refine wpAny_tests_nil ?_
      simp only [if_true]
      have hy : ∀ v, yieldOut Y.env v = yieldValue v := fun v => by simp only [yieldOut, hco, Bool.false_eq_true, if_false]
      simp only [hy]
      rw [Sem.bind_eq_wrap', Sem.bind_eq_wrap', Sem.wrap_wrap, Sem.wrap_wrap]
      refine seg_wrap ?_
      rw [← hA]
      have hpe := pe.run _ s8 σ15 H8 _ I8 q8
      rw [hx] at hpe
      refine thnF hpe fun z s9 ⟨y, H9, I9, r9, b, hyb, q9⟩ => ?_
      subst hyb
      have hz : z = .bool b := r9
      subst hz
      have pin' : ∀ c ∈ fp1, ∀ o, s7.heap.get? c = some o → s9.heap.get? c = some o ∧ H9 c = none := fun c hb o e =>
        let z := I9.pin (c, o) (List.mem_append_right _ (List.mem_append_right _ (mem_pinsAt hb e)))
        ⟨z.1, z.2.1⟩
      have hl : (wipe σ8 vs1).length = σ15.length := by rw [← hw8, wipe_length]
      have I10 : Inv Y pins (wipe σ8 vs1) H9 s9 := (I9.unpinned (pins := pins)).weak hl fun j v e => by
        rw [← hw8] at e
        exact (wipe_some e).1
      obtain ⟨n', rfl⟩ : ∃ n', n = n' + 1 := ⟨n - 1, by omega⟩
      refine seg_at (seg_yield hsp rfl hgd ⟨b, _, H9, rfl, I10.pins_of (pins' := []) (fun p hp => absurd hp (by simp)), q9.2, fun hb s' hh ho hg => ?_⟩)
      obtain ⟨k', hk, w'⟩ := q9.1 hb
      refine seg_again rfl (ih k' hk (j + 1) n' s' s' H9 (by omega) (inv_same I10 hh ho hg) ?_ (fun c hc => ?_) w')
      · rw [hh]
        exact T1.keep _ _ _ st7 fun c hb o e => (pin' c hb o e).1
      · obtain ⟨o, e, _⟩ := T1.obj _ _ st7 c hc
        exact (pin' c hc o e).2

theorem seg_loop2 {Y : Cx} {A2 : Around} {elt t0 i0 t1 i1 : Expr} {scope : Scope} {pos : Pos} {it : Addr} {fp : List Addr} {tn : Nat → Heap → Prop} {J : It} {g g1 : TG} {wi1 : TI} {te : TE} {vs vs1 : List Nat} {σ : L2.St} {e : Bool} {Q : VK} {W : Nat → Nat → Hp → Prop}
    (hA : Y.A = A2.over (.compLoop (.GeneratorExp elt [⟨t0, i0, [], 0⟩, ⟨t1, i1, [], 0⟩] scope pos) 0 (.ref it) .none Y.env) []) (hex : Y.ex = fp) (hc : Y.calm = true) (hx : Y.xe = fun _ _ => False) (hpn : ∀ b ∈ fp, ∀ p ∈ Y.pn, p.1 ≠ b) (hco : Y.env.scope.isCoroutine = false)
    (T : Turn Y.prog Y.w Y.K t0 J fp it tn) (pg : PG Y t0 g) (pi1 : PI Y t1 i1 wi1) (pg1 : PG Y t1 g1) (pe : PE Y elt te) (hs1 : ∀ x, foldedSetIterable i1 Y.env x = pure x) (hv : ∀ i ∈ vs1, i ∈ vs) (hW : GW2 J g wi1 g1 te vs vs1 σ e Q W) :
    ∀ (m i n : Nat) (s₀ s : Shared) (H : Hp), m < n → Inv Y [] (wipe σ vs) H s → tn i s.heap → (∀ b ∈ fp, H b = none) → W i m H →
      Seg (model Y.prog Y.w) A2 (GRn Y e Q) (GYp Y e Q) n s₀ (.compLoop (.GeneratorExp elt [⟨t0, i0, [], 0⟩, ⟨t1, i1, [], 0⟩] scope pos) 0 (.ref it) .none Y.env)
        ((model Y.prog Y.w).den (.compLoop (.GeneratorExp elt [⟨t0, i0, [], 0⟩, ⟨t1, i1, [], 0⟩] scope pos) 0 (.ref it) .none Y.env)) [] s := by
  have stat : ∀ {σ' : L2.St} {H' : Hp} {s' : Shared}, Inv Y [] σ' H' s' → (∀ b ∈ fp, H' b = none) → ∀ b ∈ fp, FpOk Y [] H' b := fun {σ' H' s'} I' hn b hb =>
    have hb' : b ∈ Y.ex := by rw [hex]; exact hb
    ⟨hn b hb, (I'.ok.exf b hb').1, I'.ok.exfs b hb', .inl hb', fun x c e => (I'.ok.exf b hb').2 x c e, fun p hp => hpn b hb p (by simpa using hp)⟩
  intro m
  induction m using Nat.strongRecOn with
  | ind m ih =>
    intro i n s₀ s H hmn I st hn w
    show Seg _ A2 _ _ _ s₀ _ ((compTurn (.GeneratorExp elt [⟨t0, i0, [], 0⟩, ⟨t1, i1, [], 0⟩] scope pos) 0 (.ref it) .none Y.env).onRaise (leaving Y.env)) [] s
    rw [turn2_out, Sem.onRaise_eq_wrap]
    refine seg_bind_wrap (wpAny_standAt ?_)
    rcases hW i m H w with ⟨stop, q⟩ | ⟨go, step⟩
    · refine seg_bind_wrap ?_
      rw [← hA]
      refine thnF (T.done Y rfl rfl rfl hc i [] s _ H (fun _ _ => False) I (stat I hn) st stop) fun r s6 ⟨hr, I6⟩ => ?_
      subst hr
      exact seg_end (.ok .next) ⟨rfl, _, H, I6, q⟩
    · refine seg_bind_wrap ?_
      rw [← hA]
      refine thnF (T.item Y rfl rfl rfl hc i [] s _ H (fun _ _ => False) I (stat I hn) st go) fun r s6 ⟨u, hr, h6⟩ => ?_
      subst hr
      refine seg_bind_wrap ?_
      rw [← hA]
      refine thnF h6 fun _ s7 ⟨x, H7, I7, r7, y7, st7, n7⟩ => ?_
      have I7' := I7.pinned (stat I7 n7) (T.obj _ _ st7)
      refine seg_bind_wrap ?_
      rw [← hA]
      have hpg := pg.run _ s7 _ H7 x u _ I7' r7 (step x H7 y7)
      rw [hx] at hpg
      refine thnF hpg fun _ s8 ⟨σ8, H8, I8, hw8, q8⟩ => ?_
      refine seg_bind_wrap ?_
      rw [← hA]
      refine wpAny_tests_nil ?_
      simp only [if_true]
      refine seg_bind_wrap ?_
      rw [← hA]
      have hpi := pi1.run _ s8 σ8 H8 _ I8 q8
      rw [hx] at hpi
      refine thnF hpi fun xv s9 h9 => ?_
      refine seg_bind_wrap (wpAny_standAt ?_)
      refine seg_bind_wrap (wpAny_of_eq (hs1 xv) ?_)
      refine seg_bind_wrap ?_
      rw [← hA]
      refine wpAny_holding (thnF h9 fun itv s11 h11 => ?_)
      obtain ⟨it1, fp1, tn1, J1, H11, e1, I11, T1, st11, f11, W1, ⟨k1, hk1, w1⟩, turn1⟩ := h11
      subst e1
      rw [Sem.bind_eq_wrap', Sem.wrap_wrap]
      unfold runOwn
      rw [Sem.onRaise_eq_wrap, Sem.wrap_wrap]
      have pin' : ∀ {σ' : L2.St} {H' : Hp} {s' : Shared}, Inv Y ([] ++ pinsAt fp s7.heap) σ' H' s' → ∀ c ∈ fp, ∀ o, s7.heap.get? c = some o → s'.heap.get? c = some o ∧ H' c = none := fun I' c hb o e =>
        let z := I'.pin (c, o) (List.mem_append_right _ (List.mem_append_right _ (mem_pinsAt hb e)))
        ⟨z.1, z.2.1⟩
      have hl : (wipe σ vs).length = (wipe σ8 vs1).length := by rw [← hw8, wipe_length, wipe_length]
      refine seg_call fun pc => ?_
      have hA1 : Y.A = A2.over (.compLoop (.GeneratorExp elt [⟨t0, i0, [], 0⟩, ⟨t1, i1, [], 0⟩] scope pos) 0 (.ref it) .none Y.env) [] := hA
      generalize hK : (fun r : Result => _) = kk
      have loop1 := seg_in (e := e) (Q := Q) (Nx := fun k H => ∃ m', m' ≤ k ∧ m' < m ∧ W (i + 1) m' H) (A2 := A2) (t0 := t0) (i0 := i0) (i1 := i1) (scope := scope) (pos := pos) (fs := [.ret kk none (id false) (id []) (.compLoop (.GeneratorExp elt [⟨t0, i0, [], 0⟩, ⟨t1, i1, [], 0⟩] scope pos) 0 (.ref it) .none Y.env) pc []])
        (hA.trans (GenW.over_loop (c := .compLoop (.GeneratorExp elt [⟨t0, i0, [], 0⟩, ⟨t1, i1, [], 0⟩] scope pos) 0 (.ref it) .none Y.env) rfl rfl).symm) rfl rfl hc hx hco T1 (fun hn b hb => ⟨hn b hb, (f11 b hb).2⟩) pg1 pe turn1 (fun k n s₀ s' H' hkn I' ⟨m', hm1, hm2, w'⟩ => ?_) k1 0 n s₀ s11 H11 (by omega) (I11.weak (wipe_length _ _) fun j v e => (wipe_some e).1) st11 (fun b hb => (f11 b hb).1) w1
      · show Seg _ A2 _ _ _ s₀ _ ((compStart (.GeneratorExp elt [⟨t0, i0, [], 0⟩, ⟨t1, i1, [], 0⟩] scope pos) 1 (.ref it1) .none Y.env).onRaise (fun x => do noteFrame x Y.env; standAt theWindowsPlace)) _ s11
        unfold compStart
        rw [Sem.onRaise_eq_wrap]
        show Seg _ A2 _ _ _ s₀ _ ((ask >>= _).wrap _ _ _ _) _ s11
        refine seg_bind_wrap (wpAny_askSetting ?_)
        split
        · exact seg_again rfl loop1
        · first
            | exact seg_bind_wrap (wpAny_rule (seg_bind_wrap (wpAny_standAt (seg_bind_wrap (T1.self _ 0 s11 _ _ st11 (seg_again rfl loop1))))))
            | (refine seg_bind_wrap (wpAny_rule ?_); show Seg _ A2 _ _ _ s₀ _ ((standAt i1.pos >>= _).wrap _ _ _ _) _ s11; exact seg_bind_wrap (wpAny_standAt (seg_bind_wrap (T1.self _ 0 s11 _ _ st11 (seg_again rfl loop1)))))
      · subst hK
        refine seg_leaf (.ok .next) ?_
        refine seg_again rfl (ih m' hm2 (i + 1) n s₀ s' H' (by omega) ((I'.unpinned (pins := [])).weak hl fun j v e => ?_) (T.keep _ _ _ st7 fun c hb o e => (pin' I' c hb o e).1) (fun c hc => ?_) w')
        · rw [← hw8] at e
          obtain ⟨e1, e2⟩ := wipe_some e
          rw [wipe_out fun z => e2 (hv j z)]
          exact e1
        · obtain ⟨o, e, _⟩ := T.obj _ _ st7 c hc
          exact (pin' I' c hc o e).2
theorem seg_start2 {Y : Cx} {A2 : Around} {elt t0 i0 t1 i1 : Expr} {scope : Scope} {pos : Pos} {it : Addr} {fp : List Addr} {tn : Nat → Heap → Prop} {J : It} {e : Bool} {Q : VK} {n : Nat} {s₀ s : Shared}
    (T : Turn Y.prog Y.w Y.K t0 J fp it tn) (st : tn 0 s.heap)
    (loop : Seg (model Y.prog Y.w) A2 (GRn Y e Q) (GYp Y e Q) n s₀ (.compLoop (.GeneratorExp elt [⟨t0, i0, [], 0⟩, ⟨t1, i1, [], 0⟩] scope pos) 0 (.ref it) .none Y.env)
        ((model Y.prog Y.w).den (.compLoop (.GeneratorExp elt [⟨t0, i0, [], 0⟩, ⟨t1, i1, [], 0⟩] scope pos) 0 (.ref it) .none Y.env)) [] s) :
    Seg (model Y.prog Y.w) A2 (GRn Y e Q) (GYp Y e Q) n s₀ (.compStart (.GeneratorExp elt [⟨t0, i0, [], 0⟩, ⟨t1, i1, [], 0⟩] scope pos) 0 (.ref it) .none Y.env)
        ((model Y.prog Y.w).den (.compStart (.GeneratorExp elt [⟨t0, i0, [], 0⟩, ⟨t1, i1, [], 0⟩] scope pos) 0 (.ref it) .none Y.env)) [] s := by
  show Seg _ A2 _ _ _ s₀ _ ((compStart (.GeneratorExp elt [⟨t0, i0, [], 0⟩, ⟨t1, i1, [], 0⟩] scope pos) 0 (.ref it) .none Y.env).onRaise (leaving Y.env)) [] s
  unfold compStart
  rw [Sem.onRaise_eq_wrap]
  show Seg _ A2 _ _ _ s₀ _ ((ask >>= _).wrap _ _ _ _) [] s
  refine seg_bind_wrap (wpAny_askSetting ?_)
  split
  · exact seg_again rfl loop
  · first
      | exact seg_bind_wrap (wpAny_rule (seg_bind_wrap (wpAny_standAt (seg_bind_wrap (T.self _ 0 s _ _ st (seg_again rfl loop))))))
      | (refine seg_bind_wrap (wpAny_rule ?_); show Seg _ A2 _ _ _ s₀ _ ((standAt i0.pos >>= _).wrap _ _ _ _) [] s; exact seg_bind_wrap (wpAny_standAt (seg_bind_wrap (T.self _ 0 s _ _ st (seg_again rfl loop)))))

/-- the around of the generator's body, of a consumer that is called at A -/
abbrev gB (A : Around) (elt t0 i0 t1 i1 : Expr) (scope : Scope) (pos : Pos) (it : Addr) (cenv : Env) : Around := A.in1.in1.over (.compLoop (.GeneratorExp elt [⟨t0, i0, [], 0⟩, ⟨t1, i1, [], 0⟩] scope pos) 0 (.ref it) .none cenv) []
theorem gB_room {k : Nat} {A : Around} {elt t0 i0 t1 i1 : Expr} {scope : Scope} {pos : Pos} {it : Addr} {cenv : Env} (r : Room (k + 1) A) : Room k (gB A elt t0 i0 t1 i1 scope pos it cenv) :=
  ⟨r.hd, by have := r.dp; show A.depth + 0 + 1 + 3 * k + 5 < _; omega, by have := r.un; show A.units + 1 + 1 + 0 + 3 + 16 * k + 200 < _; omega⟩
theorem gB_frames {A : Around} {elt t0 i0 t1 i1 : Expr} {scope : Scope} {pos : Pos} {it : Addr} {cenv : Env} {l : List Env} (h : A.frames = some l) : (gB A elt t0 i0 t1 i1 scope pos it cenv).frames = some (cenv :: l) := by
  show pushEnvs [cenv] (pushEnvs [] A.frames) = _
  rw [h]
  rfl

def tGen2 (e : Bool) (P : Addr) (wi : TI) (g : TG) (wi1 : TI) (g1 : TG) (te : TE) (vs vs1 : List Nat) : TE := fun σ H Q => wi σ H fun J H1 => TabG H1 P ∧ ∀ H2, Tabbed P H1 H2 → ∃ W : Nat → Nat → Hp → Prop, (∃ m, W 0 m H2) ∧ GW2 J g wi1 g1 te vs vs1 σ e Q W

theorem gen_make2 {c P : Addr} {elt t0 i0 t1 i1 : Expr} {gpos : Pos} {scope : Scope} {own : List (Str × Nat)} {wi wi1 : TI} {g g1 : TG} {vs1 : List Nat} {te : TE} {k : Nat} {e : Bool} {Q : VK} {Q' : Value → Shared → Prop}
    (hr : Room (k + 1) X.A) (TB : TabB X.base X.mg c P) (hcode : X.env.code = .ref c) (hN : X.N.Nodup) (ok : BlkOk X.N X.env.scope scope own) (hcell : ∀ y ∈ scope.names, y.2 ≠ .cell) (hco : scope.isCoroutine = false) (h0 : scope.names.lookup (".0" : Str) = some NameKind.local)
    (hi : PI X t0 i0 wi) (hv : ∀ i ∈ vs1, i ∈ own.map (·.2))
    (hpg : ∀ (A1 : Around) (s : Shared) (H : Hp) (C : Addr) (code : Value) (fp : List Addr) (pn : List (Addr × Obj)), PG (gx X A1 s H (genv X scope C code) fp pn) t0 g)
    (hpi1 : ∀ (A1 : Around) (s : Shared) (H : Hp) (C : Addr) (code : Value) (fp : List Addr) (pn : List (Addr × Obj)), Room k A1 → PI (gx X A1 s H (genv X scope C code) fp pn) t1 i1 wi1)
    (hpg1 : ∀ (A1 : Around) (s : Shared) (H : Hp) (C : Addr) (code : Value) (fp : List Addr) (pn : List (Addr × Obj)), PG (gx X A1 s H (genv X scope C code) fp pn) t1 g1)
    (hpe : ∀ (A1 : Around) (s : Shared) (H : Hp) (C : Addr) (code : Value) (fp : List Addr) (pn : List (Addr × Obj)), Room k A1 → PE (gx X A1 s H (genv X scope C code) fp pn) elt te)
    (hs : ∀ v, genFold i0 X.env v = pure v) (hs1 : ∀ env x, foldedSetIterable i1 env x = pure x) (I : Inv X pins σ H s) (h : tGen2 e P wi g wi1 g1 te (own.map (·.2)) vs1 σ H Q)
    (hQ : ∀ a s5, Ready2 X pins σ e Q a s5 → Q' (.ref a) s5) :
    wpAny (model X.prog X.w) X.A (eval (.GeneratorExp elt [⟨t0, i0, [], 0⟩, ⟨t1, i1, [], 0⟩] scope gpos) X.env) Q' X.xe s := by
  have hfree : ∀ y ∈ scope.names, y.2 = .free → ∃ c, X.env.cells.lookup y.1 = some c := fun y hy e => by
    rcases ok.free y hy e with k | k
    · exact I.ok.has _ (.inl k)
    · exact I.ok.has _ (.inr k)
  refine make_GE2 hco (closure_ok hfree) hcell h0 ok.kind (by have := hr.dp; omega) ?_ hs
  refine thn (hi.run pins s σ H _ I h) fun xv s1 hx => thn hx fun itv s2 h2 => ?_
  obtain ⟨it, fp, tn, J, H2, e2, I2, T, st2, f2, ⟨ps, hP, ht⟩, q⟩ := h2
  subst e2
  have hPs : s2.heap.get? P = some { cls := .none, data := .fields ps } := I2.hok P _ hP
  have cd : PySem.W.CodeHd s2.heap c P := TB.code.keeps fun b u e => I2.bk b u e
  have sz : ∀ b ∈ fp, b < s2.heap.objs.size := fun b hb => by
    obtain ⟨o, e, _⟩ := T.obj _ _ st2 b hb
    exact Heap.lt_size e
  have cont : ∀ (code : Value) (h3 : Heap) (tk : Nat) (ps' : Array Value), Heap.ExtBut P s2.heap h3 → s2.heap.objs.size ≤ h3.objs.size → h3.get? P = some { cls := .none, data := .fields ps' } → (∃ more, ps' = ps ++ more) → TriplesOk ps'.toList →
      wpAny (model X.prog X.w) X.A (builtinsFor X.env.globals X.env.builtins) (fun bi s₄ =>
        ∀ h', h'.Ns s₄.heap.objs.size (fun y => if y = ".0" then some (.ref it) else none) → Heap.SameBut s₄.heap.objs.size (s₄.heap.push { cls := .type "frame", data := .dict #[] }) h' →
          Q' (.ref h'.objs.size) { s₄ with
            gens := s₄.gens.push (.fresh (.compStart (.GeneratorExp elt [⟨t0, i0, [], 0⟩, ⟨t1, i1, [], 0⟩] scope gpos) 0 (.ref it) .none (genEnv scope (cloFrom X.env.cells scope.names []) s₄.heap.objs.size code bi X.env))),
            toks := s₄.toks + 1 + 1 + 1,
            heap := h'.push { cls := .type "generator", data := .fields #[.int s₄.gens.size 0, .str "<genexpr>" (s₄.toks + 1), .str (X.env.qual ++ "<genexpr>") (s₄.toks + 1 + 1)] } }) X.xe { s2 with heap := h3, toks := tk } := by
    intro code h3 tk ps' hx hsz hP3 hmore ht3
    obtain ⟨bm, ob, e1, e2, e3, e4, e5, e6, e7, e8⟩ := TB.bm
    have keep3 : ∀ b u, b ≠ P → s2.heap.get? b = some u → h3.get? b = some u := fun b u hb e => hx b u hb e
    refine wpAny_builtinsFor (m := X.mg) (by rw [I2.ok.glob]; exact (I2.mod.glob.keeps I2.bk).extBut hx TB.gP) e1 e2 (keep3 _ _ e4 (I2.bk _ _ e5)) e6 e7 e8 ?_
    obtain ⟨more, em⟩ := hmore
    have I4 : Inv X pins σ (upd H2 P (.tbl (ps ++ more))) { s2 with heap := h3, toks := tk } :=
      inv_tab (more := more) (h' := h3) (g' := s2.gens) (d' := s2.drawn) (t' := tk) I2 hP keep3 (by rw [← em]; exact hP3) I2.bare
    have nP : ∀ b ∈ fp, b ≠ P := fun b hb z => by
      have := (f2 b hb).1
      rw [z, hP] at this
      cases this
    have f4 : ∀ b ∈ fp, FpOk X pins (upd H2 P (.tbl (ps ++ more))) b ∧ b < h3.objs.size := fun b hb =>
      ⟨⟨by rw [upd_ne (nP b hb)]; exact (f2 b hb).1, (f2 b hb).2⟩, Nat.lt_of_lt_of_le (sz b hb) hsz⟩
    have st4 : tn 0 h3 := T.keep _ _ _ st2 fun b hb o e => keep3 b o (nP b hb) e
    obtain ⟨W, ⟨m0, w0⟩, gw⟩ := q _ ⟨⟨ps ++ more, upd_same, by rw [← em]; exact ht3⟩, fun b hb => upd_ne hb⟩
    intro h' hn' hs'
    have hn' : h'.Ns h3.objs.size (fun y => if y = ".0" then some (.ref it) else none) := hn'
    have hs' : Heap.SameBut h3.objs.size (h3.push { cls := .type "frame", data := .dict #[] }) h' := hs'
    have hsz' : h'.objs.size = h3.objs.size + 1 := by rw [hs'.1, Heap.size_push]
    have keep' : ∀ b o, h3.get? b = some o → h'.get? b = some o := fun b o e => hs'.extBut b o (Nat.ne_of_lt (Heap.lt_size e)) (Heap.get?_push_of_some _ e)
    generalize hcenv : genv X scope h3.objs.size code = cenv
    have I5 := gen_start (A1 := gB X.A elt t0 i0 t1 i1 scope gpos it cenv) (code := code) (t' := tk + 1 + 1 + 1)
      (obj := { cls := .type "generator", data := .fields #[.int s2.gens.size 0, .str "<genexpr>" (tk + 1), .str (X.env.qual ++ "<genexpr>") (tk + 1 + 1)] })
      (g' := s2.gens.push (.fresh (.compStart (.GeneratorExp elt [⟨t0, i0, [], 0⟩, ⟨t1, i1, [], 0⟩] scope gpos) 0 (.ref it) .none cenv)))
      I4 ok hcell hN f4 hr.hd (by rw [hcenv]; exact gB_frames I.ok.frames) hn' keep' hsz' (Heap.get?_push_size _ rfl) (fun v z => by cases z) (I2.bare.push rfl)
    have pg := hpg (gB X.A elt t0 i0 t1 i1 scope gpos it cenv) { s2 with heap := h3, toks := tk } (upd H2 P (.tbl (ps ++ more))) h3.objs.size code fp [(h'.objs.size, { cls := .type "generator", data := .fields #[.int s2.gens.size 0, .str "<genexpr>" (tk + 1), .str (X.env.qual ++ "<genexpr>") (tk + 1 + 1)] })]
    have pi1 := hpi1 (gB X.A elt t0 i0 t1 i1 scope gpos it cenv) { s2 with heap := h3, toks := tk } (upd H2 P (.tbl (ps ++ more))) h3.objs.size code fp [(h'.objs.size, { cls := .type "generator", data := .fields #[.int s2.gens.size 0, .str "<genexpr>" (tk + 1), .str (X.env.qual ++ "<genexpr>") (tk + 1 + 1)] })] (gB_room hr)
    have pg1 := hpg1 (gB X.A elt t0 i0 t1 i1 scope gpos it cenv) { s2 with heap := h3, toks := tk } (upd H2 P (.tbl (ps ++ more))) h3.objs.size code fp [(h'.objs.size, { cls := .type "generator", data := .fields #[.int s2.gens.size 0, .str "<genexpr>" (tk + 1), .str (X.env.qual ++ "<genexpr>") (tk + 1 + 1)] })]
    have pe := hpe (gB X.A elt t0 i0 t1 i1 scope gpos it cenv) { s2 with heap := h3, toks := tk } (upd H2 P (.tbl (ps ++ more))) h3.objs.size code fp [(h'.objs.size, { cls := .type "generator", data := .fields #[.int s2.gens.size 0, .str "<genexpr>" (tk + 1), .str (X.env.qual ++ "<genexpr>") (tk + 1 + 1)] })] (gB_room hr)
    have I5 : Inv (gx X (gB X.A elt t0 i0 t1 i1 scope gpos it cenv) { s2 with heap := h3, toks := tk } (upd H2 P (.tbl (ps ++ more))) (genv X scope h3.objs.size code) fp [(h'.objs.size, _)]) [] (wipe σ (own.map (·.2))) _ _ := I5
    rw [hcenv] at I5 pg pi1 pg1 pe
    have hcoE : cenv.scope.isCoroutine = false := by rw [← hcenv]; exact hco
    generalize hog : ({ cls := .type "generator", data := .fields #[.int s2.gens.size 0, .str "<genexpr>" (tk + 1), .str (X.env.qual ++ "<genexpr>") (tk + 1 + 1)] } : Obj) = og at I5 pg pi1 pg1 pe
    have hig : ∀ h : Heap, h.get? h'.objs.size = some og → h.IsGen h'.objs.size s2.gens.size := fun hh e => ⟨og, _, _, e, by rw [← hog], by rw [← hog], by rw [← hog]⟩
    have mI5 : ∀ b ∈ fp, (upd H2 P (.tbl (ps ++ more))) b = none := fun b hb => (f4 b hb).1.1
    have back : ∀ σ' H' s', Inv (gx X (gB X.A elt t0 i0 t1 i1 scope gpos it cenv) { s2 with heap := h3, toks := tk } (upd H2 P (.tbl (ps ++ more))) cenv fp [(h'.objs.size, og)]) [] σ' H' s' → Inv X pins σ H' s' := fun σ' H' s' I6 =>
      I4.call' (ch := fp) I6.os I6.base I6.hok I6.bare fun b hb => ⟨(f4 b hb).1.2.2.2.1, (f4 b hb).1.2.1, (f4 b hb).1.2.2.2.2.1, (f4 b hb).1.2.2.2.2.2⟩
    have goes : ∀ s' : Shared, s'.heap = h'.push og → s'.os = s2.os → AllBare s'.gens →
        Seg (model X.prog X.w) X.A.in1.in1 (GRn (gx X (gB X.A elt t0 i0 t1 i1 scope gpos it cenv) { s2 with heap := h3, toks := tk } (upd H2 P (.tbl (ps ++ more))) cenv fp [(h'.objs.size, og)]) e Q)
          (GYp (gx X (gB X.A elt t0 i0 t1 i1 scope gpos it cenv) { s2 with heap := h3, toks := tk } (upd H2 P (.tbl (ps ++ more))) cenv fp [(h'.objs.size, og)]) e Q) (m0 + 1) s'
          (.compStart (.GeneratorExp elt [⟨t0, i0, [], 0⟩, ⟨t1, i1, [], 0⟩] scope gpos) 0 (.ref it) .none cenv) ((model X.prog X.w).den (.compStart (.GeneratorExp elt [⟨t0, i0, [], 0⟩, ⟨t1, i1, [], 0⟩] scope gpos) 0 (.ref it) .none cenv)) [] s' := fun s' hh ho hg => by
      have I6 := inv_same (s' := s') I5 hh ho hg
      have st6 : tn 0 s'.heap := by
        rw [hh]
        exact T.keep _ _ _ st4 fun b _ o e => Heap.get?_push_of_some _ (keep' b o e)
      refine seg_start2 (Y := gx X (gB X.A elt t0 i0 t1 i1 scope gpos it cenv) { s2 with heap := h3, toks := tk } (upd H2 P (.tbl (ps ++ more))) cenv fp [(h'.objs.size, og)]) T st6
        (seg_loop2 rfl rfl rfl rfl (fun b hb p hp z => ?_) hcoE T pg pi1 pg1 pe (hs1 _) hv gw m0 0 (m0 + 1) s' s' _ (Nat.lt_succ_self _) I6 st6 mI5 w0)
      have hp : p ∈ [(h'.objs.size, og)] := hp
      rw [List.mem_singleton.mp hp] at z
      have z : h'.objs.size = b := z
      have h9 := (f4 b hb).2
      rw [← z, hsz'] at h9
      exact absurd h9 (Nat.not_lt.mpr (Nat.le_succ _))
    have ee : genEnv scope (cloFrom X.env.cells scope.names []) h3.objs.size code builtinsNs X.env = cenv := hcenv
    have fin := hQ h'.objs.size { s2 with heap := h'.push og, gens := s2.gens.push (.fresh (.compStart (.GeneratorExp elt [⟨t0, i0, [], 0⟩, ⟨t1, i1, [], 0⟩] scope gpos) 0 (.ref it) .none cenv)), toks := tk + 1 + 1 + 1 }
      ⟨gB X.A elt t0 i0 t1 i1 scope gpos it cenv, { s2 with heap := h3, toks := tk }, upd H2 P (.tbl (ps ++ more)), cenv, fp, [(h'.objs.size, og)], og, s2.gens.size, .fresh (.compStart (.GeneratorExp elt [⟨t0, i0, [], 0⟩, ⟨t1, i1, [], 0⟩] scope gpos) 0 (.ref it) .none cenv), wipe σ (own.map (·.2)), upd H2 P (.tbl (ps ++ more)), m0 + 1,
        List.mem_singleton.mpr rfl, hig, I5, Array.getElem?_push_size .., fun s' hh ho hg => ⟨rfl, goes s' hh ho hg⟩, back⟩
    rw [← ee] at fin
    exact fin
  cases hf : codeAmong gpos ps.toList with
  | none =>
    refine ⟨I2.nolimit, ?_⟩
    refine wpAny_genexprCodeX hcode (cd.code hPs ht) (cd.tab hPs) hf fun c' h' tk hx hge hlt hco' _ htab' _ => ?_
    obtain ⟨o1, vs, f1, tf, fl, tg, inF, tx, tt, op, _, _, _, _, _, _, _, _, _, htr, _⟩ := hco'
    exact cont _ h' tk _ hx (Nat.le_trans hge (Nat.le_of_lt hlt)) htab'.2 ⟨_, rfl⟩ htr
  | some cv =>
    refine ⟨I2.nolimit, ?_⟩
    refine wpAny_genexprCode_hit hcode (cd.code hPs ht) hf ?_
    exact cont cv s2.heap s2.toks ps (Heap.ExtBut.refl _ _) (Nat.le_refl _) hPs ⟨#[], by simp⟩ ht

theorem pe_all2 {c P : Addr} {elt t0 i0 t1 i1 : Expr} {p pos gpos : Pos} {scope : Scope} {own : List (Str × Nat)} {wi wi1 : TI} {g g1 : TG} {vs1 : List Nat} {te : TE} {k : Nat}
    (hr : Room (k + 1) X.A) (hg : Gl X "all") (hm : X.mg "all" = none) (TB : TabB X.base X.mg c P) (hcode : X.env.code = .ref c) (hN : X.N.Nodup) (ok : BlkOk X.N X.env.scope scope own) (hcell : ∀ y ∈ scope.names, y.2 ≠ .cell) (hco : scope.isCoroutine = false) (h0 : scope.names.lookup (".0" : Str) = some NameKind.local)
    (hi : PI X t0 i0 wi) (hv : ∀ i ∈ vs1, i ∈ own.map (·.2))
    (hpg : ∀ (A1 : Around) (s : Shared) (H : Hp) (C : Addr) (code : Value) (fp : List Addr) (pn : List (Addr × Obj)), PG (gx X A1 s H (genv X scope C code) fp pn) t0 g)
    (hpi1 : ∀ (A1 : Around) (s : Shared) (H : Hp) (C : Addr) (code : Value) (fp : List Addr) (pn : List (Addr × Obj)), Room k A1 → PI (gx X A1 s H (genv X scope C code) fp pn) t1 i1 wi1)
    (hpg1 : ∀ (A1 : Around) (s : Shared) (H : Hp) (C : Addr) (code : Value) (fp : List Addr) (pn : List (Addr × Obj)), PG (gx X A1 s H (genv X scope C code) fp pn) t1 g1)
    (hpe : ∀ (A1 : Around) (s : Shared) (H : Hp) (C : Addr) (code : Value) (fp : List Addr) (pn : List (Addr × Obj)), Room k A1 → PE (gx X A1 s H (genv X scope C code) fp pn) elt te)
    (hs : ∀ v, genFold i0 X.env v = pure v := by intro _; rfl)
    (hs1 : ∀ env x, foldedSetIterable i1 env x = pure x := by intro _ _; rfl)
    (he : starEach [.GeneratorExp elt [⟨t0, i0, [], 0⟩, ⟨t1, i1, [], 0⟩] scope gpos] X.env = (false, eval (.GeneratorExp elt [⟨t0, i0, [], 0⟩, ⟨t1, i1, [], 0⟩] scope gpos) X.env) :: starEach [] X.env := by rfl) :
    PE X (.Call (.Name "all" p) [.GeneratorExp elt [⟨t0, i0, [], 0⟩, ⟨t1, i1, [], 0⟩] scope gpos] [] pos) (tGen2 true P wi g wi1 g1 te (own.map (·.2)) vs1) := by
  refine ⟨fun pins s σ H Q I h => ?_⟩
  refine wpAny_Call_Name_kw (ld_blt I hg hm boot_all ?_)
  refine PyProof.Rows.callWith_builtin1 ?_ he (by rfl)
  rw [he]
  show wpAny _ _ (spliced ((false, eval (.GeneratorExp elt [⟨t0, i0, [], 0⟩, ⟨t1, i1, [], 0⟩] scope gpos) X.env) :: backTo pos (starEach [] X.env))) _ _ s
  refine Calls.spliced_cons (gen_make2 (e := true) (Q := Q) hr TB hcode hN ok hcell hco h0 hi hv hpg hpi1 hpg1 hpe hs hs1 I h fun a s5 hG => ?_)
  obtain ⟨A1, s4, H4, cenv, fp, pn, og, gi, gs, σ', H5, n, hpn, hig, I5, hgs, hgo, back⟩ := hG
  refine Calls.spliced_nil ?_
  refine call_function_tree F.kind_all F.plain_all F.entry_all (F.args_all1 _) ?_
  unfold Builtin.«all»
  refine wpAny_bind (m := oneArg "all" _) (wpAny_pure ?_)
  refine wpAny_bind (wpAny_pyIter_gen (hig _ (I5.pin _ (List.mem_append_left _ hpn)).1) ?_)
  refine wpAny_pure ⟨plainId_quiet F.plain_all_loop _, drv_all (Y := gx X A1 s4 H4 cenv fp pn) (A := X.A) hpn hig hr.hd (by have := hr.dp; show X.A.depth + 0 < _; omega) (fun b σ6 H6 s6 I6 q => ?_) n gs σ' H5 s5 I5 hgs hgo⟩
  exact ⟨.bl b, H6, back σ6 H6 s6 I6, rfl, q⟩
end
end EwG

set_option Elab.async false
set_option linter.all false
set_option maxRecDepth 100000
set_option maxHeartbeats 4000000
/-! Finite commutative semirings given by tables. -/
namespace SRm
structure SR (n : Nat) (p t : Nat → Nat → Nat) (o : Nat) : Prop where
  pos : 0 < n
  oo : o < n
  pc : ∀ a, a < n → ∀ b, b < n → p a b < n
  tc : ∀ a, a < n → ∀ b, b < n → t a b < n
  p0 : ∀ a, a < n → p 0 a = a
  ps : ∀ a, a < n → ∀ b, b < n → p a b = p b a
  pa : ∀ a, a < n → ∀ b, b < n → ∀ c, c < n → p a (p b c) = p (p a b) c
  t1 : ∀ a, a < n → t o a = a
  t0 : ∀ a, a < n → t 0 a = 0
  ts : ∀ a, a < n → ∀ b, b < n → t a b = t b a
  ta : ∀ a, a < n → ∀ b, b < n → ∀ c, c < n → t a (t b c) = t (t a b) c
  ds : ∀ a, a < n → ∀ b, b < n → ∀ c, c < n → t a (p b c) = p (t a b) (t a c)
abbrev SRp (n : Nat) (p t : Nat → Nat → Nat) (o : Nat) : Prop :=
  0 < n ∧ o < n ∧ (∀ a, a < n → p 0 a = a ∧ t o a = a ∧ t 0 a = 0 ∧ ∀ b, b < n → p a b < n ∧ t a b < n ∧ p a b = p b a ∧ t a b = t b a ∧ ∀ c, c < n → p a (p b c) = p (p a b) c ∧ t a (t b c) = t (t a b) c ∧ t a (p b c) = p (t a b) (t a c))
theorem SR.of {n : Nat} {p t : Nat → Nat → Nat} {o : Nat} (h : SRp n p t o) : SR n p t o where
  pos := h.1
  oo := h.2.1
  pc := fun a ha b hb => ((h.2.2 a ha).2.2.2 b hb).1
  tc := fun a ha b hb => ((h.2.2 a ha).2.2.2 b hb).2.1
  p0 := fun a ha => (h.2.2 a ha).1
  ps := fun a ha b hb => ((h.2.2 a ha).2.2.2 b hb).2.2.1
  pa := fun a ha b hb c hc => (((h.2.2 a ha).2.2.2 b hb).2.2.2.2 c hc).1
  t1 := fun a ha => (h.2.2 a ha).2.1
  t0 := fun a ha => (h.2.2 a ha).2.2.1
  ts := fun a ha b hb => ((h.2.2 a ha).2.2.2 b hb).2.2.2.1
  ta := fun a ha b hb c hc => (((h.2.2 a ha).2.2.2 b hb).2.2.2.2 c hc).2.1
  ds := fun a ha b hb c hc => (((h.2.2 a ha).2.2.2 b hb).2.2.2.2 c hc).2.2
/-- equal within the range -/
theorem SR.congr {n : Nat} {p t p' t' : Nat → Nat → Nat} {o : Nat} (h : SR n p t o) (hp : ∀ a, a < n → ∀ b, b < n → p' a b = p a b) (ht : ∀ a, a < n → ∀ b, b < n → t' a b = t a b) : SR n p' t' o := by
  refine SR.of ⟨h.pos, h.oo, fun a ha => ⟨by rw [hp _ h.pos _ ha]; exact h.p0 a ha, by rw [ht _ h.oo _ ha]; exact h.t1 a ha, by rw [ht _ h.pos _ ha]; exact h.t0 a ha, fun b hb => ?_⟩⟩
  have e1 := hp _ ha _ hb
  have e2 := hp _ hb _ ha
  have e3 := ht _ ha _ hb
  have e4 := ht _ hb _ ha
  refine ⟨by rw [e1]; exact h.pc a ha b hb, by rw [e3]; exact h.tc a ha b hb, by rw [e1, e2]; exact h.ps a ha b hb, by rw [e3, e4]; exact h.ts a ha b hb, fun c hc => ?_⟩
  have pbc := h.pc b hb c hc
  have pab := h.pc a ha b hb
  have tbc := h.tc b hb c hc
  have tab := h.tc a ha b hb
  have tac := h.tc a ha c hc
  refine ⟨?_, ?_, ?_⟩
  · rw [hp _ hb _ hc, e1, hp _ ha _ pbc, hp _ pab _ hc]; exact h.pa a ha b hb c hc
  · rw [ht _ hb _ hc, e3, ht _ ha _ tbc, ht _ tab _ hc]; exact h.ta a ha b hb c hc
  · rw [hp _ hb _ hc, e3, ht _ ha _ pbc, ht _ ha _ hc, hp _ tab _ tac]; exact h.ds a ha b hb c hc
/-- the drawn families -/
def fP (kind n : Nat) : Nat → Nat → Nat := fun a b => match kind with
  | 0 => (a + b) % n
  | 1 => min (a + b) (n - 1)
  | 2 => max a b
  | 3 => a ||| b
  | 4 => a ^^^ b
  | _ => if a * b = 0 then max a b else min a b
def fT (kind n : Nat) : Nat → Nat → Nat := fun a b => match kind with
  | 0 => (a * b) % n
  | 1 => min (a * b) (n - 1)
  | 2 => min a b
  | 3 => a &&& b
  | 4 => a &&& b
  | _ => if a * b = 0 then 0 else min (a + b - 1) (n - 1)
def fO (kind n : Nat) : Nat := match kind with
  | 0 => 1 % n
  | 1 => min 1 (n - 1)
  | 2 => n - 1
  | 3 => n - 1
  | 4 => n - 1
  | _ => 1
def SRb (n : Nat) (p t : Nat → Nat → Nat) (o : Nat) : Bool :=
  Nat.blt 0 n && Nat.blt o n && (List.range n).all fun a => p 0 a == a && t o a == a && t 0 a == 0 && (List.range n).all fun b => Nat.blt (p a b) n && Nat.blt (t a b) n && p a b == p b a && t a b == t b a &&
    (List.range n).all fun c => p a (p b c) == p (p a b) c && t a (t b c) == t (t a b) c && t a (p b c) == p (t a b) (t a c)
theorem SR.ofb {n : Nat} {p t : Nat → Nat → Nat} {o : Nat} (h : SRb n p t o = true) : SR n p t o := by
  unfold SRb at h
  simp only [Bool.and_eq_true, List.all_eq_true, List.mem_range, beq_iff_eq, Nat.blt_eq] at h
  obtain ⟨⟨h1, h2⟩, h3⟩ := h
  refine SR.of ⟨h1, h2, fun a ha => ?_⟩
  obtain ⟨⟨⟨a1, a2⟩, a3⟩, a4⟩ := h3 a ha
  refine ⟨a1, a2, a3, fun b hb => ?_⟩
  obtain ⟨⟨⟨⟨b1, b2⟩, b3⟩, b4⟩, b5⟩ := a4 b hb
  refine ⟨b1, b2, b3, b4, fun c hc => ?_⟩
  obtain ⟨⟨c1, c2⟩, c3⟩ := b5 c hc
  exact ⟨c1, c2, c3⟩
theorem sr_smallb : ((List.range 3).all fun k => (List.range 6).all fun n => SRb (n + 1) (fP k (n + 1)) (fT k (n + 1)) (fO k (n + 1))) = true := by decide +kernel
theorem sr_bitsb : ((List.range 3).all fun k => (List.range 3).all fun m => SRb (2 ^ (m + 1)) (fP (k + 3) (2 ^ (m + 1))) (fT (k + 3) (2 ^ (m + 1))) (fO (k + 3) (2 ^ (m + 1)))) = true := by decide +kernel
theorem sr_small {k n : Nat} (hk : k < 3) (h0 : 0 < n) (hn : n < 7) : SR n (fP k n) (fT k n) (fO k n) := by
  have h := sr_smallb
  simp only [List.all_eq_true, List.mem_range] at h
  have q := h k hk (n - 1) (by omega)
  rw [show n - 1 + 1 = n by omega] at q
  exact SR.ofb q
theorem sr_bits {k m : Nat} (hk : k < 3) (hm : m < 3) : SR (2 ^ (m + 1)) (fP (k + 3) (2 ^ (m + 1))) (fT (k + 3) (2 ^ (m + 1))) (fO (k + 3) (2 ^ (m + 1))) := by
  have h := sr_bitsb
  simp only [List.all_eq_true, List.mem_range] at h
  exact SR.ofb (h k hk m hm)

theorem dm {m x y : Nat} (h : y < m) : (x * m + y) / m = x ∧ (x * m + y) % m = y := by
  have hm : 0 < m := Nat.lt_of_le_of_lt (Nat.zero_le _) h
  refine ⟨?_, ?_⟩
  · rw [Nat.mul_comm, Nat.mul_add_div hm, Nat.div_eq_of_lt h]; rfl
  · rw [Nat.mul_comm, Nat.mul_add_mod, Nat.mod_eq_of_lt h]
theorem lt_mul {n m x y : Nat} (hx : x < n) (hy : y < m) : x * m + y < n * m := by
  have : (x + 1) * m ≤ n * m := Nat.mul_le_mul_right m hx
  rw [Nat.succ_mul] at this
  omega
/-- both at once -/
def pr2 (m : Nat) (f g : Nat → Nat → Nat) : Nat → Nat → Nat := fun a b => f (a / m) (b / m) * m + g (a % m) (b % m)
theorem sr_pair {n m o o' : Nat} {p t p' t' : Nat → Nat → Nat} (x : SR n p t o) (y : SR m p' t' o') : SR (n * m) (pr2 m p p') (pr2 m t t') (o * m + o') := by
  have hm := y.pos
  have dl : ∀ {a}, a < n * m → a / m < n := fun h => Nat.div_lt_of_lt_mul (by rw [Nat.mul_comm]; exact h)
  have ml : ∀ a, a % m < m := fun a => Nat.mod_lt _ hm
  have eq : ∀ a, a / m * m + a % m = a := fun a => by rw [Nat.mul_comm]; exact Nat.div_add_mod a m
  have z : 0 / m = 0 ∧ 0 % m = 0 := ⟨Nat.zero_div _, Nat.zero_mod _⟩
  refine SR.of ⟨Nat.mul_pos x.pos hm, lt_mul x.oo y.oo, fun a ha => ⟨?_, ?_, ?_, fun b hb => ⟨?_, ?_, ?_, ?_, fun c hc => ⟨?_, ?_, ?_⟩⟩⟩⟩
  · unfold pr2; rw [z.1, z.2, x.p0 _ (dl ha), y.p0 _ (ml a), eq]
  · unfold pr2; rw [(dm y.oo).1, (dm y.oo).2, x.t1 _ (dl ha), y.t1 _ (ml a), eq]
  · unfold pr2; rw [z.1, z.2, x.t0 _ (dl ha), y.t0 _ (ml a)]; simp
  · exact lt_mul (x.pc _ (dl ha) _ (dl hb)) (y.pc _ (ml a) _ (ml b))
  · exact lt_mul (x.tc _ (dl ha) _ (dl hb)) (y.tc _ (ml a) _ (ml b))
  · unfold pr2; rw [x.ps _ (dl ha) _ (dl hb), y.ps _ (ml a) _ (ml b)]
  · unfold pr2; rw [x.ts _ (dl ha) _ (dl hb), y.ts _ (ml a) _ (ml b)]
  · unfold pr2
    rw [(dm (y.pc _ (ml b) _ (ml c))).1, (dm (y.pc _ (ml b) _ (ml c))).2, (dm (y.pc _ (ml a) _ (ml b))).1, (dm (y.pc _ (ml a) _ (ml b))).2, x.pa _ (dl ha) _ (dl hb) _ (dl hc), y.pa _ (ml a) _ (ml b) _ (ml c)]
  · unfold pr2
    rw [(dm (y.tc _ (ml b) _ (ml c))).1, (dm (y.tc _ (ml b) _ (ml c))).2, (dm (y.tc _ (ml a) _ (ml b))).1, (dm (y.tc _ (ml a) _ (ml b))).2, x.ta _ (dl ha) _ (dl hb) _ (dl hc), y.ta _ (ml a) _ (ml b) _ (ml c)]
  · unfold pr2
    rw [(dm (y.pc _ (ml b) _ (ml c))).1, (dm (y.pc _ (ml b) _ (ml c))).2, (dm (y.tc _ (ml a) _ (ml b))).1, (dm (y.tc _ (ml a) _ (ml b))).2, (dm (y.tc _ (ml a) _ (ml c))).1, (dm (y.tc _ (ml a) _ (ml c))).2, x.ds _ (dl ha) _ (dl hb) _ (dl hc), y.ds _ (ml a) _ (ml b) _ (ml c)]
/-- renamed by s, back by b -/
theorem sr_ren {n o : Nat} {p t : Nat → Nat → Nat} {s b : Nat → Nat} (x : SR n p t o) (hs : ∀ i, i < n → s i < n) (hb : ∀ i, i < n → b i < n) (sb : ∀ i, i < n → s (b i) = i) (bs : ∀ i, i < n → b (s i) = i) (s0 : s 0 = 0) :
    SR n (fun i j => s (p (b i) (b j))) (fun i j => s (t (b i) (b j))) (s o) := by
  have b0 : b 0 = 0 := by have := bs 0 x.pos; rw [s0] at this; exact this
  refine SR.of ⟨x.pos, hs _ x.oo, fun i hi => ⟨?_, ?_, ?_, fun j hj => ⟨?_, ?_, ?_, ?_, fun k hk => ⟨?_, ?_, ?_⟩⟩⟩⟩
  · show s (p (b 0) (b i)) = i
    rw [b0, x.p0 _ (hb i hi), sb i hi]
  · show s (t (b (s o)) (b i)) = i
    rw [bs _ x.oo, x.t1 _ (hb i hi), sb i hi]
  · show s (t (b 0) (b i)) = 0
    rw [b0, x.t0 _ (hb i hi), s0]
  · exact hs _ (x.pc _ (hb i hi) _ (hb j hj))
  · exact hs _ (x.tc _ (hb i hi) _ (hb j hj))
  · show s (p (b i) (b j)) = s (p (b j) (b i))
    rw [x.ps _ (hb i hi) _ (hb j hj)]
  · show s (t (b i) (b j)) = s (t (b j) (b i))
    rw [x.ts _ (hb i hi) _ (hb j hj)]
  · show s (p (b i) (b (s (p (b j) (b k))))) = s (p (b (s (p (b i) (b j)))) (b k))
    rw [bs _ (x.pc _ (hb j hj) _ (hb k hk)), bs _ (x.pc _ (hb i hi) _ (hb j hj)), x.pa _ (hb i hi) _ (hb j hj) _ (hb k hk)]
  · show s (t (b i) (b (s (t (b j) (b k))))) = s (t (b (s (t (b i) (b j)))) (b k))
    rw [bs _ (x.tc _ (hb j hj) _ (hb k hk)), bs _ (x.tc _ (hb i hi) _ (hb j hj)), x.ta _ (hb i hi) _ (hb j hj) _ (hb k hk)]
  · show s (t (b i) (b (s (p (b j) (b k))))) = s (p (b (s (t (b i) (b j)))) (b (s (t (b i) (b k)))))
    rw [bs _ (x.pc _ (hb j hj) _ (hb k hk)), bs _ (x.tc _ (hb i hi) _ (hb j hj)), bs _ (x.tc _ (hb i hi) _ (hb k hk)), x.ds _ (hb i hi) _ (hb j hj) _ (hb k hk)]
end SRm

set_option Elab.async false
set_option linter.all false
set_option maxRecDepth 100000
set_option maxHeartbeats 4000000
/-! Readings of comprehensions and loops over tables. -/
namespace Tb
open PySem PySem.Spec PyProof.Rows L2 Ew EwG GxR

theorem yes_then {σ : L2.St} {H : Hp} {Q : Bool → Hp → Prop} (q : Q true H) : tYes σ H Q := q
/-- all but what stands at a is as it was -/
def But (a : Addr) (H H' : Hp) : Prop := ∀ b o, b ≠ a → H b = some o → H' b = some o
theorem but_app {D : Addr} {H : Hp} {o : HO} : But D H (upd H D o) := fun b u n e => by rw [upd_ne n]; exact e
theorem But.of {D : Addr} {H H' : Hp} (s : Same H H') : But D H H' := fun b o _ e => s b o e
theorem But.trans {D : Addr} {H H' H'' : Hp} (x : But D H H') (y : But D H' H'') : But D H H'' := fun b o n e => y b o n (x b o n e)
theorem same_but {D : Addr} {H1 H H' : Hp} (hD : H1 D = none) (s : Same H1 H) (b : But D H H') : Same H1 H' := fun c o e => b c o (ne_of_none e hD) (s c o e)
theorem same_new {p : Addr} {H H1 : Hp} {o : HO} (x : Same H H1) (h : H p = none) : Same H (L2.upd H1 p o) := fun b u e => by rw [upd_ne (ne_of_none e h)]; exact x b u e
theorem ext_of {xs : List V} {n : Nat} {f : Nat → V} (hl : xs.length = n) (h : ∀ (i : Nat) v, xs[i]? = some v → v = f i) : xs = (List.range n).map f := by
  refine List.ext_getElem? fun i => ?_
  rw [List.getElem?_map]
  by_cases c : i < n
  · have e : (List.range n)[i]? = some i := by rw [List.getElem?_eq_getElem (by simpa using c), List.getElem_range]
    rw [e]
    obtain ⟨v, hv⟩ : ∃ v, xs[i]? = some v := ⟨_, List.getElem?_eq_getElem (by omega)⟩
    rw [hv, h i v hv]
    rfl
  · rw [List.getElem?_eq_none (by omega), List.getElem?_eq_none (by simpa using c)]
    rfl
theorem at_map {n i : Nat} {f : Nat → V} (h : i < n) : ((List.range n).map f)[i]? = some (f i) := by
  rw [List.getElem?_map, List.getElem?_eq_getElem (by simpa using h), List.getElem_range]
  rfl

/-- [e for x in range(lo, lo + n)]: the heap grows; each element satisfies R -/
theorem lc_rng {lo : Int} {n k : Nat} {te : TE} {vs : List Nat} {σ : L2.St} {H1 : Hp} {D : Addr} {Qd : Hp → Prop} (R : Nat → V → Hp → Prop) (hD : H1 D = none)
    (NR : ∀ i v H H', But D H H' → R i v H → R i v H') (hn : n ≤ 100000) (hw : ∀ x, wipe ((wipe σ vs).set k (some x)) vs = wipe σ vs)
    (hs : ∀ (i : Nat) (H : Hp) (acc : List V) (Kt : VK), i < n → Same H1 H → H D = some (.lst acc) → (∀ y H4, Same H H4 → R i y H4 → Kt y H4) → te ((wipe σ vs).set k (some (.int (lo + i)))) H Kt)
    (hd : ∀ H rows, Same H1 H → H D = some (.lst rows) → rows.length = n → (∀ (i : Nat) v, rows[i]? = some v → R i v H) → Qd H) :
    ∃ W : Nat → Nat → Hp → Prop, (∃ m, W 0 m (upd H1 D (.lst []))) ∧ ∀ i m H, W i m H →
      ((Itr lo n).stop i H ∧ Qd H) ∨ ((Itr lo n).go i H ∧ ∃ Nx : Hp → Prop, (∀ H', Nx H' → ∃ m', m' < m ∧ W (i + 1) m' H') ∧ ∀ x H', (Itr lo n).yld i H x H' → gName k x (wipe σ vs) H' fun σ2 H2 => wipe σ2 vs = wipe σ vs ∧ tYes σ2 H2 fun b H3 =>
        if b = true then te σ2 H3 fun y H4 => ∃ acc, H4 D = some (.lst acc) ∧ acc.length < sizeLine ∧ Nx (upd H4 D (.lst (acc ++ [y]))) else Nx H3) := by
  refine lc_range (fun i H => Same H1 H ∧ ∃ rows, H D = some (.lst rows) ∧ rows.length = i ∧ ∀ (j : Nat) v, rows[j]? = some v → R j v H) ⟨same_new (Same.refl _) hD, [], upd_same, rfl, fun j v e => by simp at e⟩ (fun i H hi ⟨s1, rows, e1, e2, e3⟩ => ?_) (fun H ⟨s1, rows, e1, e2, e3⟩ => hd H rows s1 e1 e2 e3)
  refine ⟨hw _, ?_⟩
  refine yes_then ?_
  refine iteT ?_
  refine hs i H rows _ hi s1 e1 fun y H4 s4 r4 => ⟨rows, s4 _ _ e1, ?_, same_but hD (fun b o e => s4 b o (s1 b o e)) but_app, rows ++ [y], upd_same, by rw [List.length_append, e2]; rfl, fun j v e => ?_⟩
  · rw [e2]
    exact Nat.lt_of_lt_of_le hi (Nat.le_trans hn (by decide))
  · by_cases c : j < rows.length
    · rw [List.getElem?_append_left c] at e
      exact NR _ _ _ _ (But.trans (But.of s4) but_app) (e3 j v e)
    · rw [List.getElem?_append_right (by omega)] at e
      have hj : j = i := by
        have : j - rows.length < [y].length := by
          rcases Nat.lt_or_ge (j - rows.length) [y].length with h | h
          · exact h
          · rw [List.getElem?_eq_none h] at e; cases e
        have h1 : [y].length = 1 := rfl
        omega
      subst hj
      rw [e2, Nat.sub_self] at e
      have : y = v := by simpa using e
      subst this
      exact NR _ _ _ _ but_app r4
/-- .. whose elements are plain values -/
theorem lc_vals {lo : Int} {n k : Nat} {te : TE} {vs : List Nat} {σ : L2.St} {H1 : Hp} {D : Addr} {Qd : Hp → Prop} (f : Nat → V) (hD : H1 D = none)
    (hn : n ≤ 100000) (hw : ∀ x, wipe ((wipe σ vs).set k (some x)) vs = wipe σ vs)
    (hs : ∀ (i : Nat) (H : Hp) (Kt : VK), i < n → Same H1 H → (∀ H4, Same H H4 → Kt (f i) H4) → te ((wipe σ vs).set k (some (.int (lo + i)))) H Kt)
    (hd : ∀ H, Same H1 H → H D = some (.lst ((List.range n).map f)) → Qd H) :
    ∃ W : Nat → Nat → Hp → Prop, (∃ m, W 0 m (upd H1 D (.lst []))) ∧ ∀ i m H, W i m H →
      ((Itr lo n).stop i H ∧ Qd H) ∨ ((Itr lo n).go i H ∧ ∃ Nx : Hp → Prop, (∀ H', Nx H' → ∃ m', m' < m ∧ W (i + 1) m' H') ∧ ∀ x H', (Itr lo n).yld i H x H' → gName k x (wipe σ vs) H' fun σ2 H2 => wipe σ2 vs = wipe σ vs ∧ tYes σ2 H2 fun b H3 =>
        if b = true then te σ2 H3 fun y H4 => ∃ acc, H4 D = some (.lst acc) ∧ acc.length < sizeLine ∧ Nx (upd H4 D (.lst (acc ++ [y]))) else Nx H3) :=
  lc_rng (fun i v _ => v = f i) hD (fun _ _ _ _ _ h => h) hn hw (fun i H _ Kt hi s _ k => hs i H Kt hi s fun H4 s4 => k _ H4 s4 rfl) fun H rows s e l h => hd H s (by rw [e, ext_of l h])

/-- a list (at D) of n lists of n ints; none of them at a -/
def LL (a : Addr) (H : Hp) (D : Addr) (n : Nat) (F : Nat → Nat → Int) : Prop :=
  ∃ rows : List V, D ≠ a ∧ H D = some (.lst rows) ∧ rows.length = n ∧ ∀ i, i < n → ∃ r, rows[i]? = some (.ref r) ∧ r ≠ a ∧ H r = some (.lst ((List.range n).map fun j => V.int (F i j)))
theorem LL.but {a D : Addr} {H H' : Hp} {n : Nat} {F : Nat → Nat → Int} (x : LL a H D n F) (b : But a H H') : LL a H' D n F := by
  obtain ⟨rows, h1, h2, h3, h4⟩ := x
  exact ⟨rows, h1, b _ _ h1 h2, h3, fun i hi => let ⟨r, e1, e2, e3⟩ := h4 i hi; ⟨r, e1, e2, b _ _ e2 e3⟩⟩
theorem LL.congr {a D : Addr} {H : Hp} {n : Nat} {F G : Nat → Nat → Int} (x : LL a H D n F) (e : ∀ i, i < n → ∀ j, j < n → F i j = G i j) : LL a H D n G := by
  obtain ⟨rows, h1, h2, h3, h4⟩ := x
  refine ⟨rows, h1, h2, h3, fun i hi => ?_⟩
  obtain ⟨r, e1, e2, e3⟩ := h4 i hi
  refine ⟨r, e1, e2, ?_⟩
  rw [e3]
  refine congrArg (fun z => some (HO.lst z)) (List.map_congr_left fun j hj => ?_)
  rw [e i hi j (List.mem_range.mp hj)]
/-- a tuple of n tuples of n ints -/
def TT (H : Hp) (D : Addr) (n : Nat) (F : Nat → Nat → Int) : Prop :=
  ∃ rows : List V, H D = some (.tup rows) ∧ rows.length = n ∧ ∀ i, i < n → ∃ r, rows[i]? = some (.ref r) ∧ H r = some (.tup ((List.range n).map fun j => V.int (F i j)))
theorem TT.same {D : Addr} {H H' : Hp} {n : Nat} {F : Nat → Nat → Int} (x : TT H D n F) (b : ∀ c xs, H c = some (.tup xs) → H' c = some (.tup xs)) : TT H' D n F := by
  obtain ⟨rows, h2, h3, h4⟩ := x
  exact ⟨rows, b _ _ h2, h3, fun i hi => let ⟨r, e1, e3⟩ := h4 i hi; ⟨r, e1, b _ _ e3⟩⟩
/-- [[e for b in range(n)] for a in range(n)] : the outer one -/
theorem lc_LL {a : Addr} {ao : HO} {n k : Nat} {te : TE} {vs : List Nat} {σ : L2.St} {H1 : Hp} {D : Addr} {Qd : Hp → Prop} (F : Nat → Nat → Int) (hD : H1 D = none) (ha : H1 a = some ao)
    (hn : n ≤ 100000) (hw : ∀ x, wipe ((wipe σ vs).set k (some x)) vs = wipe σ vs)
    (hs : ∀ (i : Nat) (H : Hp) (Kt : VK), i < n → Same H1 H → (∀ r H4, Same H H4 → H r = none → H4 r = some (.lst ((List.range n).map fun j => V.int (F i j))) → Kt (.ref r) H4) → te ((wipe σ vs).set k (some (.int (0 + i)))) H Kt)
    (hd : ∀ H, Same H1 H → LL a H D n F → Qd H) :
    ∃ W : Nat → Nat → Hp → Prop, (∃ m, W 0 m (upd H1 D (.lst []))) ∧ ∀ i m H, W i m H →
      ((Itr 0 n).stop i H ∧ Qd H) ∨ ((Itr 0 n).go i H ∧ ∃ Nx : Hp → Prop, (∀ H', Nx H' → ∃ m', m' < m ∧ W (i + 1) m' H') ∧ ∀ x H', (Itr 0 n).yld i H x H' → gName k x (wipe σ vs) H' fun σ2 H2 => wipe σ2 vs = wipe σ vs ∧ tYes σ2 H2 fun b H3 =>
        if b = true then te σ2 H3 fun y H4 => ∃ acc, H4 D = some (.lst acc) ∧ acc.length < sizeLine ∧ Nx (upd H4 D (.lst (acc ++ [y]))) else Nx H3) := by
  refine lc_rng (fun i v H => ∃ r, v = .ref r ∧ r ≠ D ∧ r ≠ a ∧ H r = some (.lst ((List.range n).map fun j => V.int (F i j)))) hD (fun i v H H' b ⟨r, e1, e2, e3, e4⟩ => ⟨r, e1, e2, e3, b _ _ e2 e4⟩) hn hw
    (fun i H acc Kt hi s e k => hs i H Kt hi s fun r H4 s4 hr h4 => k _ H4 s4 ⟨r, rfl, (fun z => by rw [z, e] at hr; cases hr), (fun z => by rw [z, s _ _ ha] at hr; cases hr), h4⟩) fun H rows s e l h => hd H s ⟨rows, (fun z => by rw [z, ha] at hD; cases hD), e, l, fun i hi => ?_⟩
  obtain ⟨v, hv⟩ : ∃ v, rows[i]? = some v := ⟨_, List.getElem?_eq_getElem (by omega)⟩
  obtain ⟨r, rfl, _, h1, h2⟩ := h i v hv
  exact ⟨r, hv, h1, h2⟩

/-- [[e for b in range(n)] for a in range(n)] as a reading -/
theorem tab_lc {a : Addr} {ao : HO} {n ns ka kb : Nat} {te : TE} {σ : L2.St} {H : Hp} {Q : VK} (F : Nat → Nat → Int) (ha : H a = some ao) (hn : n ≤ 100000)
    (hs : ∀ (i j : Nat) (H' : Hp) (Kt : VK), i < n → j < n → Same H H' → (∀ H4, Same H' H4 → Kt (.int (F i j)) H4) → te ((wipe ((wipe σ [ka]).set ka (some (.int (i : Int)))) [kb]).set kb (some (.int (j : Int)))) H' Kt)
    (hd : ∀ H' D, Same H H' → H D = none → LL a H' D n F → Q (.ref D) H')
    (h1 : σ[ns]? = some (some (.int (n : Int))) := by rfl) (h2 : ∀ x, ((wipe σ [ka]).set ka (some x))[ns]? = some (some (.int (n : Int))) := by intro _; rfl)
    (w1 : ∀ x, wipe ((wipe σ [ka]).set ka (some x)) [ka] = wipe σ [ka] := by intro _; rfl) (w2 : ∀ y x, wipe ((wipe ((wipe σ [ka]).set ka (some y)) [kb]).set kb (some x)) [kb] = wipe ((wipe σ [ka]).set ka (some y)) [kb] := by intro _ _; rfl) :
    tLc (iRng1 (tCons (tVar ns) tNil)) (gName ka) tYes (tLc (iRng1 (tCons (tVar ns) tNil)) (gName kb) tYes te [kb]) [ka] σ H Q := by
  refine ⟨_, h1, _, rfl, by omega, by omega, fun D hD => ?_⟩
  refine lc_LL (a := a) F hD ha hn w1 (fun i H' Kt hi s k => ?_) (fun H' s l => hd H' D s hD l)
  refine ⟨_, h2 _, _, rfl, by omega, by omega, fun D' hD' => ?_⟩
  refine lc_vals (fun j => V.int (F i j)) hD' hn (w2 _) (fun j H4 Kt4 hj s4 k4 => ?_) (fun H4 s4 e4 => k D' H4 s4 hD' e4)
  rw [Int.zero_add, Int.zero_add]
  exact hs i j H4 Kt4 hi hj (fun b o e => s4 b o (s b o e)) k4

/-- [e for x in l], l a list that the turns leave as it is -/
theorem lc_lst {K : PySem.W.Frag} {L : Addr} {xs : List V} {k : Nat} {te : TE} {vs : List Nat} {σ : L2.St} {H1 : Hp} {D : Addr} {Qd : Hp → Prop} (R : Nat → V → Hp → Prop) (hD : H1 D = none) (hL : SqL K H1 L xs) (hLs : ∀ H, Same H1 H → SqL K H L xs)
    (NR : ∀ i v H H', But D H H' → R i v H → R i v H') (hn : xs.length ≤ 100000) (hw : ∀ x, wipe ((wipe σ vs).set k (some x)) vs = wipe σ vs)
    (hs : ∀ (i : Nat) (x : V) (H : Hp) (acc : List V) (Kt : VK), xs[i]? = some x → Same H1 H → H D = some (.lst acc) → (∀ y H4, Same H H4 → R i y H4 → Kt y H4) → te ((wipe σ vs).set k (some x)) H Kt)
    (hd : ∀ H rows, Same H1 H → H D = some (.lst rows) → rows.length = xs.length → (∀ (i : Nat) v, rows[i]? = some v → R i v H) → Qd H) :
    ∃ W : Nat → Nat → Hp → Prop, (∃ m, W 0 m (upd H1 D (.lst []))) ∧ ∀ i m H, W i m H →
      ((Itl K L).stop i H ∧ Qd H) ∨ ((Itl K L).go i H ∧ ∃ Nx : Hp → Prop, (∀ H', Nx H' → ∃ m', m' < m ∧ W (i + 1) m' H') ∧ ∀ x H', (Itl K L).yld i H x H' → gName k x (wipe σ vs) H' fun σ2 H2 => wipe σ2 vs = wipe σ vs ∧ tYes σ2 H2 fun b H3 =>
        if b = true then te σ2 H3 fun y H4 => ∃ acc, H4 D = some (.lst acc) ∧ acc.length < sizeLine ∧ Nx (upd H4 D (.lst (acc ++ [y]))) else Nx H3) := by
  refine lc_list (fun i H => Same H1 H ∧ ∃ rows, H D = some (.lst rows) ∧ rows.length = i ∧ ∀ (j : Nat) v, rows[j]? = some v → R j v H) ⟨same_new (Same.refl _) hD, [], upd_same, rfl, fun j v e => by simp at e⟩ (fun i H _ ⟨s1, _⟩ => hLs H s1) (fun i x H hx ⟨s1, rows, e1, e2, e3⟩ => ?_) (fun H ⟨s1, rows, e1, e2, e3⟩ => hd H rows s1 e1 e2 e3)
  refine ⟨hw _, ?_⟩
  refine yes_then ?_
  refine iteT ?_
  have hi : i < xs.length := by
    rcases Nat.lt_or_ge i xs.length with h | h
    · exact h
    · rw [List.getElem?_eq_none h] at hx; cases hx
  refine hs i x H rows _ hx s1 e1 fun y H4 s4 r4 => ⟨rows, s4 _ _ e1, ?_, same_but hD (fun b o e => s4 b o (s1 b o e)) but_app, rows ++ [y], upd_same, by rw [List.length_append, e2]; rfl, fun j v e => ?_⟩
  · rw [e2]
    exact Nat.lt_of_lt_of_le hi (Nat.le_trans hn (by decide))
  · by_cases c : j < rows.length
    · rw [List.getElem?_append_left c] at e
      exact NR _ _ _ _ (But.trans (But.of s4) but_app) (e3 j v e)
    · rw [List.getElem?_append_right (by omega)] at e
      have hj : j = i := by
        have : j - rows.length < [y].length := by
          rcases Nat.lt_or_ge (j - rows.length) [y].length with h | h
          · exact h
          · rw [List.getElem?_eq_none h] at e; cases e
        have h1 : [y].length = 1 := rfl
        omega
      subst hj
      rw [e2, Nat.sub_self] at e
      have : y = v := by simpa using e
      subst this
      exact NR _ _ _ _ but_app r4
/-- [[e for b in l] for a in l], l a list of n things, as a reading: a list of n lists of n ints -/
theorem tab_lst {K : PySem.W.Frag} {a L : Addr} {ao : HO} {xs : List V} {n ns ka kb : Nat} {te : TE} {σ : L2.St} {H : Hp} {Q : VK} (F : Nat → Nat → Int) (ha : H a = some ao) (hL : H L = some (.lst xs)) (hxl : xs.length = n) (hn : n ≤ 100000)
    (hs : ∀ (i j : Nat) (x y : V) (H' : Hp) (Kt : VK), i < n → j < n → xs[i]? = some x → xs[j]? = some y → Same H H' → (∀ H4, Same H' H4 → Kt (.int (F i j)) H4) → te ((wipe ((wipe σ [ka]).set ka (some x)) [kb]).set kb (some y)) H' Kt)
    (hd : ∀ H' D, Same H H' → H D = none → LL a H' D n F → Q (.ref D) H')
    (h1 : σ[ns]? = some (some (.ref L)) := by rfl) (h2 : ∀ x, ((wipe σ [ka]).set ka (some x))[ns]? = some (some (.ref L)) := by intro _; rfl)
    (w1 : ∀ x, wipe ((wipe σ [ka]).set ka (some x)) [ka] = wipe σ [ka] := by intro _; rfl) (w2 : ∀ y x, wipe ((wipe ((wipe σ [ka]).set ka (some y)) [kb]).set kb (some x)) [kb] = wipe ((wipe σ [ka]).set ka (some y)) [kb] := by intro _ _; rfl) :
    tLc (iList K (tVar ns)) (gName ka) tYes (tLc (iList K (tVar ns)) (gName kb) tYes te [kb]) [ka] σ H Q := by
  have at_ : ∀ {i : Nat} {x : V}, xs[i]? = some x → i < n := fun {i x} h => by
    rcases Nat.lt_or_ge i xs.length with h' | h'
    · omega
    · rw [List.getElem?_eq_none h'] at h; cases h
  refine ⟨_, h1, L, rfl, ⟨xs, SqL.of hL⟩, fun D hD => ?_⟩
  refine lc_lst (K := K) (xs := xs) (fun i v H => ∃ r, v = .ref r ∧ r ≠ D ∧ r ≠ a ∧ H r = some (.lst ((List.range n).map fun j => V.int (F i j)))) hD (SqL.of hL) (fun H' s => SqL.of (s _ _ hL)) (fun i v H H' b ⟨r, e1, e2, e3, e4⟩ => ⟨r, e1, e2, e3, b _ _ e2 e4⟩) (by omega) w1 (fun i x H' acc Kt hx s e k => ?_) (fun H' rows s e l h => ?_)
  · refine ⟨_, h2 _, L, rfl, ⟨xs, SqL.of (s _ _ hL)⟩, fun D' hD' => ?_⟩
    refine lc_lst (K := K) (xs := xs) (fun j v _ => v = V.int (F i j)) hD' (SqL.of (s _ _ hL)) (fun H4 s4 => SqL.of (s4 _ _ (s _ _ hL))) (fun _ _ _ _ _ h => h) (by omega) (w2 _) (fun j y H4 acc' Kt4 hy s4 e4 k4 => ?_) (fun H4 rows s4 e4 l4 h4 => ?_)
    · exact hs i j x y H4 Kt4 (at_ hx) (at_ hy) hx hy (fun b o e => s4 b o (s b o e)) fun H5 s5 => k4 _ H5 s5 rfl
    · refine k _ H4 s4 ⟨D', rfl, (fun z => by rw [z, e] at hD'; cases hD'), (fun z => by rw [z, s _ _ ha] at hD'; cases hD'), ?_⟩
      rw [e4, ext_of (l4.trans hxl) h4]
  · refine hd H' D s hD ⟨rows, (fun z => by rw [z, ha] at hD; cases hD), e, l.trans hxl, fun i hi => ?_⟩
    obtain ⟨v, hv⟩ : ∃ v, rows[i]? = some v := ⟨_, List.getElem?_eq_getElem (by omega)⟩
    obtain ⟨r, rfl, _, h1, h2⟩ := h i v hv
    exact ⟨r, hv, h1, h2⟩
abbrev rTupOf (K : PySem.W.Frag) : List V → Hp → VK → Prop := fun xs H Q => ∃ p ys, xs = [.ref p] ∧ ((SqL K H p ys ∧ ∀ l, H l = none → Q (.ref l) (upd H l (.tup ys))) ∨ (SqT K H p ys ∧ Q (.ref p) H))
/-- tuple([tuple([e for b in range(n)]) for a in range(n)]) as a reading -/
theorem tab_tt {K : PySem.W.Frag} {n ns ka kb : Nat} {te : TE} {σ : L2.St} {H : Hp} {Q : VK} (F : Nat → Nat → Int) (hn : n ≤ 100000)
    (hs : ∀ (i j : Nat) (H' : Hp) (Kt : VK), i < n → j < n → Same H H' → (∀ H4, Same H' H4 → Kt (.int (F i j)) H4) → te ((wipe ((wipe σ [ka]).set ka (some (.int (i : Int)))) [kb]).set kb (some (.int (j : Int)))) H' Kt)
    (hd : ∀ H' D, Same H H' → TT H' D n F → Q (.ref D) H')
    (h1 : σ[ns]? = some (some (.int (n : Int))) := by rfl) (h2 : ∀ x, ((wipe σ [ka]).set ka (some x))[ns]? = some (some (.int (n : Int))) := by intro _; rfl)
    (w1 : ∀ x, wipe ((wipe σ [ka]).set ka (some x)) [ka] = wipe σ [ka] := by intro _; rfl) (w2 : ∀ y x, wipe ((wipe ((wipe σ [ka]).set ka (some y)) [kb]).set kb (some x)) [kb] = wipe ((wipe σ [ka]).set ka (some y)) [kb] := by intro _ _; rfl) :
    tCB (rTupOf K) (tCons (tLc (iRng1 (tCons (tVar ns) tNil)) (gName ka) tYes (tCB (rTupOf K) (tCons (tLc (iRng1 (tCons (tVar ns) tNil)) (gName kb) tYes te [kb]) tNil)) [ka]) tNil) σ H Q := by
  refine ⟨_, h1, _, rfl, by omega, by omega, fun D hD => ?_⟩
  rw [Int.toNat_natCast]
  refine lc_rng (lo := 0) (n := n) (fun i v H => ∃ r, v = .ref r ∧ r ≠ D ∧ H r = some (.tup ((List.range n).map fun j => V.int (F i j)))) hD (fun i v H H' b ⟨r, e1, e2, e3⟩ => ⟨r, e1, e2, b _ _ e2 e3⟩) hn w1 (fun i H' acc Kt hi s e k => ?_) (fun H' rows s e l h => ?_)
  · rw [Int.zero_add]
    refine ⟨_, h2 _, _, rfl, by omega, by omega, fun D' hD' => ?_⟩
    rw [Int.toNat_natCast]
    refine lc_vals (lo := 0) (n := n) (fun j => V.int (F i j)) hD' hn (w2 _) (fun j H4 Kt4 hj s4 k4 => ?_) (fun H4 s4 e4 => ?_)
    · rw [Int.zero_add]
      exact hs i j H4 Kt4 hi hj (fun b o e => s4 b o (s b o e)) k4
    · refine ⟨D', _, rfl, .inl ⟨SqL.of e4, fun r hr => ?_⟩⟩
      exact k _ _ (fun b o e => same_new (Same.refl _) hr b o (s4 b o e)) ⟨r, rfl, (fun z => by rw [z, s4 _ _ e] at hr; cases hr), upd_same⟩
  · refine ⟨D, rows, rfl, .inl ⟨SqL.of e, fun q hq => ?_⟩⟩
    have sq : Same H' (upd H' q (.tup rows)) := same_new (Same.refl _) hq
    refine hd _ q (fun b o e => sq b o (s b o e)) ⟨rows, upd_same, l, fun i hi => ?_⟩
    obtain ⟨v, hv⟩ : ∃ v, rows[i]? = some v := ⟨_, List.getElem?_eq_getElem (by omega)⟩
    obtain ⟨r, rfl, _, h2⟩ := h i v hv
    exact ⟨r, hv, sq _ _ h2⟩
section
variable {X : Cx} {o e : Expr} {es : List Expr} {to : TE} {t : TA} {name : Str} {apos cpos : Pos} {T id : String} {r : V → List V → Hp → VK → Prop}
theorem kpe_bm {K : PySem.W.Frag} (pa : PlainAttrs T) (slot : Slot T name id) (hty : typeOf (.builtin id) = pure (.type "method_descriptor")) (hm : MtR X id r) (ho : PE X o to) (ha : PA X (e :: es) t) (hK : X.K = K := by rfl)
    (hbase : attributeBase o name X.env (eval o X.env) = eval o X.env := by rfl)
    (hfew : ((backTo cpos (starEach (e :: es) X.env)).all (fun x => !x.1) && (backToKw cpos (keywordEach [] X.env)).all (fun x => x.1.isSome)
      && decide ((e :: es).length + ([] : List Keyword).length + (if ([] : List Keyword).isEmpty then 0 else 1) < 30)) = true := by rfl)
    (hline : (apos.endLine == cpos.line) = true := by rfl) (hs : starEach (e :: es) X.env = (false, eval e X.env) :: starEach es X.env := by rfl) (hplain : (backTo cpos (starEach es X.env)).any (·.1) = false := by rfl) :
    PE X (.Call (.Attribute o name apos) (e :: es) [] cpos) (tBM K T r to t) := hK ▸ pe_bm pa slot hty hm ho ha hbase hfew hline hs hplain
theorem kmt_index {K : PySem.W.Frag} (hK : X.K = K := by rfl) : MtR X "list.index" (rIndex K) := hK ▸ mt_index
theorem kcall_tuple_of {K : PySem.W.Frag} (hK : X.K = K := by rfl) : CallR X (.type "tuple") (rTupOf K) := hK ▸ call_tuple_of
end
theorem erase_perm {α : Type} : ∀ (l : List α) (i : Nat) (y : α), l[i]? = some y → (y :: l.eraseIdx i).Perm l
  | [], i, y, e => by simp at e
  | a :: l, 0, y, e => by
    have q : a = y := by simpa using e
    subst q
    exact List.Perm.refl _
  | a :: l, i + 1, y, e => by
    have q := erase_perm l i y (by simpa using e)
    show (y :: a :: l.eraseIdx i).Perm (a :: l)
    exact (List.Perm.swap a y _).trans (q.cons a)
/-- names: a renaming of 0 .. n - 1 that keeps 0, and its inverse -/
theorem ren_of {n : Nat} {ns : List Nat} (p : ns.Perm (List.range n)) (h0 : ns[0]? = some 0) :
    (∀ i, i < n → ns[i]? = some (ns.getD i 0)) ∧ (∀ i, i < n → ns.getD i 0 < n) ∧ (∀ k, k < n → ns.idxOf k < n) ∧ (∀ k, k < n → ns.getD (ns.idxOf k) 0 = k) ∧ (∀ i, i < n → ns.idxOf (ns.getD i 0) = i) ∧ ns.getD 0 0 = 0 := by
  have hl : ns.length = n := by rw [p.length_eq, List.length_range]
  have nd : ns.Nodup := p.nodup_iff.mpr List.nodup_range
  have at_ : ∀ i, i < n → ns[i]? = some (ns.getD i 0) := fun i hi => by
    rw [List.getD_eq_getElem?_getD, List.getElem?_eq_getElem (by omega)]
    rfl
  have mem : ∀ k, k < n → k ∈ ns := fun k hk => p.mem_iff.mpr (List.mem_range.mpr hk)
  have ix : ∀ k, k < n → ns.idxOf k < n := fun k hk => by
    have := List.idxOf_lt_length_iff.mpr (mem k hk)
    omega
  refine ⟨at_, fun i hi => List.mem_range.mp (p.mem_iff.mp (List.mem_of_getElem? (at_ i hi))), ix, fun k hk => ?_, fun i hi => ?_, ?_⟩
  · have h := ix k hk
    rw [← hl] at h
    rw [List.getD_eq_getElem?_getD, List.getElem?_eq_getElem h, List.getElem_idxOf h]
    rfl
  · have h : i < ns.length := by omega
    rw [List.getD_eq_getElem?_getD, List.getElem?_eq_getElem h]
    exact nd.idxOf_getElem i h
  · rw [List.getD_eq_getElem?_getD, h0]
    rfl
theorem idx_first {n : Nat} {ns : List Nat} (p : ns.Perm (List.range n)) {k m z : Nat} (h : m < ns.idxOf k) (e : ns[m]? = some z) : z ≠ k := fun q => by
  have nd : ns.Nodup := p.nodup_iff.mpr List.nodup_range
  obtain ⟨hm, e⟩ := List.getElem?_eq_some_iff.mp e
  have := nd.idxOf_getElem m hm
  rw [e, q] at this
  omega
theorem go_seq {te : TE} {g : TG} {u : TS} {D : Ends} {σ : L2.St} {H : Hp} (h : te σ H fun x H1 => g x σ H1 fun σ' H' => u D σ' H') : tSeq (tAsg te g) u D σ H := h
theorem go_next {f : L2.St → Hp → Prop} {rt : VK} {bk ct : L2.St → Hp → Prop} {σ : L2.St} {H : Hp} (h : f σ H) : tNext ⟨f, rt, bk, ct⟩ σ H := h
theorem go_nx {f : L2.St → Hp → Prop} {rt : VK} {bk ct : L2.St → Hp → Prop} {σ : L2.St} {H : Hp} (h : f σ H) : (Ends.mk f rt bk ct).nx σ H := h
theorem go_ret {te : TE} {D : Ends} {σ : L2.St} {H : Hp} (h : te σ H D.rt) : tRet te D σ H := h
theorem go_tup {t : TA} {σ : L2.St} {H : Hp} {Q : VK} (h : t σ H fun xs H1 => xs.length ≤ sizeLine ∧ ∀ p, H1 p = none → Q (.ref p) (upd H1 p (.tup xs))) : tTup t σ H Q := h
theorem go_lst {t : TA} {σ : L2.St} {H : Hp} {Q : VK} (h : t σ H fun xs H1 => xs.length ≤ sizeLine ∧ ∀ p, H1 p = none → Q (.ref p) (upd H1 p (.lst xs))) : tLst t σ H Q := h
theorem go_cons {t : TE} {u : TA} {σ : L2.St} {H : Hp} {Q : List V → Hp → Prop} (h : t σ H fun x H1 => u σ H1 fun xs H2 => Q (x :: xs) H2) : tCons t u σ H Q := h
theorem go_nil {σ : L2.St} {H : Hp} {Q : List V → Hp → Prop} (h : Q [] H) : tNil σ H Q := h
theorem go_var {i : Nat} {v : V} {σ : L2.St} {H : Hp} {Q : VK} (e : σ[i]? = some (some v)) (h : Q v H) : tVar i σ H Q := ⟨v, e, h⟩
theorem go_name {i : Nat} {v v' : V} {σ : L2.St} {H : Hp} {Q : L2.St → Hp → Prop} (e : v = v') (h : Q (σ.set i (some v')) H) : gName i v σ H Q := e ▸ h
end Tb

set_option Elab.async false
set_option linter.all false
set_option maxRecDepth 100000
set_option maxHeartbeats 4000000
/-! Defs that hold a generator expression; readings of all(..), any(..) where every turn goes on. -/
namespace Tb
open PySem PySem.Spec PyProof.Rows L2 Ew EwG GxR

/-- a def whose code object stands at c -/
structure FunC (K : PySem.W.Frag) (x qual : Str) (st : Stmt) (f : Addr) (fd : FuncData) (c : Addr) : Prop where
  ex : ∃ (oc : Value) (od : Option Addr) (kV doc pm : Value) (an : Option Addr) (ct : Value) (osl : Array (Option Value)),
    fd = PySem.W.fnOf x qual (defArgs st) (defBody st) (defScope st) .none kV doc pm an (.ref c) ct ∧ K.lookup f = some ⟨oc, od, .func fd, osl⟩ ∧ PySem.W.codeIn K (.ref c) qual = true
  kp : PySem.W.keepIn K (.ref f) = true
section
variable {P : Program} {w : World} {K : PySem.W.Frag} {mg : Str → Option Value} {base : Heap}
theorem FunC.okX {x qual : Str} {st : Stmt} {f c : Addr} {fd : FuncData} {N ps : List Str} {k : Nat} {sp : Sp} (F : FunC K x qual st f fd c) (S : FnScope N ps (defScope st)) (len : ∀ vs H Q E, sp vs H Q E → vs.length = ps.length)
    (hbody : ∀ (A : Around) (outer : List Env) (s : Shared) (H : Hp) (vs : List V) (Q : VK) (E : XK), Room k (A.deeper (envOfC qual (defScope st) s.heap.objs.size f (.ref c))) → sp vs H Q E →
      ∃ t, PSs (cxOf (L2.CX P w) P w K mg base N qual (defScope st) f (.ref c) A outer s H E) (defBody st) t ∧ t { nx := fun _ H' => Q .non H', rt := Q } (start N vs) H) : FnOk P w K mg base (L2.CX P w) (k + 1) f fd ps sp := by
  obtain ⟨oc, od, kV, doc, pm, an, ct, osl, rfl, lk, hcd⟩ := F.ex
  exact fn_of lk hcd S len fun A outer s H vs Q E hr hsp => hbody A outer s H vs Q E hr hsp
theorem FunC.fun_ {x qual : Str} {st : Stmt} {f c : Addr} {fd : FuncData} (F : FunC K x qual st f fd c) : Fun K x qual st f fd := by
  obtain ⟨oc, od, kV, doc, pm, an, ct, osl, rfl, lk, hcd⟩ := F.ex
  exact ⟨⟨oc, od, kV, doc, pm, an, .ref c, ct, osl, rfl, lk, hcd⟩, F.kp⟩
theorem func_mk {x qual : Str} {st : Stmt} {f c : Addr} {oc : Value} {od an : Option Addr} {osl : Array (Option Value)} {kV doc pm ct : Value} (l : K.lookup f = some ⟨oc, od, .func (PySem.W.fnOf x qual (defArgs st) (defBody st) (defScope st) .none kV doc pm an (.ref c) ct), osl⟩)
    (cc : PySem.W.codeIn K (.ref c) qual = true) (k : PySem.W.keepIn K (.ref f) = true) : FunC K x qual st f (PySem.W.fnOf x qual (defArgs st) (defBody st) (defScope st) .none kV doc pm an (.ref c) ct) c := ⟨⟨oc, od, kV, doc, pm, an, ct, osl, rfl, l, cc⟩, k⟩
end
def rAnyT (K : PySem.W.Frag) : List V → Hp → VK → Prop := fun vs H Q => ∃ (a : Addr) (ns : List Int), vs = [V.ref a] ∧ SqT K H a (ns.map V.int) ∧ Q (.bl (ns.any fun i => i != 0)) H
theorem cr_anyT {X : Cx} (hc : X.calm = true) : CallR X (.builtin "any") (rAnyT X.K) := by
  intro pins s σ H vs us Q I r h
  obtain ⟨a, ns, rfl, hs, q⟩ := h
  obtain ⟨its, rv, hl, _⟩ := I.tuple hs
  rw [Vals.ref1 r]
  have hlt : a < s.heap.objs.size := hl.lt
  refine call_any_walk ?_
  refine wpAny_pyIter_tuple (show s.heap.IsTuple a its.toArray from hl) ?_
  refine ⟨_, _, _, _, _, _, fun i => (ns.getD i 0) != 0, rfl, Walks.tuple (A := X.A.in1) (I.ok.hd hc) _ a (Nat.ne_of_lt hlt) its.toArray, ⟨⟨_, Heap.get?_push_size _ rfl, rfl, rfl⟩, (show s.heap.IsTuple a its.toArray from hl).push _⟩, fun i v s' Q' E' hv hq => ?_, fun h' tk hk => ?_⟩
  · have hv' : its[i]? = some v := by simpa using hv
    obtain ⟨n, hn⟩ : ∃ n, ns[i]? = some n := by
      have l := rv.length
      rw [List.length_map] at l
      have : i < its.length := by
        rcases Nat.lt_or_ge i its.length with h | h
        · exact h
        · rw [List.getElem?_eq_none h] at hv'; cases hv'
      exact ⟨_, List.getElem?_eq_getElem (by omega)⟩
    obtain ⟨u, e1, e2⟩ := rv.get (x := V.int n) (i := i) (by rw [List.getElem?_map, hn]; rfl)
    rw [hv'] at e1
    cases e1
    obtain ⟨t, rfl⟩ := e2
    have hq' : Q' ((ns.getD i 0) != 0) s' := hq
    rw [List.getD_eq_getElem?_getD, hn] at hq'
    first | exact PySem.truthy_int hq' | exact PySem.P.truthy_int hq' | exact truthy_int hq'
  · refine ⟨.bl _, H, I.kept fun b o eo => hk b o (fun hmem => ?_) (Heap.get?_push_of_some _ eo), ?_, q⟩
    · rcases List.mem_cons.mp hmem with e1 | hmem
      · exact absurd (e1 ▸ Heap.lt_size eo) (Nat.lt_irrefl _)
      · cases hmem
    · show Value.bool _ = Value.bool _
      have l := rv.length
      rw [List.length_map] at l
      rw [List.size_toArray, ← l]
      have key : ∀ ns : List Int, (List.range ns.length).any (fun i => ns.getD i 0 != 0) = ns.any fun i => i != 0 := fun ns => by
        induction ns with
        | nil => rfl
        | cons b bs ih =>
          rw [List.length_cons, List.range_succ_eq_map, List.any_cons, List.any_map, List.any_cons, ← ih]
          rfl
      rw [key]
/-- a statement that is never reached -/
def tNever : TS := fun _ _ _ => False
theorem ps_never {X : Cx} {st : Stmt} : PS X st tNever := ⟨fun _ _ _ _ _ _ h => h.elim⟩

/-- the heap has grown; tables too -/
structure FrT (H H' : Hp) : Prop where
  keep : ∀ b o, H b = some o → (∀ ps, o ≠ .tbl ps) → H' b = some o
  tabs : ∀ P, TabG H P → TabG H' P
theorem FrT.refl (H : Hp) : FrT H H := ⟨fun _ _ h _ => h, fun _ h => h⟩
theorem FrT.trans {H H' H'' : Hp} (x : FrT H H') (y : FrT H' H'') : FrT H H'' := ⟨fun b o h n => y.keep b o (x.keep b o h n) n, fun P h => y.tabs P (x.tabs P h)⟩
theorem FrT.of {H H' : Hp} (s : Same H H') : FrT H H' := ⟨fun b o h _ => s b o h, fun P h => let ⟨ps, e, t⟩ := h; ⟨ps, s _ _ e, t⟩⟩
theorem FrT.tab {P : Addr} {H H' : Hp} (t : TabG H P) (x : Tabbed P H H') : FrT H H' := by
  refine ⟨fun b o h n => ?_, fun P' h => ?_⟩
  · by_cases e : b = P
    · obtain ⟨ps, e2, _⟩ := t
      rw [e, e2] at h
      cases h
      exact absurd rfl (n ps)
    · rw [x.2 b e]; exact h
  · by_cases e : P' = P
    · rw [e]; exact x.1
    · obtain ⟨ps, e2, e3⟩ := h
      exact ⟨ps, by rw [x.2 P' e]; exact e2, e3⟩
theorem FrT.tup {H H' : Hp} (x : FrT H H') {b : Addr} {xs : List V} (h : H b = some (.tup xs)) : H' b = some (.tup xs) := x.keep b _ h fun ps z => by cases z
theorem FrT.lst {H H' : Hp} (x : FrT H H') {b : Addr} {xs : List V} (h : H b = some (.lst xs)) : H' b = some (.lst xs) := x.keep b _ h fun ps z => by cases z
theorem FrT.ins {H H' : Hp} (x : FrT H H') {b C d : Addr} {fs : List (Str × V)} (h : H b = some (.ins C d fs)) : H' b = some (.ins C d fs) := x.keep b _ h fun ps z => by cases z

theorem gw_rng {n k : Nat} {te : TE} {vs : List Nat} {σ : L2.St} {e : Bool} {Q : VK} {H2 : Hp} (hw : ∀ x, wipe ((wipe σ vs).set k (some x)) vs = wipe σ vs)
    (hs : ∀ (i : Nat) (Kt : VK), i < n → Kt (.bl e) H2 → te ((wipe σ vs).set k (some (.int (i : Int)))) H2 Kt) (hd : Q (.bl e) H2) :
    ∃ W : Nat → Nat → Hp → Prop, (∃ m, W 0 m H2) ∧ GW (Itr 0 n) (gName k) te vs σ e Q W := by
  refine ⟨fun i m H => m = n - i ∧ i ≤ n ∧ H = H2, ⟨n, by simp, Nat.zero_le _, rfl⟩, ?_⟩
  rintro i m H ⟨rfl, hi, rfl⟩
  by_cases hlt : i < n
  · refine .inr ⟨hlt, fun x H' y => ?_⟩
    obtain ⟨e1, y⟩ := y
    subst e1 y
    refine ⟨hw _, ?_⟩
    rw [Int.zero_add]
    exact hs i _ hlt ⟨e, rfl, fun _ => ⟨n - (i + 1), by omega, rfl, hlt, rfl⟩, fun z => absurd rfl z⟩
  · have e1 : i = n := by omega
    subst e1
    exact .inl ⟨Nat.le_refl _, hd⟩
theorem gw_lst {K : PySem.W.Frag} {L : Addr} {xs : List V} {k : Nat} {te : TE} {vs : List Nat} {σ : L2.St} {e : Bool} {Q : VK} {H2 : Hp} (hL : SqL K H2 L xs) (hw : ∀ x, wipe ((wipe σ vs).set k (some x)) vs = wipe σ vs)
    (hs : ∀ (i : Nat) (x : V) (Kt : VK), xs[i]? = some x → Kt (.bl e) H2 → te ((wipe σ vs).set k (some x)) H2 Kt) (hd : Q (.bl e) H2) :
    ∃ W : Nat → Nat → Hp → Prop, (∃ m, W 0 m H2) ∧ GW (Itl K L) (gName k) te vs σ e Q W := by
  refine ⟨fun i m H => m = xs.length - i ∧ i ≤ xs.length ∧ H = H2, ⟨xs.length, by simp, Nat.zero_le _, rfl⟩, ?_⟩
  rintro i m H ⟨rfl, hi, rfl⟩
  by_cases hlt : i < xs.length
  · refine .inr ⟨⟨xs, xs[i], hL, by simp [hlt]⟩, fun x H' y => ?_⟩
    obtain ⟨e1, y⟩ := y
    subst e1
    refine ⟨hw _, ?_⟩
    exact hs i x _ (y xs hL) ⟨e, rfl, fun _ => ⟨xs.length - (i + 1), by omega, rfl, hlt, rfl⟩, fun z => absurd rfl z⟩
  · have e1 : i = xs.length := by omega
    subst e1
    exact .inl ⟨⟨xs, hL, Nat.le_refl _⟩, hd⟩
theorem gw_tup {K : PySem.W.Frag} {L : Addr} {xs : List V} {k : Nat} {te : TE} {vs : List Nat} {σ : L2.St} {e : Bool} {Q : VK} {H2 : Hp} (hL : SqT K H2 L xs) (hw : ∀ x, wipe ((wipe σ vs).set k (some x)) vs = wipe σ vs)
    (hs : ∀ (i : Nat) (x : V) (Kt : VK), xs[i]? = some x → Kt (.bl e) H2 → te ((wipe σ vs).set k (some x)) H2 Kt) (hd : Q (.bl e) H2) :
    ∃ W : Nat → Nat → Hp → Prop, (∃ m, W 0 m H2) ∧ GW (Itt K L) (gName k) te vs σ e Q W := by
  refine ⟨fun i m H => m = xs.length - i ∧ i ≤ xs.length ∧ H = H2, ⟨xs.length, by simp, Nat.zero_le _, rfl⟩, ?_⟩
  rintro i m H ⟨rfl, hi, rfl⟩
  by_cases hlt : i < xs.length
  · refine .inr ⟨⟨xs, xs[i], hL, by simp [hlt]⟩, fun x H' y => ?_⟩
    obtain ⟨e1, y⟩ := y
    subst e1
    refine ⟨hw _, ?_⟩
    exact hs i x _ (y xs hL) ⟨e, rfl, fun _ => ⟨xs.length - (i + 1), by omega, rfl, hlt, rfl⟩, fun z => absurd rfl z⟩
  · have e1 : i = xs.length := by omega
    subst e1
    exact .inl ⟨⟨xs, hL, Nat.le_refl _⟩, hd⟩
/-- .. for a in range(n) for b in range(a) -/
theorem gw2_rng {n ka kb : Nat} {te : TE} {vs : List Nat} {σ : L2.St} {e : Bool} {Q : VK} {H2 : Hp} (hn : n ≤ 100000) (h2 : ∀ x, ((wipe σ vs).set ka (some x))[ka]? = some (some x)) (w1 : ∀ x, wipe ((wipe σ vs).set ka (some x)) vs = wipe σ vs)
    (w2 : ∀ y x, wipe ((wipe ((wipe σ vs).set ka (some y)) [kb]).set kb (some x)) [kb] = wipe ((wipe σ vs).set ka (some y)) [kb])
    (hs : ∀ (i j : Nat) (Kt : VK), i < n → j < i → Kt (.bl e) H2 → te ((wipe ((wipe σ vs).set ka (some (.int (i : Int)))) [kb]).set kb (some (.int (j : Int)))) H2 Kt) (hd : Q (.bl e) H2) :
    ∃ W : Nat → Nat → Hp → Prop, (∃ m, W 0 m H2) ∧ GW2 (Itr 0 n) (gName ka) (iRng1 (tCons (tVar ka) tNil)) (gName kb) te vs [kb] σ e Q W := by
  have step : ∀ i, i < n → (n - i) * (n + 1) = (n - (i + 1)) * (n + 1) + n + 1 := fun i hi => by
    have : n - i = (n - (i + 1)) + 1 := by omega
    rw [this, Nat.succ_mul]
    omega
  refine ⟨fun i m H => m = (n - i) * (n + 1) ∧ i ≤ n ∧ H = H2, ⟨_, rfl, Nat.zero_le _, rfl⟩, ?_⟩
  rintro i m H ⟨rfl, hi, rfl⟩
  by_cases hlt : i < n
  · have st := step i hlt
    refine .inr ⟨hlt, fun x HH y => ?_⟩
    obtain ⟨e1, y⟩ := y
    subst e1 y
    refine ⟨w1 _, ?_⟩
    rw [Int.zero_add]
    refine ⟨_, h2 _, _, rfl, by omega, by omega, ?_⟩
    rw [Int.toNat_natCast]
    refine ⟨fun j k H' => k = (n - i) * (n + 1) - 1 - j ∧ j ≤ i ∧ H' = HH, ⟨_, ?_, rfl, Nat.zero_le _, rfl⟩, ?_⟩
    · omega
    rintro j k H' ⟨rfl, hj, rfl⟩
    by_cases hlj : j < i
    · refine .inr ⟨hlj, fun x H4 y => ?_⟩
      obtain ⟨e1, y⟩ := y
      subst e1 y
      refine ⟨w2 _ _, ?_⟩
      rw [Int.zero_add]
      exact hs i j _ hlt hlj ⟨e, rfl, fun _ => ⟨(n - i) * (n + 1) - 1 - (j + 1), by omega, rfl, hlj, rfl⟩, fun z => absurd rfl z⟩
    · have e1 : j = i := by omega
      subst e1
      exact .inl ⟨Nat.le_refl _, (n - (j + 1)) * (n + 1), by omega, by omega, rfl, hlt, rfl⟩
  · have e1 : i = n := by omega
    subst e1
    exact .inl ⟨Nat.le_refl _, hd⟩
/-- [e for x in l], l a list that the turns leave as it is -/
theorem lc_tupR {K : PySem.W.Frag} {L : Addr} {xs : List V} {k : Nat} {te : TE} {vs : List Nat} {σ : L2.St} {H1 : Hp} {D : Addr} {Qd : Hp → Prop} (R : Nat → V → Hp → Prop) (hD : H1 D = none) (hL : SqT K H1 L xs) (hLs : ∀ H, Same H1 H → SqT K H L xs)
    (NR : ∀ i v H H', But D H H' → R i v H → R i v H') (hn : xs.length ≤ 100000) (hw : ∀ x, wipe ((wipe σ vs).set k (some x)) vs = wipe σ vs)
    (hs : ∀ (i : Nat) (x : V) (H : Hp) (acc : List V) (Kt : VK), xs[i]? = some x → Same H1 H → H D = some (.lst acc) → (∀ y H4, Same H H4 → R i y H4 → Kt y H4) → te ((wipe σ vs).set k (some x)) H Kt)
    (hd : ∀ H rows, Same H1 H → H D = some (.lst rows) → rows.length = xs.length → (∀ (i : Nat) v, rows[i]? = some v → R i v H) → Qd H) :
    ∃ W : Nat → Nat → Hp → Prop, (∃ m, W 0 m (upd H1 D (.lst []))) ∧ ∀ i m H, W i m H →
      ((Itt K L).stop i H ∧ Qd H) ∨ ((Itt K L).go i H ∧ ∃ Nx : Hp → Prop, (∀ H', Nx H' → ∃ m', m' < m ∧ W (i + 1) m' H') ∧ ∀ x H', (Itt K L).yld i H x H' → gName k x (wipe σ vs) H' fun σ2 H2 => wipe σ2 vs = wipe σ vs ∧ tYes σ2 H2 fun b H3 =>
        if b = true then te σ2 H3 fun y H4 => ∃ acc, H4 D = some (.lst acc) ∧ acc.length < sizeLine ∧ Nx (upd H4 D (.lst (acc ++ [y]))) else Nx H3) := by
  refine lc_tup (fun i H => Same H1 H ∧ ∃ rows, H D = some (.lst rows) ∧ rows.length = i ∧ ∀ (j : Nat) v, rows[j]? = some v → R j v H) ⟨same_new (Same.refl _) hD, [], upd_same, rfl, fun j v e => by simp at e⟩ (fun i H _ ⟨s1, _⟩ => hLs H s1) (fun i x H hx ⟨s1, rows, e1, e2, e3⟩ => ?_) (fun H ⟨s1, rows, e1, e2, e3⟩ => hd H rows s1 e1 e2 e3)
  refine ⟨hw _, ?_⟩
  refine yes_then ?_
  refine iteT ?_
  have hi : i < xs.length := by
    rcases Nat.lt_or_ge i xs.length with h | h
    · exact h
    · rw [List.getElem?_eq_none h] at hx; cases hx
  refine hs i x H rows _ hx s1 e1 fun y H4 s4 r4 => ⟨rows, s4 _ _ e1, ?_, same_but hD (fun b o e => s4 b o (s1 b o e)) but_app, rows ++ [y], upd_same, by rw [List.length_append, e2]; rfl, fun j v e => ?_⟩
  · rw [e2]
    exact Nat.lt_of_lt_of_le hi (Nat.le_trans hn (by decide))
  · by_cases c : j < rows.length
    · rw [List.getElem?_append_left c] at e
      exact NR _ _ _ _ (But.trans (But.of s4) but_app) (e3 j v e)
    · rw [List.getElem?_append_right (by omega)] at e
      have hj : j = i := by
        have : j - rows.length < [y].length := by
          rcases Nat.lt_or_ge (j - rows.length) [y].length with h | h
          · exact h
          · rw [List.getElem?_eq_none h] at e; cases e
        have h1 : [y].length = 1 := rfl
        omega
      subst hj
      rw [e2, Nat.sub_self] at e
      have : y = v := by simpa using e
      subst this
      exact NR _ _ _ _ but_app r4
end Tb

set_option Elab.async false
set_option linter.all false
set_option maxRecDepth 100000
set_option maxHeartbeats 4000000
/-! Dicts whose keys are nested tuples, in the hand layer: the object, and d[k], k in d, k not in d, d[k] = v, d.get(k), {}, displays. -/
namespace ND
open PySem PySem.W L2
open Sem (wp)

/-! ### keys -/
mutual
inductive Ky (H : Hp) : NestedKey → V → Prop
  | non : Ky H .none .non
  | int (i : Int) : Ky H (.num i) (.int i)
  | str (x : Str) : Ky H (.text x) (.str x)
  | tup {a : Addr} {xs : List V} {ks : List NestedKey} : H a = some (.tup xs) → Kys H ks xs → Ky H (.tup ks) (.ref a)
inductive Kys (H : Hp) : List NestedKey → List V → Prop
  | nil : Kys H [] []
  | cons {k : NestedKey} {x : V} {ks : List NestedKey} {xs : List V} : Ky H k x → Kys H ks xs → Kys H (k :: ks) (x :: xs)
end
mutual
theorem Ky.keeps {H H' : Hp} (ht : ∀ b ys, H b = some (.tup ys) → H' b = some (.tup ys)) : ∀ {k : NestedKey} {v : V}, Ky H k v → Ky H' k v
  | _, _, .non => .non
  | _, _, .int i => .int i
  | _, _, .str x => .str x
  | _, _, .tup e r => .tup (ht _ _ e) (Kys.keeps ht r)
theorem Kys.keeps {H H' : Hp} (ht : ∀ b ys, H b = some (.tup ys) → H' b = some (.tup ys)) : ∀ {ks : List NestedKey} {xs : List V}, Kys H ks xs → Kys H' ks xs
  | _, _, .nil => .nil
  | _, _, .cons a r => .cons (Ky.keeps ht a) (Kys.keeps ht r)
end
mutual
theorem Ky.is {P : Program} {w : World} {H : Hp} {h : Heap} (ok : HOk P w H h) : ∀ {k : NestedKey} {v : V} {u : Value}, Ky H k v → RelV v u → NestedIs h k u
  | _, _, _, .non, r => by
    obtain rfl := (show _ = Value.none from r)
    exact .none
  | _, _, _, .int i, r => by
    obtain ⟨t, rfl⟩ := (show ∃ t, _ = Value.int i t from r)
    exact .int i t
  | _, _, _, .str x, r => by
    obtain ⟨t, rfl⟩ := (show ∃ t, _ = Value.str x t from r)
    exact .text x t
  | _, _, _, .tup (a := a) (xs := xs) e q, r => by
    obtain rfl := (show _ = Value.ref a from r)
    obtain ⟨_, its, rv, o, h1, h2, n, h3⟩ := (show ObjOk P w H h a (.tup xs) from ok a _ e)
    exact .tup h1 h2 h3 (by simpa using Kys.is ok q rv)
theorem Kys.is {P : Program} {w : World} {H : Hp} {h : Heap} (ok : HOk P w H h) : ∀ {ks : List NestedKey} {xs : List V} {us : List Value}, Kys H ks xs → Vals xs us → NestedAll h ks us
  | _, _, _, .nil, .nil => .nil
  | _, _, _, .cons a r, .cons b t => .cons (Ky.is ok a b) (Kys.is ok r t)
end
theorem Kys.ints {H : Hp} : ∀ is : List Int, Kys H (is.map .num) (is.map .int)
  | [] => .nil
  | i :: is => .cons (.int i) (Kys.ints is)
mutual
/-- a value is at most one key -/
theorem Ky.inj {H : Hp} : ∀ {k k' : NestedKey} {v : V}, Ky H k v → Ky H k' v → k = k'
  | _, _, _, .non, .non => rfl
  | _, _, _, .int i, .int _ => rfl
  | _, _, _, .str x, .str _ => rfl
  | _, _, _, .tup e q, .tup e' q' => by
    rw [e] at e'
    cases e'
    rw [Kys.inj q q']
theorem Kys.inj {H : Hp} : ∀ {ks ks' : List NestedKey} {xs : List V}, Kys H ks xs → Kys H ks' xs → ks = ks'
  | _, _, _, .nil, .nil => rfl
  | _, _, _, .cons a r, .cons a' r' => by rw [Ky.inj a a', Kys.inj r r']
end

/-! ### the object -/
abbrev RE : List (NestedKey × Addr × V) → List (NestedKey × Addr × Value) → Prop := Paired fun p q => p.1 = q.1 ∧ p.2.1 = q.2.1 ∧ RelV p.2.2 q.2.2
def nD (P : Program) (w : World) (a : Addr) (es : List (NestedKey × Addr × V)) : HO := .ext fun h =>
  es.length ≤ sizeLine ∧ (a == sysModules) = false ∧ ∃ xs, RE es xs ∧ ∃ o ds ep, h.get? a = some o ∧ o.ExactDict ∧ o.data = .dict ds ep ∧ ds.toList = xs.map (entryOfKey (nestedKind P w)) ∧ (xs.map (·.1)).Nodup
def kvOf (es : List (NestedKey × Addr × V)) : List (NestedKey × V) := es.map fun e => (e.1, e.2.2)
def Keyed (H : Hp) (es : List (NestedKey × Addr × V)) : Prop := ∀ e ∈ es, Ky H e.1 (.ref e.2.1) ∧ e.1.depth ≤ 8
/-- a dict with nested keys, readable; changeable -/
def AtR (P : Program) (w : World) (H : Hp) (a : Addr) (kvs : List (NestedKey × V)) : Prop := ∃ es, Rd H a (nD P w a es) ∧ Keyed H es ∧ kvs = kvOf es
def At (P : Program) (w : World) (H : Hp) (a : Addr) (kvs : List (NestedKey × V)) : Prop := ∃ es, H a = some (nD P w a es) ∧ Keyed H es ∧ kvs = kvOf es
section
variable {P : Program} {w : World} {H H' : Hp} {h : Heap} {a : Addr} {kvs : List (NestedKey × V)} {es : List (NestedKey × Addr × V)}
theorem At.rd (x : At P w H a kvs) : AtR P w H a kvs := let ⟨es, e, k, r⟩ := x; ⟨es, .inl e, k, r⟩
theorem At.ext (x : At P w H a kvs) : ∃ φ, H a = some (.ext φ) := let ⟨_, e, _⟩ := x; ⟨_, e⟩
theorem Keyed.keeps (x : Keyed H es) (ht : ∀ b ys, H b = some (.tup ys) → H' b = some (.tup ys)) : Keyed H' es := fun e he => ⟨(x e he).1.keeps ht, (x e he).2⟩
/-- it stays while it and the tuples stay -/
theorem At.keeps (x : At P w H a kvs) (ha : ∀ u, H a = some u → H' a = some u) (ht : ∀ b ys, H b = some (.tup ys) → H' b = some (.tup ys)) : At P w H' a kvs :=
  let ⟨es, e, k, r⟩ := x; ⟨es, ha _ e, k.keeps ht, r⟩
theorem nD_ok {xs : List (NestedKey × Addr × Value)} (hl : es.length ≤ sizeLine) (hd : (a == sysModules) = false) (r : RE es xs) (d : ∃ o ds ep, h.get? a = some o ∧ o.ExactDict ∧ o.data = .dict ds ep ∧ ds.toList = xs.map (entryOfKey (nestedKind P w)) ∧ (xs.map (·.1)).Nodup) :
    ObjOk P w H' h a (nD P w a es) :=
  ⟨⟨hl, hd, xs, r, d⟩, let ⟨o, _, _, e, _⟩ := d; ⟨o, e⟩, fun h1 h2 ⟨z1, z2, xs, r, o, ds, ep, e, q⟩ k => ⟨z1, z2, xs, r, o, ds, ep, k o e, q⟩⟩
theorem keyed_is (ok : HOk P w H h) : ∀ {es : List (NestedKey × Addr × V)} {xs : List (NestedKey × Addr × Value)}, RE es xs → Keyed H es → ∀ x ∈ xs, (nestedKind P w).is h x.1 x.2.1 := by
  intro es xs r
  induction r with
  | nil => intro _ x hx; exact nomatch hx
  | @cons p q ps qs hq t ih =>
    intro k x hx
    rcases List.mem_cons.mp hx with e | hx
    · subst e
      obtain ⟨k1, k2⟩ := k p (List.mem_cons_self ..)
      rw [← hq.1, ← hq.2.1]
      exact ⟨k1.is ok rfl, k2⟩
    · exact ih (fun e he => k e (List.mem_cons_of_mem _ he)) x hx
theorem re_kv : ∀ {es : List (NestedKey × Addr × V)} {xs : List (NestedKey × Addr × Value)}, RE es xs → KV (kvOf es) (pairsH xs)
  | _, _, .nil => .nil
  | _, _, .cons h t => .cons ⟨h.1, h.2.2⟩ (re_kv t)
theorem rd_all (ok : HOk P w H h) (x : AtR P w H a kvs) : kvs.length ≤ sizeLine ∧ (a == sysModules) = false ∧ ∃ vs, KV kvs vs ∧ h.DictKeyed (nestedKind P w) a vs := by
  obtain ⟨es, e, k, rfl⟩ := x
  obtain ⟨⟨z, y, xs, r, o, ds, ep, h1, h2, h3, h4, h5⟩, _, _⟩ := (show ObjOk P w H h a (nD P w a es) from rd_of ok e)
  exact ⟨by unfold kvOf; rw [List.length_map]; exact z, y, pairsH xs, re_kv r, xs, ⟨o, ds, ep, h1, h2, h3, h4, keyed_is ok r k, h5⟩, rfl⟩
end

/-! ### reads -/
/-- what the dict at a holds at the key y -/
def NGet (P : Program) (w : World) (H : Hp) (a : Addr) (y : V) (r : Option V) : Prop := ∃ kvs k b, AtR P w H a kvs ∧ y = .ref b ∧ Ky H k y ∧ k.depth ≤ 8 ∧ r = valV kvs k
section
variable {X : Cx} {pins : List (Addr × Obj)} {σ : L2.St} {H : Hp} {s : Shared} {a : Addr} {y v d : V} {u r : Value} {o : Option V} {A : Around} {E : Value → Shared → Prop}
theorem n_getItem {Q : Value → Shared → Prop} (hu : A.units + 9 < cLine) (I : Inv X pins σ H s) (g : NGet X.prog X.w H a y (some v)) (ry : RelV y u) (h : ∀ w' s', Inv X pins σ H s' → RelV v w' → Q w' s') :
    wpAny (model X.prog X.w) A (getItem (.ref a) u) Q E s := by
  obtain ⟨kvs, k, b, e, rfl, ky, kd, l⟩ := g
  cases (show u = Value.ref b from ry)
  obtain ⟨z, hd, vs, rel, dd⟩ := rd_all I.hok e
  obtain ⟨w', hw, rw'⟩ := RelO.some_of (v := v) (o := valueAt vs k) (by rw [l]; exact rel.val k)
  exact getItem_keyed (knd := nestedKind X.prog X.w) (by show A.units + 1 + 8 < cLine; omega) ⟨ky.is I.hok rfl, kd⟩ dd hw (h w' _ (I.tok _) rw')
theorem n_in {Q : Value → Shared → Prop} (hu : A.units + 9 < cLine) (I : Inv X pins σ H s) (g : NGet X.prog X.w H a y o) (ry : RelV y u) (h : ∀ s', Inv X pins σ H s' → Q (.bool o.isSome) s') :
    wpAny (model X.prog X.w) A (compareOp .In u (.ref a)) Q E s := by
  obtain ⟨kvs, k, b, e, rfl, ky, kd, l⟩ := g
  cases (show u = Value.ref b from ry)
  obtain ⟨z, hd, vs, rel, dd⟩ := rd_all I.hok e
  refine in_keyed (knd := nestedKind X.prog X.w) (by show A.units + 1 + 8 < cLine; omega) ⟨ky.is I.hok rfl, kd⟩ hd dd ?_
  rw [← (rel.val k).isSome_eq, ← l]
  exact h _ (I.tok _)
theorem n_notIn {Q : Value → Shared → Prop} (hu : A.units + 9 < cLine) (I : Inv X pins σ H s) (g : NGet X.prog X.w H a y o) (ry : RelV y u) (h : ∀ s', Inv X pins σ H s' → Q (.bool (!o.isSome)) s') :
    wpAny (model X.prog X.w) A (compareOp .NotIn u (.ref a)) Q E s := by
  obtain ⟨kvs, k, b, e, rfl, ky, kd, l⟩ := g
  cases (show u = Value.ref b from ry)
  obtain ⟨z, hd, vs, rel, dd⟩ := rd_all I.hok e
  refine notIn_keyed (knd := nestedKind X.prog X.w) (by show A.units + 1 + 8 < cLine; omega) ⟨ky.is I.hok rfl, kd⟩ hd dd ?_
  rw [← (rel.val k).isSome_eq, ← l]
  exact h _ (I.tok _)
theorem n_get1 {Q : Value → Shared → Prop} (hu : A.units + 9 < cLine) (I : Inv X pins σ H s) (g : NGet X.prog X.w H a y o) (ry : RelV y u) (h : ∀ w' s', Inv X pins σ H s' → RelV (o.getD .non) w' → Q w' s') :
    wpAny (model X.prog X.w) A (call (.builtin "dict.get") [.ref a, u]) Q E s := by
  obtain ⟨kvs, k, b, e, rfl, ky, kd, l⟩ := g
  cases (show u = Value.ref b from ry)
  obtain ⟨z, hd, vs, rel, dd⟩ := rd_all I.hok e
  refine get_keyed (knd := nestedKind X.prog X.w) (by show A.units + 1 + 8 < cLine; omega) ⟨ky.is I.hok rfl, kd⟩ hd dd (h _ _ (I.tok _) ?_)
  rw [l]
  exact (rel.val k).getD rfl
theorem n_get2 {Q : Value → Shared → Prop} (hu : A.units + 9 < cLine) (I : Inv X pins σ H s) (g : NGet X.prog X.w H a y o) (ry : RelV y u) (rd : RelV d r) (h : ∀ w' s', Inv X pins σ H s' → RelV (o.getD d) w' → Q w' s') :
    wpAny (model X.prog X.w) A (call (.builtin "dict.get") [.ref a, u, r]) Q E s := by
  obtain ⟨kvs, k, b, e, rfl, ky, kd, l⟩ := g
  cases (show u = Value.ref b from ry)
  obtain ⟨z, hd, vs, rel, dd⟩ := rd_all I.hok e
  refine getOr_keyed (knd := nestedKind X.prog X.w) (by show A.units + 1 + 8 < cLine; omega) ⟨ky.is I.hok rfl, kd⟩ hd dd (h _ _ (I.tok _) ?_)
  rw [l]
  exact (rel.val k).getD rd
end

/-! ### d[k] = v -/
def putE (es : List (NestedKey × Addr × V)) (k : NestedKey) (b : Addr) (v : V) : List (NestedKey × Addr × V) :=
  if (es.any fun e => decide (e.1 = k)) = true then es.map fun e => if e.1 = k then (e.1, e.2.1, v) else e else es ++ [(k, b, v)]
theorem kv_any (es : List (NestedKey × Addr × V)) (k : NestedKey) : ((kvOf es).any fun kv => decide (kv.1 = k)) = es.any fun e => decide (e.1 = k) := by
  unfold kvOf
  rw [List.any_map]
  rfl
theorem kv_put (es : List (NestedKey × Addr × V)) (k : NestedKey) (b : Addr) (v : V) : kvOf (putE es k b v) = putK (kvOf es) k v := by
  unfold putE putK
  rw [kv_any]
  by_cases c : (es.any fun e => decide (e.1 = k)) = true
  · rw [if_pos c, if_pos c]
    unfold kvOf
    rw [List.map_map, List.map_map]
    refine List.map_congr_left fun e _ => ?_
    show (fun e : NestedKey × Addr × V => (e.1, e.2.2)) (if e.1 = k then (e.1, e.2.1, v) else e) = if e.1 = k then (e.1, v) else (e.1, e.2.2)
    by_cases q : e.1 = k
    · rw [if_pos q, if_pos q]
    · rw [if_neg q, if_neg q]
  · rw [if_neg c, if_neg c]
    unfold kvOf
    rw [List.map_append]
    rfl
theorem putE_len (es : List (NestedKey × Addr × V)) (k : NestedKey) (b : Addr) (v : V) : (putE es k b v).length ≤ es.length + 1 := by
  unfold putE
  split
  · rw [List.length_map]; omega
  · rw [List.length_append]; exact Nat.le_refl _
theorem re_any {k : NestedKey} : ∀ {es : List (NestedKey × Addr × V)} {xs : List (NestedKey × Addr × Value)}, RE es xs → (es.any fun e => decide (e.1 = k)) = (atKey xs k).isSome
  | _, _, .nil => rfl
  | _, _, .cons (a := p) (b := q) (l₁ := ps) (l₂ := qs) h t => by
    have ih := re_any (k := k) t
    rw [List.any_cons, ih, h.1]
    by_cases e : q.1 = k
    · rw [decide_eq_true e, Bool.true_or]
      simp [atKey, List.find?_cons, e]
    · rw [decide_eq_false e, Bool.false_or]
      simp [atKey, List.find?_cons, e]
theorem re_repl {k : NestedKey} {v : V} {u : Value} (rv : RelV v u) : ∀ {es : List (NestedKey × Addr × V)} {xs : List (NestedKey × Addr × Value)}, RE es xs → RE (es.map fun e => if e.1 = k then (e.1, e.2.1, v) else e) (xs.map (putAt k u))
  | _, _, .nil => .nil
  | _, _, .cons (a := p) (b := q) h t => by
    rw [List.map_cons, List.map_cons]
    refine .cons ?_ (re_repl rv t)
    unfold putAt
    obtain ⟨h1, h2, h3⟩ := h
    by_cases e : p.1 = k
    · rw [if_pos e, if_pos (h1.symm.trans e)]
      exact ⟨h1, h2, rv⟩
    · rw [if_neg e, if_neg (fun z => e (h1.trans z))]
      exact ⟨h1, h2, h3⟩
theorem re_put {k : NestedKey} {b : Addr} {v : V} {u : Value} (rv : RelV v u) {es : List (NestedKey × Addr × V)} {xs : List (NestedKey × Addr × Value)} (r : RE es xs) : RE (putE es k b v) (storedH xs k b u) := by
  unfold putE storedH
  rw [re_any r]
  by_cases q : (atKey xs k).isSome = true
  · rw [if_pos q, if_pos q]
    exact re_repl rv r
  · rw [if_neg q, if_neg q]
    exact Paired.snoc r ⟨rfl, rfl, rv⟩
theorem keyed_put {H : Hp} {k : NestedKey} {b : Addr} {v : V} {es : List (NestedKey × Addr × V)} (x : Keyed H es) (ky : Ky H k (.ref b)) (kd : k.depth ≤ 8) : Keyed H (putE es k b v) := by
  unfold putE
  split
  · intro e he
    obtain ⟨e0, h0, rfl⟩ := List.mem_map.mp he
    have := x e0 h0
    by_cases q : e0.1 = k
    · rw [if_pos q]; exact this
    · rw [if_neg q]; exact this
  · intro e he
    rcases List.mem_append.mp he with h | h
    · exact x e h
    · rw [List.mem_singleton.mp h]
      exact ⟨ky, kd⟩
/-- the heap behind a[y] = v: any that holds the changed dict at a, and else what was -/
def NPut (P : Program) (w : World) (H : Hp) (a : Addr) (y v : V) (Q : Hp → Prop) : Prop :=
  ∃ kvs k b, At P w H a kvs ∧ y = .ref b ∧ Ky H k y ∧ k.depth ≤ 8 ∧ kvs.length < sizeLine ∧ ∀ φ, At P w (upd H a (.ext φ)) a (putK kvs k v) → Q (upd H a (.ext φ))
theorem upd_tup {H : Hp} {a : Addr} {u : HO} {φ : Heap → Prop} (e : H a = some (.ext φ)) : ∀ b ys, H b = some (.tup ys) → upd H a u b = some (.tup ys) := fun b ys eb => by
  rw [upd_ne (ne_of eb e (fun z => nomatch z))]
  exact eb
section
variable {X : Cx} {pins : List (Addr × Obj)} {σ : L2.St} {H : Hp} {s : Shared} {a : Addr} {y v d : V} {u r : Value} {A : Around} {E : Value → Shared → Prop}
theorem n_setItem {Qh : Hp → Prop} {Q : Unit → Shared → Prop} (hu : A.units + 9 < cLine) (I : Inv X pins σ H s) (g : NPut X.prog X.w H a y v Qh) (ry : RelV y u) (rv : RelV v r) (h : ∀ H' s', Inv X pins σ H' s' → Qh H' → Q () s') :
    wpAny (model X.prog X.w) A (setItem (.ref a) u r) Q E s := by
  obtain ⟨kvs, k, b, ⟨es, e, ke, rfl⟩, rfl, ky, kd, hl, q⟩ := g
  cases (show u = Value.ref b from ry)
  obtain ⟨⟨z, hd, xs, re, o, ds, ep, h1, h2, h3, h4, h5⟩, _, _⟩ := (show ObjOk X.prog X.w H s.heap a (nD X.prog X.w a es) from I.hok a _ e)
  have dd : s.heap.DictOfH (nestedKind X.prog X.w) a xs := ⟨o, ds, ep, h1, h2, h3, h4, keyed_is I.hok re ke, h5⟩
  have hel : (kvOf es).length = es.length := List.length_map ..
  have hz : xs.length ≤ sizeLine := by rw [← Paired.length re]; exact z
  refine wpAny_setItem_heap (knd := nestedKind X.prog X.w) (hsz := hz) (by show A.units + 1 + 8 < cLine; omega) ⟨ky.is I.hok rfl, kd⟩ dd fun h' dd' hs => ?_
  obtain ⟨o', ds', ep', g1, g2, g3, g4, _, g5⟩ := dd'
  have hzl : (putE es k b v).length ≤ sizeLine := by
    have := putE_len es k b v
    omega
  refine h _ _ (d_write (ob := nD X.prog X.w a (putE es k b v)) I (by rw [e]; exact True.intro) hs ⟨o', g1⟩ (nD_ok hzl hd (re_put rv re) ⟨o', ds', ep', g1, g2, g3, g4, g5⟩)) (q _ ⟨putE es k b v, upd_same, ?_, (kv_put es k b v).symm⟩)
  exact (keyed_put ke ky kd).keeps (upd_tup e)
end

/-! ### readings -/
section
variable (P : Program) (w : World)
def tNGet (td ty : TE) : TE := fun σ H Q => td σ H fun x H1 => ty σ H1 fun y H2 => ∃ a v, x = .ref a ∧ NGet P w H2 a y (some v) ∧ Q v H2
def tNIn (ty td : TE) : TE := fun σ H Q => ty σ H fun y H1 => td σ H1 fun x H2 => ∃ a o, x = .ref a ∧ NGet P w H2 a y o ∧ Q (.bl o.isSome) H2
def tNNotIn (ty td : TE) : TE := fun σ H Q => ty σ H fun y H1 => td σ H1 fun x H2 => ∃ a o, x = .ref a ∧ NGet P w H2 a y o ∧ Q (.bl (!o.isSome)) H2
def sNPut (td ty tv : TE) : TS := fun D σ H => tv σ H fun v H1 => td σ H1 fun x H2 => ty σ H2 fun y H3 => ∃ a, x = .ref a ∧ NPut P w H3 a y v (D.nx σ)
def tNGet1 (td ty : TE) : TE := fun σ H Q => td σ H fun x H1 => ∃ a kvs, x = .ref a ∧ AtR P w H1 a kvs ∧ ty σ H1 fun y H2 => ∃ o, NGet P w H2 a y o ∧ Q (o.getD .non) H2
def tNGet2 (td ty tx : TE) : TE := fun σ H Q => td σ H fun x H1 => ∃ a kvs, x = .ref a ∧ AtR P w H1 a kvs ∧ ty σ H1 fun y H2 => tx σ H2 fun z H3 => ∃ o, NGet P w H3 a y o ∧ Q (o.getD z) H3
def tNNew : TE := fun _ H Q => ∀ p φ, H p = none → At P w (upd H p (.ext φ)) p [] → Q (.ref p) (upd H p (.ext φ))
end
section
variable {X : Cx} {o i e f value : Expr} {pos pos' tpos apos cpos : Pos} {td ty tv tx : TE}
theorem typeIs_of {pins : List (Addr × Obj)} {σ : L2.St} {H : Hp} {s : Shared} {a : Addr} {kvs : List (NestedKey × V)} (I : Inv X pins σ H s) (g : AtR X.prog X.w H a kvs) : s.TypeIs (.ref a) "dict" := by
  obtain ⟨_, _, vs, _, dd⟩ := rd_all I.hok g
  exact dd.typeIs
theorem noDict_of {pins : List (Addr × Obj)} {σ : L2.St} {H : Hp} {s : Shared} {a : Addr} {kvs : List (NestedKey × V)} (I : Inv X pins σ H s) (g : AtR X.prog X.w H a kvs) :
    ∀ b, Value.ref a = .ref b → ∃ ob, s.heap.get? b = some ob ∧ ob.dict = none := fun b q => by
  cases q
  obtain ⟨_, _, vs, _, xs, ⟨ob, _, _, h1, h2, _⟩, _⟩ := rd_all I.hok g
  exact ⟨ob, h1, h2.2.1⟩
theorem pe_nget (hu : X.A.units + 9 < cLine) (ho : PE X o td) (hi : PE X i ty) (hs : NoSl i) : PE X (.Subscript o i pos) (tNGet X.prog X.w td ty) := by
  refine ⟨fun pins s σ H Q I h => ?_⟩
  refine subD_of PySem.F.slot_dict_getitem.lookup hs (thn (ho.run pins s σ H _ I h) fun u s1 ⟨x, H1, I1, rx, q1⟩ => thn (hi.run pins s1 σ H1 _ I1 q1) fun iv s2 ⟨y, H2, I2, ry, a, v, ex, g, q2⟩ => ?_)
  subst ex
  obtain rfl : u = Value.ref a := rx
  refine ⟨?_, n_getItem hu I2 g ry fun w' s3 I3 rw' => ⟨v, H2, I3, rw', q2⟩⟩
  obtain ⟨kvs, k, b, e, _⟩ := g
  exact typeIs_of I2 e
theorem pc_nin (hu : X.A.units + 9 < cLine) (hi : PE X i ty) (ho : PE X o td) : PC X .In i o (tNIn X.prog X.w ty td) := by
  refine ⟨fun pins s σ H Q I h => ?_⟩
  refine thn (hi.run pins s σ H _ I h) fun iv s1 ⟨y, H1, I1, ry, q1⟩ => thn (ho.run pins s1 σ H1 _ I1 q1) fun u s2 ⟨x, H2, I2, rx, a, ov, ex, g, q2⟩ => ?_
  subst ex
  obtain rfl : u = Value.ref a := rx
  exact n_in hu I2 g ry fun s3 I3 => ⟨.bl ov.isSome, H2, I3, rfl, q2⟩
theorem pc_nnotin (hu : X.A.units + 9 < cLine) (hi : PE X i ty) (ho : PE X o td) : PC X .NotIn i o (tNNotIn X.prog X.w ty td) := by
  refine ⟨fun pins s σ H Q I h => ?_⟩
  refine thn (hi.run pins s σ H _ I h) fun iv s1 ⟨y, H1, I1, ry, q1⟩ => thn (ho.run pins s1 σ H1 _ I1 q1) fun u s2 ⟨x, H2, I2, rx, a, ov, ex, g, q2⟩ => ?_
  subst ex
  obtain rfl : u = Value.ref a := rx
  exact n_notIn hu I2 g ry fun s3 I3 => ⟨.bl (!ov.isSome), H2, I3, rfl, q2⟩
theorem ps_nput (hu : X.A.units + 9 < cLine) (ho : PE X o td) (hi : PE X i ty) (hv : PE X value tv) (hs : swapsWith value (some (.Subscript o i pos')) pos.line X.env = pure false) :
    PS X (.Assign [.Subscript o i pos'] value pos) (sNPut X.prog X.w td ty tv) := by
  refine ⟨fun pins s σ H D I h => ?_⟩
  refine wpAny_Assign_Subscript (thn (hv.run pins s σ H _ I h) fun r s1 ⟨v, H1, I1, rv, q1⟩ => thn (ho.run pins s1 σ H1 _ I1 q1) fun u s2 ⟨x, H2, I2, rx, q2⟩ => thn (hi.run pins s2 σ H2 _ I2 q2) fun iv s3 ⟨y, H3, I3, ry, a, ex, g⟩ => ?_) hs
  subst ex
  obtain rfl : u = Value.ref a := rx
  exact n_setItem hu I3 g ry rv fun H4 s4 I4 q3 => ⟨σ, H4, I4, q3⟩
theorem pe_nget1 (hu : X.A.units + 9 < cLine) (ho : PE X o td) (he : PE X e ty) (m : M1 X o "get" apos e cpos) : PE X (.Call (.Attribute o "get" apos) [e] [] cpos) (tNGet1 X.prog X.w td ty) := by
  refine ⟨fun pins s σ H Q I h => ?_⟩
  refine wpAny_Call_method m.base m.few m.line PySem.F.plainAttrs_dict PySem.F.slot_dict_get PySem.F.type_dict_get (thn (ho.run pins s σ H _ I h) fun u s1 ⟨x, H1, I1, rx, a, kvs, ex, d, q1⟩ => ?_)
  subst ex
  obtain rfl : u = Value.ref a := rx
  refine ⟨typeIs_of I1 d, noDict_of I1 d, ?_⟩
  rw [m.trees]
  refine Calls.callWith_builtin rfl (Calls.evalArgs_plain (Calls.spliced_cons (thn (he.run pins s1 σ H1 _ I1 q1) fun iv s2 ⟨y, H2, I2, ry, ov, g, q2⟩ => Calls.spliced_nil ?_)))
  exact n_get1 hu I2 g ry fun w' s3 I3 rw' => ⟨_, H2, I3, rw', q2⟩
theorem pe_nget2 (hu : X.A.units + 9 < cLine) (ho : PE X o td) (he : PE X e ty) (hf : PE X f tx) (m : M2 X o "get" apos e f cpos) : PE X (.Call (.Attribute o "get" apos) [e, f] [] cpos) (tNGet2 X.prog X.w td ty tx) := by
  refine ⟨fun pins s σ H Q I h => ?_⟩
  refine wpAny_Call_method m.base m.few m.line PySem.F.plainAttrs_dict PySem.F.slot_dict_get PySem.F.type_dict_get (thn (ho.run pins s σ H _ I h) fun u s1 ⟨x, H1, I1, rx, a, kvs, ex, d, q1⟩ => ?_)
  subst ex
  obtain rfl : u = Value.ref a := rx
  refine ⟨typeIs_of I1 d, noDict_of I1 d, ?_⟩
  rw [m.trees]
  refine Calls.callWith_builtin rfl (Calls.evalArgs_plain (Calls.spliced_cons (thn (he.run pins s1 σ H1 _ I1 q1) fun iv s2 ⟨y, H2, I2, ry, q2⟩ =>
    Calls.spliced_cons (thn (hf.run pins s2 σ H2 _ I2 q2) fun fv s3 ⟨z, H3, I3, rz, ov, g, q3⟩ => Calls.spliced_nil ?_))))
  exact n_get2 hu I3 g ry rz fun w' s4 I4 rw' => ⟨_, H3, I4, rw', q3⟩
theorem n_empty {P : Program} {w : World} {H : Hp} (h : Heap) (hb : sysModules < h.objs.size) : ObjOk P w H (h.push { cls := .type "dict", data := .dict #[] }) h.objs.size (nD P w h.objs.size []) :=
  nD_ok (xs := []) (Nat.zero_le _) (beq_eq_false_iff_ne.mpr (Ne.symm (Nat.ne_of_lt hb))) .nil ⟨_, #[], 0, Heap.get?_push_size _ rfl, ⟨rfl, rfl, rfl⟩, rfl, rfl, List.nodup_nil⟩
theorem pe_nnew : PE X (.Dict [] [] pos) (tNNew X.prog X.w) := ⟨fun pins s σ H Q I h =>
  wpAny_Dict_empty ⟨.ref s.heap.objs.size, _, I.laid (a := s.heap.objs.size) (o := nD X.prog X.w s.heap.objs.size []) (t' := s.toks) (fun _ _ q => Heap.get?_push_of_some _ q) (Nat.le_refl _) (n_empty s.heap I.big), rfl,
    h _ _ (I.hok.fresh (Nat.le_refl _)) ⟨[], upd_same, (fun _ h => nomatch h), rfl⟩⟩⟩
end

/-! ### displays -/
inductive CK (H : Hp) : List (V × V) → List (NestedKey × Addr × V) → Prop
  | nil : CK H [] []
  | cons {k : NestedKey} {b : Addr} {v : V} {ps : List (V × V)} {es : List (NestedKey × Addr × V)} : Ky H k (.ref b) → k.depth ≤ 8 → CK H ps es → CK H ((.ref b, v) :: ps) ((k, b, v) :: es)
def mergeE (acc more : List (NestedKey × Addr × V)) : List (NestedKey × Addr × V) := more.foldl (fun acc e => putE acc e.1 e.2.1 e.2.2) acc
theorem mergeE_len : ∀ (more acc : List (NestedKey × Addr × V)), (mergeE acc more).length ≤ acc.length + more.length
  | [], acc => Nat.le_refl _
  | p :: r, acc => by
    have h1 := mergeE_len r (putE acc p.1 p.2.1 p.2.2)
    have h2 := putE_len acc p.1 p.2.1 p.2.2
    show (mergeE (putE acc p.1 p.2.1 p.2.2) r).length ≤ _
    rw [List.length_cons]; omega
theorem ck_carries {P : Program} {w : World} {H : Hp} {h : Heap} (ok : HOk P w H h) {ps : List (V × V)} {es : List (NestedKey × Addr × V)} (c : CK H ps es) :
    ∀ {ws : List (Value × Value)}, VV ps ws → ∃ xs, CarriesH (nestedKind P w) h ws xs ∧ RE es xs := by
  induction c with
  | nil => intro ws r; cases r; exact ⟨[], True.intro, .nil⟩
  | @cons k b v ps es ky kd c ih =>
    intro ws r
    cases r with
    | @cons _ q _ qs h1 t =>
      obtain ⟨xs, c', r'⟩ := ih t
      obtain ⟨q1, q2⟩ := q
      obtain rfl : q1 = Value.ref b := h1.1
      exact ⟨(k, b, q2) :: xs, ⟨rfl, rfl, ⟨ky.is ok rfl, kd⟩, c'⟩, .cons ⟨rfl, rfl, h1.2⟩ r'⟩
theorem re_merge {es : List (NestedKey × Addr × V)} {xs : List (NestedKey × Addr × Value)} (r : RE es xs) : ∀ {acc : List (NestedKey × Addr × V)} {acc' : List (NestedKey × Addr × Value)}, RE acc acc' → RE (mergeE acc es) (storedAllH acc' xs) := by
  induction r with
  | nil => intro _ _ r; exact r
  | @cons p q ps qs h t ih =>
    intro acc acc' r
    obtain ⟨h1, h2, h3⟩ := h
    have := ih (re_put (k := p.1) (b := p.2.1) h3 r)
    rw [show mergeE acc (p :: ps) = mergeE (putE acc p.1 p.2.1 p.2.2) ps from rfl, show storedAllH acc' (q :: qs) = storedAllH (storedH acc' q.1 q.2.1 q.2.2) qs from rfl, ← h1, ← h2]
    exact this
theorem keyed_merge {H : Hp} : ∀ {es acc : List (NestedKey × Addr × V)}, Keyed H es → Keyed H acc → Keyed H (mergeE acc es)
  | [], _, _, r => r
  | (k, b, v) :: es, acc, q, r => by
    have h1 := q (k, b, v) (List.mem_cons_self ..)
    exact keyed_merge (es := es) (fun e he => q e (List.mem_cons_of_mem _ he)) (keyed_put r h1.1 h1.2)
theorem CK.keyed {H : Hp} {ps : List (V × V)} {es : List (NestedKey × Addr × V)} (c : CK H ps es) : Keyed H es := by
  induction c with
  | nil => exact fun _ h => nomatch h
  | cons ky kd _ ih =>
    intro e he
    rcases List.mem_cons.mp he with h | h
    · rw [h]; exact ⟨ky, kd⟩
    · exact ih e h
theorem kv_merge : ∀ (es acc : List (NestedKey × Addr × V)), kvOf (mergeE acc es) = es.foldl (fun acc e => putK acc e.1 e.2.2) (kvOf acc)
  | [], _ => rfl
  | (k, b, v) :: es, acc => by
    show kvOf (mergeE (putE acc k b v) es) = List.foldl (fun acc (e : NestedKey × Addr × V) => putK acc e.1 e.2.2) (putK (kvOf acc) k v) es
    rw [kv_merge es, kv_put]
def tNDisp (P : Program) (w : World) (trs : List (TE × TE)) : TE := fun σ H Q => ∀ p φ, H p = none → At P w (upd H p (.ext φ)) p [] → tPairs trs σ (upd H p (.ext φ)) fun ps H2 => H2 p = some (.ext φ) ∧ ∃ es, CK H2 ps es ∧ es.length ≤ 15 ∧
  ∀ φ', At P w (upd H2 p (.ext φ')) p (kvOf (mergeE [] es)) → Q (.ref p) (upd H2 p (.ext φ'))
theorem pe_ndisp {X : Cx} {pos : Pos} {keys : List (Option Expr)} {values : List Expr} {trs : List (TE × TE)} (hu : X.A.units + 9 < cLine) (h : PPs X pos keys values trs) (hall : keys.all (·.isSome) = true) (hl : keys.length = values.length) (h0 : keys ≠ [])
    (h15 : keys.length ≤ 15) : PE X (.Dict keys values pos) (tNDisp X.prog X.w trs) := by
  refine ⟨fun pins s σ H Q I q => ?_⟩
  have hn := I.hok.fresh (Nat.le_refl s.heap.objs.size)
  have I1 := I.laid (a := s.heap.objs.size) (o := nD X.prog X.w s.heap.objs.size []) (h' := s.heap.push { cls := .type "dict", data := .dict #[] }) (t' := s.toks) (fun _ _ q => Heap.get?_push_of_some _ q) (Nat.le_refl _) (n_empty s.heap I.big)
  have hlen := pairTrees_length keys values X.env pos hall hl
  have hne : pairTrees keys values X.env pos ≠ [] := fun e => by
    rw [e] at hlen
    exact h0 (List.length_eq_zero_iff.mp hlen.symm)
  rw [arm_eval_Dict, zip_pairTrees keys values X.env pos hall hl, dictDisplay_pairs _ hne (by omega)]
  refine wpAny_bind (wpAny_standAt (wpAny_bind (wpAny_subDictH (knd := nestedKind X.prog X.w) (by show X.A.units + 8 < cLine; omega) (by rw [hlen]; exact h15) ?_)))
  refine thn (h.run pins _ σ _ _ I1 (q _ _ hn ⟨[], upd_same, (fun _ h => nomatch h), rfl⟩)) fun ws s2 ⟨ps, H2, I2, rel, e, es, ck, lk, q2⟩ => ?_
  obtain ⟨xs, c, rk⟩ := ck_carries (P := X.prog) (w := X.w) I2.hok ck rel
  obtain ⟨⟨z, hd, xs0, re0, o, ds, ep, h1, h2, h3, h4, h5⟩, _, _⟩ := (show ObjOk X.prog X.w H2 s2.heap s.heap.objs.size (nD X.prog X.w s.heap.objs.size []) from I2.hok _ _ e)
  cases re0
  refine ⟨xs, c, ⟨o, ds, ep, h1, h2, h3, h4, (fun _ h => nomatch h), h5⟩, fun h' tk dd' hs => wpAny_pure ⟨.ref s.heap.objs.size, _, ?_, rfl, q2 _ ⟨mergeE [] es, upd_same, (keyed_merge (acc := []) ck.keyed (fun _ h => nomatch h)).keeps (upd_tup e), rfl⟩⟩⟩
  obtain ⟨o', ds', ep', g1, g2, g3, g4, _, g5⟩ := dd'
  have hz : (mergeE [] es).length ≤ sizeLine := by
    have h1 := mergeE_len es []
    rw [List.length_nil] at h1
    rw [sizeLine_eq]; omega
  exact d_write (ob := nD X.prog X.w s.heap.objs.size (mergeE [] es)) I2 (by rw [e]; exact True.intro) hs ⟨o', g1⟩ (nD_ok hz hd (re_merge rk .nil) ⟨o', ds', ep', g1, g2, g3, g4, g5⟩)
end ND

set_option Elab.async false
set_option linter.all false
set_option maxRecDepth 100000
set_option maxHeartbeats 4000000
/-! ==, !=, in, not in, list.index of nested tuples. -/
namespace ND
open PySem PySem.W L2
open Sem (wp)

theorem Kys.depth_le {H : Hp} : ∀ {ks : List NestedKey} {d : Nat}, NestedKey.depthAll ks ≤ d → ∀ k ∈ ks, k.depth ≤ d
  | [], _, _, _, h => nomatch h
  | k :: ks, d, hd, x, hx => by
    rw [NestedKey.depthAll] at hd
    rcases List.mem_cons.mp hx with rfl | h
    · omega
    · exact Kys.depth_le (H := H) (by omega) x h
section
variable {X : Cx}
/-- two tuples that are keys are compared -/
def rEqK : R2 := fun x y H Q => ∃ ks ks', Ky H (.tup ks) x ∧ Ky H (.tup ks') y ∧ NestedKey.depthAll ks ≤ 7 ∧ Q (.bl (decide (ks = ks'))) H
theorem decide_tup (ks ks' : List NestedKey) : decide (ks = ks') = NestedKey.beqAll ks ks' := by
  rw [← (show NestedKey.beq (.tup ks) (.tup ks') = NestedKey.beqAll ks ks' from rfl), ← NestedKey.decide_eq]
  by_cases e : ks = ks'
  · rw [e]; simp
  · rw [decide_eq_false e, decide_eq_false fun z => e (by injection z)]
theorem op_eqK (hu : X.A.units + 9 < cLine) : OpR X (compareOp .Eq) rEqK := by
  intro pins s σ H x y v u Q I rx ry h
  obtain ⟨ks, ks', a, b, hd, q⟩ := h
  have ha := a.is I.hok rx
  have hb := b.is I.hok ry
  cases ha with
  | @tup l o vs n _ h1 h2 h3 h4 =>
    cases hb with
    | @tup l' o' vs' n' _ k1 k2 k3 k4 =>
      have hl : s.heap.IsTuple l vs := ⟨_, h1, h2, _, h3⟩
      have hl' : s.heap.IsTuple l' vs' := ⟨_, k1, k2, _, k3⟩
      have n1 : vs.size = ks.length := by simpa using NestedAll.length _ _ h4
      have n2 : vs'.size = ks'.length := by simpa using NestedAll.length _ _ k4
      refine SeqAt.eq_tupleAt (e := keyEqAt ks ks') hl hl' (by omega) (fun j j1 j2 => ?_) ?_
      · have := eqAt_keys ks ks' X.A.in1 s vs.toList vs'.toList h4 k4 (by show X.A.units + 1 + _ < cLine; omega) j (by simpa using j1) (by simpa using j2)
        simpa using this
      · rw [n1, n2, beqAll_eq, ← decide_tup]
        exact ⟨.bl _, H, I, rfl, q⟩
/-- the item is the key k -/
noncomputable def isK (h : Heap) (k : NestedKey) (v : Value) : Bool := @decide (NestedIs h k v) (Classical.propDecidable _)
theorem isK_of {h : Heap} {k k' : NestedKey} {v : Value} (x : NestedIs h k' v) : isK h k v = decide (k' = k) := by
  unfold isK
  by_cases e : k' = k
  · subst e
    rw [decide_eq_true rfl]
    exact @decide_eq_true _ (Classical.propDecidable _) x
  · rw [decide_eq_false e]
    exact @decide_eq_false _ (Classical.propDecidable _) fun y => e (NestedIs.inj _ _ _ x y)
theorem any_isK {h : Heap} {k : NestedKey} : ∀ {ks : List NestedKey} {vs : List Value}, NestedAll h ks vs → vs.any (isK h k) = decide (k ∈ ks)
  | _, _, .nil => rfl
  | _, _, .cons (k := k') a r => by
    rw [List.any_cons, isK_of a, any_isK r]
    by_cases e : k' = k
    · simp [e]
    · have e' : ¬ k = k' := fun z => e z.symm
      simp [e, e']
theorem all_eq {h : Heap} {A : Around} {s : Shared} {k : NestedKey} {u : Value} (hs : s.heap = h) (hu : A.units + 8 < cLine) (hk : NestedIs h k u) (hd : k.depth ≤ 8) : ∀ {ks : List NestedKey} {vs : List Value}, NestedAll h ks vs → ∀ v ∈ vs, SeqAt.EqAt A s v u (isK h k v)
  | _, _, .nil => fun _ hv => nomatch hv
  | _, _, .cons (k := k') (v := v0) a r => fun v hv => by
    rcases List.mem_cons.mp hv with rfl | hv
    · rw [isK_of a, NestedKey.decide_eq]
      exact eqAt_key k' k A s _ u (by rw [hs]; exact a) (by rw [hs]; exact hk) (by omega)
    · exact all_eq hs hu hk hd r v hv
def rInK (K : PySem.W.Frag) (neg : Bool) : R2 := fun x y H Q => ∃ k p ks xs, y = .ref p ∧ SqL K H p xs ∧ Ky H k x ∧ k.depth ≤ 8 ∧ Kys H ks xs ∧ Q (.bl (if neg then !decide (k ∈ ks) else decide (k ∈ ks))) H
theorem op_inK (hu : X.A.units + 9 < cLine) : OpR X (compareOp .In) (rInK X.K false) := by
  intro pins s σ H x y v u Q I rx ry h
  obtain ⟨k, p, ks, xs, rfl, hq, hk, hd, hks, q⟩ := h
  cases ry
  obtain ⟨its, r, pl, hz⟩ := I.list hq
  have hv := hk.is I.hok rx
  have hi := hks.is I.hok r
  refine SeqAt.in_listAt (isK s.heap k) pl.isList (fun w hw => all_eq rfl (by show X.A.units + 1 + 8 < cLine; omega) hv hd hi w (by simpa using hw)) ⟨.bl _, H, I, rfl, ?_⟩
  rw [show its.toArray.any (isK s.heap k) = its.any (isK s.heap k) by simp, any_isK hi]
  exact q
theorem op_notInK (hu : X.A.units + 9 < cLine) : OpR X (compareOp .NotIn) (rInK X.K true) := by
  intro pins s σ H x y v u Q I rx ry h
  obtain ⟨k, p, ks, xs, rfl, hq, hk, hd, hks, q⟩ := h
  cases ry
  obtain ⟨its, r, pl, hz⟩ := I.list hq
  have hv := hk.is I.hok rx
  have hi := hks.is I.hok r
  refine SeqAt.notIn_listAt (isK s.heap k) pl.isList (fun w hw => all_eq rfl (by show X.A.units + 1 + 8 < cLine; omega) hv hd hi w (by simpa using hw)) ⟨.bl _, H, I, rfl, ?_⟩
  rw [show its.toArray.any (isK s.heap k) = its.any (isK s.heap k) by simp, any_isK hi]
  exact q
def rIndexK (K : PySem.W.Frag) : V → List V → Hp → VK → Prop := fun x ys H Q => ∃ p k y ks xs, x = .ref p ∧ ys = [y] ∧ SqL K H p xs ∧ Ky H k y ∧ k.depth ≤ 8 ∧ Kys H ks xs ∧ k ∈ ks ∧ Q (.int (ks.idxOf k : Nat)) H
theorem mt_indexK (hu : X.A.units + 9 < cLine) : MtR X "list.index" (rIndexK X.K) := by
  intro pins s σ H x xs v us Q I rx rxs h
  obtain ⟨p, k, y, ks, ys, rfl, rfl, hq, hk, hd, hks, hm, q⟩ := h
  cases rx
  cases rxs with
  | cons ry rt =>
    rename_i uy ut
    cases rt
    obtain ⟨its, r, pl, hz⟩ := I.list hq
    have hv := hk.is I.hok ry
    have hi := hks.is I.hok r
    have hl := NestedAll.length _ _ hi
    exact SeqAt.call_list_index pl.isList (SeqAt.ItemsEq.nested hi hv (by show X.A.units + 1 + k.depth < cLine; omega)) (by rw [← hl, ← r.length]; exact hz) hm ⟨.int (ks.idxOf k : Nat), H, I.tok _, ⟨_, rfl⟩, q⟩
/-- y in d, y not in d: d a dict with nested keys -/
def rInN (P : Program) (w : World) (neg : Bool) : R2 := fun y x H Q => ∃ a o, x = .ref a ∧ NGet P w H a y o ∧ Q (.bl (if neg then !o.isSome else o.isSome)) H
theorem op_inN (hu : X.A.units + 9 < cLine) : OpR X (compareOp .In) (rInN X.prog X.w false) := by
  intro pins s σ H y x u v Q I ry rx h
  obtain ⟨a, o, rfl, g, q⟩ := h
  cases rx
  exact n_in hu I g ry fun s3 I3 => ⟨.bl o.isSome, H, I3, rfl, q⟩
theorem op_notInN (hu : X.A.units + 9 < cLine) : OpR X (compareOp .NotIn) (rInN X.prog X.w true) := by
  intro pins s σ H y x u v Q I ry rx h
  obtain ⟨a, o, rfl, g, q⟩ := h
  cases rx
  exact n_notIn hu I g ry fun s3 I3 => ⟨.bl (!o.isSome), H, I3, rfl, q⟩
/-- a list or a tuple is walked -/
def iSeq (K : PySem.W.Frag) (tl : TE) : TI := fun σ H R => tl σ H fun x H1 => ∃ a xs, x = .ref a ∧ ((SqL K H1 a xs ∧ R (Itl K a) H1) ∨ (SqT K H1 a xs ∧ R (Itt K a) H1))
theorem pi_seq {tg l : Expr} {tl : TE} (hl : PE X l tl) : PI X tg l (iSeq X.K tl) := by
  refine ⟨fun pins s σ H R I h => ?_⟩
  refine thn (hl.run pins s σ H _ I h) fun v s1 ⟨x, H1, I1, r1, q1⟩ => ?_
  obtain ⟨a, xs, e, q⟩ := q1
  subst e
  cases r1
  rcases q with ⟨hq, q⟩ | ⟨hq, q⟩
  · obtain ⟨its, rv, p, hz⟩ := I1.list hq
    refine wpAny_pyIter_list p.isList ?_
    refine ⟨s1.heap.objs.size, [s1.heap.objs.size], _, _, H1, rfl, I1.kept (t' := s1.toks) fun b o e => Heap.get?_push_of_some _ e, turn_list a _, ⟨_, Heap.get?_push_size _ rfl, rfl, rfl⟩, fun b hb => ?_, q⟩
    have e : b = s1.heap.objs.size := by simpa using hb
    subst e
    exact I1.fpOk (Nat.le_refl _) (I1.hok.fresh (Nat.le_refl _))
  · obtain ⟨its, rv, p, hz⟩ := I1.tuple hq
    refine wpAny_pyIter_tuple (show s1.heap.IsTuple a its.toArray from p) ?_
    refine ⟨s1.heap.objs.size, [s1.heap.objs.size], _, _, H1, rfl, I1.kept (t' := s1.toks) fun b o e => Heap.get?_push_of_some _ e, turn_tuple a _, ⟨_, Heap.get?_push_size _ rfl, rfl, rfl⟩, fun b hb => ?_, q⟩
    have e : b = s1.heap.objs.size := by simpa using hb
    subst e
    exact I1.fpOk (Nat.le_refl _) (I1.hok.fresh (Nat.le_refl _))
theorem hu9 {A : Around} {k : Nat} (hr : Room k A) : A.units + 9 < cLine := by have := hr.un; omega
end
end ND

set_option Elab.async false
set_option linter.all false
set_option maxRecDepth 100000
set_option maxHeartbeats 4000000
/-! name = {k: v for ..}: the block is run with the store. -/
namespace DCx
open PySem PySem.W L2
open Sem (wp)
section
variable {X : Cx}
theorem swd_true {kx vx : Expr} {gs : List Comprehension} {scope : Scope} {pos py : Pos} {y : Str} {l : Nat} {env : Env} (hk : env.scope.kind = .function) (hy : env.scope.names.lookup y = some .local) (hl : (py.line == pos.line) = true)
    (ha : (scope.names.any fun (n, k) => n == y && (k == .local || k == .cell)) = false) : swapsWith (.DictComp kx vx gs scope pos) (some (.Name y py)) l env = pure true := by
  have ky : env.kindOf y = some .local := hy
  have hb : env.blockKind = .function := by unfold Env.blockKind; rw [hk]; rfl
  unfold swapsWith
  simp only [hb, ky, ha, Expr.pos, hl]
  rfl
theorem ps_setDc {i : Nat} {y : Str} {py : Pos} {kx vx tg iter : Expr} {ifs : List Expr} {scope : Scope} {own : List (Str × Nat)} {pos spos : Pos} {wi : TI} {g : TG} {tt : TT} {tk tv : TE} (hc : X.calm = true) (hN : X.N.Nodup) (hy : X.N[i]? = some y) (hyl : X.env.scope.names.lookup y = some .local)
    (hsw : swapsWith (.DictComp kx vx [⟨tg, iter, ifs, 0⟩] scope pos) (some (.Name y py)) spos.line X.env = pure true) (hi : PI X tg iter wi) (ok : BlkOk X.N X.env.scope scope own)
    (hg : ∀ (s : Shared) (H : Hp) (C : Addr) (cl : List (Str × Addr)) (fp : List Addr), PG (X.blk s H scope (compEnvC scope cl C X.env) fp) tg g) (ht : ∀ (s : Shared) (H : Hp) (C : Addr) (cl : List (Str × Addr)) (fp : List Addr), PTs (X.blk s H scope (compEnvC scope cl C X.env) fp) ifs tt)
    (hk : ∀ (s : Shared) (H : Hp) (C : Addr) (cl : List (Str × Addr)) (fp : List Addr), PE (X.blk s H scope (compEnvC scope cl C X.env) fp) kx tk)
    (he : ∀ (s : Shared) (H : Hp) (C : Addr) (cl : List (Str × Addr)) (fp : List Addr), PE (X.blk s H scope (compEnvC scope cl C X.env) fp) vx tv) (hs : ∀ x, foldedSetIterable iter X.env x = pure x := by intro _; rfl) :
    PS X (.Assign [.Name y py] (.DictComp kx vx [⟨tg, iter, ifs, 0⟩] scope pos) spos) (tAsg (tDc wi g tt tk tv (own.map (·.2))) (gName i)) := by
  refine ⟨fun pins s σ H D I h => ?_⟩
  rw [exec_Assign_Name_used _ _ _ _ hsw]
  refine wpAny_bind (wpAny_standAt (wpAny_bind ?_))
  show wpAny _ X.A (do let _ ← comprehension (.DictComp kx vx [⟨tg, iter, ifs, 0⟩] scope pos) scope X.env (firstIterPos [⟨tg, iter, ifs, 0⟩] pos) newDict false (eval iter X.env) (some (assign (.Name y py) X.env))) _ _ s
  have h : tDc wi g tt tk tv (own.map (·.2)) σ H (fun x H1 => gName i x σ H1 D.nx) := h
  refine wpAny_bind (thn (dc_core (Qf := fun _ s' => SP X pins D .next s') hc hN I hi ok hg ht hk he hs h fun L C s' m H' I' q hn f => ?_) fun _ s' hq => wpAny_pure (wpAny_pure hq))
  show wpAny _ _ (assign (.Name y py) X.env (.ref L)) _ _ _
  refine wpAny_assign_Name (store_ok2 (v := V.ref L) I' hN hy (.inl hyl) rfl (fun s2 I2 ⟨a, sb, ha⟩ => ?_) (.inr hyl))
  obtain ⟨f0, f1, f2, f3, f4, f5⟩ := f
  have haC : C ≠ a := by
    rcases ha with z | z
    · rw [z]; exact f1
    · exact fun e => f4 y a z e.symm
  refine ⟨m, hn.sameBut sb haC, fun h3 sb3 => ?_⟩
  exact ⟨_, H', I2.turned (t' := s2.toks) (fun b o hb e => (sb3.2 b hb).trans e) f0 f1 f3 f4 f5, q⟩
end
end DCx

set_option Elab.async false
set_option linter.all false
set_option maxRecDepth 100000
set_option maxHeartbeats 4000000
/-! for k in d, d a dict made on the spot: it is read only from then on. -/
namespace DKx
open PySem PySem.W L2
open Sem (wp)
def iKeysN (td : TE) : TI := fun σ H R => td σ H fun x H1 => ∃ d kvs, x = .ref d ∧ H1 d = some (.dK kvs) ∧ ∀ o, R (Itk d o kvs) (upd H1 d (.frz o (.dK kvs)))
section
variable {X : Cx} {tg e : Expr} {td : TE}
theorem pi_keysN (he : PE X e td) : PI X tg e (iKeysN td) := by
  refine ⟨fun pins s σ H R I h => ?_⟩
  refine thn (he.run pins s σ H _ I h) fun u s1 ⟨x, H1, I1, rx, d, kvs, ex, hd, q⟩ => ?_
  subst ex
  obtain rfl : u = Value.ref d := rx
  obtain ⟨od, I2⟩ := I1.lock hd trivial
  have q := q od
  have hd2 : upd H1 d (.frz od (.dK kvs)) d = some (.frz od (.dK kvs)) := upd_same
  generalize upd H1 d (.frz od (.dK kvs)) = H2 at I2 q hd2
  obtain ⟨hs, hgd, hx, es, ep, vs, hdt, hsz, kv, hm⟩ := I2.frzK hd2
  refine iter_keys hs hgd hx hdt (pi_one (tk := s1.toks) I2 _ (turn_keys _ hdt) ⟨_, Heap.get?_push_size _ rfl, rfl, ?_⟩ q)
  rw [hsz] <;> rfl
end
theorem for_keysN {d : Addr} {o : Obj} {kvs : List (Key × V)} {g : TG} {tb : TS} {D : Ends} {σ : L2.St} {H : Hp} (Pv : Nat → L2.St → Hp → Prop) (h0 : Pv 0 σ H) (hl : ∀ i σ H, i ≤ kvs.length → Pv i σ H → H d = some (.frz o (.dK kvs)))
    (hs : ∀ i k v σ H, kvs[i]? = some (k, v) → Pv i σ H → g (kV k) σ H fun σ2 H2 => tb { D with nx := Pv (i + 1), ct := Pv (i + 1), bk := D.nx } σ2 H2) (hd : ∀ σ H, Pv kvs.length σ H → D.nx σ H) :
    ∃ W : Nat → Nat → L2.St → Hp → Prop, (∃ m, W 0 m σ H) ∧ ∀ i m σ H, W i m σ H →
      ((Itk d o kvs).stop i H ∧ D.nx σ H) ∨ ((Itk d o kvs).go i H ∧ ∃ N : L2.St → Hp → Prop, (∀ σ' H', N σ' H' → ∃ m', m' < m ∧ W (i + 1) m' σ' H') ∧ ∀ x H', (Itk d o kvs).yld i H x H' → g x σ H' fun σ2 H2 => tb { D with nx := N, ct := N, bk := D.nx } σ2 H2) := by
  refine ⟨fun i m σ H => m = kvs.length - i ∧ i ≤ kvs.length ∧ Pv i σ H, ⟨kvs.length, by simp, Nat.zero_le _, h0⟩, ?_⟩
  rintro i m σ H ⟨rfl, hi, p⟩
  have q := hl i σ H hi p
  by_cases hlt : i < kvs.length
  · refine .inr ⟨⟨q, hlt⟩, Pv (i + 1), fun σ' H' p' => ⟨kvs.length - (i + 1), by omega, rfl, hlt, p'⟩, ?_⟩
    rintro x H' ⟨rfl, k, v, e, rfl⟩
    exact hs i k v σ _ e p
  · have e : i = kvs.length := by omega
    subst e
    exact .inl ⟨⟨q, Nat.le_refl _⟩, hd σ H p⟩
end DKx

set_option Elab.async false
set_option linter.all false
set_option maxRecDepth 100000
set_option maxHeartbeats 4000000
namespace K12
open PySem L2 Ew Tb ND
def topS (i : Nat) : Stmt := PySem.Challenge.pw_everyworth_k12_nodes.main.body.getD i (.Pass ⟨0, 0, 0, 0⟩)
abbrev s_Circuits_init : Stmt := (inClass (topS 9) 0)
theorem sc_Circuits_init : FnScope ["self"] ["self"] (defScope s_Circuits_init) := ⟨rfl, rfl, rfl, by decide +kernel, rfl, by decide +kernel, by decide +kernel⟩
abbrev s_Circuits_fact : Stmt := (inClass (topS 9) 1)
theorem sc_Circuits_fact : FnScope ["self", "k"] ["self", "k"] (defScope s_Circuits_fact) := ⟨rfl, rfl, rfl, by decide +kernel, rfl, by decide +kernel, by decide +kernel⟩
abbrev s_Circuits_plus : Stmt := (inClass (topS 9) 2)
theorem sc_Circuits_plus : FnScope ["self", "nodes", "node"] ["self", "nodes"] (defScope s_Circuits_plus) := ⟨rfl, rfl, rfl, by decide +kernel, rfl, by decide +kernel, by decide +kernel⟩
abbrev s_Circuits_times : Stmt := (inClass (topS 9) 3)
theorem sc_Circuits_times : FnScope ["self", "nodes", "node"] ["self", "nodes"] (defScope s_Circuits_times) := ⟨rfl, rfl, rfl, by decide +kernel, rfl, by decide +kernel, by decide +kernel⟩
abbrev s_Circuits_star : Stmt := (inClass (topS 9) 4)
theorem sc_Circuits_star : FnScope ["self", "node"] ["self", "node"] (defScope s_Circuits_star) := ⟨rfl, rfl, rfl, by decide +kernel, rfl, by decide +kernel, by decide +kernel⟩
abbrev s_Circuits_shown : Stmt := (inClass (topS 9) 5)
theorem sc_Circuits_shown : FnScope ["self", "node"] ["self", "node"] (defScope s_Circuits_shown) := ⟨rfl, rfl, rfl, by decide +kernel, rfl, by decide +kernel, by decide +kernel⟩
abbrev s_Circuits_count : Stmt := (inClass (topS 9) 6)
theorem sc_Circuits_count : FnScope ["self"] ["self"] (defScope s_Circuits_count) := ⟨rfl, rfl, rfl, by decide +kernel, rfl, by decide +kernel, by decide +kernel⟩
abbrev s_Circuits_facts_in : Stmt := (inClass (topS 9) 7)
theorem sc_Circuits_facts_in : FnScope ["self", "node", "shown", "part", "one"] ["self", "node"] (defScope s_Circuits_facts_in) := ⟨rfl, rfl, rfl, by decide +kernel, rfl, by decide +kernel, by decide +kernel⟩
abbrev s_Circuits_several : Stmt := (inClass (topS 9) 9)
theorem sc_Circuits_several : FnScope ["self", "word", "nodes", "neutral"] ["self", "word", "nodes", "neutral"] (defScope s_Circuits_several) := ⟨rfl, rfl, rfl, by decide +kernel, rfl, by decide +kernel, by decide +kernel⟩
abbrev s_Circuits_node : Stmt := (inClass (topS 9) 10)
theorem sc_Circuits_node : FnScope ["self", "shown"] ["self", "shown"] (defScope s_Circuits_node) := ⟨rfl, rfl, rfl, by decide +kernel, rfl, by decide +kernel, by decide +kernel⟩
abbrev s_nodes_within : Stmt := (topS 10)
theorem sc_nodes_within : FnScope ["circuits", "nodes", "found", "waiting", "node", "part"] ["circuits", "nodes"] (defScope s_nodes_within) := ⟨rfl, rfl, rfl, by decide +kernel, rfl, by decide +kernel, by decide +kernel⟩
abbrev s_parts : Stmt := (topS 11)
theorem sc_parts : FnScope ["shown"] ["shown"] (defScope s_parts) := ⟨rfl, rfl, rfl, by decide +kernel, rfl, by decide +kernel, by decide +kernel⟩
abbrev s_law_pot : Stmt := (topS 13)
theorem sc_law_pot : FnScope ["script", "seed", "cell"] ["script"] (defScope s_law_pot) := ⟨rfl, rfl, rfl, by decide +kernel, rfl, by decide +kernel, by decide +kernel⟩
abbrev s_law_next : Stmt := (topS 14)
theorem sc_law_next : FnScope ["pot", "limit", "cell", "found", "mixed"] ["pot", "limit"] (defScope s_law_next) := ⟨rfl, rfl, rfl, by decide +kernel, rfl, by decide +kernel, by decide +kernel⟩
abbrev s_law_is_int : Stmt := (topS 15)
theorem sc_law_is_int : FnScope ["value"] ["value"] (defScope s_law_is_int) := ⟨rfl, rfl, rfl, by decide +kernel, rfl, by decide +kernel, by decide +kernel⟩
abbrev s_law_same : Stmt := (topS 16)
theorem sc_law_same : FnScope ["found", "value", "k"] ["found", "value"] (defScope s_law_same) := ⟨rfl, rfl, rfl, by decide +kernel, rfl, by decide +kernel, by decide +kernel⟩
abbrev s_law_due : Stmt := (topS 17)
theorem sc_law_due : FnScope ["nodes", "kind", "parts", "node", "out", "left", "part"] ["nodes", "kind", "parts"] (defScope s_law_due) := ⟨rfl, rfl, rfl, by decide +kernel, rfl, by decide +kernel, by decide +kernel⟩
abbrev s_law_facts : Stmt := (topS 18)
theorem sc_law_facts : FnScope ["nodes", "node", "told", "found", "part", "k"] ["nodes", "node"] (defScope s_law_facts) := ⟨rfl, rfl, rfl, by decide +kernel, rfl, by decide +kernel, by decide +kernel⟩
abbrev s_law : Stmt := (topS 19)
theorem sc_law : FnScope ["script", "pot", "circuits", "nodes", "k", "kind", "recent", "parts", "found", "node", "j"] ["script"] (defScope s_law) := ⟨rfl, rfl, rfl, by decide +kernel, rfl, by decide +kernel, by decide +kernel⟩
local macro_rules | `(tactic| walk_at "len") => `(tactic| first | (intro h; obtain ⟨_, e, _⟩ := h; rw [e]; rfl) | (intro h; obtain ⟨_, _, e, _⟩ := h; rw [e]; rfl) | (intro h; obtain ⟨_, _, _, e, _⟩ := h; rw [e]; rfl) | (intro h; obtain ⟨_, _, _, _, e, _⟩ := h; rw [e]; rfl) | (intro h; obtain ⟨_, _, _, _, _, e, _⟩ := h; rw [e]; rfl) | (intro h; obtain ⟨_, _, _, _, _, _, e, _⟩ := h; rw [e]; rfl) | (intro h; obtain ⟨_, _, _, _, _, _, _, e, _⟩ := h; rw [e]; rfl) | (intro h; exact h.elim))
structure Ad where
  WorthError : Addr
  TooLarge : Addr
  Circuits : Addr
structure Txt (K : PySem.W.Frag) (mg : Str → Option Value) (ad : Ad) : Prop where
  z_isinstance : mg "isinstance" = none
  z_int : mg "int" = none
  z_bool : mg "bool" = none
  z_str : mg "str" = none
  z_list : mg "list" = none
  z_tuple : mg "tuple" = none
  z_min : mg "min" = none
  z_abs : mg "abs" = none
  z_len : mg "len" = none
  z_range : mg "range" = none
  z_all : mg "all" = none
  z_dict : mg "dict" = none
  z_sorted : mg "sorted" = none
  g_MOST_NODES : ∃ t, mg "MOST_NODES" = some (.int 20000 t)
  g_MOST_IN_ONE : ∃ t, mg "MOST_IN_ONE" = some (.int 2000 t)
  g_ZERO : ∃ t, mg "ZERO" = some (.int 0 t)
  g_ONE : ∃ t, mg "ONE" = some (.int 1 t)
  g_TooLarge : mg "TooLarge" = some (.ref ad.TooLarge)
  x_TooLarge : PySem.W.excIn K ad.TooLarge [.type "ValueError", .type "Exception", .type "BaseException", .type "object"] "ValueError.__new__" = true
  k_TooLarge : PySem.W.keepIn K (.ref ad.TooLarge) = true
  b_TooLarge : PySem.W.subIn K (.ref ad.TooLarge) (.type "BaseException") = some true
  t_TooLarge : PySem.W.typeIn K (.ref ad.TooLarge) = some (.type "type")
  c_Circuits : Cls K ad.Circuits
  n_shown : NoAttr K ad.Circuits "_shown"
  n_numbers : NoAttr K ad.Circuits "_numbers"

/-! ### nodes -/
inductive Nd where
  | zero | one | fact (k : Nat) | star (n : Nat) | plus (ps : List Nat) | times (ps : List Nat)
  deriving DecidableEq
def nums (ps : List Nat) : List NestedKey := ps.map fun (n : Nat) => .num (n : Int)
def Nd.key : Nd → List NestedKey
  | .zero => [.text "zero"]
  | .one => [.text "one"]
  | .fact k => [.text "fact", .num (k : Int)]
  | .star n => [.text "star", .num (n : Int)]
  | .plus ps => [.text "plus", .tup (nums ps)]
  | .times ps => [.text "times", .tup (nums ps)]
theorem nums_inj : ∀ {ps qs : List Nat}, nums ps = nums qs → ps = qs
  | [], [], _ => rfl
  | [], _ :: _, h => nomatch h
  | _ :: _, [], h => nomatch h
  | p :: ps, q :: qs, h => by
    have h' : NestedKey.num (p : Int) :: nums ps = NestedKey.num (q : Int) :: nums qs := h
    injection h' with h1 h2
    injection h1 with h1
    rw [nums_inj h2, show p = q by omega]
theorem Nd.key_inj {a b : Nd} (h : a.key = b.key) : a = b := by
  cases a <;> cases b <;> simp [Nd.key] at h <;> first | rfl | (rw [nums_inj h]) | exact absurd h (by decide +kernel) | exact absurd h.1 (by decide +kernel) | exact congrArg Nd.fact (by omega) | exact congrArg Nd.star (by omega)
theorem nums_depth : ∀ ps : List Nat, NestedKey.depthAll (nums ps) ≤ 0
  | [] => Nat.le_refl _
  | p :: ps => by
    have := nums_depth ps
    show NestedKey.depthAll (NestedKey.num (p : Int) :: nums ps) ≤ 0
    rw [NestedKey.depthAll]
    simp only [NestedKey.depth]
    omega
theorem Nd.depth (a : Nd) : NestedKey.depthAll a.key ≤ 2 := by
  cases a <;> simp [Nd.key, NestedKey.depthAll, NestedKey.depth]
  all_goals (have := nums_depth ‹List Nat›; omega)
theorem Nd.depth8 (a : Nd) : (NestedKey.tup a.key).depth ≤ 8 := by
  have := a.depth
  rw [NestedKey.depth]
  omega
abbrev tK (a : Nd) : NestedKey := .tup a.key
theorem tK_inj {a b : Nd} (h : tK a = tK b) : a = b := Nd.key_inj (by injection h)
def kvT (n : Nat) (tbl : List Nd) : List (NestedKey × V) := (tbl.zipIdx n).map fun z => (tK z.1, V.int (z.2 : Int))
theorem valV_tbl (nd : Nd) : ∀ (tbl : List Nd) (n : Nat), valV (kvT n tbl) (tK nd) = if nd ∈ tbl then some (.int ((n + tbl.idxOf nd : Nat) : Int)) else none
  | [], n => rfl
  | a :: tbl, n => by
    have ih := valV_tbl nd tbl (n + 1)
    have e : kvT n (a :: tbl) = (tK a, V.int (n : Int)) :: kvT (n + 1) tbl := rfl
    rw [e]
    by_cases c : a = nd
    · subst c
      rw [valV_pos rfl, if_pos (List.mem_cons_self ..), List.idxOf_cons_self]
      rfl
    · rw [valV_neg (fun z => c (tK_inj z)), ih, show (a :: tbl).idxOf nd = tbl.idxOf nd + 1 by rw [List.idxOf_cons, show (a == nd) = false from beq_eq_false_iff_ne.mpr c]; rfl]
      by_cases m : nd ∈ tbl
      · rw [if_pos m, if_pos (List.mem_cons_of_mem _ m), show n + 1 + tbl.idxOf nd = n + (tbl.idxOf nd + 1) by omega]
      · rw [if_neg m, if_neg (fun z => by
          rcases List.mem_cons.mp z with z | z
          · exact c z.symm
          · exact m z)]
/-- a node is put into a table -/
def insN (tbl : List Nd) (nd : Nd) : List Nd := if nd ∈ tbl then tbl else tbl ++ [nd]
theorem kvT_app (tbl : List Nd) (nd : Nd) : kvT 0 (tbl ++ [nd]) = kvT 0 tbl ++ [(tK nd, V.int (tbl.length : Int))] := by
  unfold kvT
  rw [List.zipIdx_append, List.map_append, Nat.zero_add]
  rfl
theorem insN_mem (tbl : List Nd) (nd : Nd) : nd ∈ insN tbl nd := by
  unfold insN
  split
  · assumption
  · simp
/-- a node's tuple stands at a -/
abbrev NdAt (H : Hp) (a : Addr) (nd : Nd) : Prop := Ky H (tK nd) (.ref a)
abbrev fC (S D : Addr) : List (Str × V) := putF "_numbers" (.ref D) (putF "_shown" (.ref S) [])
theorem fC_s (S D : Addr) : (fC S D).lookup ("_shown" : Str) = some (.ref S) := by
  rw [lookup_putF, if_neg (by decide), lookup_putF, if_pos rfl]
theorem fC_n (S D : Addr) : (fC S D).lookup ("_numbers" : Str) = some (.ref D) := by
  rw [lookup_putF, if_pos rfl]
theorem fC_no (S D : Addr) {m : Str} (h1 : ¬ m = "_shown") (h2 : ¬ m = "_numbers") : (fC S D).lookup m = none := by
  rw [lookup_putF, if_neg h2, lookup_putF, if_neg h1]; rfl
/-- a store of circuits with the nodes tbl -/
structure Circ (P : Program) (w : World) (C : Addr) (H : Hp) (c S D : Addr) (tbl : List Nd) : Prop where
  ins : ∃ dx, H c = some (.ins C dx (fC S D))
  shown : ∃ as : List Addr, H S = some (.lst (as.map V.ref)) ∧ Kys H (tbl.map tK) (as.map V.ref)
  nums : At P w H D (kvT 0 tbl)
/-- all but the store's list and dict is as it was -/
def FrC (S D : Addr) (H H' : Hp) : Prop := ∀ b o, b ≠ S → b ≠ D → H b = some o → H' b = some o
theorem FrC.refl (S D : Addr) (H : Hp) : FrC S D H H := fun _ _ _ _ h => h
theorem FrC.trans {S D : Addr} {H H1 H2 : Hp} (x : FrC S D H H1) (y : FrC S D H1 H2) : FrC S D H H2 := fun b o n m h => y b o n m (x b o n m h)
theorem FrC.of {S D : Addr} {H H1 : Hp} (x : Same H H1) : FrC S D H H1 := fun b o _ _ h => x b o h
theorem FrC.tup {S D : Addr} {H H1 : Hp} (x : FrC S D H H1) {xs ys : List V} {φ : Heap → Prop} (hS : H S = some (.lst xs)) (hD : H D = some (.ext φ)) : ∀ b zs, H b = some (.tup zs) → H1 b = some (.tup zs) := fun b zs e =>
  x b _ (ne_of e hS (fun z => nomatch z)) (ne_of e hD (fun z => nomatch z)) e
theorem Kys.length {H : Hp} : ∀ {ks : List NestedKey} {xs : List V}, Kys H ks xs → ks.length = xs.length
  | _, _, .nil => rfl
  | _, _, .cons _ r => by rw [List.length_cons, List.length_cons, Kys.length r]
theorem Kys.snoc {H : Hp} {k : NestedKey} {x : V} (a : Ky H k x) : ∀ {ks : List NestedKey} {xs : List V}, Kys H ks xs → Kys H (ks ++ [k]) (xs ++ [x])
  | _, _, .nil => .cons a .nil
  | _, _, .cons b r => .cons b (Kys.snoc a r)
theorem Kys.at {H : Hp} : ∀ {ks : List NestedKey} {xs : List V} {i : Nat} {k : NestedKey}, Kys H ks xs → ks[i]? = some k → ∃ x, xs[i]? = some x ∧ Ky H k x
  | _, _, 0, _, .cons a _, e => by
    cases (show some _ = some _ from e)
    exact ⟨_, rfl, a⟩
  | _, _, i + 1, k, .cons _ r, e => Kys.at (i := i) r (by simpa using e)
theorem Circ.same {P : Program} {w : World} {C : Addr} {H H' : Hp} {c S D : Addr} {tbl : List Nd} (x : Circ P w C H c S D tbl) (s : Same H H') : Circ P w C H' c S D tbl where
  ins := let ⟨dx, e⟩ := x.ins; ⟨dx, s _ _ e⟩
  shown := let ⟨as, e, k⟩ := x.shown; ⟨as, s _ _ e, k.keeps fun b ys e => s _ _ e⟩
  nums := x.nums.keeps (fun u e => s _ _ e) fun b ys e => s _ _ e
section
variable {P : Program} {w : World} {K : PySem.W.Frag} {mg : Str → Option Value} {base : Heap} {ad : Ad}
def spCount (C : Addr) : Sp := fun vs H Q _ => ∃ c dx S D xs, vs = [.ref c] ∧ H c = some (.ins C dx (fC S D)) ∧ H S = some (.lst xs) ∧ Q (.int xs.length) H
theorem ok_Circuits_count  {f : Addr} {fd : FuncData} (F : Fun K "count" "Circuits.count" s_Circuits_count f fd) (T : Txt K mg ad) : FnOk P w K mg base (L2.CX P w) 1 f fd ["self"] (spCount ad.Circuits) := by
  refine F.okX sc_Circuits_count (fun vs H Q E => ?_) (fun cdv A outer s H vs Q E hr h => ?_)
  · walk_at "len"
  ·
    obtain ⟨c, dx, S, D, xs, rfl, hc, hS, k⟩ := h
    refine ⟨_, (pss_one (ps_ret (pe_callB call_len (by rfl) T.z_len (by decide +kernel) (pa_cons (pe_fld (pv 0) rfl) pa_nil)))), ?_⟩
    exact ⟨_, rfl, c, _, dx, _, _, rfl, hc, T.c_Circuits, T.n_shown, fC_s _ _, .ref S, _, rfl, .inl ⟨_, SqL.of hS, rfl⟩, k⟩
def spShown (P : Program) (w : World) (C : Addr) : Sp := fun vs H Q _ => ∃ c S D tbl i nd, vs = [.ref c, .int (i : Nat)] ∧ Circ P w C H c S D tbl ∧ tbl[i]? = some nd ∧ ∀ a, NdAt H a nd → Q (.ref a) H
theorem ok_Circuits_shown  {f : Addr} {fd : FuncData} (F : Fun K "shown" "Circuits.shown" s_Circuits_shown f fd) (T : Txt K mg ad) : FnOk P w K mg base (L2.CX P w) 1 f fd ["self", "node"] (spShown P w ad.Circuits) := by
  refine F.okX sc_Circuits_shown (fun vs H Q E => ?_) (fun cdv A outer s H vs Q E hr h => ?_)
  · walk_at "len"
  ·
    obtain ⟨c, S, D, tbl, i, nd, rfl, cc, hi, k⟩ := h
    refine ⟨_, (pss_one (ps_ret (pe_ix ix_list (pe_fld (pv 0) rfl) (pv 1) (fun _ _ => rfl)))), ?_⟩
    obtain ⟨dx, hc⟩ := cc.ins
    obtain ⟨as, hS, hk⟩ := cc.shown
    obtain ⟨x, e, ky⟩ := Kys.at (i := i) hk (by rw [List.getElem?_map, hi]; rfl)
    cases ky with
    | tup e1 e2 =>
      exact ⟨_, rfl, c, _, dx, _, _, rfl, hc, T.c_Circuits, T.n_shown, fC_s _ _, _, rfl, S, _, _, _, rfl, rfl, SqL.of hS, at_of rfl e, k _ (.tup e1 e2)⟩
def spNode (P : Program) (w : World) (C : Addr) : Sp := fun vs H Q _ => ∃ c S D tbl a nd, vs = [.ref c, .ref a] ∧ Circ P w C H c S D tbl ∧ NdAt H a nd ∧ tbl.length < 1000 ∧
  ∀ H', FrC S D H H' → Circ P w C H' c S D (insN tbl nd) → Q (.int ((insN tbl nd).idxOf nd : Nat)) H'
theorem ok_Circuits_node (m_count : MetX P w K mg base 1 ad.Circuits "count" (spCount ad.Circuits)) {f : Addr} {fd : FuncData} (F : Fun K "_node" "Circuits._node" s_Circuits_node f fd) (T : Txt K mg ad) : FnOk P w K mg base (L2.CX P w) 2 f fd ["self", "shown"] (spNode P w ad.Circuits) := by
  refine F.okX sc_Circuits_node (fun vs H Q E => ?_) (fun cdv A outer s H vs Q E hr h => ?_)
  · walk_at "len"
  ·
    obtain ⟨c, S, D, tbl, a, nd, rfl, cc, ha, hl, k⟩ := h
    refine ⟨_, (pss_cons (ps_if (pt_cmpR (ND.op_notInN (ND.hu9 hr)) (pv 1) (pe_fld (pv 0) rfl) (by rfl)) (pss_cons (ps_if (pt_cmpR op_eq (pd_meth0 hr (takes_of rfl rfl rfl rfl) (pv 0)) (pe_gint (by rfl) T.g_MOST_NODES) (nomark _)) (pss_one (ps_raise rfl (takes_of rfl rfl rfl rfl) (pmk_own PySem.F.excBase_ValueError T.x_TooLarge T.g_TooLarge T.k_TooLarge (raises_own T.b_TooLarge T.t_TooLarge) (by rfl)))) pss_nil)
      (pss_cons (ND.ps_nput (ND.hu9 hr) (pe_fld (pv 0) rfl) (pv 1) (pd_meth0 hr (takes_of rfl rfl rfl rfl) (pv 0)) rfl)
      (pss_one (ps_expr (pe_bm PySem.F.plainAttrs_list PySem.F.slot_list_append PySem.F.type_list_append mt_append (pe_fld (pv 0) rfl) (pa_cons (pv 1) pa_nil)))))) pss_nil)
      (pss_one (ps_ret (ND.pe_nget (ND.hu9 hr) (pe_fld (pv 0) rfl) (pv 1) (fun _ _ => rfl))))), ?_⟩
    obtain ⟨dx, hc⟩ := cc.ins
    obtain ⟨as, hS, hk⟩ := cc.shown
    have hlen : as.length = tbl.length := by
      have := Kys.length hk
      rw [List.length_map, List.length_map] at this
      exact this.symm
    obtain ⟨φ, hφ⟩ := cc.nums.ext
    have nSD : S ≠ D := ne_of hS hφ (fun z => nomatch z)
    have ncS : c ≠ S := ne_of hc hS (fun z => nomatch z)
    have ncD : c ≠ D := ne_of hc hφ (fun z => nomatch z)
    refine ⟨_, rfl, _, rfl, c, _, dx, _, _, rfl, hc, T.c_Circuits, T.n_numbers, fC_n _ _, D, _, rfl, ⟨_, _, _, cc.nums.rd, rfl, ha, nd.depth8, rfl⟩, ?_⟩
    rw [valV_tbl]
    by_cases m : nd ∈ tbl
    · rw [if_pos m]
      refine ⟨_, rfl, iteF ?_⟩
      refine ⟨_, rfl, c, _, dx, _, _, rfl, hc, T.c_Circuits, T.n_numbers, fC_n _ _, _, rfl, D, _, rfl, ⟨_, _, _, cc.nums.rd, rfl, ha, nd.depth8, by rw [valV_tbl, if_pos m]⟩, ?_⟩
      rw [Nat.zero_add]
      have := k H (FrC.refl _ _ _) (by unfold insN; rw [if_pos m]; exact cc)
      unfold insN at this
      rw [if_pos m] at this
      exact this
    · rw [if_neg m]
      refine ⟨_, rfl, iteT ?_⟩
      refine ⟨_, rfl, c, _, dx, _, 1, _, rfl, hc, fC_no _ _ (by decide) (by decide), by decide, m_count, c, dx, S, D, _, rfl, hc, hS, ?_⟩
      refine ⟨rfl, _, rfl, ?_⟩
      rw [List.length_map, hlen]
      rw [decide_eq_false (show ¬ V.int (tbl.length : Int) = V.int 20000 from fun z => by injection z with z; omega)]
      refine iteF ?_
      refine go_next ?_
      refine ⟨_, rfl, c, _, dx, _, 1, _, rfl, hc, fC_no _ _ (by decide) (by decide), by decide, m_count, c, dx, S, D, _, rfl, hc, hS, ?_⟩
      refine ⟨_, rfl, c, _, dx, _, _, rfl, hc, T.c_Circuits, T.n_numbers, fC_n _ _, _, rfl, D, rfl, ⟨_, _, _, cc.nums, rfl, ha, nd.depth8, by (unfold kvT; rw [List.length_map, List.length_zipIdx]; exact Nat.lt_trans hl (by decide)), fun φ' hA => ?_⟩⟩
      refine go_nx ?_
      have hc1 : upd H D (.ext φ') c = some (.ins ad.Circuits dx (fC S D)) := by rw [upd_ne ncD]; exact hc
      have hS1 : upd H D (.ext φ') S = some (.lst (as.map V.ref)) := by rw [upd_ne nSD]; exact hS
      refine ⟨_, rfl, c, _, dx, _, _, rfl, hc1, T.c_Circuits, T.n_shown, fC_s _ _, .inl ⟨rfl, _, SqL.of hS1⟩, _, rfl, S, _, _, rfl, rfl, hS1, by (rw [List.length_map, hlen]; exact Nat.lt_trans hl (by decide)), ?_⟩
      have hc2 : upd (upd H D (.ext φ')) S (.lst (as.map V.ref ++ [.ref a])) c = some (.ins ad.Circuits dx (fC S D)) := by rw [upd_ne ncS]; exact hc1
      have tups : ∀ b ys, H b = some (.tup ys) → upd (upd H D (.ext φ')) S (.lst (as.map V.ref ++ [.ref a])) b = some (.tup ys) := fun b ys e => by
        rw [upd_ne (ne_of e hS (fun z => nomatch z)), upd_ne (ne_of e hφ (fun z => nomatch z))]
        exact e
      have ekv : putK (kvT 0 tbl) (tK nd) (V.int ((as.map V.ref).length : Int)) = kvT 0 (tbl ++ [nd]) := by
        rw [putK_new _ (by rw [valV_tbl, if_neg m]), kvT_app, List.length_map, hlen]
      have hA2 : At P w (upd (upd H D (.ext φ')) S (.lst (as.map V.ref ++ [.ref a]))) D (kvT 0 (tbl ++ [nd])) := by
        rw [← ekv]
        refine hA.keeps (fun u e => by rw [upd_ne (Ne.symm nSD)]; exact e) fun b ys e => ?_
        rw [upd_ne (ne_of e hS1 (fun z => nomatch z))]
        exact e
      have hins : insN tbl nd = tbl ++ [nd] := by unfold insN; rw [if_neg m]
      have cc2 : Circ P w ad.Circuits (upd (upd H D (.ext φ')) S (.lst (as.map V.ref ++ [.ref a]))) c S D (insN tbl nd) := by
        rw [hins]
        refine ⟨⟨dx, hc2⟩, ⟨as ++ [a], by rw [upd_same, List.map_append]; rfl, ?_⟩, hA2⟩
        rw [List.map_append, List.map_append]
        exact Kys.snoc (ha.keeps tups) (hk.keeps tups)
      refine go_nx ?_
      refine ⟨_, rfl, c, _, dx, _, _, rfl, hc2, T.c_Circuits, T.n_numbers, fC_n _ _, _, rfl, D, _, rfl, ⟨_, _, _, hA2.rd, rfl, ha.keeps tups, nd.depth8, by rw [valV_tbl, if_pos (by simp)]⟩, ?_⟩
      rw [Nat.zero_add]
      have := k _ (fun b o n1 n2 e => by rw [upd_ne n1, upd_ne n2]; exact e) cc2
      rw [hins] at this
      exact this
/-! ### lists of numbers, filtered; sorted -/
abbrev nV (ns : List Nat) : List V := ns.map fun (n : Nat) => V.int (n : Int)
theorem take_fil {p : Nat → Bool} {ns : List Nat} {i x : Nat} (h : ns[i]? = some x) : (ns.take (i + 1)).filter p = (ns.take i).filter p ++ (if p x = true then [x] else []) := by
  rw [List.take_add_one, h, List.filter_append]
  congr 1
  by_cases c : p x = true
  · rw [if_pos c]; simp [c]
  · rw [if_neg c]; simp [c]
theorem lc_filL {K : PySem.W.Frag} {a : Addr} {ns : List Nat} {k : Nat} {tt : TT} {te : TE} {vs : List Nat} {σ : L2.St} {H1 : Hp} {D : Addr} {Qd : Hp → Prop} (p : Nat → Bool) (hD : H1 D = none) (hL : H1 a = some (.lst (nV ns)))
    (hn : ns.length ≤ 100000) (hw : ∀ x, wipe ((wipe σ vs).set k (some x)) vs = wipe σ vs)
    (ht : ∀ (x : Nat) (H : Hp) (Kt : Bool → Hp → Prop), Same H1 H → Kt (p x) H → tt ((wipe σ vs).set k (some (.int (x : Int)))) H Kt)
    (he : ∀ (x : Nat) (H : Hp) (Kt : VK), Kt (.int (x : Int)) H → te ((wipe σ vs).set k (some (.int (x : Int)))) H Kt)
    (hd : ∀ H, Same H1 H → H D = some (.lst (nV (ns.filter p))) → Qd H) :
    ∃ W : Nat → Nat → Hp → Prop, (∃ m, W 0 m (upd H1 D (.lst []))) ∧ ∀ i m H, W i m H →
      ((Itl K a).stop i H ∧ Qd H) ∨ ((Itl K a).go i H ∧ ∃ Nx : Hp → Prop, (∀ H', Nx H' → ∃ m', m' < m ∧ W (i + 1) m' H') ∧ ∀ x H', (Itl K a).yld i H x H' → gName k x (wipe σ vs) H' fun σ2 H2 => wipe σ2 vs = wipe σ vs ∧ tt σ2 H2 fun b H3 =>
        if b = true then te σ2 H3 fun y H4 => ∃ acc, H4 D = some (.lst acc) ∧ acc.length < sizeLine ∧ Nx (upd H4 D (.lst (acc ++ [y]))) else Nx H3) := by
  refine lc_list (xs := nV ns) (fun i H => Same H1 H ∧ H D = some (.lst (nV ((ns.take i).filter p)))) ⟨same_new (Same.refl _) hD, upd_same⟩ (fun i H _ ⟨s1, _⟩ => SqL.of (s1 _ _ hL)) (fun i x H hx ⟨s1, e1⟩ => ?_) (fun H ⟨s1, e1⟩ => hd H s1 ?_)
  · rw [List.getElem?_map] at hx
    obtain ⟨n, hn1, rfl⟩ := Option.map_eq_some_iff.mp hx
    have hi : i < ns.length := by
      rcases Nat.lt_or_ge i ns.length with h | h
      · exact h
      · rw [List.getElem?_eq_none h] at hn1; cases hn1
    refine ⟨hw _, ht n H _ s1 ?_⟩
    by_cases c : p n = true
    · rw [if_pos c]
      refine he n H _ ⟨_, e1, ?_, same_but hD s1 but_app, ?_⟩
      · have h1 := List.length_filter_le p (ns.take i)
        have h2 := List.length_take_le i ns
        rw [List.length_map]
        exact Nat.lt_of_le_of_lt (by omega : _ ≤ 100000) (by decide)
      · rw [upd_same, take_fil hn1, if_pos c]
        have e2 : nV (List.filter p (List.take i ns) ++ [n]) = nV (List.filter p (List.take i ns)) ++ [V.int (n : Int)] := by
          unfold nV
          rw [List.map_append]
          rfl
        rw [e2]
    · rw [if_neg c]
      refine ⟨s1, ?_⟩
      rw [take_fil hn1, if_neg c, List.append_nil]
      exact e1
  · rw [e1, List.length_map, List.take_length]
theorem lc_filT {K : PySem.W.Frag} {a : Addr} {ns : List Nat} {k : Nat} {tt : TT} {te : TE} {vs : List Nat} {σ : L2.St} {H1 : Hp} {D : Addr} {Qd : Hp → Prop} (p : Nat → Bool) (hD : H1 D = none) (hL : H1 a = some (.tup (nV ns)))
    (hn : ns.length ≤ 100000) (hw : ∀ x, wipe ((wipe σ vs).set k (some x)) vs = wipe σ vs)
    (ht : ∀ (x : Nat) (H : Hp) (Kt : Bool → Hp → Prop), Same H1 H → Kt (p x) H → tt ((wipe σ vs).set k (some (.int (x : Int)))) H Kt)
    (he : ∀ (x : Nat) (H : Hp) (Kt : VK), Kt (.int (x : Int)) H → te ((wipe σ vs).set k (some (.int (x : Int)))) H Kt)
    (hd : ∀ H, Same H1 H → H D = some (.lst (nV (ns.filter p))) → Qd H) :
    ∃ W : Nat → Nat → Hp → Prop, (∃ m, W 0 m (upd H1 D (.lst []))) ∧ ∀ i m H, W i m H →
      ((Itt K a).stop i H ∧ Qd H) ∨ ((Itt K a).go i H ∧ ∃ Nx : Hp → Prop, (∀ H', Nx H' → ∃ m', m' < m ∧ W (i + 1) m' H') ∧ ∀ x H', (Itt K a).yld i H x H' → gName k x (wipe σ vs) H' fun σ2 H2 => wipe σ2 vs = wipe σ vs ∧ tt σ2 H2 fun b H3 =>
        if b = true then te σ2 H3 fun y H4 => ∃ acc, H4 D = some (.lst acc) ∧ acc.length < sizeLine ∧ Nx (upd H4 D (.lst (acc ++ [y]))) else Nx H3) := by
  refine lc_tup (xs := nV ns) (fun i H => Same H1 H ∧ H D = some (.lst (nV ((ns.take i).filter p)))) ⟨same_new (Same.refl _) hD, upd_same⟩ (fun i H _ ⟨s1, _⟩ => SqT.of (s1 _ _ hL)) (fun i x H hx ⟨s1, e1⟩ => ?_) (fun H ⟨s1, e1⟩ => hd H s1 ?_)
  · rw [List.getElem?_map] at hx
    obtain ⟨n, hn1, rfl⟩ := Option.map_eq_some_iff.mp hx
    have hi : i < ns.length := by
      rcases Nat.lt_or_ge i ns.length with h | h
      · exact h
      · rw [List.getElem?_eq_none h] at hn1; cases hn1
    refine ⟨hw _, ht n H _ s1 ?_⟩
    by_cases c : p n = true
    · rw [if_pos c]
      refine he n H _ ⟨_, e1, ?_, same_but hD s1 but_app, ?_⟩
      · have h1 := List.length_filter_le p (ns.take i)
        have h2 := List.length_take_le i ns
        rw [List.length_map]
        exact Nat.lt_of_le_of_lt (by omega : _ ≤ 100000) (by decide)
      · rw [upd_same, take_fil hn1, if_pos c]
        have e2 : nV (List.filter p (List.take i ns) ++ [n]) = nV (List.filter p (List.take i ns)) ++ [V.int (n : Int)] := by
          unfold nV
          rw [List.map_append]
          rfl
        rw [e2]
    · rw [if_neg c]
      refine ⟨s1, ?_⟩
      rw [take_fil hn1, if_neg c, List.append_nil]
      exact e1
  · rw [e1, List.length_map, List.take_length]
/-- numbers in ascending order -/
def sortN (ns : List Nat) : List Nat := (PySem.W.sortI (ns.map fun (n : Nat) => (n : Int))).map Int.toNat
theorem sortN_of {ns : List Nat} {ns' : List Int} (hp : ns'.Perm (ns.map fun (n : Nat) => (n : Int))) (hs : ns'.Pairwise (· ≤ ·)) : ns' = (sortN ns).map fun (n : Nat) => (n : Int) := by
  have e := PySem.W.eq_sortI hp hs
  unfold sortN
  rw [← e, List.map_map]
  refine (List.map_id _).symm.trans (List.map_congr_left fun x hx => ?_)
  obtain ⟨n, _, rfl⟩ := List.mem_map.mp (hp.mem_iff.mp hx)
  show (n : Int) = ((n : Int).toNat : Int)
  rw [Int.toNat_natCast]
theorem nV_kys {H : Hp} : ∀ ns : List Nat, Kys H (nums ns) (nV ns)
  | [] => .nil
  | n :: ns => .cons (.int (n : Int)) (nV_kys ns)
theorem int_map (ns : List Nat) : (ns.map fun (n : Nat) => (n : Int)).map V.int = nV ns := by
  rw [List.map_map]; rfl
def spFact (P : Program) (w : World) (C : Addr) : Sp := fun vs H Q _ => ∃ c S D tbl, ∃ k : Nat, vs = [.ref c, .int (k : Int)] ∧ Circ P w C H c S D tbl ∧ tbl.length < 1000 ∧
  ∀ H', FrC S D H H' → Circ P w C H' c S D (insN tbl (.fact k)) → Q (.int ((insN tbl (.fact k)).idxOf (.fact k) : Nat)) H'
theorem ok_Circuits_fact (m_node : MetX P w K mg base 2 ad.Circuits "_node" (spNode P w ad.Circuits)) {f : Addr} {fd : FuncData} (F : Fun K "fact" "Circuits.fact" s_Circuits_fact f fd) (T : Txt K mg ad) : FnOk P w K mg base (L2.CX P w) 3 f fd ["self", "k"] (spFact P w ad.Circuits) := by
  refine F.okX sc_Circuits_fact (fun vs H Q E => ?_) (fun cdv A outer s H vs Q E hr h => ?_)
  · walk_at "len"
  ·
    obtain ⟨c, S, D, tbl, n, rfl, cc, hl, k⟩ := h
    refine ⟨_, (pss_one (ps_ret (pd_meth hr (takes_of rfl rfl rfl rfl) (pv 0) (pa_cons (pe_tup (pa_cons pe_str (pa_cons (pv 1) pa_nil))) pa_nil)))), ?_⟩
    obtain ⟨dx, hc⟩ := cc.ins
    refine ⟨_, rfl, c, _, dx, _, 2, _, rfl, hc, fC_no _ _ (by decide) (by decide), by decide, m_node, _, rfl, (show 2 ≤ sizeLine by decide), fun p hp => ?_⟩
    have s1 : Same H (upd H p (.tup [.str "fact", .int (n : Int)])) := same_new (Same.refl _) hp
    exact ⟨c, S, D, tbl, p, .fact n, rfl, cc.same s1, .tup upd_same (.cons (.str _) (.cons (.int _) .nil)), hl, fun H' fr c' => k H' ((FrC.of s1).trans fr) c'⟩
def spStar (P : Program) (w : World) (C : Addr) : Sp := fun vs H Q _ => ∃ c S D tbl, ∃ n : Nat, vs = [.ref c, .int (n : Int)] ∧ Circ P w C H c S D tbl ∧ tbl.length < 1000 ∧ (n = 0 → Q (.int 1) H) ∧
  (n ≠ 0 → ∀ H', FrC S D H H' → Circ P w C H' c S D (insN tbl (.star n)) → Q (.int ((insN tbl (.star n)).idxOf (.star n) : Nat)) H')
theorem ok_Circuits_star (m_node : MetX P w K mg base 2 ad.Circuits "_node" (spNode P w ad.Circuits)) {f : Addr} {fd : FuncData} (F : Fun K "star" "Circuits.star" s_Circuits_star f fd) (T : Txt K mg ad) : FnOk P w K mg base (L2.CX P w) 3 f fd ["self", "node"] (spStar P w ad.Circuits) := by
  refine F.okX sc_Circuits_star (fun vs H Q E => ?_) (fun cdv A outer s H vs Q E hr h => ?_)
  · walk_at "len"
  ·
    obtain ⟨c, S, D, tbl, n, rfl, cc, hl, k0, k⟩ := h
    refine ⟨_, (pss_cons (ps_if (pt_cmpR op_eq (pv 1) (pe_gint (by rfl) T.g_ZERO) (nomark _)) (pss_one (ps_ret (pe_gint (by rfl) T.g_ONE))) pss_nil)
      (pss_one (ps_ret (pd_meth hr (takes_of rfl rfl rfl rfl) (pv 0) (pa_cons (pe_tup (pa_cons pe_str (pa_cons (pv 1) pa_nil))) pa_nil))))), ?_⟩
    obtain ⟨dx, hc⟩ := cc.ins
    refine ⟨_, rfl, rfl, _, rfl, ?_⟩
    by_cases z : n = 0
    · subst z
      exact iteT (k0 rfl)
    · rw [decide_eq_false (show ¬ V.int (n : Int) = V.int 0 from fun y => z (by injection y with y; omega))]
      refine iteF ?_
      refine ⟨_, rfl, c, _, dx, _, 2, _, rfl, hc, fC_no _ _ (by decide) (by decide), by decide, m_node, _, rfl, (show 2 ≤ sizeLine by decide), fun p hp => ?_⟩
      have s1 : Same H (upd H p (.tup [.str "star", .int (n : Int)])) := same_new (Same.refl _) hp
      exact ⟨c, S, D, tbl, p, .star n, rfl, cc.same s1, .tup upd_same (.cons (.str _) (.cons (.int _) .nil)), hl, fun H' fr c' => k z H' ((FrC.of s1).trans fr) c'⟩
end
end K12

set_option Elab.async false
set_option linter.all false
set_option maxRecDepth 100000
set_option maxHeartbeats 4000000
namespace K12
open PySem L2 Ew Tb ND
local macro_rules | `(tactic| walk_at "len") => `(tactic| first | (intro h; obtain ⟨_, e, _⟩ := h; rw [e]; rfl) | (intro h; obtain ⟨_, _, e, _⟩ := h; rw [e]; rfl) | (intro h; obtain ⟨_, _, _, e, _⟩ := h; rw [e]; rfl) | (intro h; obtain ⟨_, _, _, _, e, _⟩ := h; rw [e]; rfl) | (intro h; obtain ⟨_, _, _, _, _, e, _⟩ := h; rw [e]; rfl) | (intro h; obtain ⟨_, _, _, _, _, _, e, _⟩ := h; rw [e]; rfl) | (intro h; obtain ⟨_, _, _, _, _, _, _, e, _⟩ := h; rw [e]; rfl) | (intro h; exact h.elim))
section
variable {P : Program} {w : World} {K : PySem.W.Frag} {mg : Str → Option Value} {base : Heap} {ad : Ad}
theorem new2 {p : Addr} {H H1 : Hp} {o : HO} (x : Same H H1) (h : H1 p = none) : Same H (L2.upd H1 p o) := fun b u e => by
  rw [upd_ne (ne_of_none (x b u e) h)]
  exact x b u e
/-- plus or times -/
inductive Kd where
  | plus | times
def Kd.word : Kd → Str
  | .plus => "plus"
  | .times => "times"
def Kd.neu : Kd → Nat
  | .plus => 0
  | .times => 1
def Kd.mk : Kd → List Nat → Nd
  | .plus, ps => .plus ps
  | .times, ps => .times ps
theorem Kd.key (d : Kd) (ps : List Nat) : (d.mk ps).key = [.text d.word, .tup (nums ps)] := by cases d <;> rfl
/-- what several parts give: the table behind, the node -/
def sevN (tbl : List Nd) (d : Kd) (ps : List Nat) : List Nd × Nat := match ps with
  | [] => (tbl, d.neu)
  | [p] => (tbl, p)
  | _ => let nd := d.mk (sortN ps); (insN tbl nd, (insN tbl nd).idxOf nd)
def spSev (P : Program) (w : World) (C : Addr) : Sp := fun vs H Q _ => ∃ c S D tbl, ∃ (d : Kd) (L : Addr) (ps : List Nat), vs = [.ref c, .str d.word, .ref L, .int (d.neu : Int)] ∧ Circ P w C H c S D tbl ∧ tbl.length < 1000 ∧ H L = some (.lst (nV ps)) ∧ ps.length ≤ 1000 ∧
  ∀ H', FrC S D H H' → Circ P w C H' c S D (sevN tbl d ps).1 → Q (.int ((sevN tbl d ps).2 : Nat)) H'
theorem ok_Circuits_several (m_node : MetX P w K mg base 2 ad.Circuits "_node" (spNode P w ad.Circuits)) {f : Addr} {fd : FuncData} (F : Fun K "_several" "Circuits._several" s_Circuits_several f fd) (T : Txt K mg ad) : FnOk P w K mg base (L2.CX P w) 3 f fd ["self", "word", "nodes", "neutral"] (spSev P w ad.Circuits) := by
  refine F.okX sc_Circuits_several (fun vs H Q E => ?_) (fun cdv A outer s H vs Q E hr h => ?_)
  · walk_at "len"
  ·
    obtain ⟨c, S, D, tbl, d, L, ps, rfl, cc, hl, hL, hps, k⟩ := h
    refine ⟨_, (pss_cons (ps_if (pt_cmpR op_eq (pe_callB call_len (by rfl) T.z_len (by decide +kernel) (pa_cons (pv 2) pa_nil)) pe_int (nomark _)) (pss_one (ps_ret (pv 3))) pss_nil)
      (pss_cons (ps_if (pt_cmpR op_eq (pe_callB call_len (by rfl) T.z_len (by decide +kernel) (pa_cons (pv 2) pa_nil)) pe_int (nomark _)) (pss_one (ps_ret (pe_ix ix_list (pv 2) pe_int (fun _ _ => rfl)))) pss_nil)
      (pss_cons (ps_if (pt_cmpR op_gt (pe_callB call_len (by rfl) T.z_len (by decide +kernel) (pa_cons (pv 2) pa_nil)) (pe_gint (by rfl) T.g_MOST_IN_ONE) (nomark _)) (pss_one (ps_raise rfl (takes_of rfl rfl rfl rfl) (pmk_own PySem.F.excBase_ValueError T.x_TooLarge T.g_TooLarge T.k_TooLarge (raises_own T.b_TooLarge T.t_TooLarge) (by rfl)))) pss_nil)
      (pss_one (ps_ret (pd_meth hr (takes_of rfl rfl rfl rfl) (pv 0) (pa_cons (pe_tup (pa_cons (pv 1) (pa_cons (pe_callTy call_tuple_of (by rfl) T.z_tuple (by decide +kernel) (pa_cons (pe_callB cr_sortedI (by rfl) T.z_sorted (by decide +kernel) (pa_cons (pv 2) pa_nil)) pa_nil)) pa_nil))) pa_nil))))))), ?_⟩
    obtain ⟨dx, hc⟩ := cc.ins
    refine ⟨_, rfl, .ref L, _, rfl, .inl ⟨_, SqL.of hL, rfl⟩, rfl, _, rfl, ?_⟩
    rw [List.length_map]
    cases ps with
    | nil => exact iteT ⟨_, rfl, k H (FrC.refl _ _ _) cc⟩
    | cons p0 ps =>
      refine iteF (go_next ?_)
      refine ⟨_, rfl, .ref L, _, rfl, .inl ⟨_, SqL.of hL, rfl⟩, rfl, _, rfl, ?_⟩
      rw [List.length_map]
      cases ps with
      | nil =>
        refine iteT ⟨_, rfl, L, _, _, _, rfl, rfl, SqL.of hL, at_of (j := 0) rfl rfl, ?_⟩
        exact k H (FrC.refl _ _ _) cc
      | cons p1 ps =>
        rw [decide_eq_false (show ¬ V.int ((p0 :: p1 :: ps).length : Int) = V.int 1 from fun y => by injection y with y; rw [List.length_cons, List.length_cons] at y; omega)]
        refine iteF (go_next ?_)
        refine ⟨_, rfl, .ref L, _, rfl, .inl ⟨_, SqL.of hL, rfl⟩, ?_⟩
        rw [List.length_map]
        refine ⟨_, _, rfl, rfl, _, rfl, ?_⟩
        rw [decide_eq_false (show ¬ (2000 : Int) < ((p0 :: p1 :: ps).length : Int) by omega)]
        refine iteF (go_next ?_)
        refine ⟨_, rfl, c, _, dx, _, 2, _, rfl, hc, fC_no _ _ (by decide) (by decide), by decide, m_node, ?_⟩
        refine ⟨_, rfl, _, rfl, L, (p0 :: p1 :: ps).map (fun (n : Nat) => (n : Int)), rfl, SqL.of (by rw [int_map]; exact hL), fun ns' q hp hs hq => ?_⟩
        rw [sortN_of hp hs, int_map]
        have s1 : Same H (upd H q (.lst (nV (sortN (p0 :: p1 :: ps))))) := same_new (Same.refl _) hq
        refine ⟨q, _, rfl, .inl ⟨SqL.of upd_same, fun l hl => ?_⟩⟩
        have s2 := new2 (o := .tup (nV (sortN (p0 :: p1 :: ps)))) s1 hl
        refine ⟨(show 2 ≤ sizeLine by decide), fun a ha => ?_⟩
        have s3 := new2 (o := .tup [.str d.word, .ref l]) s2 ha
        refine ⟨c, S, D, tbl, a, d.mk (sortN (p0 :: p1 :: ps)), rfl, cc.same s3, ?_, by assumption, fun H' fr c' => k H' ((FrC.of s3).trans fr) c'⟩
        show Ky _ (.tup (d.mk (sortN (p0 :: p1 :: ps))).key) _
        rw [Kd.key]
        refine .tup upd_same (.cons (.str _) (.cons (.tup ?_ (nV_kys _)) .nil))
        rw [upd_ne (ne_of_none upd_same ha)]
        exact upd_same
theorem nV_flat : ∀ ps : List Nat, (nV ps).all flatV = true
  | [] => rfl
  | p :: ps => nV_flat ps
theorem inV_nV (m : Nat) : ∀ ps : List Nat, inV (.int (m : Int)) (nV ps) = decide (m ∈ ps)
  | [] => rfl
  | p :: ps => by
    have ih := inV_nV m ps
    have e : inV (.int (m : Int)) (nV (p :: ps)) = (eqV (.int (p : Int)) (.int (m : Int)) || inV (.int (m : Int)) (nV ps)) := rfl
    rw [e, ih]
    by_cases c : p = m
    · subst c; simp [eqV]
    · have c' : ¬ m = p := fun z => c z.symm
      have e2 : eqV (.int (p : Int)) (.int (m : Int)) = false := by simp [eqV]; omega
      rw [e2]
      simp [c']
theorem ne_tst {m : Int} {p : Nat → Bool} (hp : ∀ x : Nat, p x = !decide (V.int (x : Int) = V.int m)) {i : Nat} {σ : L2.St} (x : Nat) (H : Hp) (Kt : Bool → Hp → Prop) (e : σ[i]? = some (some (.int (x : Int)))) (h : Kt (p x) H) : tTest (tOp rNe (tVar i) (tC (V.int m))) σ H Kt := by
  refine ⟨_, e, rfl, _, rfl, ?_⟩
  rw [hp x] at h
  exact h
theorem ne_dec (m x : Nat) : decide (x ≠ m) = !decide (V.int (x : Int) = V.int (m : Int)) := by
  by_cases c : x = m
  · subst c; simp
  · rw [decide_eq_true c, decide_eq_false (fun y => c (by injection y with y; omega))]; rfl
def spPlus (P : Program) (w : World) (C : Addr) (d : Kd) (out : Nat) : Sp := fun vs H Q _ => ∃ c S D tbl, ∃ (L : Addr) (ps : List Nat), vs = [.ref c, .ref L] ∧ Circ P w C H c S D tbl ∧ tbl.length < 1000 ∧ (H L = some (.lst (nV ps)) ∨ H L = some (.tup (nV ps))) ∧ ps.length ≤ 1000 ∧
  (out = 1 → 0 ∈ ps → Q (.int 0) H) ∧
  ((out = 1 → ¬ 0 ∈ ps) → ∀ H', FrC S D H H' → Circ P w C H' c S D (sevN tbl d (ps.filter fun n => decide (n ≠ out))).1 → Q (.int ((sevN tbl d (ps.filter fun n => decide (n ≠ out))).2 : Nat)) H')
theorem ok_Circuits_plus (m_several : MetX P w K mg base 3 ad.Circuits "_several" (spSev P w ad.Circuits)) {f : Addr} {fd : FuncData} (F : Fun K "plus" "Circuits.plus" s_Circuits_plus f fd) (T : Txt K mg ad) : FnOk P w K mg base (L2.CX P w) 4 f fd ["self", "nodes"] (spPlus P w ad.Circuits .plus 0) := by
  refine F.okX sc_Circuits_plus (fun vs H Q E => ?_) (fun cdv A outer s H vs Q E hr h => ?_)
  · walk_at "len"
  ·
    obtain ⟨c, S, D, tbl, L, ps, rfl, cc, hl, hL, hps, _, k⟩ := h
    refine ⟨_, (pss_one (ps_ret (pd_meth hr (takes_of rfl rfl rfl rfl) (pv 0) (pa_cons pe_str (pa_cons (pe_lc (own := [("node", 2)]) rfl sc_Circuits_plus.nd (ND.pi_seq (pv 1)) (blkOk_by (by kernel_rfl)) (fun _ _ _ _ _ => (pg_name (i := 2) sc_Circuits_plus.nd rfl (by first | exact Or.inl rfl | exact Or.inr rfl))) (fun _ _ _ _ _ => (pts_one (pt_cmpR op_ne (pv 2) (pe_gint (by rfl) T.g_ZERO) (nomark _)))) (fun _ _ _ _ _ => (pv 2))) (pa_cons (pe_gint (by rfl) T.g_ZERO) pa_nil)))))), ?_⟩
    obtain ⟨dx, hc⟩ := cc.ins
    refine ⟨_, rfl, c, _, dx, _, 3, _, rfl, hc, fC_no _ _ (by decide) (by decide), by decide, m_several, ?_⟩
    have fin : ∀ D' H', Same H H' → H' D' = some (.lst (nV (ps.filter fun n => decide (n ≠ 0)))) →
        spSev P w ad.Circuits [.ref c, .str "plus", .ref D', .int 0] H' Q (WE (fun cls d x H => E cls d H) (L2.start ["self", "nodes", "node"] [.ref c, .ref L])) := fun D' H' s' e =>
      ⟨c, S, D, tbl, .plus, D', _, rfl, cc.same s', hl, e, Nat.le_trans (List.length_filter_le _ _) hps, fun H2 fr c' => k (fun z => nomatch z) H2 ((FrC.of s').trans fr) c'⟩
    rcases hL with hL | hL
    · refine ⟨_, rfl, L, _, rfl, .inl ⟨SqL.of hL, fun D' hD => ?_⟩⟩
      exact lc_filL (fun n => decide (n ≠ 0)) hD hL (by omega) (fun _ => rfl) (fun x H Kt _ h => ne_tst (m := 0) (ne_dec 0) x H Kt rfl h) (fun x H Kt h => ⟨_, rfl, h⟩) (fun H' s' e => fin D' H' s' e)
    · refine ⟨_, rfl, L, _, rfl, .inr ⟨SqT.of hL, fun D' hD => ?_⟩⟩
      exact lc_filT (fun n => decide (n ≠ 0)) hD hL (by omega) (fun _ => rfl) (fun x H Kt _ h => ne_tst (m := 0) (ne_dec 0) x H Kt rfl h) (fun x H Kt h => ⟨_, rfl, h⟩) (fun H' s' e => fin D' H' s' e)
theorem ok_Circuits_times (m_several : MetX P w K mg base 3 ad.Circuits "_several" (spSev P w ad.Circuits)) {f : Addr} {fd : FuncData} (F : Fun K "times" "Circuits.times" s_Circuits_times f fd) (T : Txt K mg ad) : FnOk P w K mg base (L2.CX P w) 4 f fd ["self", "nodes"] (spPlus P w ad.Circuits .times 1) := by
  refine F.okX sc_Circuits_times (fun vs H Q E => ?_) (fun cdv A outer s H vs Q E hr h => ?_)
  · walk_at "len"
  ·
    obtain ⟨c, S, D, tbl, L, ps, rfl, cc, hl, hL, hps, k0, k⟩ := h
    refine ⟨_, (pss_cons (ps_if (pt_cmpR op_in_seq (pe_gint (by rfl) T.g_ZERO) (pv 1) (by rfl)) (pss_one (ps_ret (pe_gint (by rfl) T.g_ZERO))) pss_nil)
      (pss_one (ps_ret (pd_meth hr (takes_of rfl rfl rfl rfl) (pv 0) (pa_cons pe_str (pa_cons (pe_lc (own := [("node", 2)]) rfl sc_Circuits_times.nd (ND.pi_seq (pv 1)) (blkOk_by (by kernel_rfl)) (fun _ _ _ _ _ => (pg_name (i := 2) sc_Circuits_times.nd rfl (by first | exact Or.inl rfl | exact Or.inr rfl))) (fun _ _ _ _ _ => (pts_one (pt_cmpR op_ne (pv 2) (pe_gint (by rfl) T.g_ONE) (nomark _)))) (fun _ _ _ _ _ => (pv 2))) (pa_cons (pe_gint (by rfl) T.g_ONE) pa_nil))))))), ?_⟩
    obtain ⟨dx, hc⟩ := cc.ins
    refine ⟨.ref L, rfl, L, nV ps, rfl, ?_, rfl, nV_flat ps, _, rfl, ?_⟩
    · rcases hL with hL | hL
      · exact .inl (SqL.of hL)
      · exact .inr (SqT.of hL)
    have hin : (if false = true then !inV (.int 0) (nV ps) else inV (.int 0) (nV ps)) = decide (0 ∈ ps) := inV_nV 0 ps
    rw [hin]
    by_cases z : 0 ∈ ps
    · rw [decide_eq_true z]
      exact iteT (k0 rfl z)
    rw [decide_eq_false z]
    refine iteF ?_
    refine ⟨_, rfl, c, _, dx, _, 3, _, rfl, hc, fC_no _ _ (by decide) (by decide), by decide, m_several, ?_⟩
    have fin : ∀ D' H', Same H H' → H' D' = some (.lst (nV (ps.filter fun n => decide (n ≠ 1)))) →
        spSev P w ad.Circuits [.ref c, .str "times", .ref D', .int 1] H' Q (WE (fun cls d x H => E cls d H) (L2.start ["self", "nodes", "node"] [.ref c, .ref L])) := fun D' H' s' e =>
      ⟨c, S, D, tbl, .times, D', _, rfl, cc.same s', hl, e, Nat.le_trans (List.length_filter_le _ _) hps, fun H2 fr c' => k (fun _ => z) H2 ((FrC.of s').trans fr) c'⟩
    rcases hL with hL | hL
    · refine ⟨_, rfl, L, _, rfl, .inl ⟨SqL.of hL, fun D' hD => ?_⟩⟩
      exact lc_filL (fun n => decide (n ≠ 1)) hD hL (by omega) (fun _ => rfl) (fun x H Kt _ h => ne_tst (m := 1) (ne_dec 1) x H Kt rfl h) (fun x H Kt h => ⟨_, rfl, h⟩) (fun H' s' e => fin D' H' s' e)
    · refine ⟨_, rfl, L, _, rfl, .inr ⟨SqT.of hL, fun D' hD => ?_⟩⟩
      exact lc_filT (fun n => decide (n ≠ 1)) hD hL (by omega) (fun _ => rfl) (fun x H Kt _ h => ne_tst (m := 1) (ne_dec 1) x H Kt rfl h) (fun x H Kt h => ⟨_, rfl, h⟩) (fun H' s' e => fin D' H' s' e)
end
end K12

set_option Elab.async false
set_option linter.all false
set_option maxRecDepth 100000
set_option maxHeartbeats 4000000
namespace K12
open PySem L2 Ew Tb ND
local macro_rules | `(tactic| walk_at "len") => `(tactic| first | (intro h; obtain ⟨_, e, _⟩ := h; rw [e]; rfl) | (intro h; obtain ⟨_, _, e, _⟩ := h; rw [e]; rfl) | (intro h; obtain ⟨_, _, _, e, _⟩ := h; rw [e]; rfl) | (intro h; obtain ⟨_, _, _, _, e, _⟩ := h; rw [e]; rfl) | (intro h; obtain ⟨_, _, _, _, _, e, _⟩ := h; rw [e]; rfl) | (intro h; obtain ⟨_, _, _, _, _, _, e, _⟩ := h; rw [e]; rfl) | (intro h; obtain ⟨_, _, _, _, _, _, _, e, _⟩ := h; rw [e]; rfl) | (intro h; exact h.elim))
section
variable {P : Program} {w : World} {K : PySem.W.Frag} {mg : Str → Option Value} {base : Heap} {ad : Ad}
/-! ### a node's tuple, its parts -/
def Nd.parts : Nd → List Nat
  | .star n => [n]
  | .plus ps => ps
  | .times ps => ps
  | _ => []
def Nd.vals (l : Addr) : Nd → List V
  | .zero => [.str "zero"]
  | .one => [.str "one"]
  | .fact k => [.str "fact", .int (k : Int)]
  | .star n => [.str "star", .int (n : Int)]
  | .plus _ => [.str "plus", .ref l]
  | .times _ => [.str "times", .ref l]
def Nd.inner (H : Hp) (l : Addr) : Nd → Prop
  | .plus ps => H l = some (.tup (nV ps))
  | .times ps => H l = some (.tup (nV ps))
  | _ => True
theorem kys_nums {H : Hp} : ∀ {ns : List Nat} {xs : List V}, Kys H (nums ns) xs → xs = nV ns
  | [], _, h => by cases h; rfl
  | n :: ns, _, h => by
    cases h with
    | cons a r =>
      cases a
      rw [kys_nums (ns := ns) r]
      rfl
theorem kys_in {H : Hp} {z : Str} {ps : List Nat} {xs : List V} (h : Kys H [.text z, .tup (nums ps)] xs) : ∃ l, xs = [.str z, .ref l] ∧ H l = some (.tup (nV ps)) := by
  cases h with
  | cons a r =>
    cases a
    cases r with
    | cons b r2 =>
      cases r2
      cases b with
      | tup e q => exact ⟨_, rfl, by rw [e, kys_nums q]⟩
theorem kys_num {H : Hp} {z : Str} {n : Int} {xs : List V} (h : Kys H [.text z, .num n] xs) : xs = [.str z, .int n] := by
  cases h with
  | cons a r =>
    cases a
    cases r with
    | cons b r2 =>
      cases r2
      cases b
      rfl
theorem kys_one {H : Hp} {z : Str} {xs : List V} (h : Kys H [.text z] xs) : xs = [.str z] := by
  cases h with
  | cons a r =>
    cases a
    cases r
    rfl
theorem NdAt.inv {H : Hp} {a : Addr} {nd : Nd} (h : NdAt H a nd) : ∃ l, H a = some (.tup (nd.vals l)) ∧ nd.inner H l := by
  cases h with
  | tup e q =>
    cases nd with
    | zero => exact ⟨0, by rw [e, kys_one q]; rfl, True.intro⟩
    | one => exact ⟨0, by rw [e, kys_one q]; rfl, True.intro⟩
    | fact k => exact ⟨0, by rw [e, kys_num q]; rfl, True.intro⟩
    | star n => exact ⟨0, by rw [e, kys_num q]; rfl, True.intro⟩
    | plus ps =>
      obtain ⟨l, rfl, e2⟩ := kys_in q
      exact ⟨l, e, e2⟩
    | times ps =>
      obtain ⟨l, rfl, e2⟩ := kys_in q
      exact ⟨l, e, e2⟩
def spParts : Sp := fun vs H Q _ => ∃ a nd, vs = [.ref a] ∧ NdAt H a nd ∧ ∀ H' l, Same H H' → H' l = some (.tup (nV nd.parts)) → Q (.ref l) H'
theorem ok_parts  {f : Addr} {fd : FuncData} (F : Fun K "_parts" "_parts" s_parts f fd) (T : Txt K mg ad) : FnOk P w K mg base (L2.CX P w) 1 f fd ["shown"] (spParts) := by
  refine F.okX sc_parts (fun vs H Q E => ?_) (fun cdv A outer s H vs Q E hr h => ?_)
  · walk_at "len"
  ·
    obtain ⟨a, nd, rfl, ha, k⟩ := h
    refine ⟨_, (pss_cons (ps_if (pt_cmpR op_eq (pe_ix ix_tup (pv 0) pe_int (fun _ _ => rfl)) pe_str (nomark _)) (pss_one (ps_ret (pe_tup (pa_cons (pe_ix ix_tup (pv 0) pe_int (fun _ _ => rfl)) pa_nil)))) pss_nil)
      (pss_cons (ps_if (pt_cmpR op_in_seq (pe_ix ix_tup (pv 0) pe_int (fun _ _ => rfl)) (pe_tup (pa_cons pe_str (pa_cons pe_str pa_nil))) (by rfl)) (pss_one (ps_ret (pe_ix ix_tup (pv 0) pe_int (fun _ _ => rfl)))) pss_nil)
      (pss_one (ps_ret (pe_tup pa_nil))))), ?_⟩
    obtain ⟨l, e, hin⟩ := ha.inv
    have h0 : (nd.vals l)[0]? = some (.str (match nd with | .zero => "zero" | .one => "one" | .fact _ => "fact" | .star _ => "star" | .plus _ => "plus" | .times _ => "times" : Str)) := by cases nd <;> rfl
    refine ⟨_, rfl, a, _, _, _, rfl, rfl, SqT.of e, at_of (j := 0) rfl h0, rfl, _, rfl, ?_⟩
    cases nd with
    | star n =>
      refine iteT ⟨_, rfl, a, _, _, _, rfl, rfl, SqT.of e, at_of (j := 1) rfl rfl, (show 1 ≤ sizeLine by decide), fun p hp => ?_⟩
      exact k _ p (same_new (Same.refl _) hp) upd_same
    | plus ps =>
      refine iteF (go_next ⟨_, rfl, a, _, _, _, rfl, rfl, SqT.of e, at_of (j := 0) rfl h0, (show 2 ≤ sizeLine by decide), fun p hp => ?_⟩)
      have s1 := same_new (o := .tup [.str "plus", .str "times"]) (Same.refl H) hp
      refine ⟨p, _, rfl, .inr (SqT.of upd_same), rfl, rfl, _, rfl, iteT ?_⟩
      exact ⟨_, rfl, a, _, _, _, rfl, rfl, SqT.of (s1 _ _ e), at_of (j := 1) rfl rfl, k _ l s1 (s1 _ _ hin)⟩
    | times ps =>
      refine iteF (go_next ⟨_, rfl, a, _, _, _, rfl, rfl, SqT.of e, at_of (j := 0) rfl h0, (show 2 ≤ sizeLine by decide), fun p hp => ?_⟩)
      have s1 := same_new (o := .tup [.str "plus", .str "times"]) (Same.refl H) hp
      refine ⟨p, _, rfl, .inr (SqT.of upd_same), rfl, rfl, _, rfl, iteT ?_⟩
      exact ⟨_, rfl, a, _, _, _, rfl, rfl, SqT.of (s1 _ _ e), at_of (j := 1) rfl rfl, k _ l s1 (s1 _ _ hin)⟩
    | _ =>
      refine iteF (go_next ⟨_, rfl, a, _, _, _, rfl, rfl, SqT.of e, at_of (j := 0) rfl h0, (show 2 ≤ sizeLine by decide), fun p hp => ?_⟩)
      have s1 := same_new (o := .tup [.str "plus", .str "times"]) (Same.refl H) hp
      refine ⟨p, _, rfl, .inr (SqT.of upd_same), rfl, rfl, _, rfl, iteF (go_next ?_)⟩
      refine ⟨(show 0 ≤ sizeLine by decide), fun p2 hp2 => ?_⟩
      exact k _ p2 (new2 s1 hp2) upd_same
end
end K12

set_option Elab.async false
set_option linter.all false
set_option maxRecDepth 100000
set_option maxHeartbeats 4000000
namespace K12
open PySem L2 Ew Tb ND
local macro_rules | `(tactic| walk_at "len") => `(tactic| first | (intro h; obtain ⟨_, e, _⟩ := h; rw [e]; rfl) | (intro h; obtain ⟨_, _, e, _⟩ := h; rw [e]; rfl) | (intro h; obtain ⟨_, _, _, e, _⟩ := h; rw [e]; rfl) | (intro h; obtain ⟨_, _, _, _, e, _⟩ := h; rw [e]; rfl) | (intro h; obtain ⟨_, _, _, _, _, e, _⟩ := h; rw [e]; rfl) | (intro h; obtain ⟨_, _, _, _, _, _, e, _⟩ := h; rw [e]; rfl) | (intro h; obtain ⟨_, _, _, _, _, _, _, e, _⟩ := h; rw [e]; rfl) | (intro h; exact h.elim))
section
variable {P : Program} {w : World} {K : PySem.W.Frag} {mg : Str → Option Value} {base : Heap} {ad : Ad}
/-! ### what is reached -/
def Wf (tbl : List Nd) : Prop := ∀ (i : Nat) nd, tbl[i]? = some nd → ∀ p ∈ nd.parts, p < i
inductive Rch (tbl : List Nd) (n : Nat) : Nat → Prop
  | refl : Rch tbl n n
  | step {m p : Nat} {nd : Nd} : Rch tbl n m → tbl[m]? = some nd → p ∈ nd.parts → Rch tbl n p
theorem Rch.le {tbl : List Nd} {n m : Nat} (wf : Wf tbl) (h : Rch tbl n m) : m ≤ n := by
  induction h with
  | refl => exact Nat.le_refl _
  | step _ e hp ih => have := wf _ _ e _ hp; omega
theorem Rch.in_ {tbl : List Nd} {n : Nat} {fs : List Nat} (h0 : n ∈ fs) (hc : ∀ m ∈ fs, ∀ nd, tbl[m]? = some nd → ∀ p ∈ nd.parts, p ∈ fs) : ∀ m, Rch tbl n m → m ∈ fs := fun m h => by
  induction h with
  | refl => exact h0
  | step _ e hp ih => exact hc _ ih _ e _ hp
def dlen : Option HO → Nat
  | some (.dK kvs) => kvs.length
  | _ => 0
def llen : Option HO → Nat
  | some (.lst xs) => xs.length
  | _ => 0
abbrev kvF (fs : List Nat) : List (Key × V) := fs.map fun (m : Nat) => (.inl (m : Int), .bl true)
theorem valV_F (m : Nat) : ∀ fs : List Nat, valV (kvF fs) (.inl (m : Int)) = if m ∈ fs then some (.bl true) else none
  | [] => rfl
  | f :: fs => by
    have ih := valV_F m fs
    show valV ((Sum.inl (f : Int), V.bl true) :: kvF fs) (.inl (m : Int)) = _
    by_cases c : f = m
    · subst c
      rw [valV_pos rfl, if_pos (List.mem_cons_self ..)]
    · rw [valV_neg (fun z => c (by injection z with z; omega)), ih]
      by_cases d : m ∈ fs
      · rw [if_pos d, if_pos (List.mem_cons_of_mem _ d)]
      · rw [if_neg d, if_neg (fun z => by
          rcases List.mem_cons.mp z with z | z
          · exact c z.symm
          · exact d z)]
theorem put_F {m : Nat} {fs : List Nat} (h : ¬ m ∈ fs) : putK (kvF fs) (.inl (m : Int)) (.bl true) = kvF (fs ++ [m]) := by
  rw [putK_new _ (by rw [valV_F, if_neg h]), kvF, kvF, List.map_append]
  rfl
theorem go_sq {a u : TS} {D : Ends} {σ : L2.St} {H : Hp} (h : a { D with nx := fun σ' H' => u D σ' H' } σ H) : tSeq a u D σ H := h
def Cl (tbl : List Nd) (fs : List Nat) (x : Nat) : Prop := ∀ nd, tbl[x]? = some nd → ∀ p ∈ nd.parts, p ∈ fs
structure Dfs (tbl : List Nd) (n : Nat) (F Wd : Addr) (H : Hp) (fs ws : List Nat) (H' : Hp) : Prop where
  same : Same H H'
  f : H' F = some (.dK (kvF fs))
  w : H' Wd = some (.lst (nV ws))
  nd : fs.Nodup
  n_ : n ∈ fs
  r : ∀ m ∈ fs, Rch tbl n m
  ws_ : ∀ m ∈ ws, m ∈ fs
  cl : ∀ m ∈ fs, ¬ m ∈ ws → Cl tbl fs m
  wl : ws.length ≤ fs.length
theorem sortN_perm (ns : List Nat) : (sortN ns).Perm ns := by
  have h := (PySem.W.sortI_perm (ns.map fun (n : Nat) => (n : Int))).map Int.toNat
  rw [List.map_map] at h
  have e : ns.map (Int.toNat ∘ fun (n : Nat) => (n : Int)) = ns := (List.map_congr_left fun n _ => Int.toNat_natCast n).trans (List.map_id _)
  rw [e] at h
  exact h
theorem sortN_rises (ns : List Nat) : (sortN ns).Pairwise (· ≤ ·) := by
  have h := PySem.W.sortI_rises (ns.map fun (n : Nat) => (n : Int))
  exact h.map Int.toNat fun a b hab => by omega
section
variable {X : Cx}
def rNotD : R2 := fun y x H Q => ∃ a o, x = .ref a ∧ DGet H a y o ∧ Q (.bl (!o.isSome)) H
theorem op_notD (hu : X.A.units + 1 < cLine) : OpR X (compareOp .NotIn) rNotD := by
  intro pins s σ H y x u v Q I ry rx h
  obtain ⟨a, o, rfl, g, q⟩ := h
  cases rx
  exact d_notIn hu I g ry fun s3 I3 => ⟨.bl (!o.isSome), H, I3, rfl, q⟩
end
theorem dc_list {K : PySem.W.Frag} {a : Addr} {xs : List V} {g : TG} {tt : TT} {tk tv : TE} {vs : List Nat} {σ : L2.St} {H1 : Hp} {D : Addr} {Qd : Hp → Prop} (Pv : Nat → Hp → Prop) (h0 : Pv 0 (upd H1 D (.dK []))) (hl : ∀ i H, i ≤ xs.length → Pv i H → SqL K H a xs)
    (hs : ∀ i x H, xs[i]? = some x → Pv i H → g x (wipe σ vs) H fun σ2 H2 => wipe σ2 vs = wipe σ vs ∧ tt σ2 H2 fun b H3 =>
      if b = true then tk σ2 H3 fun y H4 => tv σ2 H4 fun z H5 => ∃ kvs k, y = kV k ∧ H5 D = some (.dK kvs) ∧ kvs.length < sizeLine ∧ Pv (i + 1) (upd H5 D (.dK (putK kvs k z))) else Pv (i + 1) H3) (hd : ∀ H, Pv xs.length H → Qd H) :
    ∃ W : Nat → Nat → Hp → Prop, (∃ m, W 0 m (upd H1 D (.dK []))) ∧ ∀ i m H, W i m H →
      ((Itl K a).stop i H ∧ Qd H) ∨ ((Itl K a).go i H ∧ ∃ Nx : Hp → Prop, (∀ H', Nx H' → ∃ m', m' < m ∧ W (i + 1) m' H') ∧ ∀ x H', (Itl K a).yld i H x H' → g x (wipe σ vs) H' fun σ2 H2 => wipe σ2 vs = wipe σ vs ∧ tt σ2 H2 fun b H3 =>
        if b = true then tk σ2 H3 fun y H4 => tv σ2 H4 fun z H5 => ∃ kvs k, y = kV k ∧ H5 D = some (.dK kvs) ∧ kvs.length < sizeLine ∧ Nx (upd H5 D (.dK (putK kvs k z))) else Nx H3) := by
  refine ⟨fun i m H => m = xs.length - i ∧ i ≤ xs.length ∧ Pv i H, ⟨xs.length, by simp, Nat.zero_le _, h0⟩, ?_⟩
  rintro i m H ⟨rfl, hi, p⟩
  have q := hl i H hi p
  by_cases hlt : i < xs.length
  · refine .inr ⟨⟨xs, xs[i], q, by simp [hlt]⟩, Pv (i + 1), fun H' p' => ⟨xs.length - (i + 1), by omega, rfl, hlt, p'⟩, fun x H' y => ?_⟩
    obtain ⟨e, y⟩ := y
    subst e
    exact hs i x _ (y xs q) p
  · have e : i = xs.length := by omega
    subst e
    exact .inl ⟨⟨xs, q, Nat.le_refl _⟩, hd H p⟩
def spWithin (P : Program) (w : World) (C : Addr) : Sp := fun vs H Q _ => ∃ c S D tbl, ∃ (L : Addr) (n : Nat), vs = [.ref c, .ref L] ∧ Circ P w C H c S D tbl ∧ Wf tbl ∧ tbl.length < 64 ∧ n < tbl.length ∧ H L = some (.lst [.int (n : Int)]) ∧
  ∀ H' l ys, Same H H' → H' l = some (.lst (nV ys)) → ys.Nodup → ys.Pairwise (· ≤ ·) → (∀ m, m ∈ ys ↔ Rch tbl n m) → Q (.ref l) H'
theorem ok_nodes_within (c_parts : CalX P w K mg base 1 "_parts" spParts) (m_shown : MetX P w K mg base 1 ad.Circuits "shown" (spShown P w ad.Circuits)) {f : Addr} {fd : FuncData} (F : Fun K "nodes_within" "nodes_within" s_nodes_within f fd) (T : Txt K mg ad) : FnOk P w K mg base (L2.CX P w) 2 f fd ["circuits", "nodes"] (spWithin P w ad.Circuits) := by
  refine F.okX sc_nodes_within (fun vs H Q E => ?_) (fun cdv A outer s H vs Q E hr h => ?_)
  · walk_at "len"
  ·
    obtain ⟨c, S, D, tbl, L, n, rfl, cc, wf, hl, hn, hL, k⟩ := h
    refine ⟨_, (pss_cons (DCx.ps_setDc (i := 2) (own := [("node", 4)]) (tt := tYes) rfl sc_nodes_within.nd rfl rfl (DCx.swd_true rfl rfl rfl (by decide +kernel)) (pi_list (pv 1)) (blkOk_by (by kernel_rfl)) (fun _ _ _ _ _ => (pg_name (i := 4) sc_nodes_within.nd rfl (by first | exact Or.inl rfl | exact Or.inr rfl))) (fun _ _ _ _ _ => pts_nil) (fun _ _ _ _ _ => (pv 4)) (fun _ _ _ _ _ => pe_bl))
      (pss_cons (ps_set (i := 3) sc_nodes_within.nd rfl (by first | exact Or.inl rfl | exact Or.inr rfl) (pe_callTy (call_listD rfl) (by rfl) T.z_list (by decide +kernel) (pa_cons (pv 2) pa_nil)))
      (pss_cons (ps_while (passes_of rfl) (pt_truth (pv 3) (by intro _; rfl)) (pss_cons (ps_set (i := 4) sc_nodes_within.nd rfl (by first | exact Or.inl rfl | exact Or.inr rfl) (pe_bm0 PySem.F.plainAttrs_list PySem.F.slot_list_pop PySem.F.type_list_pop mt_pop (pv 3)))
      (pss_one (ps_for (passes_of rfl) rfl (pi_tup (pc_call c_parts hr (by first | decide | omega) (takes_of rfl rfl rfl rfl) (by rfl) (pa_cons (pd_meth hr (takes_of rfl rfl rfl rfl) (pv 0) (pa_cons (pv 4) pa_nil)) pa_nil))) (pg_name (i := 5) sc_nodes_within.nd rfl (by first | exact Or.inl rfl | exact Or.inr rfl)) (pss_one (ps_if (pt_cmpR (op_notD (hu_of hr)) (pv 5) (pv 2) (by rfl)) (pss_cons (ps_dput (hu_of hr) (pv 2) (pv 5) pe_bl rfl)
      (pss_one (ps_expr (pe_bm PySem.F.plainAttrs_list PySem.F.slot_list_append PySem.F.type_list_append mt_append (pv 3) (pa_cons (pv 5) pa_nil))))) pss_nil))))))
      (pss_one (ps_ret (pe_callB (call_sortedDI rfl) (by rfl) T.z_sorted (by decide +kernel) (pa_cons (pv 2) pa_nil))))))), ?_⟩
    obtain ⟨dx, hc⟩ := cc.ins
    have lenB : ∀ {fs : List Nat}, fs.Nodup → (∀ m ∈ fs, Rch tbl n m) → fs.length ≤ tbl.length := fun hnd hr => by
      have h1 := hnd.length_le_of_subset (l₂ := List.range tbl.length) fun m hm => List.mem_range.mpr (Nat.lt_of_le_of_lt ((hr m hm).le wf) hn)
      rwa [List.length_range] at h1
    refine ⟨_, rfl, L, rfl, ⟨_, SqL.of hL⟩, fun F hF => ?_⟩
    refine dc_list (xs := [.int (n : Int)]) (fun i H' => Same H H' ∧ H' F = some (.dK (kvF (([n] : List Nat).take i)))) ⟨same_new (Same.refl _) hF, upd_same⟩ (fun i H' _ ⟨s', _⟩ => SqL.of (s' _ _ hL)) (fun i x H' hx ⟨s', e⟩ => ?_) (fun H1 ⟨s1, e1⟩ => ?_)
    · obtain rfl : i = 0 := by
        rcases i with _ | i
        · rfl
        · simp at hx
      obtain rfl : V.int (n : Int) = x := by simpa using hx
      refine ⟨rfl, yes_then (iteT ⟨_, rfl, [], .inl (n : Int), rfl, e, (show 0 < sizeLine by decide), ?_, ?_⟩)⟩
      · exact same_but hF s' fun b o nb e => by rw [upd_ne nb]; exact e
      · rw [upd_same]; rfl
    · refine go_name rfl (go_nx (go_seq ⟨_, rfl, F, _, rfl, .inl e1, fun Wd hW => go_name rfl ?_⟩))
      have nFW : F ≠ Wd := ne_of_none e1 hW
      have hWH : H Wd = none := by
        cases h : H Wd with
        | none => rfl
        | some u => have := s1 _ _ h; rw [hW] at this; cases this
      refine go_sq ?_
      refine while_by (fun σ H' => ∃ (fs ws : List Nat) (vn vp : Option V), σ = [some (.ref c), some (.ref L), some (.ref F), some (.ref Wd), vn, vp] ∧ Dfs tbl n F Wd H fs ws H')
        (fun _ H' => 2 * (tbl.length - dlen (H' F)) + llen (H' Wd)) ⟨[n], [n], none, none, rfl, ?_⟩ ?_ (fun σ H Q Q' hq ⟨v, e, k, t, q⟩ => ⟨v, e, k, t, hq _ _ q⟩)
      · refine ⟨new2 s1 hW, by (rw [upd_ne nFW]; exact e1), upd_same, by simp, by simp, ?_, fun m h => h, fun m h h' => absurd h h', Nat.le_refl _⟩
        intro m h
        rw [List.mem_singleton.mp h]
        exact .refl
      · rintro σ H' ⟨fs, ws, vn, vp, rfl, dd⟩
        refine ⟨_, rfl, _, .inl ⟨_, SqL.of dd.w, rfl⟩, ?_⟩
        rcases List.eq_nil_or_concat ws with rfl | ⟨ws0, m, rfl⟩
        · refine iteF (go_nx ?_)
          refine ⟨_, rfl, F, kvF fs, fs.map (fun (m : Nat) => (m : Int)), rfl, .inl dd.f, by (rw [List.map_map, List.map_map]; rfl), ?_, fun ys q hp hs hq => ?_⟩
          · rw [List.length_map]
            exact Nat.lt_of_le_of_lt (lenB dd.nd dd.r) hl
          · rw [sortN_of hp hs, int_map]
            exact k _ q (sortN fs) (new2 dd.same hq) upd_same ((sortN_perm fs).nodup_iff.mpr dd.nd) (sortN_rises fs) fun m => ((sortN_perm fs).mem_iff).trans ⟨dd.r m, Rch.in_ dd.n_ (fun x hx => dd.cl x hx (fun z => nomatch z)) m⟩
        · have hm : m ∈ fs := dd.ws_ m (by simp)
          have wl := dd.wl
          rw [List.concat_eq_append, List.length_append, List.length_singleton] at wl
          have hml : m < tbl.length := Nat.lt_of_le_of_lt ((dd.r m hm).le wf) hn
          have hnd : tbl[m]? = some tbl[m] := List.getElem?_eq_getElem hml
          have e0 : nV (ws0.concat m) = nV ws0 ++ [V.int (m : Int)] := by
            rw [List.concat_eq_append]
            unfold nV
            rw [List.map_append]
            rfl
          rw [show (!(nV (ws0.concat m)).isEmpty) = true by rw [e0]; simp]
          refine iteT ?_
          refine go_seq ⟨_, rfl, .inl ⟨rfl, _, SqL.of dd.w⟩, Wd, _, .int (m : Int), rfl, rfl, dd.w, (by rw [e0]; simp), go_name rfl ?_⟩
          rw [e0, List.dropLast_concat]
          have s1 : Same H (upd H' Wd (.lst (nV ws0))) := same_but hWH dd.same fun b o nb e => by rw [upd_ne nb]; exact e
          have cc1 := cc.same s1
          have hc1 := s1 _ _ hc
          refine ⟨_, rfl, c, _, dx, _, 1, _, rfl, hc1, fC_no _ _ (by decide) (by decide), by decide, m_shown, _, rfl, c, S, D, tbl, m, _, rfl, cc1, hnd, fun a ha => ⟨a, _, rfl, ha, fun H2 l s2 e2 => ?_⟩⟩
          refine ⟨l, rfl, ⟨_, SqT.of e2⟩, ?_⟩
          refine for_tup (xs := nV tbl[m].parts) (fun i σ H3 => ∃ (fs' ws' : List Nat) (vp : Option V), σ = [some (.ref c), some (.ref L), some (.ref F), some (.ref Wd), some (.int (m : Int)), vp] ∧ Same H H3 ∧ H3 l = some (.tup (nV tbl[m].parts)) ∧
              H3 F = some (.dK (kvF fs')) ∧ H3 Wd = some (.lst (nV ws')) ∧ fs'.Nodup ∧ n ∈ fs' ∧ (∀ m ∈ fs', Rch tbl n m) ∧ (∀ m ∈ ws', m ∈ fs') ∧ (∀ x ∈ fs', ¬ x ∈ ws' → x = m ∨ Cl tbl fs' x) ∧ m ∈ fs' ∧
              (∀ (j p : Nat), j < i → tbl[m].parts[j]? = some p → p ∈ fs') ∧ ws'.length + fs.length = ws0.length + fs'.length ∧ fs.length ≤ fs'.length)
            ⟨fs, ws0, vp, rfl, ?_⟩ (fun i σ H3 _ ⟨_, _, _, _, _, e, _⟩ => SqT.of e) ?_ ?_
          · refine ⟨fun b u e => s2 _ _ (s1 _ _ e), e2, s2 _ _ (by rw [upd_ne nFW]; exact dd.f), s2 _ _ upd_same, dd.nd, dd.n_, dd.r, fun x hx => dd.ws_ x (by simp [hx]), fun x hx nx => ?_, hm, fun j p hj => by omega, by omega, Nat.le_refl _⟩
            by_cases z : x = m
            · exact .inl z
            · exact .inr (dd.cl x hx (by simp [nx, z]))
          · rintro i x σ H3 hx ⟨fs', ws', vp', rfl, s3, e3, f3, w3, nd3, n3, r3, ws3, cl3, m3, p3, l3, le3⟩
            rw [List.getElem?_map] at hx
            obtain ⟨q, hq, rfl⟩ := Option.map_eq_some_iff.mp hx
            refine go_name rfl ?_
            refine ⟨_, rfl, _, rfl, F, _, rfl, DGet.k (k := .inl (q : Int)) f3, ?_⟩
            rw [valV_F]
            by_cases hin : q ∈ fs'
            · rw [if_pos hin]
              refine ⟨_, rfl, iteF ?_⟩
              refine go_nx ⟨fs', ws', _, rfl, s3, e3, f3, w3, nd3, n3, r3, ws3, cl3, m3, fun j p hj hp => ?_, l3, le3⟩
              by_cases z : j = i
              · subst z
                rw [hq] at hp
                cases hp
                exact hin
              · exact p3 j p (by omega) hp
            · rw [if_neg hin]
              refine ⟨_, rfl, iteT ?_⟩
              have lb3 := lenB nd3 r3
              refine ⟨_, rfl, _, rfl, F, _, rfl, DPut.k (k := .inl (q : Int)) f3 (by (show (kvF fs').length < sizeLine); rw [List.length_map]; exact Nat.lt_of_le_of_lt (by omega : fs'.length ≤ 64) (by decide)), ?_⟩
              rw [put_F hin]
              have wA : upd H3 F (.dK (kvF (fs' ++ [q]))) Wd = some (.lst (nV ws')) := by rw [upd_ne (Ne.symm nFW)]; exact w3
              have llb : ws'.length ≤ 200 := by
                have := lenB dd.nd dd.r
                omega
              have eW : nV ws' ++ [V.int (q : Int)] = nV (ws' ++ [q]) := by
                unfold nV
                rw [List.map_append]
                rfl
              have sF : Same H (upd H3 F (.dK (kvF (fs' ++ [q])))) := same_but hF s3 fun b o nb e => by rw [upd_ne nb]; exact e
              refine go_nx ⟨_, rfl, .inl ⟨rfl, _, SqL.of wA⟩, _, rfl, Wd, _, _, rfl, rfl, wA, (by rw [List.length_map]; exact Nat.lt_of_le_of_lt llb (by decide)), ?_⟩
              rw [eW]
              have nlF : l ≠ F := ne_of e3 f3 (fun z => nomatch z)
              have nlW : l ≠ Wd := ne_of e3 w3 (fun z => nomatch z)
              refine go_nx ⟨fs' ++ [q], ws' ++ [q], _, rfl, ?_, ?_, ?_, upd_same, ?_, List.mem_append_left _ n3, ?_, ?_, ?_, List.mem_append_left _ m3, ?_, ?_, ?_⟩
              · exact same_but hWH sF fun b o nb e => by rw [upd_ne nb]; exact e
              · rw [upd_ne nlW, upd_ne nlF]; exact e3
              · rw [upd_ne nFW, upd_same]
              · exact List.nodup_append.mpr ⟨nd3, by simp, fun a ha b hb z => hin (by rw [List.mem_singleton.mp hb] at z; rw [← z]; exact ha)⟩
              · intro x hx
                rcases List.mem_append.mp hx with h | h
                · exact r3 x h
                · rw [List.mem_singleton.mp h]
                  exact .step (dd.r m hm) hnd (List.mem_of_getElem? hq)
              · intro x hx
                rcases List.mem_append.mp hx with h | h
                · exact List.mem_append_left _ (ws3 x h)
                · exact List.mem_append_right _ h
              · intro x hx nx
                rcases List.mem_append.mp hx with h | h
                · rcases cl3 x h (fun z => nx (List.mem_append_left _ z)) with z | z
                  · exact .inl z
                  · exact .inr fun nd e p hp => List.mem_append_left _ (z nd e p hp)
                · exact absurd (List.mem_append_right _ h) nx
              · intro j p hj hp
                by_cases z : j = i
                · subst z
                  rw [hq] at hp
                  cases hp
                  simp
                · exact List.mem_append_left _ (p3 j p (by omega) hp)
              · rw [List.length_append, List.length_append, List.length_singleton]
                omega
              · rw [List.length_append]
                omega
          · rintro σ H3 ⟨fs', ws', vp', rfl, s3, e3, f3, w3, nd3, n3, r3, ws3, cl3, m3, p3, l3, le3⟩
            refine ⟨⟨fs', ws', _, _, rfl, ⟨s3, f3, w3, nd3, n3, r3, ws3, fun x hx nx => ?_, by omega⟩⟩, ?_⟩
            · rcases cl3 x hx nx with z | z
              · subst z
                intro nd e p hp
                rw [hnd] at e
                cases e
                obtain ⟨j, hj⟩ := List.mem_iff_getElem?.mp hp
                have hjl : j < tbl[x].parts.length := by
                  rcases Nat.lt_or_ge j tbl[x].parts.length with h | h
                  · exact h
                  · rw [List.getElem?_eq_none h] at hj; cases hj
                exact p3 j p (by rw [List.length_map]; exact hjl) hj
              · exact z
            · have lb3 := lenB nd3 r3
              have lb := lenB dd.nd dd.r
              show 2 * (tbl.length - dlen (H3 F)) + llen (H3 Wd) < 2 * (tbl.length - dlen (H' F)) + llen (H' Wd)
              rw [f3, w3, dd.f, dd.w, e0]
              simp only [dlen, llen, List.length_map, List.length_append, List.length_singleton]
              omega
end
end K12

set_option Elab.async false
set_option linter.all false
set_option maxRecDepth 100000
set_option maxHeartbeats 4000000
namespace K12
open PySem L2 Ew Tb ND
local macro_rules | `(tactic| walk_at "len") => `(tactic| first | (intro h; obtain ⟨_, e, _⟩ := h; rw [e]; rfl) | (intro h; obtain ⟨_, _, e, _⟩ := h; rw [e]; rfl) | (intro h; obtain ⟨_, _, _, e, _⟩ := h; rw [e]; rfl) | (intro h; obtain ⟨_, _, _, _, e, _⟩ := h; rw [e]; rfl) | (intro h; obtain ⟨_, _, _, _, _, e, _⟩ := h; rw [e]; rfl) | (intro h; obtain ⟨_, _, _, _, _, _, e, _⟩ := h; rw [e]; rfl) | (intro h; obtain ⟨_, _, _, _, _, _, _, e, _⟩ := h; rw [e]; rfl) | (intro h; exact h.elim))
section
variable {P : Program} {w : World} {K : PySem.W.Frag} {mg : Str → Option Value} {base : Heap} {ad : Ad}
/-! ### a list comprehension over a list of known things, with a test -/
theorem take_fm {α β : Type} {p : α → Bool} {g : α → β} {ys : List α} {i : Nat} {y : α} (h : ys[i]? = some y) : ((ys.take (i + 1)).filter p).map g = ((ys.take i).filter p).map g ++ (if p y = true then [g y] else []) := by
  rw [List.take_add_one, h, List.filter_append, List.map_append]
  congr 1
  by_cases c : p y = true
  · rw [if_pos c]; simp [c]
  · rw [if_neg c]; simp [c]
theorem lc_fm {α : Type} {K : PySem.W.Frag} {a : Addr} (ys : List α) (e : α → V) (p : α → Bool) (gv : α → V) {k : Nat} {tt : TT} {te : TE} {vs : List Nat} {σ : L2.St} {H1 : Hp} {D : Addr} {Qd : Hp → Prop} (hD : H1 D = none) (hL : H1 a = some (.lst (ys.map e)))
    (hn : ys.length ≤ 100000) (hw : ∀ x, wipe ((wipe σ vs).set k (some x)) vs = wipe σ vs)
    (ht : ∀ (y : α) (H : Hp) (Kt : Bool → Hp → Prop), y ∈ ys → Same H1 H → Kt (p y) H → tt ((wipe σ vs).set k (some (e y))) H Kt)
    (he : ∀ (y : α) (H : Hp) (Kt : VK), y ∈ ys → p y = true → Same H1 H → Kt (gv y) H → te ((wipe σ vs).set k (some (e y))) H Kt)
    (hd : ∀ H, Same H1 H → H D = some (.lst ((ys.filter p).map gv)) → Qd H) :
    ∃ W : Nat → Nat → Hp → Prop, (∃ m, W 0 m (upd H1 D (.lst []))) ∧ ∀ i m H, W i m H →
      ((Itl K a).stop i H ∧ Qd H) ∨ ((Itl K a).go i H ∧ ∃ Nx : Hp → Prop, (∀ H', Nx H' → ∃ m', m' < m ∧ W (i + 1) m' H') ∧ ∀ x H', (Itl K a).yld i H x H' → gName k x (wipe σ vs) H' fun σ2 H2 => wipe σ2 vs = wipe σ vs ∧ tt σ2 H2 fun b H3 =>
        if b = true then te σ2 H3 fun y H4 => ∃ acc, H4 D = some (.lst acc) ∧ acc.length < sizeLine ∧ Nx (upd H4 D (.lst (acc ++ [y]))) else Nx H3) := by
  refine lc_list (xs := ys.map e) (fun i H => Same H1 H ∧ H D = some (.lst (((ys.take i).filter p).map gv))) ⟨same_new (Same.refl _) hD, upd_same⟩ (fun i H _ ⟨s1, _⟩ => SqL.of (s1 _ _ hL)) (fun i x H hx ⟨s1, e1⟩ => ?_) (fun H ⟨s1, e1⟩ => hd H s1 ?_)
  · rw [List.getElem?_map] at hx
    obtain ⟨y, hy, rfl⟩ := Option.map_eq_some_iff.mp hx
    have hm : y ∈ ys := List.mem_of_getElem? hy
    have hi : i < ys.length := by
      rcases Nat.lt_or_ge i ys.length with h | h
      · exact h
      · rw [List.getElem?_eq_none h] at hy; cases hy
    refine ⟨hw _, ht y H _ hm s1 ?_⟩
    by_cases c : p y = true
    · rw [if_pos c]
      refine he y H _ hm c s1 ⟨_, e1, ?_, same_but hD s1 but_app, ?_⟩
      · have h1 := List.length_filter_le p (ys.take i)
        have h2 := List.length_take_le i ys
        rw [List.length_map]
        exact Nat.lt_of_le_of_lt (by omega : _ ≤ 100000) (by decide)
      · rw [upd_same, take_fm hy, if_pos c]
    · rw [if_neg c]
      refine ⟨s1, ?_⟩
      rw [take_fm hy, if_neg c, List.append_nil]
      exact e1
  · rw [e1, List.length_map, List.take_length]
def Nd.isFact : Nd → Bool
  | .fact _ => true
  | _ => false
def Nd.num : Nd → Nat
  | .fact k => k
  | _ => 0
def Nd.word : Nd → Str
  | .zero => "zero"
  | .one => "one"
  | .fact _ => "fact"
  | .star _ => "star"
  | .plus _ => "plus"
  | .times _ => "times"
theorem Nd.vals0 (nd : Nd) (l : Addr) : (nd.vals l)[0]? = some (.str nd.word) := by cases nd <;> rfl
theorem Nd.fact_word (nd : Nd) : decide (V.str nd.word = V.str "fact") = nd.isFact := by
  cases nd with
  | zero => exact (show decide (V.str "zero" = V.str "fact") = false by decide +kernel)
  | one => exact (show decide (V.str "one" = V.str "fact") = false by decide +kernel)
  | fact k => exact (show decide (V.str "fact" = V.str "fact") = true by decide +kernel)
  | star n => exact (show decide (V.str "star" = V.str "fact") = false by decide +kernel)
  | plus ps => exact (show decide (V.str "plus" = V.str "fact") = false by decide +kernel)
  | times ps => exact (show decide (V.str "times" = V.str "fact") = false by decide +kernel)
/-- the facts that are reached from n -/
def spFactsIn (P : Program) (w : World) (C : Addr) : Sp := fun vs H Q _ => ∃ c S D tbl, ∃ (n : Nat), vs = [.ref c, .int (n : Int)] ∧ Circ P w C H c S D tbl ∧ Wf tbl ∧ tbl.Nodup ∧ tbl.length < 64 ∧ n < tbl.length ∧
  ∀ H' l ks, Same H H' → H' l = some (.lst (nV ks)) → ks.Nodup → ks.Pairwise (· ≤ ·) → (∀ k, k ∈ ks ↔ ∃ m, Rch tbl n m ∧ tbl[m]? = some (.fact k)) → Q (.ref l) H'
theorem ok_Circuits_facts_in (c_nodes_within : CalX P w K mg base 2 "nodes_within" (spWithin P w ad.Circuits)) {f : Addr} {fd : FuncData} (F : Fun K "facts_in" "Circuits.facts_in" s_Circuits_facts_in f fd) (T : Txt K mg ad) : FnOk P w K mg base (L2.CX P w) 3 f fd ["self", "node"] (spFactsIn P w ad.Circuits) := by
  refine F.okX sc_Circuits_facts_in (fun vs H Q E => ?_) (fun cdv A outer s H vs Q E hr h => ?_)
  · walk_at "len"
  ·
    obtain ⟨c, S, D, tbl, n, rfl, cc, wf, tnd, hl, hn, k⟩ := h
    refine ⟨_, (pss_cons (ps_setLc (i := 2) (own := [("part", 3)]) (tt := tYes) rfl sc_Circuits_facts_in.nd rfl rfl (sw_true rfl rfl rfl (by decide +kernel)) (pi_list (pc_call c_nodes_within hr (by first | decide | omega) (takes_of rfl rfl rfl rfl) (by rfl) (pa_cons (pv 0) (pa_cons (pe_lst (pa_cons (pv 1) pa_nil)) pa_nil)))) (blkOk_by (by kernel_rfl)) (fun _ _ _ _ _ => (pg_name (i := 3) sc_Circuits_facts_in.nd rfl (by first | exact Or.inl rfl | exact Or.inr rfl))) (fun _ _ _ _ _ => pts_nil) (fun _ _ _ _ _ => (pe_ix (kix_list (K := K)) (kpe_fld (K := K) (pv 0) rfl) (pv 3) (fun _ _ => rfl))))
      (pss_one (ps_ret (pe_callB cr_sortedI (by rfl) T.z_sorted (by decide +kernel) (pa_cons (pe_lc (own := [("one", 4)]) rfl sc_Circuits_facts_in.nd (pi_list (pv 2)) (blkOk_by (by kernel_rfl)) (fun _ _ _ _ _ => (pg_name (i := 4) sc_Circuits_facts_in.nd rfl (by first | exact Or.inl rfl | exact Or.inr rfl))) (fun _ _ _ _ _ => (pts_one (pt_cmpR op_eq (pe_ix (kix_tup (K := K)) (pv 4) pe_int (fun _ _ => rfl)) pe_str (nomark _)))) (fun _ _ _ _ _ => (pe_ix (kix_tup (K := K)) (pv 4) pe_int (fun _ _ => rfl)))) pa_nil))))), ?_⟩
    obtain ⟨dx, hc⟩ := cc.ins
    obtain ⟨as, hS, hk⟩ := cc.shown
    refine ⟨_, rfl, _, rfl, (show 1 ≤ sizeLine by decide), fun L hL => ?_⟩
    have s1 : Same H (upd H L (.lst [.int (n : Int)])) := same_new (Same.refl _) hL
    refine ⟨c, S, D, tbl, L, n, rfl, cc.same s1, wf, hl, hn, upd_same, fun H2 l ys s2 e2 ynd yp ym => ?_⟩
    have s02 : Same H H2 := fun b u e => s2 _ _ (s1 _ _ e)
    refine ⟨l, rfl, ⟨_, SqL.of e2⟩, fun D1 hD1 => ?_⟩
    have ylt : ∀ y ∈ ys, y < tbl.length := fun y hy => Nat.lt_of_le_of_lt (((ym y).mp hy).le wf) hn
    have alen : as.length = tbl.length := by
      have := Kys.length hk
      rw [List.length_map, List.length_map] at this
      exact this.symm
    have ylen : ys.length ≤ 64 := by
      have h1 := ynd.length_le_of_subset (l₂ := List.range tbl.length) fun m hm => List.mem_range.mpr (ylt m hm)
      rw [List.length_range] at h1
      omega
    have aat : ∀ y ∈ ys, (as.map V.ref)[y]? = some (.ref (as.getD y 0)) := fun y hy => by
      have hya : y < as.length := by rw [alen]; exact ylt y hy
      rw [List.getElem?_map, List.getD_eq_getElem?_getD, List.getElem?_eq_getElem hya]
      rfl
    have nat_ : ∀ y ∈ ys, ∃ nd, tbl[y]? = some nd ∧ NdAt H (as.getD y 0) nd := fun y hy => by
      have hyt := ylt y hy
      obtain ⟨x, ex, ky⟩ := Kys.at (i := y) (k := tK tbl[y]) hk (by rw [List.getElem?_map, List.getElem?_eq_getElem hyt]; rfl)
      rw [aat y hy] at ex
      cases ex
      exact ⟨_, List.getElem?_eq_getElem hyt, ky⟩
    refine lc_fm ys (fun y => .int (y : Int)) (fun _ => true) (fun y => .ref (as.getD y 0)) hD1 e2 (by omega) (fun _ => rfl) (fun y H Kt _ _ h => yes_then h) (fun y H3 Kt hy _ s3 h => ?_) (fun H4 s4 e4 => ?_)
    · have s03 : Same H H3 := fun b u e => s3 _ _ (s02 _ _ e)
      exact ⟨_, rfl, c, _, dx, _, _, rfl, s03 _ _ hc, T.c_Circuits, T.n_shown, fC_s _ _, _, rfl, S, _, _, _, rfl, rfl, SqL.of (s03 _ _ hS), at_of (j := y) rfl (aat y hy), h⟩
    · rw [List.filter_eq_self.mpr (fun _ _ => rfl)] at e4
      have s04 : Same H H4 := fun b u e => s4 _ _ (s02 _ _ e)
      refine go_name rfl (go_nx ?_)
      refine ⟨_, rfl, D1, rfl, ⟨_, SqL.of e4⟩, fun D2 hD2 => ?_⟩
      refine lc_fm ys (fun y => .ref (as.getD y 0)) (fun y => (tbl.getD y .zero).isFact) (fun y => .int ((tbl.getD y .zero).num : Nat)) hD2 e4 (by omega) (fun _ => rfl) (fun y H5 Kt hy s5 h => ?_) (fun y H5 Kt hy hp s5 h => ?_) (fun H5 s5 e5 => ?_)
      · obtain ⟨nd, e1, ha⟩ := nat_ y hy
        obtain ⟨l1, e6, _⟩ := ha.inv
        have e7 := s5 _ _ (s04 _ _ e6)
        have eg : tbl.getD y .zero = nd := by rw [List.getD_eq_getElem?_getD, e1]; rfl
        refine ⟨_, rfl, _, _, _, _, rfl, rfl, SqT.of e7, at_of (j := 0) rfl (nd.vals0 l1), rfl, _, rfl, ?_⟩
        rw [Nd.fact_word, ← eg]
        exact h
      · obtain ⟨nd, e1, ha⟩ := nat_ y hy
        obtain ⟨l1, e6, _⟩ := ha.inv
        have e7 := s5 _ _ (s04 _ _ e6)
        have eg : tbl.getD y .zero = nd := by rw [List.getD_eq_getElem?_getD, e1]; rfl
        rw [eg] at hp h
        cases nd with
        | fact kk => exact ⟨_, rfl, _, _, _, _, rfl, rfl, SqT.of e7, at_of (j := 1) rfl rfl, h⟩
        | _ => exact absurd (show false = true from hp) Bool.false_ne_true
      · refine ⟨D2, (((ys.filter fun y => (tbl.getD y .zero).isFact).map fun y => (tbl.getD y .zero).num).map fun (m : Nat) => (m : Int)), rfl, SqL.of (by rw [e5]; simp only [List.map_map]; rfl), fun ns' q hp hs hq => ?_⟩
        rw [sortN_of hp hs, int_map]
        have hperm := sortN_perm ((ys.filter fun y => (tbl.getD y .zero).isFact).map fun y => (tbl.getD y .zero).num)
        have fget : ∀ y ∈ ys.filter (fun y => (tbl.getD y .zero).isFact), tbl[y]? = some (.fact (tbl.getD y .zero).num) := fun y hy => by
          obtain ⟨h1, h2⟩ := List.mem_filter.mp hy
          have hyt := ylt y h1
          have eg : tbl.getD y .zero = tbl[y] := by rw [List.getD_eq_getElem?_getD, List.getElem?_eq_getElem hyt]; rfl
          rw [eg] at h2 ⊢
          rw [List.getElem?_eq_getElem hyt]
          cases e : tbl[y] with
          | fact kk => rfl
          | _ =>
            rw [e] at h2
            exact absurd (show false = true from h2) Bool.false_ne_true
        refine k _ q _ (fun b u e => new2 s5 hq _ _ (s04 _ _ e)) upd_same (hperm.nodup_iff.mpr ?_) (sortN_rises _) fun kk => ?_
        · refine List.pairwise_map.mpr ((ynd.sublist List.filter_sublist).imp_of_mem fun {a b} ha hb hab z => hab ?_)
          have h1 := fget a ha
          have h2 := fget b hb
          rw [← z] at h2
          exact (List.getElem?_inj (ylt a (List.mem_filter.mp ha).1) tnd).mp (h1.trans h2.symm)
        · rw [hperm.mem_iff]
          constructor
          · intro hm
            obtain ⟨y, hy, rfl⟩ := List.mem_map.mp hm
            exact ⟨y, (ym y).mp (List.mem_filter.mp hy).1, fget y hy⟩
          · rintro ⟨m, hr, hm⟩
            have eg : tbl.getD m .zero = .fact kk := by rw [List.getD_eq_getElem?_getD, hm]; rfl
            exact List.mem_map.mpr ⟨m, List.mem_filter.mpr ⟨(ym m).mpr hr, by rw [eg]; rfl⟩, by rw [eg]; rfl⟩
end
end K12

set_option Elab.async false
set_option linter.all false
set_option maxRecDepth 100000
set_option maxHeartbeats 4000000
namespace K12
open PySem L2 Ew Tb ND
local macro_rules | `(tactic| walk_at "len") => `(tactic| first | (intro h; obtain ⟨_, e, _⟩ := h; rw [e]; rfl) | (intro h; obtain ⟨_, _, e, _⟩ := h; rw [e]; rfl) | (intro h; obtain ⟨_, _, _, e, _⟩ := h; rw [e]; rfl) | (intro h; obtain ⟨_, _, _, _, e, _⟩ := h; rw [e]; rfl) | (intro h; obtain ⟨_, _, _, _, _, e, _⟩ := h; rw [e]; rfl) | (intro h; obtain ⟨_, _, _, _, _, _, e, _⟩ := h; rw [e]; rfl) | (intro h; obtain ⟨_, _, _, _, _, _, _, e, _⟩ := h; rw [e]; rfl) | (intro h; exact h.elim))
def isI : V → Bool
  | .int _ => true
  | _ => false
/-- a thing whose type isinstance tells -/
inductive Thg (H : Hp) : V → Prop where
  | non : Thg H .non
  | bl (b : Bool) : Thg H (.bl b)
  | int (i : Int) : Thg H (.int i)
  | str (x : Str) : Thg H (.str x)
  | lst {a : Addr} {xs : List V} (e : H a = some (.lst xs)) : Thg H (.ref a)
  | tup {a : Addr} {xs : List V} (e : H a = some (.tup xs)) : Thg H (.ref a)
/-- (isinstance(x, int), isinstance(x, bool)) -/
theorem thg_ty {K : PySem.W.Frag} {H : Hp} {x : V} (h : Thg H x) : ∃ t, TyX K H x t ∧ (∃ b1 b2, PySem.W.kitOne K t (.type "int") = some b1 ∧ PySem.W.kitOne K t (.type "bool") = some b2 ∧ (b1 && !b2) = isI x ∧ (b1 = false → isI x = false)) := by
  cases h with
  | non => exact ⟨_, .base .non, false, false, kit_ty (by decide +kernel), kit_ty (by decide +kernel), rfl, fun _ => rfl⟩
  | bl b => exact ⟨_, .base (.bl b), true, true, kit_ty (by decide +kernel), kit_ty (by decide +kernel), rfl, fun _ => rfl⟩
  | int i => exact ⟨_, .base (.int i), true, false, kit_ty (by decide +kernel), kit_ty (by decide +kernel), rfl, fun z => by cases z⟩
  | str b => exact ⟨_, .base (.str b), false, false, kit_ty (by decide +kernel), kit_ty (by decide +kernel), rfl, fun _ => rfl⟩
  | lst e => exact ⟨_, .base (.lst e), false, false, kit_ty (by decide +kernel), kit_ty (by decide +kernel), rfl, fun _ => rfl⟩
  | tup e => exact ⟨_, .base (.tup e), false, false, kit_ty (by decide +kernel), kit_ty (by decide +kernel), rfl, fun _ => rfl⟩
/-- two values are the same thing, n levels deep at most -/
inductive Dd (H : Hp) : Nat → V → V → Prop
  | non {n : Nat} : Dd H (n + 1) .non .non
  | bl {n : Nat} (b : Bool) : Dd H (n + 1) (.bl b) (.bl b)
  | int {n : Nat} (i : Int) : Dd H (n + 1) (.int i) (.int i)
  | str {n : Nat} (x : Str) : Dd H (n + 1) (.str x) (.str x)
  | lst {n : Nat} {a b : Addr} {xs ys : List V} : H a = some (.lst xs) → H b = some (.lst ys) → xs.length = ys.length → ys.length ≤ 100000 → (∀ (i : Nat) x y, xs[i]? = some x → ys[i]? = some y → Dd H n x y) → Dd H (n + 1) (.ref a) (.ref b)
  | tup {n : Nat} {a b : Addr} {xs ys : List V} : H a = some (.tup xs) → H b = some (.tup ys) → xs.length = ys.length → ys.length ≤ 100000 → (∀ (i : Nat) x y, xs[i]? = some x → ys[i]? = some y → Dd H n x y) → Dd H (n + 1) (.ref a) (.ref b)
theorem Dd.same {H H' : Hp} (s : Same H H') : ∀ {n : Nat} {x y : V}, Dd H n x y → Dd H' n x y := by
  intro n x y h
  induction h with
  | non => exact .non
  | bl b => exact .bl b
  | int i => exact .int i
  | str z => exact .str z
  | lst e1 e2 l l2 _ ih => exact .lst (s _ _ e1) (s _ _ e2) l l2 ih
  | tup e1 e2 l l2 _ ih => exact .tup (s _ _ e1) (s _ _ e2) l l2 ih
def spIsInt : Sp := fun vs H Q _ => ∃ x, vs = [x] ∧ Thg H x ∧ Q (.bl (isI x)) H
def spSame (n : Nat) : Sp := fun vs H Q _ => ∃ x y, vs = [x, y] ∧ Dd H n x y ∧ ∀ H', Same H H' → Q (.bl true) H'
section
variable {P : Program} {w : World} {K : PySem.W.Frag} {mg : Str → Option Value} {base : Heap} {ad : Ad}
theorem ok_law_is_int  {f : Addr} {fd : FuncData} (F : Fun K "_law_is_int" "_law_is_int" s_law_is_int f fd) (T : Txt K mg ad) : FnOk P w K mg base (L2.CX P w) 1 f fd ["value"] (spIsInt) := by
  refine F.okX sc_law_is_int (fun vs H Q E => ?_) (fun cdv A outer s H vs Q E hr h => ?_)
  · walk_at "len"
  ·
    obtain ⟨x, rfl, hx, k⟩ := h
    refine ⟨_, (pss_one (ps_ret (pe_and (pe_callB call_isi (by rfl) T.z_isinstance (by decide +kernel) (pa_cons (pv 0) (pa_cons (pe_bltn (v := .ty "int") (by rfl) T.z_int (by decide +kernel) rfl) pa_nil))) (pe_one (pe_not (pe_callB call_isi (by rfl) T.z_isinstance (by decide +kernel) (pa_cons (pv 0) (pa_cons (pe_bltn (v := .ty "bool") (by rfl) T.z_bool (by decide +kernel) rfl) pa_nil)))))))), ?_⟩
    obtain ⟨t, ty, b1, b2, e1, e2, e3, e4⟩ := thg_ty (K := K) hx
    refine ⟨_, rfl, _, _, _, _, b1, rfl, .ty _, ty, e1, b1, rfl, ?_⟩
    refine ite2 (fun c => ?_) (fun c => ?_)
    · refine ⟨_, rfl, _, _, _, _, b2, rfl, .ty _, ty, e2, b2, rfl, ?_⟩
      subst c
      rw [Bool.true_and] at e3
      rw [e3]
      exact k
    · have c' : b1 = false := by simpa using c
      have := e4 c'
      rw [this] at k
      exact k
section
variable {n lv : Nat}
theorem ok_law_same (c_law_is_int : CalX P w K mg base 1 "_law_is_int" spIsInt) (c_law_same : CalX P w K mg base lv "_law_same" (spSame n)) (h1 : 1 ≤ lv) {f : Addr} {fd : FuncData} (F : Fun K "_law_same" "_law_same" s_law_same f fd) (T : Txt K mg ad) : FnOk P w K mg base (L2.CX P w) (lv + 1) f fd ["found", "value"] (spSame (n + 1)) := by
  refine F.okX sc_law_same (fun vs H Q E => ?_) (fun cdv A outer s H vs Q E hr h => ?_)
  · walk_at "len"
  ·
    obtain ⟨x, y, rfl, hd, k⟩ := h
    refine ⟨_, (pss_cons (ps_if (pt_cmpR op_isN (pv 1) pe_non (nomark _)) (pss_one (ps_ret (pe_cmpR op_isN (pv 0) pe_non (nomark _)))) pss_nil)
      (pss_cons (ps_if (pt_val (pe_callB call_isi (by rfl) T.z_isinstance (by decide +kernel) (pa_cons (pv 1) (pa_cons (pe_bltn (v := .ty "bool") (by rfl) T.z_bool (by decide +kernel) rfl) pa_nil)))) (pss_one (ps_ret (pe_and (pe_callB call_isi (by rfl) T.z_isinstance (by decide +kernel) (pa_cons (pv 0) (pa_cons (pe_bltn (v := .ty "bool") (by rfl) T.z_bool (by decide +kernel) rfl) pa_nil))) (pe_one (pe_cmpR op_eq (pv 0) (pv 1) (nomark _)))))) pss_nil)
      (pss_cons (ps_if (pt_val (pe_callB call_isi (by rfl) T.z_isinstance (by decide +kernel) (pa_cons (pv 1) (pa_cons (pe_bltn (v := .ty "int") (by rfl) T.z_int (by decide +kernel) rfl) pa_nil)))) (pss_one (ps_ret (pe_and (pc_call c_law_is_int hr (by first | decide | omega) (takes_of rfl rfl rfl rfl) (by rfl) (pa_cons (pv 0) pa_nil)) (pe_one (pe_cmpR op_eq (pv 0) (pv 1) (nomark _)))))) pss_nil)
      (pss_cons (ps_if (pt_val (pe_callB call_isi (by rfl) T.z_isinstance (by decide +kernel) (pa_cons (pv 1) (pa_cons (pe_bltn (v := .ty "str") (by rfl) T.z_str (by decide +kernel) rfl) pa_nil)))) (pss_one (ps_ret (pe_and (pe_callB call_isi (by rfl) T.z_isinstance (by decide +kernel) (pa_cons (pv 0) (pa_cons (pe_bltn (v := .ty "str") (by rfl) T.z_str (by decide +kernel) rfl) pa_nil))) (pe_one (pe_cmpR op_eq (pv 0) (pv 1) (nomark _)))))) pss_nil)
      (pss_cons (ps_if (PW.pt (pw_or (pt_cmpR op_ne (pe_callB call_isi (by rfl) T.z_isinstance (by decide +kernel) (pa_cons (pv 1) (pa_cons (pe_bltn (v := .ty "list") (by rfl) T.z_list (by decide +kernel) rfl) pa_nil))) (pe_callB call_isi (by rfl) T.z_isinstance (by decide +kernel) (pa_cons (pv 0) (pa_cons (pe_bltn (v := .ty "list") (by rfl) T.z_list (by decide +kernel) rfl) pa_nil))) (nomark _)) (pw_or1 (pt_cmpR op_ne (pe_callB call_isi (by rfl) T.z_isinstance (by decide +kernel) (pa_cons (pv 1) (pa_cons (pe_bltn (v := .ty "tuple") (by rfl) T.z_tuple (by decide +kernel) rfl) pa_nil))) (pe_callB call_isi (by rfl) T.z_isinstance (by decide +kernel) (pa_cons (pv 0) (pa_cons (pe_bltn (v := .ty "tuple") (by rfl) T.z_tuple (by decide +kernel) rfl) pa_nil))) (nomark _))))) (pss_one (ps_ret pe_bl)) pss_nil)
      (pss_one (ps_ret (pe_and (pe_cmpR op_eq (pe_callB call_len (by rfl) T.z_len (by decide +kernel) (pa_cons (pv 0) pa_nil)) (pe_callB call_len (by rfl) T.z_len (by decide +kernel) (pa_cons (pv 1) pa_nil)) (nomark _)) (pe_one (pe_callB (cr_all rfl) (by rfl) T.z_all (by decide +kernel) (pa_cons (pe_lc (own := [("k", 2)]) (tt := tYes) rfl sc_law_same.nd (pi_range1 (by rfl) T.z_range (pa_cons (pe_callB call_len (by rfl) T.z_len (by decide +kernel) (pa_cons (pv 1) pa_nil)) pa_nil)) (blkOk_by (by kernel_rfl)) (fun _ _ _ _ _ => (pg_name (i := 2) sc_law_same.nd rfl (by first | exact Or.inl rfl | exact Or.inr rfl))) (fun _ _ _ _ _ => pts_nil) (fun _ _ _ _ _ => (pc_call c_law_same hr (by first | decide | omega) takes0 (by rfl) (pa_cons (pe_ix (kix_seq (K := K)) (pv 0) (pv 2) (fun _ _ => rfl)) (pa_cons (pe_ix (kix_seq (K := K)) (pv 1) (pv 2) (fun _ _ => rfl)) pa_nil))))) pa_nil))))))))))), ?_⟩
    cases hd with
    | non =>
      refine ⟨_, rfl, rfl, _, rfl, iteT ?_⟩
      exact ⟨_, rfl, rfl, k H (Same.refl _)⟩
    | bl b =>
      refine ⟨_, rfl, rfl, _, rfl, iteF (go_next ?_)⟩
      refine ⟨_, rfl, _, _, _, _, true, rfl, .ty _, .base (.bl b), kit_ty (by decide +kernel), true, rfl, iteT ?_⟩
      refine ⟨_, rfl, _, _, _, _, true, rfl, .ty _, .base (.bl b), kit_ty (by decide +kernel), true, rfl, iteT ?_⟩
      refine ⟨_, rfl, _, rfl, rfl, ?_⟩
      rw [decide_eq_true rfl]
      exact k H (Same.refl _)
    | int i =>
      refine ⟨_, rfl, rfl, _, rfl, iteF (go_next ?_)⟩
      refine ⟨_, rfl, _, _, _, _, false, rfl, .ty _, .base (.int i), kit_ty (by decide +kernel), false, rfl, iteF (go_next ?_)⟩
      refine ⟨_, rfl, _, _, _, _, true, rfl, .ty _, .base (.int i), kit_ty (by decide +kernel), true, rfl, iteT ?_⟩
      refine ⟨_, rfl, .int i, rfl, .int i, ?_⟩
      refine ⟨_, rfl, iteT ?_⟩
      refine ⟨_, rfl, _, rfl, rfl, ?_⟩
      rw [decide_eq_true rfl]
      exact k H (Same.refl _)
    | str z =>
      refine ⟨_, rfl, rfl, _, rfl, iteF (go_next ?_)⟩
      refine ⟨_, rfl, _, _, _, _, false, rfl, .ty _, .base (.str z), kit_ty (by decide +kernel), false, rfl, iteF (go_next ?_)⟩
      refine ⟨_, rfl, _, _, _, _, false, rfl, .ty _, .base (.str z), kit_ty (by decide +kernel), false, rfl, iteF (go_next ?_)⟩
      refine ⟨_, rfl, _, _, _, _, true, rfl, .ty _, .base (.str z), kit_ty (by decide +kernel), true, rfl, iteT ?_⟩
      refine ⟨_, rfl, _, _, _, _, true, rfl, .ty _, .base (.str z), kit_ty (by decide +kernel), true, rfl, iteT ?_⟩
      refine ⟨_, rfl, _, rfl, rfl, ?_⟩
      rw [decide_eq_true rfl]
      exact k H (Same.refl _)
    | lst e1 e2 l l2 r =>
      refine ⟨_, rfl, rfl, _, rfl, iteF (go_next ?_)⟩
      refine ⟨_, rfl, _, _, _, _, false, rfl, .ty _, .base (.lst e2), kit_ty (by decide +kernel), false, rfl, iteF (go_next ?_)⟩
      refine ⟨_, rfl, _, _, _, _, false, rfl, .ty _, .base (.lst e2), kit_ty (by decide +kernel), false, rfl, iteF (go_next ?_)⟩
      refine ⟨_, rfl, _, _, _, _, false, rfl, .ty _, .base (.lst e2), kit_ty (by decide +kernel), false, rfl, iteF (go_next ?_)⟩
      refine ⟨_, rfl, _, _, _, _, true, rfl, .ty _, .base (.lst e2), kit_ty (by decide +kernel), _, rfl, _, _, _, _, true, rfl, .ty _, .base (.lst e1), kit_ty (by decide +kernel), rfl, ?_⟩
      refine ⟨_, rfl, iteF ?_⟩
      refine ⟨_, rfl, _, _, _, _, false, rfl, .ty _, .base (.lst e2), kit_ty (by decide +kernel), _, rfl, _, _, _, _, false, rfl, .ty _, .base (.lst e1), kit_ty (by decide +kernel), rfl, ?_⟩
      refine ⟨_, rfl, iteF (go_next ?_)⟩
      rename_i a b xs ys
      refine ⟨_, rfl, .ref a, _, rfl, .inl ⟨_, SqL.of e1, rfl⟩, _, rfl, .ref b, _, rfl, .inl ⟨_, SqL.of e2, rfl⟩, rfl, ?_⟩
      rw [l, decide_eq_true rfl]
      refine ⟨_, rfl, iteT ?_⟩
      refine ⟨_, rfl, .ref b, _, rfl, .inl ⟨_, SqL.of e2, rfl⟩, _, rfl, by omega, by omega, fun D hD => ?_⟩
      rw [Int.toNat_natCast]
      refine lc_vals (lo := 0) (fun _ => .bl true) hD l2 (fun _ => rfl) (fun i H2 Kt hi s2 h => ?_) (fun H2 s2 eD => ?_)
      · rw [Int.zero_add]
        have hx : xs[i]? = some xs[i] := List.getElem?_eq_getElem (by omega)
        have hy : ys[i]? = some ys[i] := List.getElem?_eq_getElem hi
        refine ⟨_, rfl, _, rfl, .inl ⟨a, xs, _, xs[i], rfl, rfl, SqL.of (s2 _ _ e1), at_of (j := i) rfl hx, _, rfl, _, rfl, .inl ⟨b, ys, _, ys[i], rfl, rfl, SqL.of (s2 _ _ e2), at_of (j := i) rfl hy, ?_⟩⟩⟩
        exact ⟨_, _, rfl, (r i _ _ hx hy).same s2, fun H4 s4 => h H4 s4⟩
      · refine ⟨D, (List.range ys.length).map fun _ => true, rfl, SqL.of (by rw [eD, List.map_map]; rfl), ?_⟩
        rw [List.all_map, show (List.range ys.length).all (id ∘ fun (_ : Nat) => true) = true from List.all_eq_true.mpr fun _ _ => rfl]
        exact k H2 s2
    | tup e1 e2 l l2 r =>
      refine ⟨_, rfl, rfl, _, rfl, iteF (go_next ?_)⟩
      refine ⟨_, rfl, _, _, _, _, false, rfl, .ty _, .base (.tup e2), kit_ty (by decide +kernel), false, rfl, iteF (go_next ?_)⟩
      refine ⟨_, rfl, _, _, _, _, false, rfl, .ty _, .base (.tup e2), kit_ty (by decide +kernel), false, rfl, iteF (go_next ?_)⟩
      refine ⟨_, rfl, _, _, _, _, false, rfl, .ty _, .base (.tup e2), kit_ty (by decide +kernel), false, rfl, iteF (go_next ?_)⟩
      refine ⟨_, rfl, _, _, _, _, false, rfl, .ty _, .base (.tup e2), kit_ty (by decide +kernel), _, rfl, _, _, _, _, false, rfl, .ty _, .base (.tup e1), kit_ty (by decide +kernel), rfl, ?_⟩
      refine ⟨_, rfl, iteF ?_⟩
      refine ⟨_, rfl, _, _, _, _, true, rfl, .ty _, .base (.tup e2), kit_ty (by decide +kernel), _, rfl, _, _, _, _, true, rfl, .ty _, .base (.tup e1), kit_ty (by decide +kernel), rfl, ?_⟩
      refine ⟨_, rfl, iteF (go_next ?_)⟩
      rename_i a b xs ys
      refine ⟨_, rfl, .ref a, _, rfl, .inr ⟨_, SqT.of e1, rfl⟩, _, rfl, .ref b, _, rfl, .inr ⟨_, SqT.of e2, rfl⟩, rfl, ?_⟩
      rw [l, decide_eq_true rfl]
      refine ⟨_, rfl, iteT ?_⟩
      refine ⟨_, rfl, .ref b, _, rfl, .inr ⟨_, SqT.of e2, rfl⟩, _, rfl, by omega, by omega, fun D hD => ?_⟩
      rw [Int.toNat_natCast]
      refine lc_vals (lo := 0) (fun _ => .bl true) hD l2 (fun _ => rfl) (fun i H2 Kt hi s2 h => ?_) (fun H2 s2 eD => ?_)
      · rw [Int.zero_add]
        have hx : xs[i]? = some xs[i] := List.getElem?_eq_getElem (by omega)
        have hy : ys[i]? = some ys[i] := List.getElem?_eq_getElem hi
        refine ⟨_, rfl, _, rfl, .inr (.inl ⟨a, xs, _, xs[i], rfl, rfl, SqT.of (s2 _ _ e1), at_of (j := i) rfl hx, _, rfl, _, rfl, .inr (.inl ⟨b, ys, _, ys[i], rfl, rfl, SqT.of (s2 _ _ e2), at_of (j := i) rfl hy, ?_⟩)⟩)⟩
        exact ⟨_, _, rfl, (r i _ _ hx hy).same s2, fun H4 s4 => h H4 s4⟩
      · refine ⟨D, (List.range ys.length).map fun _ => true, rfl, SqL.of (by rw [eD, List.map_map]; rfl), ?_⟩
        rw [List.all_map, show (List.range ys.length).all (id ∘ fun (_ : Nat) => true) = true from List.all_eq_true.mpr fun _ _ => rfl]
        exact k H2 s2
end
end
end K12

set_option Elab.async false
set_option linter.all false
set_option maxRecDepth 100000
set_option maxHeartbeats 4000000
namespace K12
open PySem L2 Ew Tb ND
local macro_rules | `(tactic| walk_at "len") => `(tactic| first | (intro h; obtain ⟨_, e, _⟩ := h; rw [e]; rfl) | (intro h; obtain ⟨_, _, e, _⟩ := h; rw [e]; rfl) | (intro h; obtain ⟨_, _, _, e, _⟩ := h; rw [e]; rfl) | (intro h; obtain ⟨_, _, _, _, e, _⟩ := h; rw [e]; rfl) | (intro h; obtain ⟨_, _, _, _, _, e, _⟩ := h; rw [e]; rfl) | (intro h; obtain ⟨_, _, _, _, _, _, e, _⟩ := h; rw [e]; rfl) | (intro h; obtain ⟨_, _, _, _, _, _, _, e, _⟩ := h; rw [e]; rfl) | (intro h; exact h.elim))
section
variable {P : Program} {w : World} {K : PySem.W.Frag} {mg : Str → Option Value} {base : Heap} {ad : Ad}
/-! ### a new store -/
theorem two_kv (a b : Addr) : kvOf (mergeE [] [(tK .zero, a, .int 0), (tK .one, b, .int 1)]) = kvT 0 [.zero, .one] := by
  rw [kv_merge]
  have n1 : ¬ (tK .zero = tK .one) := fun z => nomatch (tK_inj z)
  show putK (putK [] (tK .zero) (V.int 0)) (tK .one) (V.int 1) = _
  rw [putK_new (kvs := []) _ rfl, putK_new _ (by rw [List.nil_append, valV_neg n1]; rfl)]
  rfl
/-- all but what stands at c is as it was -/
def Fr1' (a : Addr) (H H' : Hp) : Prop := ∀ b o, b ≠ a → H b = some o → H' b = some o
def spInit (P : Program) (w : World) (C : Addr) : Sp := fun vs H Q _ => ∃ c dc, vs = [.ref c] ∧ H c = some (.ins C dc []) ∧
  ∀ H' S D, Fr1' c H H' → H S = none → H D = none → Circ P w C H' c S D [.zero, .one] → Q .non H'
theorem ok_Circuits_init  {f : Addr} {fd : FuncData} (F : Fun K "__init__" "Circuits.__init__" s_Circuits_init f fd) (T : Txt K mg ad) : FnOk P w K mg base (L2.CX P w) 1 f fd ["self"] (spInit P w ad.Circuits) := by
  refine F.okX sc_Circuits_init (fun vs H Q E => ?_) (fun cdv A outer s H vs Q E hr h => ?_)
  · walk_at "len"
  ·
    obtain ⟨c, dc, rfl, hc, k⟩ := h
    refine ⟨_, (pss_cons (ps_fld (pv 0) (pe_lst (pa_cons (pe_tup (pa_cons pe_str pa_nil)) (pa_cons (pe_tup (pa_cons pe_str pa_nil)) pa_nil))) rfl)
      (pss_one (ps_fld (pv 0) (ND.pe_ndisp (ND.hu9 hr) (pps_cons (pe_tup (pa_cons pe_str pa_nil)) (pe_gint (by rfl) T.g_ZERO) (pps_cons (pe_tup (pa_cons pe_str pa_nil)) (pe_gint (by rfl) T.g_ONE) pps_nil)) rfl rfl (by simp) (by decide)) rfl))), ?_⟩
    refine ⟨(show 1 ≤ sizeLine by decide), fun p1 hp1 => ⟨(show 1 ≤ sizeLine by decide), fun p2 hp2 => ⟨(show 2 ≤ sizeLine by decide), fun S hS => ?_⟩⟩⟩
    have t1 : Same H (upd H p1 (.tup [.str "zero"])) := same_new (Same.refl _) hp1
    have t2 := new2 (o := .tup [.str "one"]) t1 hp2
    have t3 := new2 (o := .lst [.ref p1, .ref p2]) t2 hS
    have hc1 := t3 _ _ hc
    have ncS : c ≠ S := ne_of_none (t2 _ _ hc) hS
    refine ⟨_, rfl, c, ad.Circuits, dc, [], rfl, hc1, T.c_Circuits, T.n_shown, by decide, go_nx ?_⟩
    intro D φ hD hA
    have none_of : ∀ {H1 H2 : Hp} {b : Addr}, Same H1 H2 → H2 b = none → H1 b = none := fun {H1 H2 b} s e => by
      cases h : H1 b with
      | none => rfl
      | some u => rw [s _ _ h] at e; cases e
    have f3 : Fr1' c H (upd (upd (upd (upd H p1 (.tup [.str "zero"])) p2 (.tup [.str "one"])) S (.lst [.ref p1, .ref p2])) c (.ins ad.Circuits dc (putF "_shown" (.ref S) []))) := fun b o nb e => by
      rw [upd_ne nb]
      exact t3 _ _ e
    have hcD : c ≠ D := fun z => by rw [← z, upd_same] at hD; cases hD
    refine ⟨(show 1 ≤ sizeLine by decide), fun q1 hq1 => ⟨(show 1 ≤ sizeLine by decide), fun q2 hq2 => ?_⟩⟩
    have g1 := same_new (o := .tup [.str "zero"]) (Same.refl _) hq1
    have g2 := new2 (o := .tup [.str "one"]) g1 hq2
    have hSD : S ≠ D := fun z => by rw [← z, upd_ne (Ne.symm ncS), upd_same] at hD; cases hD
    have eD := g2 _ _ (upd_same (a := D))
    have ez := g2 D
    have eQ1 := (same_new (o := .tup [.str "one"]) (Same.refl _) hq2) _ _ (upd_same (a := q1))
    have cx := g2 _ _ (show _ = some (HO.ins ad.Circuits dc (putF "_shown" (.ref S) [])) from (upd_ne hcD).trans upd_same)
    have sx := g2 _ _ (show _ = some (HO.lst [.ref p1, .ref p2]) from (upd_ne hSD).trans ((upd_ne (Ne.symm ncS)).trans upd_same))
    refine ⟨eD, [(tK .zero, q1, .int 0), (tK .one, q2, .int 1)], .cons (.tup eQ1 (.cons (.str _) .nil)) (by decide +kernel) (.cons (.tup upd_same (.cons (.str _) .nil)) (by decide +kernel) .nil), (show 2 ≤ 15 by decide), fun φ' hA' => ?_⟩
    rw [two_kv] at hA'
    refine ⟨_, rfl, c, ad.Circuits, dc, _, rfl, (upd_ne hcD).trans cx, T.c_Circuits, T.n_numbers, (show 1 < 1000 by decide), ?_⟩
    have tup1 : ∀ {b : Addr} {ys : List V}, upd (upd (upd H p1 (.tup [.str "zero"])) p2 (.tup [.str "one"])) S (.lst [.ref p1, .ref p2]) b = some (.tup ys) → b ≠ c ∧ b ≠ D := fun {b ys} e => by
      have n1 : b ≠ c := fun z => by rw [z, hc1] at e; cases e
      exact ⟨n1, fun z => by rw [← z, upd_ne n1, e] at hD; cases hD⟩
    refine k _ S D (fun b o nb e => ?_) (none_of t2 hS) ?_ ⟨⟨dc, upd_same⟩, ⟨[p1, p2], (upd_ne (Ne.symm ncS)).trans ((upd_ne hSD).trans sx), ?_⟩, hA'.keeps (fun u e => ?_) fun b ys e => ?_⟩
    · have nD : b ≠ D := fun z => by rw [z] at e nb; rw [f3 _ _ nb e] at hD; cases hD
      rw [upd_ne nb, upd_ne nD]
      exact g2 _ _ ((upd_ne nD).trans (f3 _ _ nb e))
    · cases h : H D with
      | none => rfl
      | some u => rw [f3 _ _ (Ne.symm hcD) h] at hD; cases hD
    · have a1 := (same_new (o := .lst [.ref p1, .ref p2]) (Same.refl _) hS) _ _ ((same_new (o := .tup [.str "one"]) (Same.refl _) hp2) _ _ (upd_same (a := p1)))
      have a2 := (same_new (o := .lst [.ref p1, .ref p2]) (Same.refl _) hS) _ _ (upd_same (a := p2))
      refine .cons (.tup (xs := [.str "zero"]) ?_ (.cons (.str _) .nil)) (.cons (.tup (xs := [.str "one"]) ?_ (.cons (.str _) .nil)) .nil)
      · rw [upd_ne (tup1 a1).1, upd_ne (tup1 a1).2]
        exact g2 _ _ (by rw [upd_ne (tup1 a1).2, upd_ne (tup1 a1).1]; exact a1)
      · rw [upd_ne (tup1 a2).1, upd_ne (tup1 a2).2]
        exact g2 _ _ (by rw [upd_ne (tup1 a2).2, upd_ne (tup1 a2).1]; exact a2)
    · rw [upd_ne (Ne.symm hcD)]; exact e
    · have n1 : b ≠ c := fun z => by rw [z, upd_ne hcD, cx] at e; cases e
      rw [upd_ne n1]; exact e
end
end K12

set_option Elab.async false
set_option linter.all false
set_option maxRecDepth 100000
set_option maxHeartbeats 4000000
namespace K12
open PySem L2 Ew Tb ND
local macro_rules | `(tactic| walk_at "len") => `(tactic| first | (intro h; obtain ⟨_, e, _⟩ := h; rw [e]; rfl) | (intro h; obtain ⟨_, _, e, _⟩ := h; rw [e]; rfl) | (intro h; obtain ⟨_, _, _, e, _⟩ := h; rw [e]; rfl) | (intro h; obtain ⟨_, _, _, _, e, _⟩ := h; rw [e]; rfl) | (intro h; obtain ⟨_, _, _, _, _, e, _⟩ := h; rw [e]; rfl) | (intro h; obtain ⟨_, _, _, _, _, _, e, _⟩ := h; rw [e]; rfl) | (intro h; obtain ⟨_, _, _, _, _, _, _, e, _⟩ := h; rw [e]; rfl) | (intro h; exact h.elim))
section
variable {P : Program} {w : World} {K : PySem.W.Frag} {mg : Str → Option Value} {base : Heap} {ad : Ad}
/-! ### the law's own table -/
/-- the law's own list of nodes -/
def Tab (H : Hp) (N : Addr) (tbl : List Nd) : Prop := ∃ bs : List Addr, H N = some (.lst (bs.map V.ref)) ∧ Kys H (tbl.map tK) (bs.map V.ref)
inductive Kn where
  | fact | star | kd (d : Kd)
def Kn.word : Kn → Str
  | .fact => "fact"
  | .star => "star"
  | .kd d => d.word
def Kd.isT : Kd → Bool
  | .plus => false
  | .times => true
def idxN (tbl : List Nd) (nd : Nd) : List Nd × Nat := (insN tbl nd, (insN tbl nd).idxOf nd)
/-- what is asked gives: the table behind, the node -/
def askN (tbl : List Nd) (ps : List Nat) : Kn → List Nd × Nat
  | .fact => idxN tbl (.fact (ps.getD 0 0))
  | .star => if ps.getD 0 0 = 0 then (tbl, 1) else idxN tbl (.star (ps.getD 0 0))
  | .kd .plus => sevN tbl .plus (ps.filter fun n => decide (n ≠ 0))
  | .kd .times => if 0 ∈ ps then (tbl, 0) else sevN tbl .times (ps.filter fun n => decide (n ≠ 1))
theorem ask_kd (tbl : List Nd) {ps : List Nat} {d : Kd} (h : d.isT = true → ¬ 0 ∈ ps) : askN tbl ps (.kd d) = sevN tbl d (ps.filter fun n => decide (n ≠ d.neu)) := by
  cases d with
  | plus => rfl
  | times => exact if_neg (h rfl)
def tailDue (K : PySem.W.Frag) : TS := tSeq (tIfS (tTest (tOp (rInK K true) (tVar 3) (tVar 0))) (tDrop (tBM K "list" rAppend (tVar 0) (tCons (tVar 3) tNil))) tNext) (tRet (tBM K "list" (rIndexK K) (tVar 0) (tCons (tVar 3) tNil)))
theorem mem_tK {nd : Nd} {tbl : List Nd} : tK nd ∈ tbl.map tK ↔ nd ∈ tbl := by
  constructor
  · intro h
    obtain ⟨x, hx, e⟩ := List.mem_map.mp h
    rw [← tK_inj e]
    exact hx
  · exact fun h => List.mem_map.mpr ⟨nd, h, rfl⟩
theorem idx_tK {nd : Nd} : ∀ {tbl : List Nd}, (tbl.map tK).idxOf (tK nd) = tbl.idxOf nd
  | [] => rfl
  | a :: tbl => by
    have ih := idx_tK (nd := nd) (tbl := tbl)
    rw [List.map_cons, List.idxOf_cons, List.idxOf_cons, ih]
    by_cases c : a = nd
    · subst c; simp
    · rw [show (a == nd) = false from beq_eq_false_iff_ne.mpr c, show (tK a == tK nd) = false from beq_eq_false_iff_ne.mpr fun z => c (tK_inj z)]
theorem tail_due {K : PySem.W.Frag} {σ : L2.St} {H : Hp} {N a : Addr} {tbl : List Nd} {nd : Nd} (D : Ends) (h0 : σ[0]? = some (some (.ref N))) (h3 : σ[3]? = some (some (.ref a))) (ht : Tab H N tbl) (ha : NdAt H a nd) (hl : tbl.length < 1000)
    (k : ∀ H', Fr1' N H H' → Tab H' N (insN tbl nd) → D.rt (.int ((insN tbl nd).idxOf nd : Nat)) H') : tailDue K D σ H := by
  obtain ⟨bs, hN, hk⟩ := ht
  have hlen : bs.length = tbl.length := by
    have := Kys.length hk
    rw [List.length_map, List.length_map] at this
    exact this.symm
  refine ⟨_, h3, _, h0, _, N, _, _, rfl, SqL.of hN, ha, nd.depth8, hk, ?_⟩
  by_cases m : nd ∈ tbl
  · rw [decide_eq_true (mem_tK.mpr m)]
    refine ⟨_, rfl, iteF (go_next ?_)⟩
    refine ⟨_, h0, .inl ⟨rfl, _, SqL.of hN⟩, _, h3, N, _, _, _, _, rfl, rfl, SqL.of hN, ha, nd.depth8, hk, mem_tK.mpr m, ?_⟩
    rw [idx_tK]
    have hi : insN tbl nd = tbl := by unfold insN; rw [if_pos m]
    have := k H (fun _ _ _ e => e) (by rw [hi]; exact ⟨bs, hN, hk⟩)
    rw [hi] at this
    exact this
  · rw [decide_eq_false (fun z => m (mem_tK.mp z))]
    refine ⟨_, rfl, iteT ?_⟩
    have hi : insN tbl nd = tbl ++ [nd] := by unfold insN; rw [if_neg m]
    refine ⟨_, h0, .inl ⟨rfl, _, SqL.of hN⟩, _, h3, N, _, _, rfl, rfl, hN, (by rw [List.length_map, hlen]; exact Nat.lt_trans hl (by decide)), go_nx ?_⟩
    have tups : ∀ b ys, H b = some (.tup ys) → upd H N (.lst (bs.map V.ref ++ [.ref a])) b = some (.tup ys) := fun b ys e => by
      rw [upd_ne (ne_of e hN (fun z => nomatch z))]
      exact e
    have hk2 : Kys (upd H N (.lst (bs.map V.ref ++ [.ref a]))) ((tbl ++ [nd]).map tK) (bs.map V.ref ++ [.ref a]) := by
      rw [List.map_append]
      exact Kys.snoc (ha.keeps tups) (hk.keeps tups)
    refine ⟨_, h0, .inl ⟨rfl, _, SqL.of upd_same⟩, _, h3, N, _, _, _, _, rfl, rfl, SqL.of upd_same, ha.keeps tups, nd.depth8, hk2, mem_tK.mpr (by simp), ?_⟩
    rw [idx_tK]
    have := k (upd H N (.lst (bs.map V.ref ++ [.ref a]))) (fun b o nb e => by rw [upd_ne nb]; exact e) (by rw [hi]; exact ⟨bs ++ [a], by rw [upd_same, List.map_append]; rfl, by rw [List.map_append (l₁ := bs)]; exact hk2⟩)
    rw [hi] at this
    exact this
theorem Tab.same {H H' : Hp} {N : Addr} {tbl : List Nd} (x : Tab H N tbl) (s : Same H H') : Tab H' N tbl := let ⟨bs, e, k⟩ := x; ⟨bs, s _ _ e, k.keeps fun b ys e => s _ _ e⟩
def spDue : Sp := fun vs H Q _ => ∃ (N L : Addr) (kn : Kn) (ps : List Nat) (tbl : List Nd), vs = [.ref N, .str kn.word, .ref L] ∧ Tab H N tbl ∧ tbl.length < 1000 ∧ H L = some (.lst (nV ps)) ∧ ps.length ≤ 1000 ∧ (kn = .fact ∨ kn = .star → 0 < ps.length) ∧ L ≠ N ∧
  ∀ H', Fr1' N H H' → Tab H' N (askN tbl ps kn).1 → Q (.int ((askN tbl ps kn).2 : Nat)) H'
theorem ok_law_due  {f : Addr} {fd : FuncData} (F : Fun K "_law_due" "_law_due" s_law_due f fd) (T : Txt K mg ad) : FnOk P w K mg base (L2.CX P w) 1 f fd ["nodes", "kind", "parts"] (spDue) := by
  refine F.okX sc_law_due (fun vs H Q E => ?_) (fun cdv A outer s H vs Q E hr h => ?_)
  · walk_at "len"
  ·
    obtain ⟨N, L, kn, ps, tbl, rfl, ht, hl, hL, hps, h0, hLN, k⟩ := h
    refine ⟨_, (pss_cons (ps_if (pt_cmpR op_eq (pv 1) pe_str (nomark _)) (pss_one (ps_set (i := 3) sc_law_due.nd rfl (by first | exact Or.inl rfl | exact Or.inr rfl) (pe_tup (pa_cons pe_str (pa_cons (pe_ix ix_list (pv 2) pe_int (fun _ _ => rfl)) pa_nil))))) (pss_one (ps_if (pt_cmpR op_eq (pv 1) pe_str (nomark _)) (pss_cons (ps_if (pt_cmpR op_eq (pe_ix ix_list (pv 2) pe_int (fun _ _ => rfl)) pe_int (nomark _)) (pss_one (ps_ret pe_int)) pss_nil)
      (pss_one (ps_set (i := 3) sc_law_due.nd rfl (by first | exact Or.inl rfl | exact Or.inr rfl) (pe_tup (pa_cons pe_str (pa_cons (pe_ix ix_list (pv 2) pe_int (fun _ _ => rfl)) pa_nil)))))) (pss_cons (ps_set (i := 4) sc_law_due.nd rfl (by first | exact Or.inl rfl | exact Or.inr rfl) (pe_ix ix_list (pe_lst (pa_cons pe_int (pa_cons pe_int pa_nil))) (pe_callTy call_int1 (by rfl) T.z_int (by decide +kernel) (pa_cons (pe_cmpR op_eq (pv 1) pe_str (nomark _)) pa_nil)) (fun _ _ => rfl)))
      (pss_cons (ps_if (PW.pt (pw_and (pt_cmpR op_eq (pv 1) pe_str (nomark _)) (pw_and1 (pt_cmpR op_in_seq pe_int (pv 2) (by rfl))))) (pss_one (ps_ret pe_int)) pss_nil)
      (pss_cons (ps_set (i := 5) sc_law_due.nd rfl (by first | exact Or.inl rfl | exact Or.inr rfl) (pe_callB cr_sortedI (by rfl) T.z_sorted (by decide +kernel) (pa_cons (pe_lc (own := [("part", 6)]) rfl sc_law_due.nd (pi_list (pv 2)) (blkOk_by (by kernel_rfl)) (fun _ _ _ _ _ => (pg_name (i := 6) sc_law_due.nd rfl (by first | exact Or.inl rfl | exact Or.inr rfl))) (fun _ _ _ _ _ => (pts_one (pt_cmpR op_ne (pv 6) (pv 4) (nomark _)))) (fun _ _ _ _ _ => (pv 6))) pa_nil)))
      (pss_cons (ps_if (pt_cmpR op_eq (pe_callB call_len (by rfl) T.z_len (by decide +kernel) (pa_cons (pv 5) pa_nil)) pe_int (nomark _)) (pss_one (ps_ret (pv 4))) pss_nil)
      (pss_cons (ps_if (pt_cmpR op_eq (pe_callB call_len (by rfl) T.z_len (by decide +kernel) (pa_cons (pv 5) pa_nil)) pe_int (nomark _)) (pss_one (ps_ret (pe_ix ix_list (pv 5) pe_int (fun _ _ => rfl)))) pss_nil)
      (pss_one (ps_set (i := 3) sc_law_due.nd rfl (by first | exact Or.inl rfl | exact Or.inr rfl) (pe_tup (pa_cons (pv 1) (pa_cons (pe_callTy call_tuple_of (by rfl) T.z_tuple (by decide +kernel) (pa_cons (pv 5) pa_nil)) pa_nil)))))))))))))
      (pss_cons (ps_if (pt_cmpR (ND.op_notInK (ND.hu9 hr)) (pv 3) (pv 0) (by rfl)) (pss_one (ps_expr (pe_bm PySem.F.plainAttrs_list PySem.F.slot_list_append PySem.F.type_list_append mt_append (pv 0) (pa_cons (pv 3) pa_nil)))) pss_nil)
      (pss_one (ps_ret (pe_bm PySem.F.plainAttrs_list PySem.F.slot_list_index PySem.F.type_list_index (ND.mt_indexK (ND.hu9 hr)) (pv 0) (pa_cons (pv 3) pa_nil)))))), ?_⟩
    cases kn with
    | fact =>
      refine ⟨_, rfl, rfl, _, rfl, iteT ?_⟩
      obtain ⟨p, ps, rfl⟩ : ∃ p qs, ps = p :: qs := by
        cases ps with
        | nil => exact absurd (h0 (.inl rfl)) (Nat.lt_irrefl 0)
        | cons p qs => exact ⟨p, qs, rfl⟩
      refine ⟨_, rfl, L, _, _, _, rfl, rfl, SqL.of hL, at_of (j := 0) rfl rfl, (show 2 ≤ sizeLine by decide), fun a ha => go_name rfl (go_nx ?_)⟩
      have s1 : Same H (upd H a (.tup [.str "fact", .int (p : Int)])) := same_new (Same.refl _) ha
      exact tail_due (nd := .fact p) _ rfl rfl (ht.same s1) (.tup upd_same (.cons (.str _) (.cons (.int _) .nil))) hl fun H' fr ht' => k H' (fun b o nb e => fr b o nb (s1 _ _ e)) ht'
    | star =>
      obtain ⟨p, ps, rfl⟩ : ∃ p qs, ps = p :: qs := by
        cases ps with
        | nil => exact absurd (h0 (.inr rfl)) (Nat.lt_irrefl 0)
        | cons p qs => exact ⟨p, qs, rfl⟩
      refine ⟨_, rfl, rfl, _, rfl, iteF ?_⟩
      refine ⟨_, rfl, rfl, _, rfl, iteT ?_⟩
      refine ⟨_, rfl, L, _, _, _, rfl, rfl, SqL.of hL, at_of (j := 0) rfl rfl, rfl, _, rfl, ?_⟩
      by_cases z : p = 0
      · subst z
        exact iteT (k H (fun _ _ _ e => e) ht)
      · rw [decide_eq_false (show ¬ V.int (p : Int) = V.int 0 from fun y => z (by injection y with y; omega))]
        refine iteF (go_next ?_)
        refine ⟨_, rfl, L, _, _, _, rfl, rfl, SqL.of hL, at_of (j := 0) rfl rfl, (show 2 ≤ sizeLine by decide), fun a ha => go_name rfl (go_nx ?_)⟩
        have s1 : Same H (upd H a (.tup [.str "star", .int (p : Int)])) := same_new (Same.refl _) ha
        have ea : askN tbl (p :: ps) .star = idxN tbl (.star p) := if_neg z
        rw [ea] at k
        exact tail_due (nd := .star p) _ rfl rfl (ht.same s1) (.tup upd_same (.cons (.str _) (.cons (.int _) .nil))) hl fun H' fr ht' => k H' (fun b o nb e => fr b o nb (s1 _ _ e)) ht'
    | kd d =>
      have w1 : ¬ V.str d.word = V.str "fact" := by cases d <;> decide +kernel
      have w2 : ¬ V.str d.word = V.str "star" := by cases d <;> decide +kernel
      refine ⟨_, rfl, rfl, _, rfl, ?_⟩
      rw [show decide (V.str (Kn.kd d).word = V.str "fact") = false from decide_eq_false w1]
      refine iteF ?_
      refine ⟨_, rfl, rfl, _, rfl, ?_⟩
      rw [show decide (V.str (Kn.kd d).word = V.str "star") = false from decide_eq_false w2]
      refine iteF ?_
      have ew : decide (V.str (Kn.kd d).word = V.str "times") = d.isT := by cases d <;> decide +kernel
      refine go_seq ⟨(show 2 ≤ sizeLine by decide), fun q hq => ⟨_, rfl, rfl, ?_⟩⟩
      rw [ew]
      refine .inr ⟨d.isT, rfl, ?_⟩
      refine ⟨q, _, _, .int (d.neu : Int), rfl, rfl, SqL.of upd_same, at_of (j := d.neu) (by cases d <;> rfl) (by cases d <;> rfl), go_name rfl ?_⟩
      have s1 : Same H (upd H q (.lst [.int 0, .int 1])) := same_new (Same.refl _) hq
      have hL1 := s1 _ _ hL
      refine ⟨_, rfl, rfl, _, rfl, ?_⟩
      rw [ew]
      have fr1 : ∀ {H2 : Hp}, Same H H2 → Fr1' N H H2 := fun s b o _ e => s _ _ e
      cases hT : d.isT
      case' false =>
        have hz : d.isT = true → ¬ 0 ∈ ps := fun h => by rw [hT] at h; cases h
        refine iteF (iteF (go_next ?_))
      case' true =>
        refine iteT ⟨.ref L, rfl, L, nV ps, rfl, .inl (SqL.of hL1), rfl, nV_flat ps, _, rfl, ?_⟩
        rw [show (if false = true then !inV (.int 0) (nV ps) else inV (.int 0) (nV ps)) = decide (0 ∈ ps) from inV_nV 0 ps]
        by_cases z : 0 ∈ ps
        · rw [decide_eq_true z]
          have ea : askN tbl ps (.kd d) = (tbl, 0) := by
            cases d
            · cases hT
            · exact if_pos z
          rw [ea] at k
          exact iteT (k _ (fr1 s1) (ht.same s1))
        rw [decide_eq_false z]
        have hz : d.isT = true → ¬ 0 ∈ ps := fun _ => z
        refine iteF (go_next ?_)
      all_goals
        rw [ask_kd tbl hz] at k
        refine go_seq ⟨_, rfl, L, rfl, ⟨_, SqL.of hL1⟩, fun D hD => ?_⟩
        refine lc_filL (fun n => decide (n ≠ d.neu)) hD hL1 (by omega) (fun _ => rfl) (fun x H Kt _ h => ?_) (fun x H Kt h => ⟨_, rfl, h⟩) (fun H2 s2 e2 => ?_)
        · rw [ne_dec] at h
          exact ⟨_, rfl, _, rfl, rfl, _, rfl, h⟩
        have s02 : Same H H2 := fun b u e => s2 _ _ (s1 _ _ e)
        generalize (ps.filter fun n => decide (n ≠ d.neu)) = fs at k e2
        refine ⟨D, fs.map (fun (n : Nat) => (n : Int)), rfl, SqL.of (by rw [int_map]; exact e2), fun ns' p hp hs hpn => go_name rfl ?_⟩
        rw [sortN_of hp hs, int_map]
        have s3 := new2 (o := .lst (nV (sortN fs))) s02 hpn
        have ln : (nV (sortN fs)).length = fs.length := by rw [List.length_map]; exact (sortN_perm fs).length_eq
        refine ⟨_, rfl, .ref p, _, rfl, .inl ⟨_, SqL.of upd_same, rfl⟩, rfl, _, rfl, ?_⟩
        rw [ln]
        rcases fs with _ | ⟨f0, _ | ⟨f1, fs⟩⟩
        · exact iteT ⟨_, rfl, k _ (fr1 s3) (ht.same s3)⟩
        · refine iteF (go_next ?_)
          refine ⟨_, rfl, .ref p, _, rfl, .inl ⟨_, SqL.of upd_same, rfl⟩, rfl, _, rfl, ?_⟩
          rw [ln]
          refine iteT ⟨_, rfl, p, _, _, _, rfl, rfl, SqL.of upd_same, at_of (j := 0) rfl rfl, ?_⟩
          exact k _ (fr1 s3) (ht.same s3)
        · rw [decide_eq_false (show ¬ V.int ((f0 :: f1 :: fs).length : Int) = V.int 0 from fun y => by injection y with y; rw [List.length_cons] at y; omega)]
          refine iteF (go_next ?_)
          refine ⟨_, rfl, .ref p, _, rfl, .inl ⟨_, SqL.of upd_same, rfl⟩, rfl, _, rfl, ?_⟩
          rw [ln, decide_eq_false (show ¬ V.int ((f0 :: f1 :: fs).length : Int) = V.int 1 from fun y => by injection y with y; rw [List.length_cons, List.length_cons] at y; omega)]
          refine iteF (go_next ?_)
          refine ⟨_, rfl, _, rfl, p, _, rfl, .inl ⟨SqL.of upd_same, fun l hl2 => ?_⟩⟩
          have s4 := new2 (o := .tup (nV (sortN (f0 :: f1 :: fs)))) s3 hl2
          refine ⟨(show 2 ≤ sizeLine by decide), fun a ha => go_name rfl (go_nx ?_)⟩
          have s5 := new2 (o := .tup [.str d.word, .ref l]) s4 ha
          refine tail_due (nd := d.mk (sortN (f0 :: f1 :: fs))) _ rfl rfl (ht.same s5) ?_ hl fun H' fr ht' => k H' (fun b o nb e => fr b o nb (s5 _ _ e)) ht'
          show Ky _ (.tup (d.mk (sortN (f0 :: f1 :: fs))).key) _
          rw [Kd.key]
          refine .tup upd_same (.cons (.str _) (.cons (.tup ?_ (nV_kys _)) .nil))
          rw [upd_ne (ne_of_none upd_same ha)]
          exact upd_same
end
end K12

set_option Elab.async false
set_option linter.all false
set_option maxRecDepth 100000
set_option maxHeartbeats 4000000
namespace K12
open PySem L2 Ew Tb ND
local macro_rules | `(tactic| walk_at "len") => `(tactic| first | (intro h; obtain ⟨_, e, _⟩ := h; rw [e]; rfl) | (intro h; obtain ⟨_, _, e, _⟩ := h; rw [e]; rfl) | (intro h; obtain ⟨_, _, _, e, _⟩ := h; rw [e]; rfl) | (intro h; obtain ⟨_, _, _, _, e, _⟩ := h; rw [e]; rfl) | (intro h; obtain ⟨_, _, _, _, _, e, _⟩ := h; rw [e]; rfl) | (intro h; obtain ⟨_, _, _, _, _, _, e, _⟩ := h; rw [e]; rfl) | (intro h; obtain ⟨_, _, _, _, _, _, _, e, _⟩ := h; rw [e]; rfl) | (intro h; exact h.elim))
section
variable {P : Program} {w : World} {K : PySem.W.Frag} {mg : Str → Option Value} {base : Heap} {ad : Ad}
/-! ### the law's own walk: the facts in a node -/
/-- ks are the facts that are reached from n -/
def Fk (tbl : List Nd) (n : Nat) (ks : List Nat) : Prop := ks.Nodup ∧ ∀ k, k ∈ ks ↔ ∃ m, Rch tbl n m ∧ tbl[m]? = some (.fact k)
theorem Fk.len {tbl : List Nd} {ks : List Nat} (nd : ks.Nodup) (h : ∀ k ∈ ks, ∃ m : Nat, tbl[m]? = some (.fact k)) : ks.length ≤ tbl.length := by
  have h1 : (ks.map Nd.fact).Nodup := List.pairwise_map.mpr (nd.imp fun {a b} hab z => hab (by injection z))
  have h2 := h1.length_le_of_subset (l₂ := tbl) fun x hx => by
    obtain ⟨k, hk, rfl⟩ := List.mem_map.mp hx
    obtain ⟨m, hm⟩ := h k hk
    exact List.mem_of_getElem? hm
  rwa [List.length_map] at h2
/-- one step first -/
theorem Rch.head {tbl : List Nd} {n : Nat} {nd : Nd} (e : tbl[n]? = some nd) (m : Nat) : Rch tbl n m ↔ m = n ∨ ∃ p ∈ nd.parts, Rch tbl p m := by
  constructor
  · intro h
    induction h with
    | refl => exact .inl rfl
    | step _ e2 hp ih =>
      rcases ih with rfl | ⟨p, hp1, hr⟩
      · rw [e] at e2
        cases e2
        exact .inr ⟨_, hp, .refl⟩
      · exact .inr ⟨p, hp1, .step hr e2 hp⟩
  · rintro (rfl | ⟨p, hp, hr⟩)
    · exact .refl
    · have h0 : Rch tbl n p := .step .refl e hp
      induction hr with
      | refl => exact h0
      | step _ e2 hp2 ih => exact .step ih e2 hp2
/-- a dict's keys, one more -/
def insM (fs : List Nat) (m : Nat) : List Nat := if m ∈ fs then fs else fs ++ [m]
theorem putF_insM (fs : List Nat) (m : Nat) : putK (kvF fs) (.inl (m : Int)) (.bl true) = kvF (insM fs m) := by
  unfold insM
  by_cases h : m ∈ fs
  · rw [if_pos h]
    unfold putK
    have e : ((kvF fs).any fun kv => decide (kv.1 = (.inl (m : Int) : Key))) = true := by
      refine List.any_eq_true.mpr ⟨(.inl (m : Int), .bl true), List.mem_map.mpr ⟨m, h, rfl⟩, by simp⟩
    rw [if_pos e]
    refine (List.map_congr_left fun kv hk => ?_).trans (List.map_id _)
    obtain ⟨x, _, rfl⟩ := List.mem_map.mp hk
    show (if _ then _ else _) = _
    split <;> rfl
  · rw [if_neg h, put_F h]
theorem mem_insM {fs : List Nat} {m x : Nat} : x ∈ insM fs m ↔ x ∈ fs ∨ x = m := by
  unfold insM
  split
  · rename_i h
    exact ⟨.inl, fun z => z.elim id fun e => by rw [e]; exact h⟩
  · simp
def insL (fs : List Nat) (ms : List Nat) : List Nat := ms.foldl insM fs
theorem merge_F : ∀ (ms fs : List Nat), mergeK (kvF fs) (kvF ms) = kvF (insL fs ms)
  | [], _ => rfl
  | m :: ms, fs => by
    have ih := merge_F ms (insM fs m)
    show mergeK (putK (kvF fs) (.inl (m : Int)) (.bl true)) (kvF ms) = _
    rw [putF_insM, ih]
    rfl
theorem mem_insL {x : Nat} : ∀ {ms fs : List Nat}, x ∈ insL fs ms ↔ x ∈ fs ∨ x ∈ ms
  | [], fs => by simp [insL]
  | m :: ms, fs => by
    show x ∈ insL (insM fs m) ms ↔ _
    rw [mem_insL, mem_insM, List.mem_cons]
    constructor
    · rintro ((h | h) | h)
      · exact .inl h
      · exact .inr (.inl h)
      · exact .inr (.inr h)
    · rintro (h | h | h)
      · exact .inl (.inl h)
      · exact .inl (.inr h)
      · exact .inr h
def spLF (b : Nat) : Sp := fun vs H Q _ => ∃ (N : Addr) (n : Nat) (tbl : List Nd), vs = [.ref N, .int (n : Int)] ∧ Tab H N tbl ∧ Wf tbl ∧ tbl.length < 64 ∧ n < tbl.length ∧ n < b ∧ (∀ nd ∈ tbl, nd.parts.length ≤ 1000) ∧
  ∀ H' l ks, Same H H' → H' l = some (.lst (nV ks)) → ks.Pairwise (· ≤ ·) → Fk tbl n ks → Q (.ref l) H'
section
variable {b lv : Nat}
theorem ok_law_facts (c_law_facts : CalX P w K mg base lv "_law_facts" (spLF b)) (h1 : 1 ≤ lv) {f : Addr} {fd : FuncData} (F : Fun K "_law_facts" "_law_facts" s_law_facts f fd) (T : Txt K mg ad) : FnOk P w K mg base (L2.CX P w) (lv + 1) f fd ["nodes", "node"] (spLF (b + 1)) := by
  refine F.okX sc_law_facts (fun vs H Q E => ?_) (fun cdv A outer s H vs Q E hr h => ?_)
  · walk_at "len"
  ·
    obtain ⟨N, n, tbl, rfl, ht, wf, hl, hn, hb, hps, k⟩ := h
    refine ⟨_, (pss_cons (ps_set (i := 2) sc_law_facts.nd rfl (by first | exact Or.inl rfl | exact Or.inr rfl) (pe_ix ix_list (pv 0) (pv 1) (fun _ _ => rfl)))
      (pss_cons (ps_if (pt_cmpR op_eq (pe_ix ix_tup (pv 2) pe_int (fun _ _ => rfl)) pe_str (nomark _)) (pss_one (ps_ret (pe_lst (pa_cons (pe_ix ix_tup (pv 2) pe_int (fun _ _ => rfl)) pa_nil)))) pss_nil)
      (pss_cons (ps_set (i := 3) sc_law_facts.nd rfl (by first | exact Or.inl rfl | exact Or.inr rfl) (pe_lst pa_nil))
      (pss_cons (ps_if (pt_cmpR op_eq (pe_ix ix_tup (pv 2) pe_int (fun _ _ => rfl)) pe_str (nomark _)) (pss_one (ps_set (i := 3) sc_law_facts.nd rfl (by first | exact Or.inl rfl | exact Or.inr rfl) (pc_call c_law_facts hr (by first | decide | omega) (takes_of rfl rfl rfl rfl) (by rfl) (pa_cons (pv 0) (pa_cons (pe_ix ix_tup (pv 2) pe_int (fun _ _ => rfl)) pa_nil))))) (pss_one (ps_if (pt_cmpR op_eq (pe_callB call_len (by rfl) T.z_len (by decide +kernel) (pa_cons (pv 2) pa_nil)) pe_int (nomark _)) (pss_one (ps_for (passes_of rfl) rfl (DKx.pi_keysN (pe_callTy (call_dictP rfl) (by rfl) T.z_dict (by decide +kernel) (pa_cons (pe_lc (own := [("part", 4)]) (tt := tYes) rfl sc_law_facts.nd (pi_tup (pe_ix ix_tup (pv 2) pe_int (fun _ _ => rfl))) (blkOk_by (by kernel_rfl)) (fun _ _ _ _ _ => (pg_name (i := 4) sc_law_facts.nd rfl (by first | exact Or.inl rfl | exact Or.inr rfl))) (fun _ _ _ _ _ => pts_nil) (fun _ _ _ _ _ => (pe_tup (pa_cons (pv 4) (pa_cons pe_bl pa_nil))))) pa_nil))) (pg_name (i := 4) sc_law_facts.nd rfl (by first | exact Or.inl rfl | exact Or.inr rfl)) (pss_one (ps_set (i := 3) sc_law_facts.nd rfl (by first | exact Or.inl rfl | exact Or.inr rfl) (pe_op op_cat (pv 3) (pe_lc (own := [("k", 5)]) rfl sc_law_facts.nd (pi_list (pc_call c_law_facts hr (by first | decide | omega) (takes_of rfl rfl rfl rfl) (by rfl) (pa_cons (pv 0) (pa_cons (pv 4) pa_nil)))) (blkOk_by (by kernel_rfl)) (fun _ _ _ _ _ => (pg_name (i := 5) sc_law_facts.nd rfl (by first | exact Or.inl rfl | exact Or.inr rfl))) (fun _ _ _ _ _ => (pts_one (pt_cmpR (knotIn_seq (K := K)) (pv 5) (pv 3) (by rfl)))) (fun _ _ _ _ _ => (pv 5)))))))) pss_nil)))
      (pss_one (ps_ret (pe_callB cr_sortedI (by rfl) T.z_sorted (by decide +kernel) (pa_cons (pv 3) pa_nil)))))))), ?_⟩
    obtain ⟨bs, hN, hk⟩ := id ht
    obtain ⟨x, e, ky⟩ := Kys.at (i := n) (k := tK tbl[n]) hk (by rw [List.getElem?_map, List.getElem?_eq_getElem hn]; rfl)
    have hnd : tbl[n]? = some tbl[n] := List.getElem?_eq_getElem hn
    generalize tbl[n] = nd at ky hnd
    cases ky with
    | tup e1 e2 =>
    rename_i a xs
    have ha : NdAt H a nd := .tup e1 e2
    obtain ⟨l, el, hin⟩ := ha.inv
    refine ⟨_, rfl, _, rfl, N, _, _, _, rfl, rfl, SqL.of hN, at_of (j := n) rfl e, go_name rfl ?_⟩
    refine ⟨_, rfl, a, _, _, _, rfl, rfl, SqT.of el, at_of (j := 0) rfl (nd.vals0 l), rfl, _, rfl, ?_⟩
    rw [Nd.fact_word]
    have fin : ∀ (ks : List Nat) (H1 : Hp) (q : Addr), Same H H1 → H1 q = none → Fk tbl n ks → Q (.ref q) (upd H1 q (.lst (nV (sortN ks)))) := fun ks H1 q s hq fk =>
      k _ q (sortN ks) (new2 s hq) upd_same (sortN_rises ks) ⟨(sortN_perm ks).nodup_iff.mpr fk.1, fun x => ((sortN_perm ks).mem_iff).trans (fk.2 x)⟩
    cases nd with
    | fact kk =>
      refine iteT ⟨_, rfl, a, _, _, _, rfl, rfl, SqT.of el, at_of (j := 1) rfl rfl, (show 1 ≤ sizeLine by decide), fun p hp => ?_⟩
      refine k _ p [kk] (same_new (Same.refl _) hp) upd_same (by simp) ⟨by simp, fun k2 => ?_⟩
      rw [List.mem_singleton]
      constructor
      · rintro rfl
        exact ⟨n, .refl, hnd⟩
      · rintro ⟨m, hr, hm⟩
        rcases (Rch.head hnd m).mp hr with rfl | ⟨p, hp, _⟩
        · rw [hnd] at hm
          injection hm with hm
          injection hm with hm
          exact hm.symm
        · cases hp
    | star n2 =>
      refine iteF (go_next ?_)
      refine go_seq ⟨(show 0 ≤ sizeLine by decide), fun F hF => go_name rfl ?_⟩
      have s1 : Same H (upd H F (.lst [])) := same_new (Same.refl _) hF
      refine ⟨_, rfl, a, _, _, _, rfl, rfl, SqT.of (s1 _ _ el), at_of (j := 0) rfl rfl, rfl, _, rfl, ?_⟩
      have hlt := wf n _ hnd n2 (by simp [Nd.parts])
      refine iteT ⟨_, rfl, _, rfl, a, _, _, _, rfl, rfl, SqT.of (s1 _ _ el), at_of (j := 1) rfl rfl, N, n2, tbl, rfl, ht.same s1, wf, hl, by omega, by omega, hps, fun H2 l2 ks s2 e2 _ fk => go_name rfl (go_nx ?_)⟩
      have s12 : Same H H2 := fun b u e => s2 _ _ (s1 _ _ e)
      refine ⟨_, rfl, l2, ks.map (fun (m : Nat) => (m : Int)), rfl, SqL.of (by rw [int_map]; exact e2), fun ns' q hp hs hq => ?_⟩
      rw [sortN_of hp hs, int_map]
      refine fin ks _ q s12 hq ⟨fk.1, fun x => (fk.2 x).trans ?_⟩
      constructor
      · rintro ⟨m, hr, hm⟩
        exact ⟨m, (Rch.head hnd m).mpr (.inr ⟨n2, by simp [Nd.parts], hr⟩), hm⟩
      · rintro ⟨m, hr, hm⟩
        rcases (Rch.head hnd m).mp hr with rfl | ⟨p, hp, hr2⟩
        · rw [hnd] at hm
          cases hm
        · rw [show p = n2 by simpa [Nd.parts] using hp] at hr2
          exact ⟨m, hr2, hm⟩
    | zero =>
      refine iteF (go_next ?_)
      refine go_seq ⟨(show 0 ≤ sizeLine by decide), fun F hF => go_name rfl ?_⟩
      have s1 : Same H (upd H F (.lst [])) := same_new (Same.refl _) hF
      refine ⟨_, rfl, a, _, _, _, rfl, rfl, SqT.of (s1 _ _ el), at_of (j := 0) rfl rfl, rfl, _, rfl, ?_⟩
      refine iteF ⟨_, rfl, .ref a, _, rfl, .inr ⟨_, SqT.of (s1 _ _ el), rfl⟩, rfl, _, rfl, iteF (go_nx ?_)⟩
      refine ⟨_, rfl, F, [], rfl, SqL.of upd_same, fun ns' q hp hs hq => ?_⟩
      rw [sortN_of (ns := []) hp hs, int_map]
      refine fin [] _ q s1 hq ⟨.nil, fun x => ⟨fun z => (nomatch z), fun ⟨m, hr, hm⟩ => ?_⟩⟩
      rcases (Rch.head hnd m).mp hr with rfl | ⟨p, hp, hr2⟩
      · rw [hnd] at hm
        cases hm
      · cases hp
    | one =>
      refine iteF (go_next ?_)
      refine go_seq ⟨(show 0 ≤ sizeLine by decide), fun F hF => go_name rfl ?_⟩
      have s1 : Same H (upd H F (.lst [])) := same_new (Same.refl _) hF
      refine ⟨_, rfl, a, _, _, _, rfl, rfl, SqT.of (s1 _ _ el), at_of (j := 0) rfl rfl, rfl, _, rfl, ?_⟩
      refine iteF ⟨_, rfl, .ref a, _, rfl, .inr ⟨_, SqT.of (s1 _ _ el), rfl⟩, rfl, _, rfl, iteF (go_nx ?_)⟩
      refine ⟨_, rfl, F, [], rfl, SqL.of upd_same, fun ns' q hp hs hq => ?_⟩
      rw [sortN_of (ns := []) hp hs, int_map]
      refine fin [] _ q s1 hq ⟨.nil, fun x => ⟨fun z => (nomatch z), fun ⟨m, hr, hm⟩ => ?_⟩⟩
      rcases (Rch.head hnd m).mp hr with rfl | ⟨p, hp, hr2⟩
      · rw [hnd] at hm
        cases hm
      · cases hp
    | plus pt =>
      refine iteF (go_next ?_)
      refine go_seq ⟨(show 0 ≤ sizeLine by decide), fun F hF => go_name rfl ?_⟩
      have s1 : Same H (upd H F (.lst [])) := same_new (Same.refl _) hF
      refine ⟨_, rfl, a, _, _, _, rfl, rfl, SqT.of (s1 _ _ el), at_of (j := 0) rfl rfl, rfl, _, rfl, ?_⟩
      refine iteF ⟨_, rfl, .ref a, _, rfl, .inr ⟨_, SqT.of (s1 _ _ el), rfl⟩, rfl, _, rfl, iteT ?_⟩
      have hpl : pt.length ≤ 1000 := hps _ (List.mem_of_getElem? hnd)
      have hin1 : upd H F (.lst []) l = some (.tup (nV pt)) := s1 _ _ hin
      refine ⟨_, rfl, a, _, _, _, rfl, rfl, SqT.of (s1 _ _ el), at_of (j := 1) rfl rfl, l, rfl, ⟨_, SqT.of hin1⟩, fun D hD => ?_⟩
      refine lc_tup (xs := nV pt) (fun i H' => Same (upd H F (.lst [])) H' ∧ ∃ ps : List Addr, H' D = some (.lst (ps.map V.ref)) ∧ Paired (fun p kv => H' p = some (.tup [kV kv.1, kv.2])) ps (kvF (pt.take i))) ⟨same_new (Same.refl _) hD, [], upd_same, .nil⟩ (fun i H' _ ⟨s', _⟩ => SqT.of (s' _ _ hin1)) (fun i x H' hx ⟨s', ps, e', pr⟩ => ?_) (fun H' ⟨s', ps, e', pr⟩ => ?_)
      · rw [List.getElem?_map] at hx
        obtain ⟨q, hq, rfl⟩ := Option.map_eq_some_iff.mp hx
        have hi : i < pt.length := (List.getElem?_eq_some_iff.mp hq).1
        have pl : ps.length = i := by
          have := Paired.length pr
          rw [List.length_map, List.length_take] at this
          omega
        refine ⟨rfl, yes_then (iteT ⟨_, rfl, (show 2 ≤ sizeLine by decide), fun p hp => ⟨ps.map V.ref, ?_, ?_, ?_, ps ++ [p], ?_, ?_⟩⟩)⟩
        · exact (same_new (Same.refl _) hp) _ _ e'
        · rw [List.length_map, pl]; exact Nat.lt_of_lt_of_le hi (Nat.le_trans hpl (by decide))
        · exact same_but hD (new2 s' hp) but_app
        · rw [upd_same, List.map_append]; rfl
        · have nD : ∀ b ys, upd H' p (.tup [V.int (q : Int), .bl true]) b = some (.tup ys) → upd (upd H' p (.tup [V.int (q : Int), .bl true])) D (.lst (ps.map V.ref ++ [V.ref p])) b = some (.tup ys) := fun b ys e => by
            rw [upd_ne (fun z => by rw [z, (same_new (o := .tup [V.int (q : Int), .bl true]) (Same.refl _) hp) _ _ e'] at e; cases e)]
            exact e
          rw [show kvF (pt.take (i + 1)) = kvF (pt.take i) ++ [(.inl (q : Int), .bl true)] by unfold kvF; rw [List.take_add_one, hq, List.map_append]; rfl]
          exact Paired.snoc (Paired.mono (fun b kv e => nD _ _ ((same_new (Same.refl _) hp) _ _ e)) pr) (nD _ _ upd_same)
      · have s2 : Same H H' := fun b u e => s' _ _ (s1 _ _ e)
        have eF2 : H' F = some (.lst []) := s' _ _ upd_same
        have epl : pt.take (nV pt).length = pt := by rw [List.length_map, List.take_length]
        rw [epl] at pr
        refine ⟨D, ps, kvF pt, rfl, SqL.of e', Paired.mono (fun b kv e => SqT.of e) pr, fun d hd => ⟨d, _, rfl, upd_same, fun o => ?_⟩⟩
        rw [show mergeK [] (kvF pt) = kvF (insL [] pt) from merge_F pt []]
        have mds : ∀ p, p ∈ insL [] pt ↔ p ∈ pt := fun p => by rw [mem_insL]; simp
        generalize hds : insL [] pt = ds at mds
        have s3 : Same H (upd (upd H' d (.dK (kvF ds))) d (.frz o (.dK (kvF ds)))) := fun b u e => by
          rw [upd_ne (ne_of_none (s2 _ _ e) hd), upd_ne (ne_of_none (s2 _ _ e) hd)]
          exact s2 _ _ e
        have ndF : F ≠ d := ne_of_none eF2 hd
        have hdH : H d = none := by
          cases h : H d with
          | none => rfl
          | some u => rw [s2 _ _ h] at hd; cases hd
        refine DKx.for_keysN (fun i σ H3 => ∃ (F3 : Addr) (ks : List Nat) (vp vk : Option V), σ = [some (.ref N), some (.int (n : Int)), some (.ref a), some (.ref F3), vp, vk] ∧ Same H H3 ∧ H3 d = some (.frz o (.dK (kvF ds))) ∧ H3 F3 = some (.lst (nV ks)) ∧ ks.Nodup ∧
            (∀ x, x ∈ ks ↔ ∃ p ∈ ds.take i, ∃ m, Rch tbl p m ∧ tbl[m]? = some (.fact x))) ⟨F, [], _, _, rfl, s3, upd_same, by rw [upd_ne ndF, upd_ne ndF]; exact eF2, .nil, fun x => by simp⟩
          (fun i σ H3 _ ⟨_, _, _, _, _, _, e, _⟩ => e) ?_ ?_
        · rintro i kk v σ H3 hkv ⟨F3, ks, vp, vk, rfl, s4, e4, f4, nd4, m4⟩
          rw [List.getElem?_map] at hkv
          obtain ⟨p, hp, hpe⟩ := Option.map_eq_some_iff.mp hkv
          injection hpe with h1 h2
          subst h1 h2
          refine go_name rfl ?_
          have hpd : p ∈ pt := (mds p).mp (List.mem_of_getElem? hp)
          have hpn : p < n := wf n _ hnd p hpd
          refine ⟨_, rfl, _, rfl, _, rfl, N, p, tbl, rfl, ht.same s4, wf, hl, by omega, by omega, hps, fun H5 l5 ks5 s5 e5 _ fk5 => ⟨l5, rfl, ⟨_, SqL.of e5⟩, fun D5 hD5 => ?_⟩⟩
          have s45 : Same H H5 := fun b u e => s5 _ _ (s4 _ _ e)
          have f5 := s5 _ _ f4
          have l5b : ks5.length ≤ 64 := by
            have := Fk.len fk5.1 fun x hx => let ⟨m, _, hm⟩ := (fk5.2 x).mp hx; ⟨m, hm⟩
            omega
          have l4b : ks.length ≤ 64 := by
            have := Fk.len nd4 fun x hx => let ⟨_, _, m, _, hm⟩ := (m4 x).mp hx; ⟨m, hm⟩
            omega
          refine lc_filL (fun x => !decide (x ∈ ks)) hD5 e5 (by omega) (fun _ => rfl) (fun x H6 Kt s6 h => ?_) (fun x H6 Kt h => ⟨_, rfl, h⟩) (fun H6 s6 e6 => ?_)
          · refine ⟨_, rfl, _, rfl, F3, nV ks, rfl, .inl (SqL.of (s6 _ _ f5)), rfl, nV_flat ks, _, rfl, ?_⟩
            rw [show (if true = true then !inV (.int (x : Int)) (nV ks) else inV (.int (x : Int)) (nV ks)) = !decide (x ∈ ks) by rw [if_pos rfl, inV_nV]]
            exact h
          · have s46 : Same H H6 := fun b u e => s6 _ _ (s45 _ _ e)
            have lf := List.length_filter_le (fun x => !decide (x ∈ ks)) ks5
            refine ⟨F3, D5, _, _, rfl, rfl, s6 _ _ f5, e6, ?_, fun p6 hp6 => go_name rfl (go_nx ?_)⟩
            · rw [List.length_map, List.length_map]
              exact Nat.le_trans (by omega : _ ≤ 128) (by decide)
            · refine ⟨p6, ks ++ ks5.filter (fun x => !decide (x ∈ ks)), _, _, rfl, new2 s46 hp6, ?_, ?_, ?_, ?_⟩
              · rw [upd_ne (ne_of_none (s6 _ _ (s5 _ _ e4)) hp6)]
                exact s6 _ _ (s5 _ _ e4)
              · rw [upd_same]
                unfold nV
                rw [List.map_append]
              · refine List.nodup_append.mpr ⟨nd4, fk5.1.sublist List.filter_sublist, fun x hx y hy z => ?_⟩
                subst z
                have := (List.mem_filter.mp hy).2
                simp [hx] at this
              · intro x
                rw [List.take_add_one, hp, List.mem_append, m4 x]
                constructor
                · rintro (⟨p2, hp2, z⟩ | h)
                  · exact ⟨p2, List.mem_append_left _ hp2, z⟩
                  · exact ⟨p, by simp, (fk5.2 x).mp (List.mem_filter.mp h).1⟩
                · rintro ⟨p2, hp2, z⟩
                  rcases List.mem_append.mp hp2 with h | h
                  · exact .inl ⟨p2, h, z⟩
                  · have : p2 = p := by simpa using h
                    subst this
                    by_cases c : x ∈ ks
                    · exact .inl ((m4 x).mp c)
                    · exact .inr (List.mem_filter.mpr ⟨(fk5.2 x).mpr z, by simp [c]⟩)
        · rintro σ H3 ⟨F3, ks, vp, vk, rfl, s4, e4, f4, nd4, m4⟩
          rw [show ds.take (kvF ds).length = ds by rw [List.length_map, List.take_length]] at m4
          refine ⟨_, rfl, F3, ks.map (fun (m : Nat) => (m : Int)), rfl, SqL.of (by rw [int_map]; exact f4), fun ns' q hp hs hq => ?_⟩
          rw [sortN_of hp hs, int_map]
          refine fin ks _ q s4 hq ⟨nd4, fun x => (m4 x).trans ?_⟩
          constructor
          · rintro ⟨p, hp, m, hr, hm⟩
            exact ⟨m, (Rch.head hnd m).mpr (.inr ⟨p, (mds p).mp hp, hr⟩), hm⟩
          · rintro ⟨m, hr, hm⟩
            rcases (Rch.head hnd m).mp hr with rfl | ⟨p, hp, hr2⟩
            · rw [hnd] at hm
              cases hm
            · exact ⟨p, (mds p).mpr hp, m, hr2, hm⟩
    | times pt =>
      refine iteF (go_next ?_)
      refine go_seq ⟨(show 0 ≤ sizeLine by decide), fun F hF => go_name rfl ?_⟩
      have s1 : Same H (upd H F (.lst [])) := same_new (Same.refl _) hF
      refine ⟨_, rfl, a, _, _, _, rfl, rfl, SqT.of (s1 _ _ el), at_of (j := 0) rfl rfl, rfl, _, rfl, ?_⟩
      refine iteF ⟨_, rfl, .ref a, _, rfl, .inr ⟨_, SqT.of (s1 _ _ el), rfl⟩, rfl, _, rfl, iteT ?_⟩
      have hpl : pt.length ≤ 1000 := hps _ (List.mem_of_getElem? hnd)
      have hin1 : upd H F (.lst []) l = some (.tup (nV pt)) := s1 _ _ hin
      refine ⟨_, rfl, a, _, _, _, rfl, rfl, SqT.of (s1 _ _ el), at_of (j := 1) rfl rfl, l, rfl, ⟨_, SqT.of hin1⟩, fun D hD => ?_⟩
      refine lc_tup (xs := nV pt) (fun i H' => Same (upd H F (.lst [])) H' ∧ ∃ ps : List Addr, H' D = some (.lst (ps.map V.ref)) ∧ Paired (fun p kv => H' p = some (.tup [kV kv.1, kv.2])) ps (kvF (pt.take i))) ⟨same_new (Same.refl _) hD, [], upd_same, .nil⟩ (fun i H' _ ⟨s', _⟩ => SqT.of (s' _ _ hin1)) (fun i x H' hx ⟨s', ps, e', pr⟩ => ?_) (fun H' ⟨s', ps, e', pr⟩ => ?_)
      · rw [List.getElem?_map] at hx
        obtain ⟨q, hq, rfl⟩ := Option.map_eq_some_iff.mp hx
        have hi : i < pt.length := (List.getElem?_eq_some_iff.mp hq).1
        have pl : ps.length = i := by
          have := Paired.length pr
          rw [List.length_map, List.length_take] at this
          omega
        refine ⟨rfl, yes_then (iteT ⟨_, rfl, (show 2 ≤ sizeLine by decide), fun p hp => ⟨ps.map V.ref, ?_, ?_, ?_, ps ++ [p], ?_, ?_⟩⟩)⟩
        · exact (same_new (Same.refl _) hp) _ _ e'
        · rw [List.length_map, pl]; exact Nat.lt_of_lt_of_le hi (Nat.le_trans hpl (by decide))
        · exact same_but hD (new2 s' hp) but_app
        · rw [upd_same, List.map_append]; rfl
        · have nD : ∀ b ys, upd H' p (.tup [V.int (q : Int), .bl true]) b = some (.tup ys) → upd (upd H' p (.tup [V.int (q : Int), .bl true])) D (.lst (ps.map V.ref ++ [V.ref p])) b = some (.tup ys) := fun b ys e => by
            rw [upd_ne (fun z => by rw [z, (same_new (o := .tup [V.int (q : Int), .bl true]) (Same.refl _) hp) _ _ e'] at e; cases e)]
            exact e
          rw [show kvF (pt.take (i + 1)) = kvF (pt.take i) ++ [(.inl (q : Int), .bl true)] by unfold kvF; rw [List.take_add_one, hq, List.map_append]; rfl]
          exact Paired.snoc (Paired.mono (fun b kv e => nD _ _ ((same_new (Same.refl _) hp) _ _ e)) pr) (nD _ _ upd_same)
      · have s2 : Same H H' := fun b u e => s' _ _ (s1 _ _ e)
        have eF2 : H' F = some (.lst []) := s' _ _ upd_same
        have epl : pt.take (nV pt).length = pt := by rw [List.length_map, List.take_length]
        rw [epl] at pr
        refine ⟨D, ps, kvF pt, rfl, SqL.of e', Paired.mono (fun b kv e => SqT.of e) pr, fun d hd => ⟨d, _, rfl, upd_same, fun o => ?_⟩⟩
        rw [show mergeK [] (kvF pt) = kvF (insL [] pt) from merge_F pt []]
        have mds : ∀ p, p ∈ insL [] pt ↔ p ∈ pt := fun p => by rw [mem_insL]; simp
        generalize hds : insL [] pt = ds at mds
        have s3 : Same H (upd (upd H' d (.dK (kvF ds))) d (.frz o (.dK (kvF ds)))) := fun b u e => by
          rw [upd_ne (ne_of_none (s2 _ _ e) hd), upd_ne (ne_of_none (s2 _ _ e) hd)]
          exact s2 _ _ e
        have ndF : F ≠ d := ne_of_none eF2 hd
        have hdH : H d = none := by
          cases h : H d with
          | none => rfl
          | some u => rw [s2 _ _ h] at hd; cases hd
        refine DKx.for_keysN (fun i σ H3 => ∃ (F3 : Addr) (ks : List Nat) (vp vk : Option V), σ = [some (.ref N), some (.int (n : Int)), some (.ref a), some (.ref F3), vp, vk] ∧ Same H H3 ∧ H3 d = some (.frz o (.dK (kvF ds))) ∧ H3 F3 = some (.lst (nV ks)) ∧ ks.Nodup ∧
            (∀ x, x ∈ ks ↔ ∃ p ∈ ds.take i, ∃ m, Rch tbl p m ∧ tbl[m]? = some (.fact x))) ⟨F, [], _, _, rfl, s3, upd_same, by rw [upd_ne ndF, upd_ne ndF]; exact eF2, .nil, fun x => by simp⟩
          (fun i σ H3 _ ⟨_, _, _, _, _, _, e, _⟩ => e) ?_ ?_
        · rintro i kk v σ H3 hkv ⟨F3, ks, vp, vk, rfl, s4, e4, f4, nd4, m4⟩
          rw [List.getElem?_map] at hkv
          obtain ⟨p, hp, hpe⟩ := Option.map_eq_some_iff.mp hkv
          injection hpe with h1 h2
          subst h1 h2
          refine go_name rfl ?_
          have hpd : p ∈ pt := (mds p).mp (List.mem_of_getElem? hp)
          have hpn : p < n := wf n _ hnd p hpd
          refine ⟨_, rfl, _, rfl, _, rfl, N, p, tbl, rfl, ht.same s4, wf, hl, by omega, by omega, hps, fun H5 l5 ks5 s5 e5 _ fk5 => ⟨l5, rfl, ⟨_, SqL.of e5⟩, fun D5 hD5 => ?_⟩⟩
          have s45 : Same H H5 := fun b u e => s5 _ _ (s4 _ _ e)
          have f5 := s5 _ _ f4
          have l5b : ks5.length ≤ 64 := by
            have := Fk.len fk5.1 fun x hx => let ⟨m, _, hm⟩ := (fk5.2 x).mp hx; ⟨m, hm⟩
            omega
          have l4b : ks.length ≤ 64 := by
            have := Fk.len nd4 fun x hx => let ⟨_, _, m, _, hm⟩ := (m4 x).mp hx; ⟨m, hm⟩
            omega
          refine lc_filL (fun x => !decide (x ∈ ks)) hD5 e5 (by omega) (fun _ => rfl) (fun x H6 Kt s6 h => ?_) (fun x H6 Kt h => ⟨_, rfl, h⟩) (fun H6 s6 e6 => ?_)
          · refine ⟨_, rfl, _, rfl, F3, nV ks, rfl, .inl (SqL.of (s6 _ _ f5)), rfl, nV_flat ks, _, rfl, ?_⟩
            rw [show (if true = true then !inV (.int (x : Int)) (nV ks) else inV (.int (x : Int)) (nV ks)) = !decide (x ∈ ks) by rw [if_pos rfl, inV_nV]]
            exact h
          · have s46 : Same H H6 := fun b u e => s6 _ _ (s45 _ _ e)
            have lf := List.length_filter_le (fun x => !decide (x ∈ ks)) ks5
            refine ⟨F3, D5, _, _, rfl, rfl, s6 _ _ f5, e6, ?_, fun p6 hp6 => go_name rfl (go_nx ?_)⟩
            · rw [List.length_map, List.length_map]
              exact Nat.le_trans (by omega : _ ≤ 128) (by decide)
            · refine ⟨p6, ks ++ ks5.filter (fun x => !decide (x ∈ ks)), _, _, rfl, new2 s46 hp6, ?_, ?_, ?_, ?_⟩
              · rw [upd_ne (ne_of_none (s6 _ _ (s5 _ _ e4)) hp6)]
                exact s6 _ _ (s5 _ _ e4)
              · rw [upd_same]
                unfold nV
                rw [List.map_append]
              · refine List.nodup_append.mpr ⟨nd4, fk5.1.sublist List.filter_sublist, fun x hx y hy z => ?_⟩
                subst z
                have := (List.mem_filter.mp hy).2
                simp [hx] at this
              · intro x
                rw [List.take_add_one, hp, List.mem_append, m4 x]
                constructor
                · rintro (⟨p2, hp2, z⟩ | h)
                  · exact ⟨p2, List.mem_append_left _ hp2, z⟩
                  · exact ⟨p, by simp, (fk5.2 x).mp (List.mem_filter.mp h).1⟩
                · rintro ⟨p2, hp2, z⟩
                  rcases List.mem_append.mp hp2 with h | h
                  · exact .inl ⟨p2, h, z⟩
                  · have : p2 = p := by simpa using h
                    subst this
                    by_cases c : x ∈ ks
                    · exact .inl ((m4 x).mp c)
                    · exact .inr (List.mem_filter.mpr ⟨(fk5.2 x).mpr z, by simp [c]⟩)
        · rintro σ H3 ⟨F3, ks, vp, vk, rfl, s4, e4, f4, nd4, m4⟩
          rw [show ds.take (kvF ds).length = ds by rw [List.length_map, List.take_length]] at m4
          refine ⟨_, rfl, F3, ks.map (fun (m : Nat) => (m : Int)), rfl, SqL.of (by rw [int_map]; exact f4), fun ns' q hp hs hq => ?_⟩
          rw [sortN_of hp hs, int_map]
          refine fin ks _ q s4 hq ⟨nd4, fun x => (m4 x).trans ?_⟩
          constructor
          · rintro ⟨p, hp, m, hr, hm⟩
            exact ⟨m, (Rch.head hnd m).mpr (.inr ⟨p, (mds p).mp hp, hr⟩), hm⟩
          · rintro ⟨m, hr, hm⟩
            rcases (Rch.head hnd m).mp hr with rfl | ⟨p, hp, hr2⟩
            · rw [hnd] at hm
              cases hm
            · exact ⟨p, (mds p).mpr hp, m, hr2, hm⟩
end
end
end K12

set_option Elab.async false
set_option linter.all false
set_option maxRecDepth 100000
set_option maxHeartbeats 4000000
namespace K12
open PySem L2 Ew Tb ND
local macro_rules | `(tactic| walk_at "len") => `(tactic| first | (intro h; obtain ⟨_, e, _⟩ := h; rw [e]; rfl) | (intro h; obtain ⟨_, _, e, _⟩ := h; rw [e]; rfl) | (intro h; obtain ⟨_, _, _, e, _⟩ := h; rw [e]; rfl) | (intro h; obtain ⟨_, _, _, _, e, _⟩ := h; rw [e]; rfl) | (intro h; obtain ⟨_, _, _, _, _, e, _⟩ := h; rw [e]; rfl) | (intro h; obtain ⟨_, _, _, _, _, _, e, _⟩ := h; rw [e]; rfl) | (intro h; obtain ⟨_, _, _, _, _, _, _, e, _⟩ := h; rw [e]; rfl) | (intro h; exact h.elim))
/-! ### the law's own draws -/
/-- all but what stands at a is as it was -/
def Fr1 (a : Addr) (H H' : Hp) : Prop := ∀ b o, b ≠ a → H b = some o → H' b = some o
theorem Fr1.refl (a : Addr) (H : Hp) : Fr1 a H H := fun _ _ _ h => h
theorem Fr1.trans {a : Addr} {H H1 H2 : Hp} (x : Fr1 a H H1) (y : Fr1 a H1 H2) : Fr1 a H H2 := fun b o n h => y b o n (x b o n h)
theorem Fr1.upd {a : Addr} {H H1 : Hp} {o : HO} (x : Fr1 a H H1) : Fr1 a H (upd H1 a o) := fun b u n h => by rw [upd_ne n]; exact x b u n h
theorem Fr1.of {a : Addr} {H H1 : Hp} (x : Same H H1) : Fr1 a H H1 := fun b o _ h => x b o h
theorem Fr1.new {a p : Addr} {H H1 : Hp} {o : HO} (x : Fr1 a H H1) (h : H p = none) : Fr1 a H (L2.upd H1 p o) := fun b u n e => by rw [upd_ne (ne_of_none e h)]; exact x b u n e
theorem same_new {p : Addr} {H H1 : Hp} {o : HO} (x : Same H H1) (h : H p = none) : Same H (L2.upd H1 p o) := fun b u e => by rw [upd_ne (ne_of_none e h)]; exact x b u e
/-- the pot: what is drawn from -/
def PotAt (H : Hp) (a : Addr) : Prop := ∃ (b : Addr) (ns : List Int) (i c sd : Int), H a = some (.lst [.ref b, .int i, .int c, .int sd]) ∧ H b = some (.lst (ns.map V.int)) ∧ b ≠ a ∧ 0 ≤ i ∧ 0 ≤ c ∧ 0 ≤ sd
theorem PotAt.same {H H' : Hp} {a : Addr} (p : PotAt H a) (s : Same H H') : PotAt H' a := by
  obtain ⟨b, ns, i, c, sd, h1, h2, h3, h4⟩ := p
  exact ⟨b, ns, i, c, sd, s _ _ h1, s _ _ h2, h3, h4⟩
/-- the same, its list at b -/
def PotB (H : Hp) (a b : Addr) : Prop := ∃ (ns : List Int) (i c sd : Int), H a = some (.lst [.ref b, .int i, .int c, .int sd]) ∧ H b = some (.lst (ns.map V.int)) ∧ b ≠ a ∧ 0 ≤ i ∧ 0 ≤ c ∧ 0 ≤ sd
theorem PotB.at_ {H : Hp} {a b : Addr} (p : PotB H a b) : PotAt H a := let ⟨ns, i, c, sd, h⟩ := p; ⟨b, ns, i, c, sd, h⟩
theorem PotAt.b_ {H : Hp} {a : Addr} (p : PotAt H a) : ∃ b, PotB H a b := let ⟨b, ns, i, c, sd, h⟩ := p; ⟨b, ns, i, c, sd, h⟩
theorem PotB.same {H H' : Hp} {a b : Addr} (p : PotB H a b) (s : Same H H') : PotB H' a b := by
  obtain ⟨ns, i, c, sd, h1, h2, h3⟩ := p
  exact ⟨ns, i, c, sd, s _ _ h1, s _ _ h2, h3⟩
theorem PotB.but {H H' : Hp} {a b : Addr} (p : PotB H a b) (h1 : H' a = H a) (h2 : H' b = H b) : PotB H' a b := by
  obtain ⟨ns, i, c, sd, e1, e2, h3⟩ := p
  exact ⟨ns, i, c, sd, h1.trans e1, h2.trans e2, h3⟩
theorem PotAt.some {H : Hp} {a : Addr} (p : PotAt H a) : ∃ o, H a = some o := by
  obtain ⟨b, ns, i, c, sd, h1, _⟩ := p
  exact ⟨_, h1⟩
def spPot (K : PySem.W.Frag) : Sp := fun vs H Q _ => ∃ (a : Addr) (ns : List Int), vs = [.ref a] ∧ SqL K H a (ns.map V.int) ∧ ns.length ≤ 63 ∧ ∀ H' p, Same H H' → H p = none → PotAt H' p → Q (.ref p) H'
def spNext : Sp := fun vs H Q _ => ∃ a lim, vs = [.ref a, .int lim] ∧ PotAt H a ∧ 0 < lim ∧ lim.natAbs < 2 ^ 250 ∧ ∀ H' r, Fr1 a H H' → PotAt H' a → 0 ≤ r → r < lim → (∀ b, PotB H a b → PotB H' a b) → Q (.int r) H'
section
variable {P : Program} {w : World} {K : PySem.W.Frag} {mg : Str → Option Value} {base : Heap} {ad : Ad}
theorem ok_law_pot  {f : Addr} {fd : FuncData} (F : Fun K "_law_pot" "_law_pot" s_law_pot f fd) (T : Txt K mg ad) : FnOk P w K mg base (L2.CX P w) 1 f fd ["script"] (spPot K) := by
  refine F.okX sc_law_pot (fun vs H Q E => ?_) (fun cdv A outer s H vs Q E hr h => ?_)
  · walk_at "len"
  ·
    obtain ⟨a, ns, rfl, hS, hl, k⟩ := h
    refine ⟨_, (pss_cons (ps_set (i := 1) sc_law_pot.nd rfl (by first | exact Or.inl rfl | exact Or.inr rfl) pe_int)
      (pss_cons (ps_for (passes_of rfl) rfl (pi_list (pv 0)) (pg_name (i := 2) sc_law_pot.nd rfl (by first | exact Or.inl rfl | exact Or.inr rfl)) (pss_one (ps_set (i := 1) sc_law_pot.nd rfl (by first | exact Or.inl rfl | exact Or.inr rfl) (pe_op op_mod (pe_callTy call_int1 (by rfl) T.z_int (by decide +kernel) (pa_cons (pe_op op_add (pe_op op_mul (pv 1) pe_int) (pv 2)) pa_nil)) pe_int))))
      (pss_one (ps_ret (pe_lst (pa_cons (pe_callTy call_list_of (by rfl) T.z_list (by decide +kernel) (pa_cons (pv 0) pa_nil)) (pa_cons pe_int (pa_cons pe_int (pa_cons (pv 1) pa_nil))))))))), ?_⟩
    refine ⟨_, rfl, a, rfl, ⟨_, hS⟩, for_list (K := K) (a := a) (xs := ns.map V.int) (fun i σ H2 => ∃ (sd : Int) (v : Option V), σ = [some (.ref a), some (.int sd), v] ∧ 0 ≤ sd ∧ H2 = H)
      ⟨1, none, rfl, by decide, rfl⟩ (fun i σ H2 _ ⟨_, _, _, _, e⟩ => by rw [e]; exact hS) ?_ ?_⟩
    · rintro i y σ H2 hi ⟨sd, v, rfl, hsd, rfl⟩
      obtain ⟨z, rfl⟩ : ∃ z, y = V.int z := by
        rw [List.getElem?_map] at hi
        cases e : ns[i]? with
        | none =>
          rw [e] at hi
          cases hi
        | some z =>
          rw [e] at hi
          exact ⟨z, (Option.some.inj hi).symm⟩
      refine ⟨_, rfl, _, _, rfl, rfl, .inr ⟨by decide, by decide⟩, _, rfl, _, _, rfl, rfl, .inl ⟨_, rfl, _, _, rfl, rfl, (by show (0 : Int) < 2147483647; decide), ?_⟩⟩
      exact ⟨_, _, rfl, Int.emod_nonneg _ (by decide), rfl⟩
    · rintro σ H2 ⟨sd, v, rfl, hsd, rfl⟩
      refine ⟨_, rfl, a, _, rfl, .inl hS, fun l hl1 => ⟨_, rfl, (by show 4 ≤ sizeLine; decide), fun p hp => ?_⟩⟩
      have npl : p ≠ l := by
        intro z
        subst z
        rw [upd_same] at hp
        cases hp
      have hp0 : H2 p = none := by rw [upd_ne npl] at hp; exact hp
      exact k _ p (same_new (same_new (Same.refl _) hl1) hp0) hp0 ⟨l, ns, 0, 0, sd, upd_same, by rw [upd_ne (Ne.symm npl), upd_same], Ne.symm npl, by decide, by decide, hsd⟩
theorem ok_law_next  {f : Addr} {fd : FuncData} (F : Fun K "_law_next" "_law_next" s_law_next f fd) (T : Txt K mg ad) : FnOk P w K mg base (L2.CX P w) 1 f fd ["pot", "limit"] (spNext) := by
  refine F.okX sc_law_next (fun vs H Q E => ?_) (fun cdv A outer s H vs Q E hr h => ?_)
  · walk_at "len"
  ·
    obtain ⟨a, lim, rfl, ⟨b, ns, i, c, sd, h1, h2, h3, h4, h5, h6⟩, hl0, hl1, k⟩ := h
    have k2 : ∀ H' r, Fr1 a H H' → PotB H' a b → 0 ≤ r → r < lim → Q (.int r) H' := fun H' r fr hpb r0 r1 => k H' r fr hpb.at_ r0 r1 fun b' hb' => by
      obtain ⟨ns', i', c', sd', e1, _⟩ := hb'
      rw [h1] at e1
      injection e1 with e1
      injection e1 with e1
      injection e1 with e1 _
      injection e1 with e1
      subst e1
      exact hpb
    have hr1 : ∀ x : Int, 0 ≤ x % lim ∧ x % lim < lim := fun x => ⟨Int.emod_nonneg _ (by omega), Int.emod_lt_of_pos _ hl0⟩
    refine ⟨_, (C8.pss_cut (ps_if (PW.pt (pw_and (pt_cmpR op_eq (pe_ix ix_list (pv 0) pe_int (fun _ _ => rfl)) pe_int (nomark _)) (pw_and1 (pt_cmpR op_lt (pe_ix ix_list (pv 0) pe_int (fun _ _ => rfl)) (pe_callB call_len (by rfl) T.z_len (by decide +kernel) (pa_cons (pe_ix ix_list (pv 0) pe_int (fun _ _ => rfl)) pa_nil)) (nomark _))))) (pss_cons (ps_set (i := 2) sc_law_next.nd rfl (by first | exact Or.inl rfl | exact Or.inr rfl) (pe_callB call_abs (by rfl) T.z_abs (by decide +kernel) (pa_cons (pe_callTy call_int1 (by rfl) T.z_int (by decide +kernel) (pa_cons (pe_ix ix_list (pe_ix ix_list (pv 0) pe_int (fun _ _ => rfl)) (pe_ix ix_list (pv 0) pe_int (fun _ _ => rfl)) (fun _ _ => rfl)) pa_nil)) pa_nil)))
      (pss_cons (ps_asg (pe_op op_add (pe_ix ix_list (pv 0) pe_int (fun _ _ => rfl)) pe_int) (pg_sub (pv 0) pe_int set_list))
      (pss_cons (ps_if (pt_cmpR op_lt (pv 2) (pe_op op_pow pe_int pe_int) (nomark _)) (pss_one (ps_ret (pe_op op_mod (pe_callTy call_int1 (by rfl) T.z_int (by decide +kernel) (pa_cons (pv 2) pa_nil)) (pv 1)))) pss_nil)
      (pss_one (ps_asg (pv 2) (pg_sub (pv 0) pe_int set_list)))))) pss_nil)
      (C8.pss_cut (ps_if (pt_cmpR op_gt (pe_ix ix_list (pv 0) pe_int (fun _ _ => rfl)) pe_int (nomark _)) (pss_cons (ps_set (i := 3) sc_law_next.nd rfl (by first | exact Or.inl rfl | exact Or.inr rfl) (pe_op op_mod (pe_callTy call_int1 (by rfl) T.z_int (by decide +kernel) (pa_cons (pe_ix ix_list (pv 0) pe_int (fun _ _ => rfl)) pa_nil)) (pv 1)))
      (pss_cons (ps_asg (pe_op op_fdivW (pe_ix ix_list (pv 0) pe_int (fun _ _ => rfl)) (pv 1)) (pg_sub (pv 0) pe_int set_list))
      (pss_one (ps_ret (pv 3))))) pss_nil)
      (pss_cons (ps_asg (pe_op op_mod (pe_callTy call_int1 (by rfl) T.z_int (by decide +kernel) (pa_cons (pe_op op_add (pe_op op_mul (pe_ix ix_list (pv 0) pe_int (fun _ _ => rfl)) pe_int) pe_int) pa_nil)) pe_int) (pg_sub (pv 0) pe_int set_list))
      (pss_cons (ps_set (i := 4) sc_law_next.nd rfl (by first | exact Or.inl rfl | exact Or.inr rfl) (pe_op op_mod (pe_callTy call_int1 (by rfl) T.z_int (by decide +kernel) (pa_cons (pe_op op_add (pe_op op_mul (pe_ix ix_list (pv 0) pe_int (fun _ _ => rfl)) pe_int) (pe_op op_fdiv (pe_ix ix_list (pv 0) pe_int (fun _ _ => rfl)) pe_int)) pa_nil)) pe_int))
      (pss_one (ps_ret (pe_op op_mod (pe_callTy call_int1 (by rfl) T.z_int (by decide +kernel) (pa_cons (pv 4) pa_nil)) (pv 1)))))))), ?_⟩
    refine ⟨fun σ H' => ∃ (i' c' : Int) (v : Option V), σ = [some (.ref a), some (.int lim), v, none, none] ∧ H' a = some (.lst [.ref b, .int i', .int c', .int sd]) ∧ Fr1 a H H' ∧ 0 ≤ i' ∧ 0 ≤ c', ?_, ?_⟩
    · -- if pot[2] == 0 and pot[1] < len(pot[0])
      refine ⟨_, rfl, a, _, _, _, rfl, rfl, SqL.of h1, (by rfl), rfl, _, rfl, ?_⟩
      by_cases c0 : ¬ c = 0
      · have e : decide (V.int c = V.int 0) = false := by simp [c0]
        rw [e]
        refine iteF (iteF ?_)
        exact ⟨i, c, none, rfl, h1, Fr1.refl _ _, h4, h5⟩
      · have c0' : c = 0 := by omega
        subst c0'
        refine iteT ?_
        refine ⟨_, rfl, a, _, _, _, rfl, rfl, SqL.of h1, (by rfl), _, rfl, a, _, _, _, rfl, rfl, SqL.of h1, (by rfl), .ref b, ns.length, rfl, Or.inl ⟨_, SqL.of h2, by rw [List.length_map]⟩, _, _, rfl, rfl, _, rfl, ?_⟩
        by_cases c1 : ¬ i < (ns.length : Int)
        · rw [decide_eq_false c1]
          exact iteF ⟨i, 0, none, rfl, h1, Fr1.refl _ _, h4, h5⟩
        · have c1 : i < (ns.length : Int) := by omega
          rw [decide_eq_true c1]
          refine iteT ?_
          -- cell
          obtain ⟨z, hz⟩ : ∃ z, ns[i.toNat]? = some z := ⟨ns[i.toNat]'(by omega), List.getElem?_eq_getElem _⟩
          have hz' : (ns.map V.int)[i.toNat]? = some (.int z) := by rw [List.getElem?_map, hz]; rfl
          refine ⟨_, rfl, a, _, _, _, rfl, rfl, SqL.of h1, (by rfl), _, rfl, a, _, _, _, rfl, rfl, SqL.of h1, (by rfl), b, _, _, _, rfl, rfl, SqL.of h2, at_of (by omega) hz', .inl ⟨_, rfl, _, rfl, ?_⟩⟩
          have hcell : 0 ≤ (if z < 0 then -z else z) := by split <;> omega
          generalize (if z < 0 then -z else z) = cell at hcell ⊢
          -- pot[1] = pot[1] + 1
          refine ⟨_, rfl, a, _, _, _, rfl, rfl, SqL.of h1, (by rfl), _, _, rfl, rfl, _, rfl, a, _, _, 1, rfl, rfl, h1, (by rfl), ?_⟩
          -- if cell < 10 ** 18
          refine ⟨_, rfl, _, _, rfl, rfl, ⟨by decide, by decide, by decide⟩, _, _, rfl, rfl, _, rfl, ?_⟩
          refine ite2 (fun _ => ?_) (fun _ => ?_)
          · refine ⟨_, rfl, .inl ⟨_, rfl, _, rfl, _, _, rfl, rfl, hl0, ?_⟩⟩
            exact k2 _ _ (Fr1.refl _ _).upd ⟨ns, i + 1, 0, sd, upd_same, by rw [upd_ne h3]; exact h2, h3, by omega, by decide, h6⟩ (hr1 _).1 (hr1 _).2
          · refine ⟨_, rfl, _, rfl, a, _, _, 2, rfl, rfl, upd_same, (by rfl), ?_⟩
            exact ⟨i + 1, cell, _, rfl, upd_same, (Fr1.refl _ _).upd.upd, by omega, hcell⟩
    · rintro σ H1 ⟨i', c', v, rfl, g1, fr, hi', hc'⟩
      have g2 : H1 b = some (.lst (ns.map V.int)) := fr b _ h3 h2
      refine ⟨fun σ H' => ∃ (v v' : Option V), σ = [some (.ref a), some (.int lim), v, v', none] ∧ H' = H1, ?_, ?_⟩
      · -- if pot[2] > 0
        refine ⟨_, rfl, a, _, _, _, rfl, rfl, SqL.of g1, (by rfl), _, _, rfl, rfl, _, rfl, ?_⟩
        refine ite2 (fun _ => ?_) (fun _ => ?_)
        · refine ⟨_, rfl, a, _, _, _, rfl, rfl, SqL.of g1, (by rfl), .inl ⟨_, rfl, _, rfl, _, _, rfl, rfl, hl0, ?_⟩⟩
          refine ⟨_, rfl, a, _, _, _, rfl, rfl, SqL.of g1, (by rfl), _, rfl, _, _, rfl, rfl, wide_div hl0 hl1 (by decide) (by decide), _, rfl, a, _, _, 2, rfl, rfl, g1, (by rfl), _, rfl, ?_⟩
          exact k2 _ _ fr.upd ⟨ns, i', c' / lim, sd, upd_same, by rw [upd_ne h3]; exact g2, h3, hi', Int.ediv_nonneg hc' (by omega), h6⟩ (hr1 _).1 (hr1 _).2
        · exact ⟨v, none, rfl, rfl⟩
      · rintro σ H2 ⟨v, v', rfl, rfl⟩
        refine ⟨_, rfl, a, _, _, _, rfl, rfl, SqL.of g1, (by rfl), _, _, rfl, rfl, .inr ⟨by decide, by decide⟩, _, _, rfl, rfl, .inl ⟨_, rfl, _, _, rfl, rfl, (by show (0 : Int) < 2147483647; decide), _, rfl, a, _, _, 3, rfl, rfl, g1, (by rfl), ?_⟩⟩
        refine ⟨_, rfl, a, _, _, _, rfl, rfl, SqL.of upd_same, (by rfl), _, _, rfl, rfl, .inr ⟨by decide, by decide⟩, _, rfl, a, _, _, _, rfl, rfl, SqL.of upd_same, (by rfl), _, _, rfl, rfl, ⟨by decide, by decide⟩, _, _, rfl, rfl, .inl ⟨_, rfl, _, _, rfl, rfl, (by show (0 : Int) < 2147483629; decide), ?_⟩⟩
        refine ⟨_, rfl, .inl ⟨_, rfl, _, rfl, _, _, rfl, rfl, hl0, ?_⟩⟩
        exact k2 _ _ fr.upd ⟨ns, i', c', _, upd_same, by rw [upd_ne h3]; exact g2, h3, hi', hc', Int.emod_nonneg _ (by decide)⟩ (hr1 _).1 (hr1 _).2
end
end K12

set_option Elab.async false
set_option linter.all false
set_option maxRecDepth 100000
set_option maxHeartbeats 4000000
namespace K12
open PySem L2 Ew Tb ND
local macro_rules | `(tactic| walk_at "len") => `(tactic| first | (intro h; obtain ⟨_, e, _⟩ := h; rw [e]; rfl) | (intro h; obtain ⟨_, _, e, _⟩ := h; rw [e]; rfl) | (intro h; obtain ⟨_, _, _, e, _⟩ := h; rw [e]; rfl) | (intro h; obtain ⟨_, _, _, _, e, _⟩ := h; rw [e]; rfl) | (intro h; obtain ⟨_, _, _, _, _, e, _⟩ := h; rw [e]; rfl) | (intro h; obtain ⟨_, _, _, _, _, _, e, _⟩ := h; rw [e]; rfl) | (intro h; obtain ⟨_, _, _, _, _, _, _, e, _⟩ := h; rw [e]; rfl) | (intro h; exact h.elim))
section
variable {P : Program} {w : World} {K : PySem.W.Frag} {mg : Str → Option Value} {base : Heap} {ad : Ad}
/-! ### what an asking does to the table -/
structure Good (tbl : List Nd) : Prop where
  nd : tbl.Nodup
  wf : Wf tbl
  two : 2 ≤ tbl.length
  ps : ∀ x ∈ tbl, x.parts.length ≤ 1000
/-- the table behind an asking -/
structure Nxt (tbl tbl' : List Nd) : Prop where
  good : Good tbl'
  le : tbl.length ≤ tbl'.length
  len : tbl'.length ≤ tbl.length + 1
theorem Good.self {tbl : List Nd} (g : Good tbl) : Nxt tbl tbl := ⟨g, Nat.le_refl _, Nat.le_succ _⟩
theorem Good.ins {tbl : List Nd} {nd : Nd} (g : Good tbl) (hp : ∀ p ∈ nd.parts, p < tbl.length) (hl : nd.parts.length ≤ 1000) : Nxt tbl (insN tbl nd) := by
  unfold insN
  by_cases m : nd ∈ tbl
  · rw [if_pos m]; exact g.self
  · rw [if_neg m]
    refine ⟨⟨List.nodup_append.mpr ⟨g.nd, by simp, fun a ha b hb z => m (by rw [List.mem_singleton.mp hb] at z; rw [← z]; exact ha)⟩, fun i x hx p hpx => ?_, ?_, fun x hx => ?_⟩, ?_, ?_⟩
    · rcases Nat.lt_or_ge i tbl.length with h | h
      · rw [List.getElem?_append_left h] at hx
        exact g.wf i x hx p hpx
      · rw [List.getElem?_append_right h] at hx
        have hi : i - tbl.length = 0 := by
          rcases Nat.eq_zero_or_pos (i - tbl.length) with z | z
          · exact z
          · rw [List.getElem?_eq_none (by rw [List.length_singleton]; omega)] at hx; cases hx
        rw [hi] at hx
        cases hx
        have := hp p hpx
        omega
    · rw [List.length_append]; have := g.two; omega
    · rcases List.mem_append.mp hx with h | h
      · exact g.ps x h
      · rw [List.mem_singleton.mp h]; exact hl
    · rw [List.length_append]; omega
    · rw [List.length_append]; simp
theorem good0 : Good [.zero, .one] where
  nd := by decide
  wf := fun i x hx p hp => by
    rcases i with _ | _ | i
    · cases hx; cases hp
    · cases hx; cases hp
    · simp at hx
  two := Nat.le_refl _
  ps := fun x hx => by
    rcases List.mem_cons.mp hx with rfl | hx
    · exact Nat.zero_le _
    · rw [List.mem_singleton.mp hx]; exact Nat.zero_le _
theorem sev_nxt {tbl : List Nd} {d : Kd} {ps : List Nat} (g : Good tbl) (hp : ∀ p ∈ ps, p < tbl.length) (hl : ps.length ≤ 1000) : Nxt tbl (sevN tbl d ps).1 := by
  rcases ps with _ | ⟨p0, _ | ⟨p1, ps⟩⟩
  · exact g.self
  · exact g.self
  · have pm : (d.mk (sortN (p0 :: p1 :: ps))).parts = sortN (p0 :: p1 :: ps) := by cases d <;> rfl
    refine g.ins (fun p h => ?_) ?_
    · rw [pm] at h
      exact hp p ((sortN_perm _).mem_iff.mp h)
    · rw [pm, (sortN_perm _).length_eq]
      exact hl
theorem ask_nxt {tbl : List Nd} {ps : List Nat} {kn : Kn} (g : Good tbl) (hp : ∀ p ∈ ps, p < tbl.length ∨ kn = .fact) (hl : ps.length ≤ 1000) (h0 : kn = .star → 0 < ps.length) : Nxt tbl (askN tbl ps kn).1 := by
  cases kn with
  | fact => exact g.ins (fun p h => nomatch h) (Nat.zero_le _)
  | star =>
    show Nxt tbl (if _ then _ else _ : List Nd × Nat).1
    split
    · exact g.self
    · refine g.ins (fun p h => ?_) (by simp [Nd.parts])
      have e : p = ps.getD 0 0 := by simpa [Nd.parts] using h
      have h1 := h0 rfl
      have m : ps.getD 0 0 ∈ ps := by
        rw [List.getD_eq_getElem?_getD, List.getElem?_eq_getElem h1]
        exact List.getElem_mem _
      rw [e]
      exact (hp _ m).resolve_right (fun z => nomatch z)
  | kd d =>
    have hp' : ∀ p ∈ ps, p < tbl.length := fun p h => (hp p h).resolve_right (fun z => nomatch z)
    cases d with
    | plus => exact sev_nxt g (fun p h => hp' p (List.mem_filter.mp h).1) (Nat.le_trans (List.length_filter_le _ _) hl)
    | times =>
      show Nxt tbl (if _ then _ else _ : List Nd × Nat).1
      split
      · exact g.self
      · exact sev_nxt g (fun p h => hp' p (List.mem_filter.mp h).1) (Nat.le_trans (List.length_filter_le _ _) hl)
/-! ### the state of the law -/
theorem Circ.fr {C c S D : Addr} {H H' : Hp} {tbl : List Nd} {p : Addr} {xs : List V} (x : Circ P w C H c S D tbl) (fr : Fr1 p H H') (hp : H p = some (.lst xs)) (hS : p ≠ S) : Circ P w C H' c S D tbl := by
  obtain ⟨dx, e1⟩ := x.ins
  obtain ⟨as, e2, hk⟩ := x.shown
  have tups : ∀ b ys, H b = some (.tup ys) → H' b = some (.tup ys) := fun b ys e => fr _ _ (ne_of e hp (fun z => nomatch z)) e
  obtain ⟨φ, hφ⟩ := x.nums.ext
  exact ⟨⟨dx, fr _ _ (ne_of e1 hp (fun z => nomatch z)) e1⟩, ⟨as, fr _ _ (Ne.symm hS) e2, hk.keeps tups⟩, x.nums.keeps (fun u e => fr _ _ (ne_of hφ hp (fun z => nomatch z)) e) tups⟩
theorem Tab.fr {N p : Addr} {H H' : Hp} {tbl : List Nd} {xs : List V} (x : Tab H N tbl) (fr : Fr1 p H H') (hp : H p = some (.lst xs)) (hN : p ≠ N) : Tab H' N tbl := by
  obtain ⟨bs, e, hk⟩ := x
  exact ⟨bs, fr _ _ (Ne.symm hN) e, hk.keeps fun b ys e => fr _ _ (ne_of e hp (fun z => nomatch z)) e⟩
theorem PotB.fr {p b q : Addr} {H H' : Hp} (x : PotB H p b) (fr : Fr1 q H H') (h1 : p ≠ q) (h2 : b ≠ q) : PotB H' p b := by
  obtain ⟨ns, i, c, sd, e1, e2, h⟩ := x
  exact ⟨ns, i, c, sd, fr _ _ h1 e1, fr _ _ h2 e2, h⟩
theorem PotB.ls {p b : Addr} {H : Hp} (x : PotB H p b) : ∃ xs, H p = some (.lst xs) := let ⟨_, _, _, _, e, _⟩ := x; ⟨_, e⟩
theorem PotB.lb {p b : Addr} {H : Hp} (x : PotB H p b) : ∃ xs, H b = some (.lst xs) := let ⟨_, _, _, _, _, e, _⟩ := x; ⟨_, e⟩
theorem Circ.lS {C c S D : Addr} {H : Hp} {tbl : List Nd} (x : Circ P w C H c S D tbl) : ∃ as : List Addr, H S = some (.lst (as.map V.ref)) ∧ as.length = tbl.length := by
  obtain ⟨as, e2, hk⟩ := x.shown
  have := Kys.length hk
  rw [List.length_map, List.length_map] at this
  exact ⟨as, e2, this.symm⟩
theorem Tab.lN {N : Addr} {H : Hp} {tbl : List Nd} (x : Tab H N tbl) : ∃ bs : List Addr, H N = some (.lst (bs.map V.ref)) ∧ bs.length = tbl.length := by
  obtain ⟨as, e2, hk⟩ := x
  have := Kys.length hk
  rw [List.length_map, List.length_map] at this
  exact ⟨as, e2, this.symm⟩
theorem FrC.ne {C c S D q : Addr} {H H' : Hp} {tbl : List Nd} (x : Circ P w C H c S D tbl) (fr : FrC S D H H') {o : HO} (hq : H q = some o) (h1 : q ≠ S) (h2 : ∀ φ, o ≠ .ext φ) : H' q = some o := by
  obtain ⟨φ, hφ⟩ := x.nums.ext
  exact fr _ _ h1 (ne_of hq hφ (fun z => h2 φ z)) hq
/-- all that the law has at hand -/
structure Sta (P : Program) (w : World) (C : Addr) (H : Hp) (p b c S D N : Addr) (tbl tbl' : List Nd) : Prop where
  pot : PotB H p b
  cc : Circ P w C H c S D tbl
  tab : Tab H N tbl'
structure Dis (p b S N : Addr) : Prop where
  pS : p ≠ S
  bS : b ≠ S
  pN : p ≠ N
  bN : b ≠ N
  SN : S ≠ N
theorem Sta.same {C p b c S D N : Addr} {H H' : Hp} {tbl tbl' : List Nd} (x : Sta P w C H p b c S D N tbl tbl') (s : Same H H') : Sta P w C H' p b c S D N tbl tbl' := ⟨x.pot.same s, x.cc.same s, x.tab.same s⟩
theorem Sta.draw {C p b c S D N : Addr} {H H' : Hp} {tbl tbl' : List Nd} (x : Sta P w C H p b c S D N tbl tbl') (d : Dis p b S N) (fr : Fr1 p H H') (hb : ∀ b, PotB H p b → PotB H' p b) : Sta P w C H' p b c S D N tbl tbl' := by
  obtain ⟨xs, hp⟩ := x.pot.ls
  exact ⟨hb b x.pot, x.cc.fr fr hp d.pS, x.tab.fr fr hp d.pN⟩
theorem Sta.made {C p b c S D N : Addr} {H H' : Hp} {tbl tbl' tbl2 : List Nd} (x : Sta P w C H p b c S D N tbl tbl') (d : Dis p b S N) (fr : FrC S D H H') (hc : Circ P w C H' c S D tbl2) : Sta P w C H' p b c S D N tbl2 tbl' := by
  obtain ⟨ns, i, c', sd, e1, e2, h⟩ := x.pot
  obtain ⟨bs, e, hk⟩ := x.tab
  refine ⟨⟨ns, i, c', sd, FrC.ne x.cc fr e1 d.pS (fun φ z => nomatch z), FrC.ne x.cc fr e2 d.bS (fun φ z => nomatch z), h⟩, hc, ⟨bs, FrC.ne x.cc fr e (Ne.symm d.SN) (fun φ z => nomatch z), hk.keeps fun b ys e => ?_⟩⟩
  obtain ⟨as, hS, _⟩ := x.cc.lS
  exact FrC.ne x.cc fr e (ne_of e hS (fun z => nomatch z)) (fun φ z => nomatch z)
theorem Sta.due {C p b c S D N : Addr} {H H' : Hp} {tbl tbl' tbl2 : List Nd} (x : Sta P w C H p b c S D N tbl tbl') (d : Dis p b S N) (fr : Fr1' N H H') (hc : Tab H' N tbl2) : Sta P w C H' p b c S D N tbl tbl2 := by
  obtain ⟨bs, hN, _⟩ := x.tab.lN
  exact ⟨x.pot.fr (q := N) fr d.pN d.bN, x.cc.fr (p := N) fr hN (Ne.symm d.SN), hc⟩
theorem Sta.put {C p b c S D N q : Addr} {H H' : Hp} {tbl tbl' : List Nd} {xs : List V} (x : Sta P w C H p b c S D N tbl tbl') (fr : Fr1 q H H') (hq : H q = some (.lst xs)) (h1 : p ≠ q) (h2 : b ≠ q) (h3 : S ≠ q) (h4 : N ≠ q) : Sta P w C H' p b c S D N tbl tbl' :=
  ⟨x.pot.fr fr h1 h2, x.cc.fr fr hq (Ne.symm h3), x.tab.fr fr hq (Ne.symm h4)⟩
theorem Sta.ne {C p b c S D N q : Addr} {H : Hp} {tbl tbl' : List Nd} (x : Sta P w C H p b c S D N tbl tbl') (hq : H q = none) : p ≠ q ∧ b ≠ q ∧ S ≠ q ∧ N ≠ q := by
  obtain ⟨_, h1⟩ := x.pot.ls
  obtain ⟨_, h2⟩ := x.pot.lb
  obtain ⟨_, h3, _⟩ := x.cc.lS
  obtain ⟨_, h4, _⟩ := x.tab.lN
  exact ⟨ne_of_none h1 hq, ne_of_none h2 hq, ne_of_none h3 hq, ne_of_none h4 hq⟩
/-! ### two tuples of one node; two lists of the same facts -/
theorem dd_nums {H : Hp} {n : Nat} (ps : List Nat) (i : Nat) (x y : V) (hx : (nV ps)[i]? = some x) (hy : (nV ps)[i]? = some y) : Dd H (n + 1) x y := by
  rw [hx] at hy
  cases hy
  rw [List.getElem?_map] at hx
  obtain ⟨q, _, rfl⟩ := Option.map_eq_some_iff.mp hx
  exact .int _
theorem dd_two {H : Hp} {n : Nat} {x y u v : V} (h1 : Dd H n x u) (h2 : Dd H n y v) (i : Nat) (a b : V) (ha : [x, y][i]? = some a) (hb : [u, v][i]? = some b) : Dd H n a b := by
  rcases i with _ | _ | i
  · cases ha; cases hb; exact h1
  · cases ha; cases hb; exact h2
  · simp at ha
theorem dd_nd {H : Hp} {a b : Addr} {nd : Nd} (ha : NdAt H a nd) (hb : NdAt H b nd) (hl : nd.parts.length ≤ 1000) : Dd H 3 (.ref a) (.ref b) := by
  obtain ⟨l, e, hi⟩ := ha.inv
  obtain ⟨l', e', hi'⟩ := hb.inv
  refine .tup e e' (by cases nd <;> rfl) (by have : (nd.vals l').length ≤ 2 := (by cases nd <;> simp [Nd.vals]); omega) fun i x y hx hy => ?_
  cases nd with
  | zero => rcases i with _ | i
            · cases hx; cases hy; exact .str _
            · simp [Nd.vals] at hx
  | one => rcases i with _ | i
           · cases hx; cases hy; exact .str _
           · simp [Nd.vals] at hx
  | fact k => exact dd_two (.str _) (.int _) i x y hx hy
  | star k => exact dd_two (.str _) (.int _) i x y hx hy
  | plus ps => exact dd_two (.str _) (.tup hi hi' rfl (by rw [List.length_map]; exact Nat.le_trans hl (by decide)) fun i x y hx hy => dd_nums ps i x y hx hy) i x y hx hy
  | times ps => exact dd_two (.str _) (.tup hi hi' rfl (by rw [List.length_map]; exact Nat.le_trans hl (by decide)) fun i x y hx hy => dd_nums ps i x y hx hy) i x y hx hy
theorem facts_eq {ks ks' : List Nat} (n1 : ks.Nodup) (n2 : ks'.Nodup) (p1 : ks.Pairwise (· ≤ ·)) (p2 : ks'.Pairwise (· ≤ ·)) (h : ∀ k, k ∈ ks ↔ k ∈ ks') : ks = ks' := by
  have hp : ks.Perm ks' := (List.perm_ext_iff_of_nodup n1 n2).mpr h
  have e1 := sortN_of (ns := ks') (ns' := ks.map fun (n : Nat) => (n : Int)) (hp.map _) (p1.map (S := fun (a b : Int) => a ≤ b) _ fun a b hab => by omega)
  have e2 := sortN_of (ns := ks') (ns' := ks'.map fun (n : Nat) => (n : Int)) (.refl _) (p2.map (S := fun (a b : Int) => a ≤ b) _ fun a b hab => by omega)
  have e3 := congrArg (List.map Int.toNat) (e1.trans e2.symm)
  have id_ : ∀ ns : List Nat, (ns.map fun (n : Nat) => (n : Int)).map Int.toNat = ns := fun ns => by
    rw [List.map_map]
    exact (List.map_congr_left fun n _ => Int.toNat_natCast n).trans (List.map_id _)
  rwa [id_, id_] at e3
theorem Nd.keyDepth (nd : Nd) : NestedKey.depthAll nd.key ≤ 7 := by have := nd.depth; omega
end
end K12

set_option Elab.async false
set_option linter.all false
set_option maxRecDepth 100000
set_option maxHeartbeats 4000000
namespace K12
open PySem L2 Ew Tb ND
local macro_rules | `(tactic| walk_at "len") => `(tactic| first | (intro h; obtain ⟨_, e, _⟩ := h; rw [e]; rfl) | (intro h; obtain ⟨_, _, e, _⟩ := h; rw [e]; rfl) | (intro h; obtain ⟨_, _, _, e, _⟩ := h; rw [e]; rfl) | (intro h; obtain ⟨_, _, _, _, e, _⟩ := h; rw [e]; rfl) | (intro h; obtain ⟨_, _, _, _, _, e, _⟩ := h; rw [e]; rfl) | (intro h; obtain ⟨_, _, _, _, _, _, e, _⟩ := h; rw [e]; rfl) | (intro h; obtain ⟨_, _, _, _, _, _, _, e, _⟩ := h; rw [e]; rfl) | (intro h; exact h.elim))
section
variable {P : Program} {w : World} {K : PySem.W.Frag} {mg : Str → Option Value} {base : Heap} {ad : Ad}
def spLaw (K : PySem.W.Frag) : Sp := fun vs H Q _ => ∃ (a : Addr) (ns : List Int), vs = [.ref a] ∧ SqL K H a (ns.map V.int) ∧ ns.length ≤ 63 ∧ ∀ H', Q (.bl true) H'
theorem kinds_at : ∀ j : Nat, j < 6 → ∃ kn : Kn, ([.str "fact", .str "plus", .str "times", .str "plus", .str "times", .str "star"] : List V)[j]? = some (.str kn.word)
  | 0, _ => ⟨.fact, rfl⟩
  | 1, _ => ⟨.kd .plus, rfl⟩
  | 2, _ => ⟨.kd .times, rfl⟩
  | 3, _ => ⟨.kd .plus, rfl⟩
  | 4, _ => ⟨.kd .times, rfl⟩
  | 5, _ => ⟨.star, rfl⟩
  | _ + 6, h => absurd h (by omega)
theorem sql_same {K : PySem.W.Frag} {H H' : Hp} {a : Addr} {xs : List V} (h : SqL K H a xs) (e : Same H H') : SqL K H' a xs :=
  h.elim (fun h => .inl (h.elim (fun h => .inl (e _ _ h)) fun ⟨o, h⟩ => .inr ⟨o, e _ _ h⟩)) fun h => .inr h
theorem toN {i : Int} (h : 0 ≤ i) : ∃ n : Nat, i = (n : Int) := ⟨i.toNat, by omega⟩
theorem ok_law (mCirc : MakX P w K mg base 1 "Circuits" ad.Circuits (spInit P w ad.Circuits)) (m_fact : MetX P w K mg base 4 ad.Circuits "fact" (spFact P w ad.Circuits)) (m_star : MetX P w K mg base 4 ad.Circuits "star" (spStar P w ad.Circuits)) (m_plus : MetX P w K mg base 4 ad.Circuits "plus" (spPlus P w ad.Circuits .plus 0)) (m_times : MetX P w K mg base 4 ad.Circuits "times" (spPlus P w ad.Circuits .times 1)) (m_count : MetX P w K mg base 4 ad.Circuits "count" (spCount ad.Circuits)) (m_shown : MetX P w K mg base 4 ad.Circuits "shown" (spShown P w ad.Circuits)) (m_facts_in : MetX P w K mg base 4 ad.Circuits "facts_in" (spFactsIn P w ad.Circuits)) (c_law_pot : CalX P w K mg base 1 "_law_pot" (spPot K)) (c_law_next : CalX P w K mg base 1 "_law_next" spNext) (c_law_due : CalX P w K mg base 1 "_law_due" spDue) (c_law_same : CalX P w K mg base 8 "_law_same" (spSame 3)) (c_law_facts : CalX P w K mg base 70 "_law_facts" (spLF 64)) {f : Addr} {fd : FuncData} (F : Fun K "law" "law" s_law f fd) (T : Txt K mg ad) : FnOk P w K mg base (L2.CX P w) 81 f fd ["script"] (spLaw K) := by
  refine F.okX sc_law (fun vs H Q E => ?_) (fun cdv A outer s H vs Q E hr h => ?_)
  · walk_at "len"
  ·
    obtain ⟨sa, ns, rfl, hS, hlen, k⟩ := h
    have two : 2 ≤ sizeLine := by decide
    refine ⟨_, (pss_cons (ps_set (i := 1) sc_law.nd rfl (by first | exact Or.inl rfl | exact Or.inr rfl) (pc_call c_law_pot hr (by first | decide | omega) (takes_of rfl rfl rfl rfl) (by rfl) (pa_cons (pv 0) pa_nil)))
      (pss_cons (ps_set (i := 2) sc_law.nd rfl (by first | exact Or.inl rfl | exact Or.inr rfl) (pd_make0 hr (takes_of rfl rfl rfl rfl) (by rfl)))
      (pss_cons (ps_set (i := 3) sc_law.nd rfl (by first | exact Or.inl rfl | exact Or.inr rfl) (pe_lst (pa_cons (pe_tup (pa_cons pe_str pa_nil)) (pa_cons (pe_tup (pa_cons pe_str pa_nil)) pa_nil))))
      (pss_cons (ps_for (passes_of rfl) rfl (pi_range1 (by rfl) T.z_range (pa_cons (pe_op op_add pe_int (pe_callB (call_min2 rfl) (by rfl) T.z_min (by decide +kernel) (pa_cons (pe_callB call_len (by rfl) T.z_len (by decide +kernel) (pa_cons (pv 0) pa_nil)) (pa_cons pe_int pa_nil)))) pa_nil)) (pg_name (i := 4) sc_law.nd rfl (by first | exact Or.inl rfl | exact Or.inr rfl)) (pss_cons (ps_set (i := 5) sc_law.nd rfl (by first | exact Or.inl rfl | exact Or.inr rfl) (pe_ix ix_list (pe_lst (pa_cons pe_str (pa_cons pe_str (pa_cons pe_str (pa_cons pe_str (pa_cons pe_str (pa_cons pe_str pa_nil))))))) (pc_call c_law_next hr (by first | decide | omega) (takes_of rfl rfl rfl rfl) (by rfl) (pa_cons (pv 1) (pa_cons pe_int pa_nil))) (fun _ _ => rfl)))
      (pss_cons (ps_set (i := 6) sc_law.nd rfl (by first | exact Or.inl rfl | exact Or.inr rfl) (pe_callB (call_min2 rfl) (by rfl) T.z_min (by decide +kernel) (pa_cons (pe_ix ix_list (pe_lst (pa_cons pe_int (pa_cons pe_int pa_nil))) (pc_call c_law_next hr (by first | decide | omega) (takes_of rfl rfl rfl rfl) (by rfl) (pa_cons (pv 1) (pa_cons pe_int pa_nil))) (fun _ _ => rfl)) (pa_cons (pe_callB call_len (by rfl) T.z_len (by decide +kernel) (pa_cons (pv 3) pa_nil)) pa_nil))))
      (pss_cons (ps_setLc (i := 7) (own := [("j", 10)]) (tt := tYes) rfl sc_law.nd rfl rfl (sw_true rfl rfl rfl (by decide +kernel)) (pi_range1 (by rfl) T.z_range (pa_cons (pc_call c_law_next hr (by first | decide | omega) (takes_of rfl rfl rfl rfl) (by rfl) (pa_cons (pv 1) (pa_cons pe_int pa_nil))) pa_nil)) (blkOk_by (by kernel_rfl)) (fun _ _ _ _ _ => (pg_name (i := 10) sc_law.nd rfl (by first | exact Or.inl rfl | exact Or.inr rfl))) (fun _ _ _ _ _ => pts_nil) (fun _ _ _ _ _ => (pe_op op_sub (pe_op op_sub (pe_callB (kcall_len (K := K)) (by rfl) T.z_len (by decide +kernel) (pa_cons (pv 3) pa_nil)) pe_int) (pc_call c_law_next hr (by first | decide | omega) takes0 (by rfl) (pa_cons (pv 1) (pa_cons (pv 6) pa_nil))))))
      (C8.pss_cut (ps_if (pt_cmpR op_eq (pv 5) pe_str (nomark _)) (pss_cons (ps_set (i := 7) sc_law.nd rfl (by first | exact Or.inl rfl | exact Or.inr rfl) (pe_lst (pa_cons (pc_call c_law_next hr (by first | decide | omega) (takes_of rfl rfl rfl rfl) (by rfl) (pa_cons (pv 1) (pa_cons pe_int pa_nil))) pa_nil)))
      (pss_one (ps_set (i := 8) sc_law.nd rfl (by first | exact Or.inl rfl | exact Or.inr rfl) (pd_meth hr (takes_of rfl rfl rfl rfl) (pv 2) (pa_cons (pe_ix ix_list (pv 7) pe_int (fun _ _ => rfl)) pa_nil))))) (pss_one (ps_if (pt_cmpR op_eq (pv 5) pe_str (nomark _)) (pss_cons (ps_set (i := 7) sc_law.nd rfl (by first | exact Or.inl rfl | exact Or.inr rfl) (pe_lst (pa_cons (pc_call c_law_next hr (by first | decide | omega) (takes_of rfl rfl rfl rfl) (by rfl) (pa_cons (pv 1) (pa_cons (pe_callB call_len (by rfl) T.z_len (by decide +kernel) (pa_cons (pv 3) pa_nil)) pa_nil))) pa_nil)))
      (pss_one (ps_set (i := 8) sc_law.nd rfl (by first | exact Or.inl rfl | exact Or.inr rfl) (pd_meth hr (takes_of rfl rfl rfl rfl) (pv 2) (pa_cons (pe_ix ix_list (pv 7) pe_int (fun _ _ => rfl)) pa_nil))))) (pss_one (ps_if (pt_cmpR op_eq (pv 5) pe_str (nomark _)) (pss_one (ps_set (i := 8) sc_law.nd rfl (by first | exact Or.inl rfl | exact Or.inr rfl) (pd_meth hr (takes_of rfl rfl rfl rfl) (pv 2) (pa_cons (pe_ix ix_list (pe_lst (pa_cons (pe_callTy call_list_of (by rfl) T.z_list (by decide +kernel) (pa_cons (pv 7) pa_nil)) (pa_cons (pe_callTy call_tuple_of (by rfl) T.z_tuple (by decide +kernel) (pa_cons (pv 7) pa_nil)) pa_nil))) (pc_call c_law_next hr (by first | decide | omega) (takes_of rfl rfl rfl rfl) (by rfl) (pa_cons (pv 1) (pa_cons pe_int pa_nil))) (fun _ _ => rfl)) pa_nil)))) (pss_one (ps_set (i := 8) sc_law.nd rfl (by first | exact Or.inl rfl | exact Or.inr rfl) (pd_meth hr (takes_of rfl rfl rfl rfl) (pv 2) (pa_cons (pe_ix ix_list (pe_lst (pa_cons (pe_callTy call_list_of (by rfl) T.z_list (by decide +kernel) (pa_cons (pv 7) pa_nil)) (pa_cons (pe_callTy call_tuple_of (by rfl) T.z_tuple (by decide +kernel) (pa_cons (pv 7) pa_nil)) pa_nil))) (pc_call c_law_next hr (by first | decide | omega) (takes_of rfl rfl rfl rfl) (by rfl) (pa_cons (pv 1) (pa_cons pe_int pa_nil))) (fun _ _ => rfl)) pa_nil)))))))))
      (pss_one (ps_if (PW.pt (pw_or (pt_not (pt_val (pc_call c_law_same hr (by first | decide | omega) (takes_of rfl rfl rfl rfl) (by rfl) (pa_cons (pv 8) (pa_cons (pc_call c_law_due hr (by first | decide | omega) (takes_of rfl rfl rfl rfl) (by rfl) (pa_cons (pv 3) (pa_cons (pv 5) (pa_cons (pv 7) pa_nil)))) pa_nil))))) (pw_or1 (pt_cmpR op_ne (pd_meth0 hr (takes_of rfl rfl rfl rfl) (pv 2)) (pe_callB call_len (by rfl) T.z_len (by decide +kernel) (pa_cons (pv 3) pa_nil)) (nomark _))))) (pss_one (ps_ret pe_bl)) pss_nil)))))))
      (pss_cons (ps_for (passes_of rfl) rfl (pi_range1 (by rfl) T.z_range (pa_cons (pe_callB (call_min2 rfl) (by rfl) T.z_min (by decide +kernel) (pa_cons (pe_callB call_len (by rfl) T.z_len (by decide +kernel) (pa_cons (pv 3) pa_nil)) (pa_cons pe_int pa_nil))) pa_nil)) (pg_name (i := 9) sc_law.nd rfl (by first | exact Or.inl rfl | exact Or.inr rfl)) (pss_one (ps_if (PW.pt (pw_or (pt_not (pt_val (pc_call c_law_same hr (by first | decide | omega) (takes_of rfl rfl rfl rfl) (by rfl) (pa_cons (pd_meth hr (takes_of rfl rfl rfl rfl) (pv 2) (pa_cons (pv 9) pa_nil)) (pa_cons (pe_ix ix_list (pv 3) (pv 9) (fun _ _ => rfl)) pa_nil))))) (pw_or1 (pt_not (pt_val (pc_call c_law_same hr (by first | decide | omega) (takes_of rfl rfl rfl rfl) (by rfl) (pa_cons (pd_meth hr (takes_of rfl rfl rfl rfl) (pv 2) (pa_cons (pv 9) pa_nil)) (pa_cons (pc_call c_law_facts hr (by first | decide | omega) (takes_of rfl rfl rfl rfl) (by rfl) (pa_cons (pv 3) (pa_cons (pv 9) pa_nil))) pa_nil)))))))) (pss_one (ps_ret pe_bl)) pss_nil)))
      (pss_one (ps_ret (pe_cmpR (ND.op_eqK (ND.hu9 hr)) (pd_meth hr (takes_of rfl rfl rfl rfl) (pv 2) (pa_cons (pe_op op_sub (pe_callB call_len (by rfl) T.z_len (by decide +kernel) (pa_cons (pv 3) pa_nil)) pe_int) pa_nil)) (pe_ix ix_list (pv 3) (pe_op op_sub (pe_callB call_len (by rfl) T.z_len (by decide +kernel) (pa_cons (pv 3) pa_nil)) pe_int) (fun _ _ => rfl)) (nomark _))))))))), ?_⟩
    refine go_seq ⟨_, rfl, sa, ns, rfl, hS, hlen, fun H1 p s1 np P1 => go_name rfl ?_⟩
    obtain ⟨b, P1⟩ := P1.b_
    -- Circuits()
    refine go_seq ⟨1, ad.Circuits, _, by decide, mCirc, fun c dc hc hdc ndc => ⟨c, dc, rfl, upd_same, fun H2 S D fr2 hS2 hD2 cc2 => ⟨rfl, go_name rfl ?_⟩⟩⟩
    have s2 : Same H1 H2 := fun b o e => fr2 _ _ (ne_of_none e hc) (by rw [upd_ne (ne_of_none e hc), upd_ne (ne_of_none e hdc)]; exact e)
    have none1 : ∀ q, (upd (upd H1 dc (.own c)) c (.ins ad.Circuits dc [])) q = none → H1 q = none := fun q e => by
      cases h : H1 q with
      | none => rfl
      | some u => rw [upd_ne (ne_of_none h hc), upd_ne (ne_of_none h hdc), h] at e; cases e
    obtain ⟨xp, hxp⟩ := P1.ls
    obtain ⟨xb, hxb⟩ := P1.lb
    have pS : p ≠ S := ne_of_none hxp (none1 _ hS2)
    have bS : b ≠ S := ne_of_none hxb (none1 _ hS2)
    have P2 := P1.same s2
    -- nodes
    refine go_seq ⟨(show 1 ≤ sizeLine by decide), fun t1 ht1 => ⟨(show 1 ≤ sizeLine by decide), fun t2 ht2 => ⟨two, fun N hN => go_name rfl ?_⟩⟩⟩
    have u1 := same_new (o := .tup [.str "zero"]) (Same.refl H2) ht1
    have u2 := new2 (o := .tup [.str "one"]) u1 ht2
    have u3 := new2 (o := .lst [.ref t1, .ref t2]) u2 hN
    generalize hH3 : upd (upd (upd H2 t1 (.tup [.str "zero"])) t2 (.tup [.str "one"])) N (.lst [.ref t1, .ref t2]) = H3 at u3
    have eN : H3 N = some (.lst [.ref t1, .ref t2]) := by rw [← hH3]; exact upd_same
    have et1 : H3 t1 = some (.tup [.str "zero"]) := by
      rw [← hH3]
      exact (same_new (Same.refl _) hN) _ _ ((same_new (Same.refl _) ht2) _ _ upd_same)
    have et2 : H3 t2 = some (.tup [.str "one"]) := by
      rw [← hH3]
      exact (same_new (Same.refl _) hN) _ _ upd_same
    have sH3 : Same H H3 := fun b o e => u3 _ _ (s2 _ _ (s1 _ _ e))
    obtain ⟨as2, hS2', _⟩ := cc2.lS
    have dis : Dis p b S N := by
      have nN : ∀ {q o}, H2 q = some o → q ≠ N := fun e => ne_of_none (u2 _ _ e) hN
      exact ⟨pS, bS, nN (s2 _ _ hxp), nN (s2 _ _ hxb), nN hS2'⟩
    have st3 : Sta P w ad.Circuits H3 p b c S D N [.zero, .one] [.zero, .one] := ⟨P2.same u3, cc2.same u3, [t1, t2], eN, .cons (.tup et1 (.cons (.str _) .nil)) (.cons (.tup et2 (.cons (.str _) .nil)) .nil)⟩
    have hS3 := sql_same hS sH3
    -- the askings
    obtain ⟨m, hm, hm40⟩ : ∃ m : Nat, (4 + (if (36 : Int) < ((ns.map V.int).length : Nat) then 36 else (((ns.map V.int).length : Nat) : Int))) = (m : Int) ∧ m ≤ 40 := by
      refine ⟨4 + min 36 (ns.map V.int).length, ?_, by omega⟩
      split <;> omega
    refine go_sq ⟨_, rfl, .ref sa, _, rfl, .inl ⟨_, hS3, rfl⟩, _, _, rfl, _, _, rfl, rfl, _, rfl, by (rw [hm]; omega), by (rw [hm]; omega), ?_⟩
    rw [hm, Int.toNat_natCast]
    refine for_range (lo := 0) (n := m) (fun i σ H' => ∃ (v4 v5 v6 v7 v8 : Option V) (tbl : List Nd), σ = [some (.ref sa), some (.ref p), some (.ref c), some (.ref N), v4, v5, v6, v7, v8, none, none] ∧ Sta P w ad.Circuits H' p b c S D N tbl tbl ∧ Good tbl ∧ tbl.length ≤ i + 2)
      ⟨none, none, none, none, none, _, rfl, st3, good0, Nat.le_refl _⟩ ?_ ?_
    · rintro i σ H4 hi ⟨v4, v5, v6, v7, v8, tbl, rfl, st4, g, hl⟩
      rw [Int.zero_add]
      refine go_name rfl ?_
      -- kind
      refine go_seq ⟨(show 6 ≤ sizeLine by decide), fun q hq => ⟨_, rfl, p, 6, rfl, (st4.same (same_new (Same.refl _) hq)).pot.at_, by decide, by decide, fun H5 r fr _ r0 r1 hb => ?_⟩⟩
      obtain ⟨j, rfl⟩ := toN r0
      obtain ⟨kn, hkn⟩ := kinds_at j (by omega)
      have st5 := (st4.same (same_new (Same.refl _) hq)).draw dis fr hb
      refine ⟨q, _, _, _, rfl, rfl, SqL.of (fr _ _ (Ne.symm (st4.ne hq).1) upd_same), at_of rfl hkn, go_name rfl ?_⟩
      -- recent
      refine go_seq ⟨two, fun q2 hq2 => ⟨_, rfl, p, 2, rfl, (st5.same (same_new (Same.refl _) hq2)).pot.at_, by decide, by decide, fun H6 r2 fr2 _ r20 r21 hb2 => ?_⟩⟩
      obtain ⟨j2, rfl⟩ := toN r20
      obtain ⟨lm, hlm, hl2⟩ : ∃ lm : Nat, ([.int 3, .int 40] : List V)[j2]? = some (.int (lm : Int)) ∧ 2 ≤ lm := by
        rcases j2 with _ | _ | j2
        · exact ⟨3, rfl, by decide⟩
        · exact ⟨40, rfl, by decide⟩
        · omega
      have st6 := (st5.same (same_new (Same.refl _) hq2)).draw dis fr2 hb2
      obtain ⟨bs6, hN6, lN6⟩ := st6.tab.lN
      refine ⟨q2, _, _, _, rfl, rfl, SqL.of (fr2 _ _ (Ne.symm (st5.ne hq2).1) upd_same), at_of rfl hlm, _, rfl, .ref N, _, rfl, .inl ⟨_, SqL.of hN6, rfl⟩, _, _, rfl, go_name rfl ?_⟩
      rw [List.length_map, lN6]
      have two_ := g.two
      obtain ⟨rc, hrc, rc0, rc1⟩ : ∃ rc : Nat, (if ((tbl.length : Nat) : Int) < (lm : Int) then ((tbl.length : Nat) : Int) else (lm : Int)) = (rc : Int) ∧ 0 < rc ∧ rc ≤ tbl.length := by
        refine ⟨min tbl.length lm, ?_, by omega, by omega⟩
        split <;> omega
      rw [hrc]
      -- parts
      refine go_sq ⟨_, rfl, p, 6, rfl, st6.pot.at_, by decide, by decide, fun H7 r3 fr3 _ r30 r31 hb3 => ?_⟩
      obtain ⟨j3, rfl⟩ := toN r30
      have st7 := st6.draw dis fr3 hb3
      refine ⟨_, rfl, by omega, by omega, fun D7 hD7 => ?_⟩
      rw [Int.toNat_natCast]
      have ne7 := st7.ne hD7
      refine lc_range (lo := 0) (n := j3) (fun i' H' => Sta P w ad.Circuits H' p b c S D N tbl tbl ∧ ∃ qs : List Nat, H' D7 = some (.lst (nV qs)) ∧ qs.length = i' ∧ ∀ x ∈ qs, x < tbl.length) ⟨st7.same (same_new (Same.refl _) hD7), [], upd_same, rfl, fun x z => nomatch z⟩ (fun i' H8 hi' ⟨st8, qs, e8, l8, m8⟩ => ?_) (fun H8 ⟨st8, ps, e8, l8, m8⟩ => ?_)
      · obtain ⟨bs8, hN8, lN8⟩ := st8.tab.lN
        refine ⟨rfl, yes_then (iteT ⟨_, rfl, .ref N, _, rfl, .inl ⟨_, SqL.of hN8, rfl⟩, _, _, rfl, rfl, _, rfl, _, rfl, p, _, rfl, st8.pot.at_, by omega, by omega, fun H9 r4 fr4 _ r40 r41 hb4 => ⟨_, _, rfl, rfl, _, fr4 _ _ (Ne.symm ne7.1) e8, ?_, ?_⟩⟩)⟩
        · rw [List.length_map, l8]
          exact Nat.lt_of_le_of_lt (by omega : i' ≤ 100000) (by decide)
        · obtain ⟨j4, rfl⟩ := toN r40
          have st9 := st8.draw dis fr4 hb4
          refine ⟨st9.put (q := D7) (fun b o nb e => by rw [upd_ne nb]; exact e) (fr4 _ _ (Ne.symm ne7.1) e8) ne7.1 ne7.2.1 ne7.2.2.1 ne7.2.2.2, qs ++ [tbl.length - 1 - j4], ?_, by rw [List.length_append, l8]; rfl, fun x hx => ?_⟩
          · rw [upd_same, List.length_map, lN8]
            show some (HO.lst (nV qs ++ [V.int (((tbl.length : Nat) : Int) - 1 - (j4 : Int))])) = _
            rw [show ((tbl.length : Nat) : Int) - 1 - (j4 : Int) = ((tbl.length - 1 - j4 : Nat) : Int) by omega]
            unfold nV
            rw [List.map_append]
            rfl
          · rcases List.mem_append.mp hx with h | h
            · exact m8 x h
            · rw [List.mem_singleton.mp h]; omega
      refine go_name rfl ?_
      have nLN : D7 ≠ N := Ne.symm ne7.2.2.2
      have lb : tbl.length < 1000 := by omega
      -- the asking
      refine ⟨fun σ H' => ∃ (v6 : Option V) (L : Addr) (ps : List Nat), σ = [some (.ref sa), some (.ref p), some (.ref c), some (.ref N), some (.int (i : Int)), some (.str kn.word), v6, some (.ref L), some (.int ((askN tbl ps kn).2 : Nat)), none, none] ∧ Sta P w ad.Circuits H' p b c S D N (askN tbl ps kn).1 tbl ∧
        H' L = some (.lst (nV ps)) ∧ ps.length ≤ 1000 ∧ (kn = .fact ∨ kn = .star → 0 < ps.length) ∧ (∀ x ∈ ps, x < tbl.length ∨ kn = .fact) ∧ L ≠ N, ?_, ?_⟩
      · cases kn with
        | fact =>
          refine ⟨_, rfl, rfl, _, rfl, iteT ?_⟩
          refine go_seq ⟨_, rfl, p, 5, rfl, st8.pot.at_, by decide, by decide, fun H9 r5 fr5 _ r50 r51 hb5 => ⟨(show 1 ≤ sizeLine by decide), fun L hL => go_name rfl ?_⟩⟩
          obtain ⟨j5, rfl⟩ := toN r50
          have st9 := st8.draw dis fr5 hb5
          have ne9 := st9.ne hL
          have st10 := st9.same (same_new (o := .lst [.int (j5 : Int)]) (Same.refl _) hL)
          obtain ⟨dx, hc10⟩ := st10.cc.ins
          refine ⟨_, rfl, c, _, dx, _, 4, _, rfl, hc10, fC_no _ _ (by decide) (by decide), by decide, m_fact, _, rfl, L, _, _, _, rfl, rfl, SqL.of upd_same, at_of (j := 0) rfl rfl, c, S, D, tbl, j5, rfl, st10.cc, lb, fun H' fr' cc' => go_name rfl ?_⟩
          exact ⟨_, L, [j5], rfl, st10.made dis fr' cc', FrC.ne st10.cc fr' upd_same (Ne.symm ne9.2.2.1) (fun φ z => nomatch z), (by show 1 ≤ 1000; decide), fun _ => Nat.one_pos, fun x hx => .inr rfl, Ne.symm ne9.2.2.2⟩
        | star =>
          refine ⟨_, rfl, rfl, _, rfl, iteF ?_⟩
          refine ⟨_, rfl, rfl, _, rfl, iteT ?_⟩
          obtain ⟨bs8, hN8, lN8⟩ := st8.tab.lN
          refine go_seq ⟨_, rfl, _, rfl, .ref N, _, rfl, .inl ⟨_, SqL.of hN8, rfl⟩, p, _, rfl, st8.pot.at_, by (rw [List.length_map, lN8]; omega), by (rw [List.length_map, lN8]; exact Nat.lt_of_le_of_lt (by omega : _ ≤ 1000) (by decide)), fun H9 r5 fr5 _ r50 r51 hb5 => ⟨(show 1 ≤ sizeLine by decide), fun L hL => go_name rfl ?_⟩⟩
          obtain ⟨j5, rfl⟩ := toN r50
          rw [List.length_map, lN8] at r51
          have st9 := st8.draw dis fr5 hb5
          have ne9 := st9.ne hL
          have st10 := st9.same (same_new (o := .lst [.int (j5 : Int)]) (Same.refl _) hL)
          obtain ⟨dx, hc10⟩ := st10.cc.ins
          refine ⟨_, rfl, c, _, dx, _, 4, _, rfl, hc10, fC_no _ _ (by decide) (by decide), by decide, m_star, _, rfl, L, _, _, _, rfl, rfl, SqL.of upd_same, at_of (j := 0) rfl rfl, c, S, D, tbl, j5, rfl, st10.cc, lb, fun z => go_name rfl ?_, fun z H' fr' cc' => go_name rfl ?_⟩
          · have ea : askN tbl [j5] .star = (tbl, 1) := if_pos z
            refine ⟨some (.int (rc : Int)), L, [j5], ?_, ?_, upd_same, (by show 1 ≤ 1000; decide), fun _ => Nat.one_pos, fun x hx => .inl (by rw [List.mem_singleton.mp hx]; omega), Ne.symm ne9.2.2.2⟩
            · rw [ea]; rfl
            · rw [ea]; exact st10
          · have ea : askN tbl [j5] .star = idxN tbl (.star j5) := if_neg z
            refine ⟨some (.int (rc : Int)), L, [j5], ?_, ?_, FrC.ne st10.cc fr' upd_same (Ne.symm ne9.2.2.1) (fun φ z => nomatch z), (by show 1 ≤ 1000; decide), fun _ => Nat.one_pos, fun x hx => .inl (by rw [List.mem_singleton.mp hx]; omega), Ne.symm ne9.2.2.2⟩
            · rw [ea]; rfl
            · rw [ea]; exact st10.made dis fr' cc'
        | kd d =>
          have w1 : decide (V.str (Kn.kd d).word = V.str "fact") = false := by cases d <;> decide +kernel
          have w2 : decide (V.str (Kn.kd d).word = V.str "star") = false := by cases d <;> decide +kernel
          refine ⟨_, rfl, rfl, _, rfl, ?_⟩
          rw [w1]
          refine iteF ⟨_, rfl, rfl, _, rfl, ?_⟩
          rw [w2]
          have hl7 : ps.length ≤ 1000 := by omega
          cases d with
          | plus =>
            refine iteF ⟨_, rfl, rfl, _, rfl, iteT ?_⟩
            obtain ⟨dx, hc8⟩ := st8.cc.ins
            refine ⟨_, rfl, c, _, dx, _, 4, _, rfl, hc8, fC_no _ _ (by decide) (by decide), by decide, m_plus, _, rfl, D7, _, rfl, .inl (SqL.of e8), fun l hl9 => ⟨_, rfl, D7, _, rfl, .inl ⟨SqL.of ((same_new (Same.refl _) hl9) _ _ e8), fun tt ht => ⟨two, fun q3 hq3 => ⟨_, rfl, p, 2, rfl, (st8.same (new2 (new2 (same_new (Same.refl _) hl9) ht) hq3)).pot.at_, by decide, by decide, fun H9 r5 fr5 _ r50 r51 hb5 => ?_⟩⟩⟩⟩⟩
            have w1 := same_new (o := .lst (nV ps)) (Same.refl H8) hl9
            have w2 := new2 (o := .tup (nV ps)) w1 ht
            have st9 := (st8.same (new2 (o := .lst [.ref l, .ref tt]) w2 hq3)).draw dis fr5 hb5
            obtain ⟨_, hpp⟩ := st8.pot.ls
            have npq : p ≠ q3 := ne_of_none (w2 _ _ hpp) hq3
            have npt : p ≠ tt := ne_of_none (w1 _ _ hpp) ht
            have npl : p ≠ l := ne_of_none hpp hl9
            have e9 : H9 D7 = some (.lst (nV ps)) := fr5 _ _ (Ne.symm (ne7.1)) ((new2 w2 hq3) _ _ e8)
            have el9 : H9 l = some (.lst (nV ps)) := fr5 _ _ (Ne.symm npl) ((same_new (Same.refl _) hq3) _ _ ((same_new (Same.refl _) ht) _ _ upd_same))
            have et9 : H9 tt = some (.tup (nV ps)) := fr5 _ _ (Ne.symm npt) ((same_new (Same.refl _) hq3) _ _ upd_same)
            obtain ⟨j5, rfl⟩ := toN r50
            obtain ⟨lt, hlt, hlk⟩ : ∃ lt, ([.ref l, .ref tt] : List V)[j5]? = some (.ref lt) ∧ (H9 lt = some (.lst (nV ps)) ∨ H9 lt = some (.tup (nV ps))) := by
              rcases j5 with _ | _ | j5
              · exact ⟨l, rfl, .inl el9⟩
              · exact ⟨tt, rfl, .inr et9⟩
              · omega
            refine ⟨q3, _, _, _, rfl, rfl, SqL.of (fr5 _ _ (Ne.symm npq) upd_same), at_of rfl hlt, c, S, D, tbl, lt, ps, rfl, st9.cc, lb, hlk, hl7, (fun z => (nomatch z)), fun _ H' fr' cc' => go_name rfl ?_⟩
            exact ⟨some (.int (rc : Int)), D7, ps, rfl, st9.made dis fr' cc', FrC.ne st9.cc fr' e9 (Ne.symm ne7.2.2.1) (fun φ z => nomatch z), hl7, fun h => (by rcases h with h | h <;> cases h), fun x hx => .inl (m8 x hx), nLN⟩
          | times =>
            refine iteF ⟨_, rfl, rfl, _, rfl, iteF ?_⟩
            obtain ⟨dx, hc8⟩ := st8.cc.ins
            refine ⟨_, rfl, c, _, dx, _, 4, _, rfl, hc8, fC_no _ _ (by decide) (by decide), by decide, m_times, _, rfl, D7, _, rfl, .inl (SqL.of e8), fun l hl9 => ⟨_, rfl, D7, _, rfl, .inl ⟨SqL.of ((same_new (Same.refl _) hl9) _ _ e8), fun tt ht => ⟨two, fun q3 hq3 => ⟨_, rfl, p, 2, rfl, (st8.same (new2 (new2 (same_new (Same.refl _) hl9) ht) hq3)).pot.at_, by decide, by decide, fun H9 r5 fr5 _ r50 r51 hb5 => ?_⟩⟩⟩⟩⟩
            have w1 := same_new (o := .lst (nV ps)) (Same.refl H8) hl9
            have w2 := new2 (o := .tup (nV ps)) w1 ht
            have st9 := (st8.same (new2 (o := .lst [.ref l, .ref tt]) w2 hq3)).draw dis fr5 hb5
            obtain ⟨_, hpp⟩ := st8.pot.ls
            have npq : p ≠ q3 := ne_of_none (w2 _ _ hpp) hq3
            have npt : p ≠ tt := ne_of_none (w1 _ _ hpp) ht
            have npl : p ≠ l := ne_of_none hpp hl9
            have e9 : H9 D7 = some (.lst (nV ps)) := fr5 _ _ (Ne.symm (ne7.1)) ((new2 w2 hq3) _ _ e8)
            have el9 : H9 l = some (.lst (nV ps)) := fr5 _ _ (Ne.symm npl) ((same_new (Same.refl _) hq3) _ _ ((same_new (Same.refl _) ht) _ _ upd_same))
            have et9 : H9 tt = some (.tup (nV ps)) := fr5 _ _ (Ne.symm npt) ((same_new (Same.refl _) hq3) _ _ upd_same)
            obtain ⟨j5, rfl⟩ := toN r50
            obtain ⟨lt, hlt, hlk⟩ : ∃ lt, ([.ref l, .ref tt] : List V)[j5]? = some (.ref lt) ∧ (H9 lt = some (.lst (nV ps)) ∨ H9 lt = some (.tup (nV ps))) := by
              rcases j5 with _ | _ | j5
              · exact ⟨l, rfl, .inl el9⟩
              · exact ⟨tt, rfl, .inr et9⟩
              · omega
            refine ⟨q3, _, _, _, rfl, rfl, SqL.of (fr5 _ _ (Ne.symm npq) upd_same), at_of rfl hlt, c, S, D, tbl, lt, ps, rfl, st9.cc, lb, hlk, hl7, fun _ z0 => go_name rfl ?_, fun z H' fr' cc' => go_name rfl ?_⟩
            · have ea : askN tbl ps (.kd .times) = (tbl, 0) := if_pos z0
              refine ⟨some (.int (rc : Int)), D7, ps, ?_, ?_, e9, hl7, fun h => (by rcases h with h | h <;> cases h), fun x hx => .inl (m8 x hx), nLN⟩
              · rw [ea]; rfl
              · rw [ea]; exact st9
            · have ea : askN tbl ps (.kd .times) = sevN tbl .times (ps.filter fun n => decide (n ≠ 1)) := if_neg (z rfl)
              refine ⟨some (.int (rc : Int)), D7, ps, ?_, ?_, FrC.ne st9.cc fr' e9 (Ne.symm ne7.2.2.1) (fun φ z => nomatch z), hl7, fun h => (by rcases h with h | h <;> cases h), fun x hx => .inl (m8 x hx), nLN⟩
              · rw [ea]; rfl
              · rw [ea]; exact st9.made dis fr' cc'
      · rintro σ H9 ⟨v6, L, qs, rfl, st9, eL, lL, pL, mL, nL⟩
        have nx := ask_nxt g mL lL fun z => pL (.inr z)
        refine ⟨_, rfl, _, rfl, _, rfl, _, rfl, N, L, kn, qs, tbl, rfl, st9.tab, lb, eL, lL, pL, nL, fun H10 fr10 ht10 => ?_⟩
        have st10 := st9.due dis fr10 ht10
        refine ⟨_, _, rfl, .int _, fun H11 s11 => ⟨true, rfl, iteF ?_⟩⟩
        have st11 := st10.same s11
        obtain ⟨dx, hc11⟩ := st11.cc.ins
        obtain ⟨as, hS11, lS11⟩ := st11.cc.lS
        obtain ⟨bs, hN11, lN11⟩ := st11.tab.lN
        refine ⟨_, rfl, c, _, dx, _, 4, _, rfl, hc11, fC_no _ _ (by decide) (by decide), by decide, m_count, c, dx, S, D, _, rfl, hc11, hS11, _, rfl, .ref N, _, rfl, .inl ⟨_, SqL.of hN11, rfl⟩, rfl, _, rfl, ?_⟩
        rw [List.length_map, List.length_map, lS11, lN11, decide_eq_true rfl]
        refine iteF (go_nx ?_)
        exact ⟨_, _, _, _, _, _, rfl, st11, nx.good, by have := nx.len; omega⟩
    · rintro σ H4 ⟨v4, v5, v6, v7, v8, tbl, rfl, st4, g, hl⟩
      have hl42 : tbl.length < 64 := by omega
      obtain ⟨bs4, hN4, lN4⟩ := st4.tab.lN
      have nat_ : ∀ {H' : Hp} (i : Nat) (hi : i < tbl.length), Tab H' N tbl → ∃ (xs : List V) (b' : Addr), H' N = some (.lst xs) ∧ xs.length = tbl.length ∧ xs[i]? = some (.ref b') ∧ NdAt H' b' tbl[i] := fun i hi tb => by
        obtain ⟨bs, hN, hk⟩ := tb
        obtain ⟨x, ex, ky⟩ := Kys.at (i := i) (k := tK tbl[i]) hk (by rw [List.getElem?_map, List.getElem?_eq_getElem hi]; rfl)
        have hlen := Kys.length hk
        rw [List.length_map] at hlen
        cases ky with
        | tup e1 e2 => exact ⟨_, _, hN, hlen.symm, ex, .tup e1 e2⟩
      obtain ⟨n2, hn2, hn2l⟩ : ∃ n2 : Nat, (if (24 : Int) < ((tbl.length : Nat) : Int) then (24 : Int) else ((tbl.length : Nat) : Int)) = (n2 : Int) ∧ n2 ≤ tbl.length := by
        refine ⟨min 24 tbl.length, ?_, by omega⟩
        split <;> omega
      have eL : ((bs4.map V.ref).length : Nat) = tbl.length := by rw [List.length_map, lN4]
      refine go_nx (go_sq ⟨_, rfl, .ref N, _, rfl, .inl ⟨_, SqL.of hN4, rfl⟩, _, _, rfl, _, rfl, by (rw [eL, hn2]; omega), by (rw [eL, hn2]; omega), ?_⟩)
      rw [eL, hn2, Int.toNat_natCast]
      refine for_range (lo := 0) (n := n2) (fun i σ H' => ∃ v9 : Option V, σ = [some (.ref sa), some (.ref p), some (.ref c), some (.ref N), v4, v5, v6, v7, v8, v9, none] ∧ Sta P w ad.Circuits H' p b c S D N tbl tbl) ⟨none, rfl, st4⟩ ?_ ?_
      · rintro i σ H5 hi ⟨v9, rfl, st5⟩
        rw [Int.zero_add]
        refine go_name rfl ?_
        have hit : i < tbl.length := by omega
        have hnd : tbl[i]? = some tbl[i] := List.getElem?_eq_getElem hit
        have hps := g.ps tbl[i] (List.getElem_mem hit)
        obtain ⟨dx, hc5⟩ := st5.cc.ins
        obtain ⟨xs5, b5, hN5, lN5, ex5, hb5⟩ := nat_ i hit st5.tab
        refine ⟨_, rfl, c, _, dx, _, 4, _, rfl, hc5, fC_no _ _ (by decide) (by decide), by decide, m_shown, _, rfl, c, S, D, tbl, i, tbl[i], rfl, st5.cc, hnd, fun a5 ha5 => ⟨_, rfl, _, rfl, N, _, _, _, rfl, rfl, SqL.of hN5, at_of (j := i) rfl ex5, _, _, rfl, dd_nd ha5 hb5 hps, fun H6 s6 => ⟨true, rfl, iteF ?_⟩⟩⟩
        have st6 := st5.same s6
        refine ⟨_, rfl, c, _, dx, _, 4, _, rfl, s6 _ _ hc5, fC_no _ _ (by decide) (by decide), by decide, m_facts_in, _, rfl, c, S, D, tbl, i, rfl, st6.cc, g.wf, g.nd, hl42, hit, fun H7 l7 ks7 s7 e7 n7 p7 m7 => ?_⟩
        have st7 := st6.same s7
        refine ⟨_, rfl, _, rfl, N, i, tbl, rfl, st7.tab, g.wf, hl42, hit, by omega, g.ps, fun H8 l8 ks8 s8 e8 p8 fk8 => ?_⟩
        obtain rfl : ks7 = ks8 := facts_eq n7 fk8.1 p7 p8 fun k => (m7 k).trans (fk8.2 k).symm
        have lk : ks7.length ≤ 64 := by
          have := Fk.len n7 fun x hx => let ⟨m, _, hm⟩ := (m7 x).mp hx; ⟨m, hm⟩
          omega
        refine ⟨_, _, rfl, .lst (s8 _ _ e7) e8 rfl (by rw [List.length_map]; omega) fun j x y hx hy => dd_nums ks7 j x y hx hy, fun H9 s9 => ⟨true, rfl, iteF (go_nx ?_)⟩⟩
        exact ⟨_, rfl, (st7.same s8).same s9⟩
      · rintro σ H5 ⟨v9, rfl, st5⟩
        have two_ := g.two
        have hit : tbl.length - 1 < tbl.length := by omega
        have hnd : tbl[tbl.length - 1]? = some tbl[tbl.length - 1] := List.getElem?_eq_getElem hit
        obtain ⟨dx, hc5⟩ := st5.cc.ins
        obtain ⟨xs5, b5, hN5, lN5, ex5, hb5⟩ := nat_ (tbl.length - 1) hit st5.tab
        have e1 : ((xs5.length : Nat) : Int) - 1 = ((tbl.length - 1 : Nat) : Int) := by omega
        refine ⟨_, rfl, c, _, dx, _, 4, _, rfl, hc5, fC_no _ _ (by decide) (by decide), by decide, m_shown, _, rfl, .ref N, _, rfl, .inl ⟨_, SqL.of hN5, rfl⟩, _, _, rfl, rfl, c, S, D, tbl, tbl.length - 1, _, congrArg (fun z : Int => [V.ref c, V.int z]) e1, st5.cc, hnd, fun a5 ha5 => ⟨_, rfl, _, rfl, .ref N, _, rfl, .inl ⟨_, SqL.of hN5, rfl⟩, _, _, rfl, rfl, N, _, _, _, rfl, rfl, SqL.of hN5, at_of (j := tbl.length - 1) e1 ex5, _, _, ha5, hb5, Nd.keyDepth _, ?_⟩⟩
        rw [decide_eq_true rfl]
        exact k _
end
end K12

set_option Elab.async false
set_option linter.all false
set_option maxRecDepth 100000
set_option maxHeartbeats 4000000
namespace K12
open PySem L2 Ew Tb ND
local macro_rules | `(tactic| walk_at "len") => `(tactic| first | (intro h; obtain ⟨_, e, _⟩ := h; rw [e]; rfl) | (intro h; obtain ⟨_, _, e, _⟩ := h; rw [e]; rfl) | (intro h; obtain ⟨_, _, _, e, _⟩ := h; rw [e]; rfl) | (intro h; obtain ⟨_, _, _, _, e, _⟩ := h; rw [e]; rfl) | (intro h; obtain ⟨_, _, _, _, _, e, _⟩ := h; rw [e]; rfl) | (intro h; obtain ⟨_, _, _, _, _, _, e, _⟩ := h; rw [e]; rfl) | (intro h; obtain ⟨_, _, _, _, _, _, _, e, _⟩ := h; rw [e]; rfl) | (intro h; exact h.elim))
section
variable {P : Program} {w : World} {K : PySem.W.Frag} {mg : Str → Option Value} {base : Heap} {ad : Ad}
theorem same_cal {f : Addr} {fd : FuncData} (F : Fun K "_law_same" "_law_same" s_law_same f fd) (T : Txt K mg ad) (hm : mg "_law_same" = some (.ref f)) (b : Binds K fd ["found", "value"] []) (ci : CalX P w K mg base 1 "_law_is_int" spIsInt) : ∀ n : Nat, CalX P w K mg base (n + 5) "_law_same" (spSame n)
  | 0 => cal_mk (k := 5) ⟨fun _ _ _ _ ⟨_, _, _, h, _⟩ => (nomatch h), fun _ _ _ _ _ _ _ _ _ _ _ _ _ ⟨_, _, _, h, _⟩ => (nomatch h)⟩ hm F.kp b
  | n + 1 => cal_mk (ok_law_same (n := n) (lv := n + 5) ci (same_cal F T hm b ci n) (by omega) F T) hm F.kp b
theorem facts_cal {f : Addr} {fd : FuncData} (F : Fun K "_law_facts" "_law_facts" s_law_facts f fd) (T : Txt K mg ad) (hm : mg "_law_facts" = some (.ref f)) (b : Binds K fd ["nodes", "node"] []) : ∀ n : Nat, CalX P w K mg base (n + 6) "_law_facts" (spLF n)
  | 0 => cal_mk (k := 6) ⟨fun _ _ _ _ ⟨_, _, _, _, _, _, _, _, h, _⟩ => absurd h (Nat.not_lt_zero _), fun _ _ _ _ _ _ _ _ _ _ _ _ _ ⟨_, _, _, _, _, _, _, _, h, _⟩ => absurd h (Nat.not_lt_zero _)⟩ hm F.kp b
  | n + 1 => cal_mk (ok_law_facts (b := n) (lv := n + 6) (facts_cal F T hm b n) (by omega) F T) hm F.kp b
end
end K12

set_option Elab.async false
set_option linter.all false
set_option maxRecDepth 100000
set_option maxHeartbeats 8000000
namespace K12
open PySem L2 Ew

theorem all_mk {l : PySem.W.OpenLaw} {w : World} {K : PySem.W.Frag} {h : Heap} {mg : Str → Option Value} {fa : Addr} (X : K.In h) (G : h.Ns mainGlobals mg) (hfa : mg "law" = some (.ref fa))
    {C_Circuits : Addr}
    {C_TooLarge : Addr}
    {C_WorthError : Addr}
    {f_Circuits_init : Addr} {od_Circuits_init an_Circuits_init : Option Addr} {sl_Circuits_init : Array (Option Value)} {oc_Circuits_init kV_Circuits_init dc_Circuits_init pm_Circuits_init cd_Circuits_init ct_Circuits_init : Value}
    {f_Circuits_fact : Addr} {od_Circuits_fact an_Circuits_fact : Option Addr} {sl_Circuits_fact : Array (Option Value)} {oc_Circuits_fact kV_Circuits_fact dc_Circuits_fact pm_Circuits_fact cd_Circuits_fact ct_Circuits_fact : Value}
    {f_Circuits_plus : Addr} {od_Circuits_plus an_Circuits_plus : Option Addr} {sl_Circuits_plus : Array (Option Value)} {oc_Circuits_plus kV_Circuits_plus dc_Circuits_plus pm_Circuits_plus cd_Circuits_plus ct_Circuits_plus : Value}
    {f_Circuits_times : Addr} {od_Circuits_times an_Circuits_times : Option Addr} {sl_Circuits_times : Array (Option Value)} {oc_Circuits_times kV_Circuits_times dc_Circuits_times pm_Circuits_times cd_Circuits_times ct_Circuits_times : Value}
    {f_Circuits_star : Addr} {od_Circuits_star an_Circuits_star : Option Addr} {sl_Circuits_star : Array (Option Value)} {oc_Circuits_star kV_Circuits_star dc_Circuits_star pm_Circuits_star cd_Circuits_star ct_Circuits_star : Value}
    {f_Circuits_shown : Addr} {od_Circuits_shown an_Circuits_shown : Option Addr} {sl_Circuits_shown : Array (Option Value)} {oc_Circuits_shown kV_Circuits_shown dc_Circuits_shown pm_Circuits_shown cd_Circuits_shown ct_Circuits_shown : Value}
    {f_Circuits_count : Addr} {od_Circuits_count an_Circuits_count : Option Addr} {sl_Circuits_count : Array (Option Value)} {oc_Circuits_count kV_Circuits_count dc_Circuits_count pm_Circuits_count cd_Circuits_count ct_Circuits_count : Value}
    {f_Circuits_facts_in : Addr} {od_Circuits_facts_in an_Circuits_facts_in : Option Addr} {sl_Circuits_facts_in : Array (Option Value)} {oc_Circuits_facts_in kV_Circuits_facts_in dc_Circuits_facts_in pm_Circuits_facts_in cd_Circuits_facts_in ct_Circuits_facts_in : Value}
    {f_Circuits_several : Addr} {od_Circuits_several an_Circuits_several : Option Addr} {sl_Circuits_several : Array (Option Value)} {oc_Circuits_several kV_Circuits_several dc_Circuits_several pm_Circuits_several cd_Circuits_several ct_Circuits_several : Value}
    {f_Circuits_node : Addr} {od_Circuits_node an_Circuits_node : Option Addr} {sl_Circuits_node : Array (Option Value)} {oc_Circuits_node kV_Circuits_node dc_Circuits_node pm_Circuits_node cd_Circuits_node ct_Circuits_node : Value}
    {f_nodes_within : Addr} {od_nodes_within an_nodes_within : Option Addr} {sl_nodes_within : Array (Option Value)} {oc_nodes_within kV_nodes_within dc_nodes_within pm_nodes_within cd_nodes_within ct_nodes_within : Value}
    {f_parts : Addr} {od_parts an_parts : Option Addr} {sl_parts : Array (Option Value)} {oc_parts kV_parts dc_parts pm_parts cd_parts ct_parts : Value}
    {f_law_pot : Addr} {od_law_pot an_law_pot : Option Addr} {sl_law_pot : Array (Option Value)} {oc_law_pot kV_law_pot dc_law_pot pm_law_pot cd_law_pot ct_law_pot : Value}
    {f_law_next : Addr} {od_law_next an_law_next : Option Addr} {sl_law_next : Array (Option Value)} {oc_law_next kV_law_next dc_law_next pm_law_next cd_law_next ct_law_next : Value}
    {f_law_is_int : Addr} {od_law_is_int an_law_is_int : Option Addr} {sl_law_is_int : Array (Option Value)} {oc_law_is_int kV_law_is_int dc_law_is_int pm_law_is_int cd_law_is_int ct_law_is_int : Value}
    {f_law_same : Addr} {od_law_same an_law_same : Option Addr} {sl_law_same : Array (Option Value)} {oc_law_same kV_law_same dc_law_same pm_law_same cd_law_same ct_law_same : Value}
    {f_law_due : Addr} {od_law_due an_law_due : Option Addr} {sl_law_due : Array (Option Value)} {oc_law_due kV_law_due dc_law_due pm_law_due cd_law_due ct_law_due : Value}
    {f_law_facts : Addr} {od_law_facts an_law_facts : Option Addr} {sl_law_facts : Array (Option Value)} {oc_law_facts kV_law_facts dc_law_facts pm_law_facts cd_law_facts ct_law_facts : Value}
    {f_law : Addr} {od_law an_law : Option Addr} {sl_law : Array (Option Value)} {oc_law kV_law dc_law pm_law cd_law ct_law : Value}
    {tk_MOST_NODES : Tok}
    {tk_MOST_IN_ONE : Tok}
    {tk_ZERO : Tok}
    {tk_ONE : Tok}
    (aC_WorthError : PySem.W.nsIn K mainGlobals "WorthError" = some (some (.ref C_WorthError)))
    (aC_TooLarge : PySem.W.nsIn K mainGlobals "TooLarge" = some (some (.ref C_TooLarge)))
    (aC_Circuits : PySem.W.nsIn K mainGlobals "Circuits" = some (some (.ref C_Circuits)))
    (a_Circuits_init : PySem.W.findIn K (.ref C_Circuits) "__init__" = some (some (.ref f_Circuits_init)))
    (i_Circuits_init : PySem.W.isFn K (.ref f_Circuits_init) = true)
    (l_Circuits_init : K.lookup f_Circuits_init = some ⟨oc_Circuits_init, od_Circuits_init, .func (PySem.W.fnOf "__init__" "Circuits.__init__" (defArgs s_Circuits_init) (defBody s_Circuits_init) (defScope s_Circuits_init) .none kV_Circuits_init dc_Circuits_init pm_Circuits_init an_Circuits_init cd_Circuits_init ct_Circuits_init), sl_Circuits_init⟩)
    (c_Circuits_init : PySem.W.codeIn K cd_Circuits_init "Circuits.__init__" = true)
    (k_Circuits_init : PySem.W.keepIn K (.ref f_Circuits_init) = true)
    (a_Circuits_fact : PySem.W.findIn K (.ref C_Circuits) "fact" = some (some (.ref f_Circuits_fact)))
    (i_Circuits_fact : PySem.W.isFn K (.ref f_Circuits_fact) = true)
    (l_Circuits_fact : K.lookup f_Circuits_fact = some ⟨oc_Circuits_fact, od_Circuits_fact, .func (PySem.W.fnOf "fact" "Circuits.fact" (defArgs s_Circuits_fact) (defBody s_Circuits_fact) (defScope s_Circuits_fact) .none kV_Circuits_fact dc_Circuits_fact pm_Circuits_fact an_Circuits_fact cd_Circuits_fact ct_Circuits_fact), sl_Circuits_fact⟩)
    (c_Circuits_fact : PySem.W.codeIn K cd_Circuits_fact "Circuits.fact" = true)
    (k_Circuits_fact : PySem.W.keepIn K (.ref f_Circuits_fact) = true)
    (a_Circuits_plus : PySem.W.findIn K (.ref C_Circuits) "plus" = some (some (.ref f_Circuits_plus)))
    (i_Circuits_plus : PySem.W.isFn K (.ref f_Circuits_plus) = true)
    (l_Circuits_plus : K.lookup f_Circuits_plus = some ⟨oc_Circuits_plus, od_Circuits_plus, .func (PySem.W.fnOf "plus" "Circuits.plus" (defArgs s_Circuits_plus) (defBody s_Circuits_plus) (defScope s_Circuits_plus) .none kV_Circuits_plus dc_Circuits_plus pm_Circuits_plus an_Circuits_plus cd_Circuits_plus ct_Circuits_plus), sl_Circuits_plus⟩)
    (c_Circuits_plus : PySem.W.codeIn K cd_Circuits_plus "Circuits.plus" = true)
    (k_Circuits_plus : PySem.W.keepIn K (.ref f_Circuits_plus) = true)
    (a_Circuits_times : PySem.W.findIn K (.ref C_Circuits) "times" = some (some (.ref f_Circuits_times)))
    (i_Circuits_times : PySem.W.isFn K (.ref f_Circuits_times) = true)
    (l_Circuits_times : K.lookup f_Circuits_times = some ⟨oc_Circuits_times, od_Circuits_times, .func (PySem.W.fnOf "times" "Circuits.times" (defArgs s_Circuits_times) (defBody s_Circuits_times) (defScope s_Circuits_times) .none kV_Circuits_times dc_Circuits_times pm_Circuits_times an_Circuits_times cd_Circuits_times ct_Circuits_times), sl_Circuits_times⟩)
    (c_Circuits_times : PySem.W.codeIn K cd_Circuits_times "Circuits.times" = true)
    (k_Circuits_times : PySem.W.keepIn K (.ref f_Circuits_times) = true)
    (a_Circuits_star : PySem.W.findIn K (.ref C_Circuits) "star" = some (some (.ref f_Circuits_star)))
    (i_Circuits_star : PySem.W.isFn K (.ref f_Circuits_star) = true)
    (l_Circuits_star : K.lookup f_Circuits_star = some ⟨oc_Circuits_star, od_Circuits_star, .func (PySem.W.fnOf "star" "Circuits.star" (defArgs s_Circuits_star) (defBody s_Circuits_star) (defScope s_Circuits_star) .none kV_Circuits_star dc_Circuits_star pm_Circuits_star an_Circuits_star cd_Circuits_star ct_Circuits_star), sl_Circuits_star⟩)
    (c_Circuits_star : PySem.W.codeIn K cd_Circuits_star "Circuits.star" = true)
    (k_Circuits_star : PySem.W.keepIn K (.ref f_Circuits_star) = true)
    (a_Circuits_shown : PySem.W.findIn K (.ref C_Circuits) "shown" = some (some (.ref f_Circuits_shown)))
    (i_Circuits_shown : PySem.W.isFn K (.ref f_Circuits_shown) = true)
    (l_Circuits_shown : K.lookup f_Circuits_shown = some ⟨oc_Circuits_shown, od_Circuits_shown, .func (PySem.W.fnOf "shown" "Circuits.shown" (defArgs s_Circuits_shown) (defBody s_Circuits_shown) (defScope s_Circuits_shown) .none kV_Circuits_shown dc_Circuits_shown pm_Circuits_shown an_Circuits_shown cd_Circuits_shown ct_Circuits_shown), sl_Circuits_shown⟩)
    (c_Circuits_shown : PySem.W.codeIn K cd_Circuits_shown "Circuits.shown" = true)
    (k_Circuits_shown : PySem.W.keepIn K (.ref f_Circuits_shown) = true)
    (a_Circuits_count : PySem.W.findIn K (.ref C_Circuits) "count" = some (some (.ref f_Circuits_count)))
    (i_Circuits_count : PySem.W.isFn K (.ref f_Circuits_count) = true)
    (l_Circuits_count : K.lookup f_Circuits_count = some ⟨oc_Circuits_count, od_Circuits_count, .func (PySem.W.fnOf "count" "Circuits.count" (defArgs s_Circuits_count) (defBody s_Circuits_count) (defScope s_Circuits_count) .none kV_Circuits_count dc_Circuits_count pm_Circuits_count an_Circuits_count cd_Circuits_count ct_Circuits_count), sl_Circuits_count⟩)
    (c_Circuits_count : PySem.W.codeIn K cd_Circuits_count "Circuits.count" = true)
    (k_Circuits_count : PySem.W.keepIn K (.ref f_Circuits_count) = true)
    (a_Circuits_facts_in : PySem.W.findIn K (.ref C_Circuits) "facts_in" = some (some (.ref f_Circuits_facts_in)))
    (i_Circuits_facts_in : PySem.W.isFn K (.ref f_Circuits_facts_in) = true)
    (l_Circuits_facts_in : K.lookup f_Circuits_facts_in = some ⟨oc_Circuits_facts_in, od_Circuits_facts_in, .func (PySem.W.fnOf "facts_in" "Circuits.facts_in" (defArgs s_Circuits_facts_in) (defBody s_Circuits_facts_in) (defScope s_Circuits_facts_in) .none kV_Circuits_facts_in dc_Circuits_facts_in pm_Circuits_facts_in an_Circuits_facts_in cd_Circuits_facts_in ct_Circuits_facts_in), sl_Circuits_facts_in⟩)
    (c_Circuits_facts_in : PySem.W.codeIn K cd_Circuits_facts_in "Circuits.facts_in" = true)
    (k_Circuits_facts_in : PySem.W.keepIn K (.ref f_Circuits_facts_in) = true)
    (a_Circuits_several : PySem.W.findIn K (.ref C_Circuits) "_several" = some (some (.ref f_Circuits_several)))
    (i_Circuits_several : PySem.W.isFn K (.ref f_Circuits_several) = true)
    (l_Circuits_several : K.lookup f_Circuits_several = some ⟨oc_Circuits_several, od_Circuits_several, .func (PySem.W.fnOf "_several" "Circuits._several" (defArgs s_Circuits_several) (defBody s_Circuits_several) (defScope s_Circuits_several) .none kV_Circuits_several dc_Circuits_several pm_Circuits_several an_Circuits_several cd_Circuits_several ct_Circuits_several), sl_Circuits_several⟩)
    (c_Circuits_several : PySem.W.codeIn K cd_Circuits_several "Circuits._several" = true)
    (k_Circuits_several : PySem.W.keepIn K (.ref f_Circuits_several) = true)
    (a_Circuits_node : PySem.W.findIn K (.ref C_Circuits) "_node" = some (some (.ref f_Circuits_node)))
    (i_Circuits_node : PySem.W.isFn K (.ref f_Circuits_node) = true)
    (l_Circuits_node : K.lookup f_Circuits_node = some ⟨oc_Circuits_node, od_Circuits_node, .func (PySem.W.fnOf "_node" "Circuits._node" (defArgs s_Circuits_node) (defBody s_Circuits_node) (defScope s_Circuits_node) .none kV_Circuits_node dc_Circuits_node pm_Circuits_node an_Circuits_node cd_Circuits_node ct_Circuits_node), sl_Circuits_node⟩)
    (c_Circuits_node : PySem.W.codeIn K cd_Circuits_node "Circuits._node" = true)
    (k_Circuits_node : PySem.W.keepIn K (.ref f_Circuits_node) = true)
    (a_nodes_within : PySem.W.nsIn K mainGlobals "nodes_within" = some (some (.ref f_nodes_within)))
    (l_nodes_within : K.lookup f_nodes_within = some ⟨oc_nodes_within, od_nodes_within, .func (PySem.W.fnOf "nodes_within" "nodes_within" (defArgs s_nodes_within) (defBody s_nodes_within) (defScope s_nodes_within) .none kV_nodes_within dc_nodes_within pm_nodes_within an_nodes_within cd_nodes_within ct_nodes_within), sl_nodes_within⟩)
    (c_nodes_within : PySem.W.codeIn K cd_nodes_within "nodes_within" = true)
    (k_nodes_within : PySem.W.keepIn K (.ref f_nodes_within) = true)
    (a_parts : PySem.W.nsIn K mainGlobals "_parts" = some (some (.ref f_parts)))
    (l_parts : K.lookup f_parts = some ⟨oc_parts, od_parts, .func (PySem.W.fnOf "_parts" "_parts" (defArgs s_parts) (defBody s_parts) (defScope s_parts) .none kV_parts dc_parts pm_parts an_parts cd_parts ct_parts), sl_parts⟩)
    (c_parts : PySem.W.codeIn K cd_parts "_parts" = true)
    (k_parts : PySem.W.keepIn K (.ref f_parts) = true)
    (a_law_pot : PySem.W.nsIn K mainGlobals "_law_pot" = some (some (.ref f_law_pot)))
    (l_law_pot : K.lookup f_law_pot = some ⟨oc_law_pot, od_law_pot, .func (PySem.W.fnOf "_law_pot" "_law_pot" (defArgs s_law_pot) (defBody s_law_pot) (defScope s_law_pot) .none kV_law_pot dc_law_pot pm_law_pot an_law_pot cd_law_pot ct_law_pot), sl_law_pot⟩)
    (c_law_pot : PySem.W.codeIn K cd_law_pot "_law_pot" = true)
    (k_law_pot : PySem.W.keepIn K (.ref f_law_pot) = true)
    (a_law_next : PySem.W.nsIn K mainGlobals "_law_next" = some (some (.ref f_law_next)))
    (l_law_next : K.lookup f_law_next = some ⟨oc_law_next, od_law_next, .func (PySem.W.fnOf "_law_next" "_law_next" (defArgs s_law_next) (defBody s_law_next) (defScope s_law_next) .none kV_law_next dc_law_next pm_law_next an_law_next cd_law_next ct_law_next), sl_law_next⟩)
    (c_law_next : PySem.W.codeIn K cd_law_next "_law_next" = true)
    (k_law_next : PySem.W.keepIn K (.ref f_law_next) = true)
    (a_law_is_int : PySem.W.nsIn K mainGlobals "_law_is_int" = some (some (.ref f_law_is_int)))
    (l_law_is_int : K.lookup f_law_is_int = some ⟨oc_law_is_int, od_law_is_int, .func (PySem.W.fnOf "_law_is_int" "_law_is_int" (defArgs s_law_is_int) (defBody s_law_is_int) (defScope s_law_is_int) .none kV_law_is_int dc_law_is_int pm_law_is_int an_law_is_int cd_law_is_int ct_law_is_int), sl_law_is_int⟩)
    (c_law_is_int : PySem.W.codeIn K cd_law_is_int "_law_is_int" = true)
    (k_law_is_int : PySem.W.keepIn K (.ref f_law_is_int) = true)
    (a_law_same : PySem.W.nsIn K mainGlobals "_law_same" = some (some (.ref f_law_same)))
    (l_law_same : K.lookup f_law_same = some ⟨oc_law_same, od_law_same, .func (PySem.W.fnOf "_law_same" "_law_same" (defArgs s_law_same) (defBody s_law_same) (defScope s_law_same) .none kV_law_same dc_law_same pm_law_same an_law_same cd_law_same ct_law_same), sl_law_same⟩)
    (c_law_same : PySem.W.codeIn K cd_law_same "_law_same" = true)
    (k_law_same : PySem.W.keepIn K (.ref f_law_same) = true)
    (a_law_due : PySem.W.nsIn K mainGlobals "_law_due" = some (some (.ref f_law_due)))
    (l_law_due : K.lookup f_law_due = some ⟨oc_law_due, od_law_due, .func (PySem.W.fnOf "_law_due" "_law_due" (defArgs s_law_due) (defBody s_law_due) (defScope s_law_due) .none kV_law_due dc_law_due pm_law_due an_law_due cd_law_due ct_law_due), sl_law_due⟩)
    (c_law_due : PySem.W.codeIn K cd_law_due "_law_due" = true)
    (k_law_due : PySem.W.keepIn K (.ref f_law_due) = true)
    (a_law_facts : PySem.W.nsIn K mainGlobals "_law_facts" = some (some (.ref f_law_facts)))
    (l_law_facts : K.lookup f_law_facts = some ⟨oc_law_facts, od_law_facts, .func (PySem.W.fnOf "_law_facts" "_law_facts" (defArgs s_law_facts) (defBody s_law_facts) (defScope s_law_facts) .none kV_law_facts dc_law_facts pm_law_facts an_law_facts cd_law_facts ct_law_facts), sl_law_facts⟩)
    (c_law_facts : PySem.W.codeIn K cd_law_facts "_law_facts" = true)
    (k_law_facts : PySem.W.keepIn K (.ref f_law_facts) = true)
    (a_law : PySem.W.nsIn K mainGlobals "law" = some (some (.ref f_law)))
    (l_law : K.lookup f_law = some ⟨oc_law, od_law, .func (PySem.W.fnOf "law" "law" (defArgs s_law) (defBody s_law) (defScope s_law) .none kV_law dc_law pm_law an_law cd_law ct_law), sl_law⟩)
    (c_law : PySem.W.codeIn K cd_law "law" = true)
    (k_law : PySem.W.keepIn K (.ref f_law) = true)
    (x_WorthError : PySem.W.excIn K C_WorthError [.type "ValueError", .type "Exception", .type "BaseException", .type "object"] "ValueError.__new__" = true)
    (kp_WorthError : PySem.W.keepIn K (.ref C_WorthError) = true)
    (b_WorthError : PySem.W.subIn K (.ref C_WorthError) (.type "BaseException") = some true)
    (t_WorthError : PySem.W.typeIn K (.ref C_WorthError) = some (.type "type"))
    (hd_WorthError : PySem.W.hasDictIn K C_WorthError = true)
    (ga_WorthError : PySem.W.findIn K (.ref C_WorthError) "__getattribute__" = some (some (.builtin "BaseException.__getattribute__")))
    (gg_WorthError : PySem.W.findIn K (.ref C_WorthError) "__getattr__" = some none)
    (cc_WorthError : PySem.W.findIn K (.ref C_WorthError) "__class__" = some (some (.builtin "object.__class__")))
    (mo_WorthError : PySem.W.mroIn K C_WorthError (.type "object") = some true)
    (x_TooLarge : PySem.W.excIn K C_TooLarge [.type "ValueError", .type "Exception", .type "BaseException", .type "object"] "ValueError.__new__" = true)
    (kp_TooLarge : PySem.W.keepIn K (.ref C_TooLarge) = true)
    (b_TooLarge : PySem.W.subIn K (.ref C_TooLarge) (.type "BaseException") = some true)
    (t_TooLarge : PySem.W.typeIn K (.ref C_TooLarge) = some (.type "type"))
    (hd_TooLarge : PySem.W.hasDictIn K C_TooLarge = true)
    (ga_TooLarge : PySem.W.findIn K (.ref C_TooLarge) "__getattribute__" = some (some (.builtin "BaseException.__getattribute__")))
    (gg_TooLarge : PySem.W.findIn K (.ref C_TooLarge) "__getattr__" = some none)
    (cc_TooLarge : PySem.W.findIn K (.ref C_TooLarge) "__class__" = some (some (.builtin "object.__class__")))
    (mo_TooLarge : PySem.W.mroIn K C_TooLarge (.type "object") = some true)
    (s_TooLarge_WorthError : PySem.W.subIn K (.ref C_TooLarge) (.ref C_WorthError) = some true)
    (pg_Circuits : PySem.W.plainGet K C_Circuits Str.empty = true)
    (hd_Circuits : PySem.W.hasDictIn K C_Circuits = true)
    (po_Circuits : PySem.W.plainOver K C_Circuits = true)
    (sa_Circuits : PySem.W.findIn K (.ref C_Circuits) "__setattr__" = some (some (.builtin "object.__setattr__")))
    (mk_Circuits : PySem.W.makesIn K C_Circuits = true)
    (kc_Circuits : PySem.W.keepIn K (.ref C_Circuits) = true)
    (spc : PySem.W.specialIn K (.builtin "object.__class__") "__get__" = some (some (.builtin "getset_descriptor.__get__")))
    (tki : PySem.W.takesIn K (.builtin "object.__class__") = some true)
    (n_Circuits__shown : PySem.W.findIn K (.ref C_Circuits) "_shown" = some none)
    (n_Circuits__numbers : PySem.W.findIn K (.ref C_Circuits) "_numbers" = some none)
    (g_MOST_NODES : PySem.W.nsIn K mainGlobals "MOST_NODES" = some (some (.int 20000 tk_MOST_NODES)))
    (g_MOST_IN_ONE : PySem.W.nsIn K mainGlobals "MOST_IN_ONE" = some (some (.int 2000 tk_MOST_IN_ONE)))
    (g_ZERO : PySem.W.nsIn K mainGlobals "ZERO" = some (some (.int 0 tk_ZERO)))
    (g_ONE : PySem.W.nsIn K mainGlobals "ONE" = some (some (.int 1 tk_ONE)))
    (z_isinstance : PySem.W.nsIn K mainGlobals "isinstance" = some none)
    (z_int : PySem.W.nsIn K mainGlobals "int" = some none)
    (z_bool : PySem.W.nsIn K mainGlobals "bool" = some none)
    (z_str : PySem.W.nsIn K mainGlobals "str" = some none)
    (z_list : PySem.W.nsIn K mainGlobals "list" = some none)
    (z_tuple : PySem.W.nsIn K mainGlobals "tuple" = some none)
    (z_min : PySem.W.nsIn K mainGlobals "min" = some none)
    (z_abs : PySem.W.nsIn K mainGlobals "abs" = some none)
    (z_len : PySem.W.nsIn K mainGlobals "len" = some none)
    (z_range : PySem.W.nsIn K mainGlobals "range" = some none)
    (z_all : PySem.W.nsIn K mainGlobals "all" = some none)
    (z_dict : PySem.W.nsIn K mainGlobals "dict" = some none)
    (z_sorted : PySem.W.nsIn K mainGlobals "sorted" = some none)
    : ∃ fd : FuncData, (∀ (s : Shared) (v : Value), BindsTo s fd ⟨[v], []⟩ [("script", v)]) ∧ ∀ base : Heap, K.In base → base.Ns mainGlobals mg → FnOk l.prog w K mg base (L2.CX l.prog w) 81 fa fd ["script"] (spLaw K) := by
  have e := hfa.symm.trans (PySem.W.mg_of X G a_law)
  cases e
  have F_Circuits_init := fun_mk (st := s_Circuits_init) l_Circuits_init c_Circuits_init k_Circuits_init
  have b_Circuits_init := F_Circuits_init.binds (ps := ["self"]) fun _ _ _ _ _ _ us hl => match us, hl with | [_], _ => rfl
  have F_Circuits_fact := fun_mk (st := s_Circuits_fact) l_Circuits_fact c_Circuits_fact k_Circuits_fact
  have b_Circuits_fact := F_Circuits_fact.binds (ps := ["self", "k"]) fun _ _ _ _ _ _ us hl => match us, hl with | [_, _], _ => rfl
  have F_Circuits_plus := fun_mk (st := s_Circuits_plus) l_Circuits_plus c_Circuits_plus k_Circuits_plus
  have b_Circuits_plus := F_Circuits_plus.binds (ps := ["self", "nodes"]) fun _ _ _ _ _ _ us hl => match us, hl with | [_, _], _ => rfl
  have F_Circuits_times := fun_mk (st := s_Circuits_times) l_Circuits_times c_Circuits_times k_Circuits_times
  have b_Circuits_times := F_Circuits_times.binds (ps := ["self", "nodes"]) fun _ _ _ _ _ _ us hl => match us, hl with | [_, _], _ => rfl
  have F_Circuits_star := fun_mk (st := s_Circuits_star) l_Circuits_star c_Circuits_star k_Circuits_star
  have b_Circuits_star := F_Circuits_star.binds (ps := ["self", "node"]) fun _ _ _ _ _ _ us hl => match us, hl with | [_, _], _ => rfl
  have F_Circuits_shown := fun_mk (st := s_Circuits_shown) l_Circuits_shown c_Circuits_shown k_Circuits_shown
  have b_Circuits_shown := F_Circuits_shown.binds (ps := ["self", "node"]) fun _ _ _ _ _ _ us hl => match us, hl with | [_, _], _ => rfl
  have F_Circuits_count := fun_mk (st := s_Circuits_count) l_Circuits_count c_Circuits_count k_Circuits_count
  have b_Circuits_count := F_Circuits_count.binds (ps := ["self"]) fun _ _ _ _ _ _ us hl => match us, hl with | [_], _ => rfl
  have F_Circuits_facts_in := fun_mk (st := s_Circuits_facts_in) l_Circuits_facts_in c_Circuits_facts_in k_Circuits_facts_in
  have b_Circuits_facts_in := F_Circuits_facts_in.binds (ps := ["self", "node"]) fun _ _ _ _ _ _ us hl => match us, hl with | [_, _], _ => rfl
  have F_Circuits_several := fun_mk (st := s_Circuits_several) l_Circuits_several c_Circuits_several k_Circuits_several
  have b_Circuits_several := F_Circuits_several.binds (ps := ["self", "word", "nodes", "neutral"]) fun _ _ _ _ _ _ us hl => match us, hl with | [_, _, _, _], _ => rfl
  have F_Circuits_node := fun_mk (st := s_Circuits_node) l_Circuits_node c_Circuits_node k_Circuits_node
  have b_Circuits_node := F_Circuits_node.binds (ps := ["self", "shown"]) fun _ _ _ _ _ _ us hl => match us, hl with | [_, _], _ => rfl
  have F_nodes_within := fun_mk (st := s_nodes_within) l_nodes_within c_nodes_within k_nodes_within
  have b_nodes_within := F_nodes_within.binds (ps := ["circuits", "nodes"]) fun _ _ _ _ _ _ us hl => match us, hl with | [_, _], _ => rfl
  have F_parts := fun_mk (st := s_parts) l_parts c_parts k_parts
  have b_parts := F_parts.binds (ps := ["shown"]) fun _ _ _ _ _ _ us hl => match us, hl with | [_], _ => rfl
  have F_law_pot := fun_mk (st := s_law_pot) l_law_pot c_law_pot k_law_pot
  have b_law_pot := F_law_pot.binds (ps := ["script"]) fun _ _ _ _ _ _ us hl => match us, hl with | [_], _ => rfl
  have F_law_next := fun_mk (st := s_law_next) l_law_next c_law_next k_law_next
  have b_law_next := F_law_next.binds (ps := ["pot", "limit"]) fun _ _ _ _ _ _ us hl => match us, hl with | [_, _], _ => rfl
  have F_law_is_int := fun_mk (st := s_law_is_int) l_law_is_int c_law_is_int k_law_is_int
  have b_law_is_int := F_law_is_int.binds (ps := ["value"]) fun _ _ _ _ _ _ us hl => match us, hl with | [_], _ => rfl
  have F_law_same := fun_mk (st := s_law_same) l_law_same c_law_same k_law_same
  have b_law_same := F_law_same.binds (ps := ["found", "value"]) fun _ _ _ _ _ _ us hl => match us, hl with | [_, _], _ => rfl
  have F_law_due := fun_mk (st := s_law_due) l_law_due c_law_due k_law_due
  have b_law_due := F_law_due.binds (ps := ["nodes", "kind", "parts"]) fun _ _ _ _ _ _ us hl => match us, hl with | [_, _, _], _ => rfl
  have F_law_facts := fun_mk (st := s_law_facts) l_law_facts c_law_facts k_law_facts
  have b_law_facts := F_law_facts.binds (ps := ["nodes", "node"]) fun _ _ _ _ _ _ us hl => match us, hl with | [_, _], _ => rfl
  have F_law := fun_mk (st := s_law) l_law c_law k_law
  have b_law := F_law.binds (ps := ["script"]) fun _ _ _ _ _ _ us hl => match us, hl with | [_], _ => rfl
  have cl_Circuits : Cls K C_Circuits := ⟨pg_Circuits, hd_Circuits, po_Circuits, sa_Circuits⟩
  let ad : Ad := ⟨C_WorthError, C_TooLarge, C_Circuits⟩
  have T : Txt K mg ad :=
    { z_isinstance := PySem.W.mg_none_of X G z_isinstance, z_int := PySem.W.mg_none_of X G z_int, z_bool := PySem.W.mg_none_of X G z_bool, z_str := PySem.W.mg_none_of X G z_str, z_list := PySem.W.mg_none_of X G z_list, z_tuple := PySem.W.mg_none_of X G z_tuple,
      z_min := PySem.W.mg_none_of X G z_min, z_abs := PySem.W.mg_none_of X G z_abs, z_len := PySem.W.mg_none_of X G z_len, z_range := PySem.W.mg_none_of X G z_range, z_all := PySem.W.mg_none_of X G z_all, z_dict := PySem.W.mg_none_of X G z_dict, z_sorted := PySem.W.mg_none_of X G z_sorted,
      g_MOST_NODES := ⟨_, PySem.W.mg_of X G g_MOST_NODES⟩, g_MOST_IN_ONE := ⟨_, PySem.W.mg_of X G g_MOST_IN_ONE⟩, g_ZERO := ⟨_, PySem.W.mg_of X G g_ZERO⟩, g_ONE := ⟨_, PySem.W.mg_of X G g_ONE⟩, g_TooLarge := PySem.W.mg_of X G aC_TooLarge,
      x_TooLarge := x_TooLarge, k_TooLarge := kp_TooLarge, b_TooLarge := b_TooLarge, t_TooLarge := t_TooLarge, c_Circuits := cl_Circuits, n_shown := n_Circuits__shown, n_numbers := n_Circuits__numbers }
  refine ⟨PySem.W.fnOf "law" "law" (defArgs s_law) (defBody s_law) (defScope s_law) .none kV_law dc_law pm_law an_law cd_law ct_law, fun s v => .of_eq rfl, fun base _ _ => ?_⟩
  have c_law_pot := cal_mk (x := "_law_pot") (ok_law_pot (P := l.prog) (w := w) (K := K) (mg := mg) (base := base) (ad := ad) F_law_pot T) (PySem.W.mg_of X G a_law_pot) k_law_pot b_law_pot
  have c_law_next := cal_mk (x := "_law_next") (ok_law_next (P := l.prog) (w := w) (K := K) (mg := mg) (base := base) (ad := ad) F_law_next T) (PySem.W.mg_of X G a_law_next) k_law_next b_law_next
  have c_law_is_int := cal_mk (x := "_law_is_int") (ok_law_is_int (P := l.prog) (w := w) (K := K) (mg := mg) (base := base) (ad := ad) F_law_is_int T) (PySem.W.mg_of X G a_law_is_int) k_law_is_int b_law_is_int
  have c_law_due := cal_mk (x := "_law_due") (ok_law_due (P := l.prog) (w := w) (K := K) (mg := mg) (base := base) (ad := ad) F_law_due T) (PySem.W.mg_of X G a_law_due) k_law_due b_law_due
  have c_parts := cal_mk (x := "_parts") (ok_parts (P := l.prog) (w := w) (K := K) (mg := mg) (base := base) (ad := ad) F_parts T) (PySem.W.mg_of X G a_parts) k_parts b_parts
  have m_count1 : MetX l.prog w K mg base 1 C_Circuits "count" (spCount C_Circuits) := (met_mk cl_Circuits ⟨a_Circuits_count, i_Circuits_count, k_Circuits_count⟩ ((ok_Circuits_count (P := l.prog) (w := w) (K := K) (mg := mg) (base := base) (ad := ad) F_Circuits_count T).mono (by decide)) b_Circuits_count)
  have m_count4 : MetX l.prog w K mg base 4 C_Circuits "count" (spCount C_Circuits) := (met_mk cl_Circuits ⟨a_Circuits_count, i_Circuits_count, k_Circuits_count⟩ ((ok_Circuits_count (P := l.prog) (w := w) (K := K) (mg := mg) (base := base) (ad := ad) F_Circuits_count T).mono (by decide)) b_Circuits_count)
  have m_shown1 : MetX l.prog w K mg base 1 C_Circuits "shown" (spShown l.prog w C_Circuits) := (met_mk cl_Circuits ⟨a_Circuits_shown, i_Circuits_shown, k_Circuits_shown⟩ ((ok_Circuits_shown (P := l.prog) (w := w) (K := K) (mg := mg) (base := base) (ad := ad) F_Circuits_shown T).mono (by decide)) b_Circuits_shown)
  have m_shown4 : MetX l.prog w K mg base 4 C_Circuits "shown" (spShown l.prog w C_Circuits) := (met_mk cl_Circuits ⟨a_Circuits_shown, i_Circuits_shown, k_Circuits_shown⟩ ((ok_Circuits_shown (P := l.prog) (w := w) (K := K) (mg := mg) (base := base) (ad := ad) F_Circuits_shown T).mono (by decide)) b_Circuits_shown)
  have m_node2 : MetX l.prog w K mg base 2 C_Circuits "_node" (spNode l.prog w C_Circuits) := (met_mk cl_Circuits ⟨a_Circuits_node, i_Circuits_node, k_Circuits_node⟩ ((ok_Circuits_node (P := l.prog) (w := w) (K := K) (mg := mg) (base := base) (ad := ad) m_count1 F_Circuits_node T).mono (by decide)) b_Circuits_node)
  have m_several3 : MetX l.prog w K mg base 3 C_Circuits "_several" (spSev l.prog w C_Circuits) := (met_mk cl_Circuits ⟨a_Circuits_several, i_Circuits_several, k_Circuits_several⟩ ((ok_Circuits_several (P := l.prog) (w := w) (K := K) (mg := mg) (base := base) (ad := ad) m_node2 F_Circuits_several T).mono (by decide)) b_Circuits_several)
  have m_fact : MetX l.prog w K mg base 4 C_Circuits "fact" (spFact l.prog w C_Circuits) := (met_mk cl_Circuits ⟨a_Circuits_fact, i_Circuits_fact, k_Circuits_fact⟩ ((ok_Circuits_fact (P := l.prog) (w := w) (K := K) (mg := mg) (base := base) (ad := ad) m_node2 F_Circuits_fact T).mono (by decide)) b_Circuits_fact)
  have m_star : MetX l.prog w K mg base 4 C_Circuits "star" (spStar l.prog w C_Circuits) := (met_mk cl_Circuits ⟨a_Circuits_star, i_Circuits_star, k_Circuits_star⟩ ((ok_Circuits_star (P := l.prog) (w := w) (K := K) (mg := mg) (base := base) (ad := ad) m_node2 F_Circuits_star T).mono (by decide)) b_Circuits_star)
  have m_plus : MetX l.prog w K mg base 4 C_Circuits "plus" (spPlus l.prog w C_Circuits .plus 0) := (met_mk cl_Circuits ⟨a_Circuits_plus, i_Circuits_plus, k_Circuits_plus⟩ ((ok_Circuits_plus (P := l.prog) (w := w) (K := K) (mg := mg) (base := base) (ad := ad) m_several3 F_Circuits_plus T).mono (by decide)) b_Circuits_plus)
  have m_times : MetX l.prog w K mg base 4 C_Circuits "times" (spPlus l.prog w C_Circuits .times 1) := (met_mk cl_Circuits ⟨a_Circuits_times, i_Circuits_times, k_Circuits_times⟩ ((ok_Circuits_times (P := l.prog) (w := w) (K := K) (mg := mg) (base := base) (ad := ad) m_several3 F_Circuits_times T).mono (by decide)) b_Circuits_times)
  have c_nodes_within := cal_mk (x := "nodes_within") (ok_nodes_within (P := l.prog) (w := w) (K := K) (mg := mg) (base := base) (ad := ad) c_parts m_shown1 F_nodes_within T) (PySem.W.mg_of X G a_nodes_within) k_nodes_within b_nodes_within
  have m_facts_in : MetX l.prog w K mg base 4 C_Circuits "facts_in" (spFactsIn l.prog w C_Circuits) := (met_mk cl_Circuits ⟨a_Circuits_facts_in, i_Circuits_facts_in, k_Circuits_facts_in⟩ ((ok_Circuits_facts_in (P := l.prog) (w := w) (K := K) (mg := mg) (base := base) (ad := ad) c_nodes_within F_Circuits_facts_in T).mono (by decide)) b_Circuits_facts_in)
  have mCirc : MakX l.prog w K mg base 1 "Circuits" C_Circuits (spInit l.prog w C_Circuits) := (mak_mk ⟨mk_Circuits, a_Circuits_init, i_Circuits_init, kc_Circuits⟩ (PySem.W.mg_of X G aC_Circuits) (ok_Circuits_init (P := l.prog) (w := w) (K := K) (mg := mg) (base := base) (ad := ad) F_Circuits_init T) b_Circuits_init)
  have c_law_same := same_cal (P := l.prog) (w := w) (base := base) (ad := ad) F_law_same T (PySem.W.mg_of X G a_law_same) b_law_same c_law_is_int 3
  have c_law_facts := facts_cal (P := l.prog) (w := w) (base := base) (ad := ad) F_law_facts T (PySem.W.mg_of X G a_law_facts) b_law_facts 64
  exact ok_law (P := l.prog) (w := w) (base := base) (ad := ad) mCirc m_fact m_star m_plus m_times m_count4 m_shown4 m_facts_in c_law_pot c_law_next c_law_due c_law_same c_law_facts F_law T
theorem walk {l : PySem.W.OpenLaw} {q : Program} {loose : List Str} {XP : (Str → Option Value) → Heap → Prop} {YP : World → Heap → Prop} {d : DefRec} {K : Params → PySem.W.Frag} (hn : l.most = some 63) (hdf : d.params.defaults = [])
    (hY : ∀ (w : World) (h : Heap), YP w h → (K w.params).In h)
    (F : ∀ (w : World) (mg : Str → Option Value) (fa : Addr) (h : Heap), (K w.params).In h → h.Ns mainGlobals mg → mg d.name = some (.ref fa) →
      ∃ fd : FuncData, (∀ (s : Shared) (u : Value), BindsTo s fd ⟨[u], []⟩ [("script", u)]) ∧ ∀ base : Heap, (K w.params).In base → base.Ns mainGlobals mg → FnOk l.prog w (K w.params) mg base (L2.CX l.prog w) 81 fa fd ["script"] (spLaw (K w.params))) :
    PySem.W.WalkO q loose XP YP l.row.toRowW d [] (fun f vs => PySem.call f vs) :=
  L2.walk_of (n := 63) (k := 81) (x := "script") (CX := fun w => L2.CX l.prog w) (sp := fun w => spLaw (K w.params)) hn (by decide) hdf ⟨rfl, by decide, by decide⟩ hY F (fun _ _ a ns hl _ hS => ⟨a, ns, rfl, hS, hl, fun _ => rfl⟩) fun _ _ _ _ _ h => by
    obtain ⟨_, _, _, _, _, _, _, _, _, _, _, _, z⟩ := h
    exact z
end K12
open PySem PySem.W PyProof.Rows
set_option maxRecDepth 100000 in
set_option maxHeartbeats 0 in
theorem PySem.Challenge.cw_everyworth_k12_nodes_holds : PySem.Challenge.rw_everyworth_k12_nodes.Holds := by
  w_on; o_law; k_head; (case hw => w_witness2)
  k_fill
  refine K12.walk (l := PySem.Challenge.rw_everyworth_k12_nodes) rfl rfl (fun w h Y => PySem.W.kIn_of Y) ?F
  case F =>
    intro w mg fa h KX G hmg
    refine' K12.all_mk KX G hmg ?aC_WorthError ?aC_TooLarge ?aC_Circuits ?a_Circuits_init ?i_Circuits_init ?l_Circuits_init ?c_Circuits_init ?k_Circuits_init ?a_Circuits_fact ?i_Circuits_fact ?l_Circuits_fact ?c_Circuits_fact ?k_Circuits_fact ?a_Circuits_plus ?i_Circuits_plus ?l_Circuits_plus ?c_Circuits_plus ?k_Circuits_plus ?a_Circuits_times ?i_Circuits_times ?l_Circuits_times ?c_Circuits_times ?k_Circuits_times ?a_Circuits_star ?i_Circuits_star ?l_Circuits_star ?c_Circuits_star ?k_Circuits_star ?a_Circuits_shown ?i_Circuits_shown ?l_Circuits_shown ?c_Circuits_shown ?k_Circuits_shown ?a_Circuits_count ?i_Circuits_count ?l_Circuits_count ?c_Circuits_count ?k_Circuits_count ?a_Circuits_facts_in ?i_Circuits_facts_in ?l_Circuits_facts_in ?c_Circuits_facts_in ?k_Circuits_facts_in ?a_Circuits_several ?i_Circuits_several ?l_Circuits_several ?c_Circuits_several ?k_Circuits_several ?a_Circuits_node ?i_Circuits_node ?l_Circuits_node ?c_Circuits_node ?k_Circuits_node ?a_nodes_within ?l_nodes_within ?c_nodes_within ?k_nodes_within ?a_parts ?l_parts ?c_parts ?k_parts ?a_law_pot ?l_law_pot ?c_law_pot ?k_law_pot ?a_law_next ?l_law_next ?c_law_next ?k_law_next ?a_law_is_int ?l_law_is_int ?c_law_is_int ?k_law_is_int ?a_law_same ?l_law_same ?c_law_same ?k_law_same ?a_law_due ?l_law_due ?c_law_due ?k_law_due ?a_law_facts ?l_law_facts ?c_law_facts ?k_law_facts ?a_law ?l_law ?c_law ?k_law ?x_WorthError ?kp_WorthError ?b_WorthError ?t_WorthError ?hd_WorthError ?ga_WorthError ?gg_WorthError ?cc_WorthError ?mo_WorthError ?x_TooLarge ?kp_TooLarge ?b_TooLarge ?t_TooLarge ?hd_TooLarge ?ga_TooLarge ?gg_TooLarge ?cc_TooLarge ?mo_TooLarge ?s_TooLarge_WorthError ?pg_Circuits ?hd_Circuits ?po_Circuits ?sa_Circuits ?mk_Circuits ?kc_Circuits ?spc ?tki ?n_Circuits__shown ?n_Circuits__numbers ?g_MOST_NODES ?g_MOST_IN_ONE ?g_ZERO ?g_ONE ?z_isinstance ?z_int ?z_bool ?z_str ?z_list ?z_tuple ?z_min ?z_abs ?z_len ?z_range ?z_all ?z_dict ?z_sorted
    (case aC_WorthError => k_is)
    (case aC_TooLarge => k_is)
    (case aC_Circuits => k_is)
    (case a_Circuits_init => k_is)
    (case i_Circuits_init => k_is)
    (case l_Circuits_init => k_is)
    (case c_Circuits_init => k_is)
    (case k_Circuits_init => k_is)
    (case a_Circuits_fact => k_is)
    (case i_Circuits_fact => k_is)
    (case l_Circuits_fact => k_is)
    (case c_Circuits_fact => k_is)
    (case k_Circuits_fact => k_is)
    (case a_Circuits_plus => k_is)
    (case i_Circuits_plus => k_is)
    (case l_Circuits_plus => k_is)
    (case c_Circuits_plus => k_is)
    (case k_Circuits_plus => k_is)
    (case a_Circuits_times => k_is)
    (case i_Circuits_times => k_is)
    (case l_Circuits_times => k_is)
    (case c_Circuits_times => k_is)
    (case k_Circuits_times => k_is)
    (case a_Circuits_star => k_is)
    (case i_Circuits_star => k_is)
    (case l_Circuits_star => k_is)
    (case c_Circuits_star => k_is)
    (case k_Circuits_star => k_is)
    (case a_Circuits_shown => k_is)
    (case i_Circuits_shown => k_is)
    (case l_Circuits_shown => k_is)
    (case c_Circuits_shown => k_is)
    (case k_Circuits_shown => k_is)
    (case a_Circuits_count => k_is)
    (case i_Circuits_count => k_is)
    (case l_Circuits_count => k_is)
    (case c_Circuits_count => k_is)
    (case k_Circuits_count => k_is)
    (case a_Circuits_facts_in => k_is)
    (case i_Circuits_facts_in => k_is)
    (case l_Circuits_facts_in => k_is)
    (case c_Circuits_facts_in => k_is)
    (case k_Circuits_facts_in => k_is)
    (case a_Circuits_several => k_is)
    (case i_Circuits_several => k_is)
    (case l_Circuits_several => k_is)
    (case c_Circuits_several => k_is)
    (case k_Circuits_several => k_is)
    (case a_Circuits_node => k_is)
    (case i_Circuits_node => k_is)
    (case l_Circuits_node => k_is)
    (case c_Circuits_node => k_is)
    (case k_Circuits_node => k_is)
    (case a_nodes_within => k_is)
    (case l_nodes_within => k_is)
    (case c_nodes_within => k_is)
    (case k_nodes_within => k_is)
    (case a_parts => k_is)
    (case l_parts => k_is)
    (case c_parts => k_is)
    (case k_parts => k_is)
    (case a_law_pot => k_is)
    (case l_law_pot => k_is)
    (case c_law_pot => k_is)
    (case k_law_pot => k_is)
    (case a_law_next => k_is)
    (case l_law_next => k_is)
    (case c_law_next => k_is)
    (case k_law_next => k_is)
    (case a_law_is_int => k_is)
    (case l_law_is_int => k_is)
    (case c_law_is_int => k_is)
    (case k_law_is_int => k_is)
    (case a_law_same => k_is)
    (case l_law_same => k_is)
    (case c_law_same => k_is)
    (case k_law_same => k_is)
    (case a_law_due => k_is)
    (case l_law_due => k_is)
    (case c_law_due => k_is)
    (case k_law_due => k_is)
    (case a_law_facts => k_is)
    (case l_law_facts => k_is)
    (case c_law_facts => k_is)
    (case k_law_facts => k_is)
    (case a_law => k_is)
    (case l_law => k_is)
    (case c_law => k_is)
    (case k_law => k_is)
    (case x_WorthError => k_exc)
    (case kp_WorthError => k_is)
    (case b_WorthError => k_is)
    (case t_WorthError => k_is)
    (case hd_WorthError => k_is)
    (case ga_WorthError => k_is)
    (case gg_WorthError => k_is)
    (case cc_WorthError => k_is)
    (case mo_WorthError => k_is)
    (case x_TooLarge => k_exc)
    (case kp_TooLarge => k_is)
    (case b_TooLarge => k_is)
    (case t_TooLarge => k_is)
    (case hd_TooLarge => k_is)
    (case ga_TooLarge => k_is)
    (case gg_TooLarge => k_is)
    (case cc_TooLarge => k_is)
    (case mo_TooLarge => k_is)
    (case s_TooLarge_WorthError => k_is)
    (case pg_Circuits => k_is)
    (case hd_Circuits => k_is)
    (case po_Circuits => k_is)
    (case sa_Circuits => k_is)
    (case mk_Circuits => k_is)
    (case kc_Circuits => k_is)
    (case spc => k_is)
    (case tki => k_is)
    (case n_Circuits__shown => k_is)
    (case n_Circuits__numbers => k_is)
    (case g_MOST_NODES => k_is)
    (case g_MOST_IN_ONE => k_is)
    (case g_ZERO => k_is)
    (case g_ONE => k_is)
    (case z_isinstance => k_is)
    (case z_int => k_is)
    (case z_bool => k_is)
    (case z_str => k_is)
    (case z_list => k_is)
    (case z_tuple => k_is)
    (case z_min => k_is)
    (case z_abs => k_is)
    (case z_len => k_is)
    (case z_range => k_is)
    (case z_all => k_is)
    (case z_dict => k_is)
    (case z_sorted => k_is)
