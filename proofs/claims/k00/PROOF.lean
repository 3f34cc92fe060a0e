import PyProof.Rows.All
import Wide.All
import OpenK.AllK
import Wide.FinOn
import KE.KExcIs
import KE.KEqDict
import PyProof.NeKinds
import HandS.ForMost
import HandS.Exc
import HandS.ExcInit
import HandS.ExcField
import HandS.IsInst
import HandS.DeepEq
import HandS.ExcIs
import HandS.SetFor
import KE.KDictLaw
import HandS.Defaults
import HandS.HeadHook2
import PySem.Challenge.RW_putoffpiles_k00_errors_and_their_fields
import HandS.Head0
import HandS.Head1
import HandS.Head2
import HandS.HeadEnd
import HandS.HeadHook1
set_option Elab.async false
set_option linter.all false
set_option maxRecDepth 100000
set_option maxHeartbeats 2000000
/-! Rules of my own: an own exception as a value (made, its field read, isinstance), and != of a thing and itself. -/
namespace ZX
open PySem PySem.Spec PyProof.Rows L2

/-- C(e, ..) as a value, C's own __init__ keeping sp -/
def tMkV (C : Addr) (sp : Sp) (ta : TA) : TE := fun σ H Q => ta σ H fun vs H1 => vs.length ≤ 1000 ∧ ∀ a, H1 a = none → sp (.ref a :: vs) (upd H1 a (exo a C none)) (fun v H2 => v = .non ∧ Q (.ref a) H2) (fun _ _ _ => False)
section
variable {X : Cx} {o e : Expr} {es : List Expr} {to te : TE} {ta : TA} {f x : Str} {p p' p1 p2 pos : Pos} {C fI : Addr} {k : Nat} {fd : FuncData} {ps : List Str} {sp : Sp}
theorem run_oex {pins : List (Addr × Obj)} {s1 : Shared} {σ : L2.St} {H1 : Hp} {Q : VK} {us : List Value} {vs : List V} (T : OexC X.K C) (iC : PySem.W.findIn X.K (.ref C) "__init__" = some (some (.ref fI))) (tI : PySem.W.typeIn X.K (.ref fI) = some (.type "function"))
    (F1 : FnOk X.prog X.w X.K X.mg X.base CX0 k fI fd ps sp) (hr : Room (k + 1) X.A) (hb : Binds X.K fd ps []) (I1 : Inv X pins σ H1 s1) (r1 : Vals vs us) (hz : vs.length ≤ 1000)
    (q1 : ∀ a, H1 a = none → sp (.ref a :: vs) (upd H1 a (exo a C none)) (fun v H2 => v = .non ∧ Q (.ref a) H2) (fun _ _ _ => False)) :
    wpAny (model X.prog X.w) X.A (call (.ref C) us) (EP X pins σ Q) X.xe s1 := by
  obtain ⟨nm, q, N, bs, bm, sn, sub, ab, col, dd, k0, k1, k2, k3, k5, hC, hbm⟩ := T.cls
  obtain ⟨hp, g, dr, tk, os⟩ := s1
  have hsz : hp.objs.size ≤ hp.objs.size + 1 := Nat.le_succ _
  have hn : H1 (hp.objs.size + 1) = none := I1.hok.fresh hsz
  have hq := q1 (hp.objs.size + 1) hn
  have kk : ∀ b o, hp.get? b = some o → ((hp.push (PySem.W.kdv_tup us)).push (PySem.HandSPX.excO C hp.objs.size)).get? b = some o := fun b o e => Heap.get?_push_of_some _ (Heap.get?_push_of_some _ e)
  have hget : ((hp.push (PySem.W.kdv_tup us)).push (PySem.HandSPX.excO C hp.objs.size)).get? (hp.objs.size + 1) = some (PySem.HandSPX.excO C hp.objs.size) := by heap_get
  have I2 : Inv X pins σ (upd H1 (hp.objs.size + 1) (exo (hp.objs.size + 1) C none)) ⟨(hp.push (PySem.W.kdv_tup us)).push (PySem.HandSPX.excO C hp.objs.size), g, dr, tk, os⟩ :=
    I1.laid (t' := tk) (a := hp.objs.size + 1) (o := exo (hp.objs.size + 1) C none) (h' := (hp.push (PySem.W.kdv_tup us)).push (PySem.HandSPX.excO C hp.objs.size)) kk hsz (exo_ok hget)
  have hq2 : sp (.ref (hp.objs.size + 1) :: (vs ++ [])) (upd H1 (hp.objs.size + 1) (exo (hp.objs.size + 1) C none)) (fun v H2 => v = .non ∧ Q (.ref (hp.objs.size + 1)) H2) (fun _ _ _ => False) := by
    rw [List.append_nil]
    exact hq
  have r2 : Vals (V.ref (hp.objs.size + 1) :: (vs ++ [])) (Value.ref (hp.objs.size + 1) :: (us ++ [])) := .cons rfl (r1.append .nil)
  have hl : (Value.ref (hp.objs.size + 1) :: us ++ []).length = ps.length := by
    have e := r2.length
    rw [F1.len _ _ _ _ hq2] at e
    exact e.symm
  have hus : us.length ≤ sizeLine := by
    rw [← Paired.length r1, sizeLine_eq]
    omega
  have hbz := hb ⟨(hp.push (PySem.W.kdv_tup us)).push (PySem.HandSPX.excO C hp.objs.size), g, dr, tk, os⟩ (Value.ref (hp.objs.size + 1) :: us) I2.kIn hl
  rw [List.cons_append] at hbz
  refine wpAny_call (PySem.HandSPX.call_own F.excBase_ValueError (fun Y => PySem.HandSPX.refsVE_contains Y bm hbm) (I1.kIn _ _ hC) (PySem.W.looks_findIn I1.kIn iC) (fun self => PySem.W.bind_fn I1.kIn self tI) hus
    (codeAny_mono (F1.run _ X.stack _ _ ⟨Value.ref (hp.objs.size + 1) :: us, []⟩ (Value.ref (hp.objs.size + 1) :: (us ++ [])) _ _ (fun _ _ _ => False) (hr.make C us []) (I2.env0.make C us []) hbz r2 hq2) fun r s' hq' => ?_))
  cases r with
  | error er => exact False.elim hq'
  | ok fl =>
    cases fl with
    | ret u =>
      obtain ⟨v, H2, os2, bare2, un2, hok2, rv, ev, q2⟩ := hq'
      subst ev
      obtain ⟨h2, g2, d2, t2, os'⟩ := s'
      exact ⟨rv, .ref _, H2, I2.call' (ch := []) os2 un2 hok2 bare2 (fun b z => absurd z (by simp)), rfl, q2⟩
    | next => exact False.elim hq'
    | brk => exact False.elim hq'
    | cont => exact False.elim hq'
theorem pe_oex (T : OexC X.K C) (iC : PySem.W.findIn X.K (.ref C) "__init__" = some (some (.ref fI))) (tI : PySem.W.typeIn X.K (.ref fI) = some (.type "function"))
    (F1 : FnOk X.prog X.w X.K X.mg X.base CX0 k fI fd ps sp) (hr : Room (k + 1) X.A) (hb : Binds X.K fd ps []) (hg : Gl X x) (hm : X.mg x = some (.ref C)) (ha : PA X (e :: es) ta)
    (hdb : (x == ("__debug__" : Str)) = false := by decide) (he : starEach (e :: es) X.env = (false, eval e X.env) :: starEach es X.env := by rfl) (hpl : (backTo pos (starEach es X.env)).any (·.1) = false := by rfl) :
    PE X (.Call (.Name x p) (e :: es) [] pos) (tMkV C sp ta) := by
  refine ⟨fun pins s σ H Q I h => ?_⟩
  refine wpAny_Call_Name_kw (ld_glob I hg hm ?_ hdb)
  refine PySem.W.callWith_K (h₀ := X.base) I.ok.mod.kin T.kC (thn (ha.run pos pins s σ H _ I h) fun us s1 ⟨vs, H1, I1, r1, hz, q1⟩ => ⟨I1.kIn, ?_⟩) he hpl
  exact run_oex T iC tI F1 hr hb I1 r1 hz q1
theorem pe_oex0 (T : OexC X.K C) (iC : PySem.W.findIn X.K (.ref C) "__init__" = some (some (.ref fI))) (tI : PySem.W.typeIn X.K (.ref fI) = some (.type "function"))
    (F1 : FnOk X.prog X.w X.K X.mg X.base CX0 k fI fd ps sp) (hr : Room (k + 1) X.A) (hb : Binds X.K fd ps []) (hg : Gl X x) (hm : X.mg x = some (.ref C))
    (hdb : (x == ("__debug__" : Str)) = false := by decide) :
    PE X (.Call (.Name x p) [] [] pos) (tMkV C sp tNil) := by
  refine ⟨fun pins s σ H Q I h => ?_⟩
  refine wpAny_Call_Name_kw (ld_glob I hg hm ?_ hdb)
  exact PySem.W.callWith_K0 I.kIn T.kC (run_oex (us := []) (vs := []) T iC tI F1 hr hb I .nil h.1 h.2)

/-- e.f of an exception that stands as a value -/
def tXv (K : PySem.W.Frag) (f : Str) (te : TE) : TE := fun σ H Q => te σ H fun x H1 => ∃ (a C dd : Addr) (fs : List (Str × V)) (v : V), x = .ref a ∧ XfC K C ∧ PySem.W.findIn K (.ref C) f = some none ∧ H1 a = some (exo a C (some dd)) ∧ H1 dd = some (exd dd fs) ∧ fs.lookup f = some v ∧ Q v H1
theorem pe_xv (he : PE X e te) (hb : attributeBase e f X.env (eval e X.env) = eval e X.env := by rfl) : PE X (.Attribute e f pos) (tXv X.K f te) := by
  refine ⟨fun pins s σ H Q I h => ?_⟩
  refine attr_of hb (thn (he.run pins s σ H _ I h) fun u s1 hh => ?_)
  obtain ⟨x, H1, I1, rx, a, C, dd, fs, v, ex, T, hno, ea, ed, l, q⟩ := hh
  subst ex
  obtain rfl : u = Value.ref a := rx
  obtain ⟨t1, ha⟩ := exo_at I1.hok ea
  obtain ⟨mA, hns, hr⟩ := exd_at I1.hok ed
  obtain ⟨od, ho, hl⟩ := lookIn_ns hns
  obtain ⟨u, hu, ru⟩ := RelO.some_of (v := v) (o := mA f) (by rw [← l]; exact hr f)
  have J : PySem.W.InstAt s1.heap a _ C (some od) := ⟨ha, rfl, rfl, ho⟩
  exact HandSPX.exc_get I1.kIn J T.ga T.gg T.exC (PySem.W.findObj_own T.hdC hno rfl (by rw [hl, hu])) (handed_of ru) ⟨v, H1, I1.tok _, ru, q⟩

/-- isinstance(e, c), e an exception that stands as a value -/
def rIsV (K : PySem.W.Frag) : List V → Hp → VK → Prop := fun xs H Q => ∃ (a D : Addr) (c : V) (cv : Value) (b : Bool), xs = [.ref a, c] ∧ L2.ExcC K D ∧ ((H a = some (exo a D none)) ∨ ∃ dd fs, H a = some (exo a D (some dd)) ∧ H dd = some (exd dd fs)) ∧ ClsV c cv ∧ PySem.W.kitOne K (.ref D) cv = some b ∧ Q (.bl b) H
theorem call_isV : CallR X (.builtin "isinstance") (rIsV X.K) := by
  intro pins s σ H xs us Q I r h
  obtain ⟨a, D, c, cv, b, rfl, C, ha, hc, e, q⟩ := h
  obtain ⟨u1, u2, rfl, r1, r2⟩ := vals2 r
  have ec := hc.eq r2
  subst ec
  cases (show u1 = Value.ref a from r1)
  have hcl : (PySem.W.clsIn X.K D).isSome = true := by
    obtain ⟨cd, hc, _⟩ := PySem.W.any_some C.hd
    exact Option.isSome_iff_exists.mpr ⟨cd, hc⟩
  rcases ha with ha | ⟨dd, fs, ha, hd⟩
  · obtain ⟨t1, hg⟩ := exo_at I.hok ha
    have J : PySem.W.InstAt s.heap a _ D none := ⟨hg, rfl, rfl, trivial⟩
    exact PySem.W.kia_one (PySem.W.kitx_exc hcl C.hg C.hk C.hs C.ha C.hn C.ht C.hm) I.kIn J e (fun z => nomatch z) fun tk => ⟨.bl b, H, I.kept (t' := tk) fun _ _ z => z, rfl, q⟩
  · obtain ⟨t1, hg⟩ := exo_at I.hok ha
    obtain ⟨mA, hns, hr⟩ := exd_at I.hok hd
    obtain ⟨od, ho, hl⟩ := lookIn_ns hns
    have J : PySem.W.InstAt s.heap a _ D (some od) := ⟨hg, rfl, rfl, ho⟩
    exact PySem.W.kia_one (PySem.W.kitx_exc hcl C.hg C.hk C.hs C.ha C.hn C.ht C.hm) I.kIn J e (fun z => nomatch z) fun tk => ⟨.bl b, H, I.kept (t' := tk) fun _ _ z => z, rfl, q⟩

/-- x != x: False, x a number, a flag, None, a text, a list, a tuple, a dict -/
def Selfy (H : Hp) : V → Prop
  | .non => True
  | .bl _ => True
  | .int _ => True
  | .str _ => True
  | .ref a => (∃ xs, H a = some (.lst xs)) ∨ (∃ xs, H a = some (.tup xs)) ∨ ∃ kvs, H a = some (.dK kvs)
  | _ => False
def rNeS : R2 := fun x y H Q => x = y ∧ Selfy H x ∧ Q (.bl false) H
theorem keqHits_self {κ : Type} [DecidableEq κ] {A : Around} {s : Shared} {kb : List (κ × Value)} : ∀ l : List (κ × Value), (∀ p ∈ l, ∃ y, valueAt kb p.1 = some y ∧ y = p.2) → PySem.W.KeqHits A s kb l true
  | [], _ => .nil
  | (k, v) :: r, h => by
    obtain ⟨y, hy, e⟩ := h (k, v) List.mem_cons_self
    subst e
    show PySem.W.KeqHits A s kb ((k, y) :: r) (true && true)
    exact .hit hy (SeqAt.EqAt.same _) (keqHits_self r fun p hp => h p (List.mem_cons_of_mem _ hp))
theorem op_neS (hu : X.A.units < cLine) : OpR X (compareOp .NotEq) rNeS := by
  intro pins s σ H x y v u Q I rx ry h
  obtain ⟨rfl, hs, q⟩ := h
  cases x with
  | non => exact op_ne pins s σ H .non .non v u Q I rx ry ⟨rfl, by simpa using q⟩
  | bl b => exact op_ne pins s σ H (.bl b) (.bl b) v u Q I rx ry ⟨rfl, by simpa using q⟩
  | int i => exact op_ne pins s σ H (.int i) (.int i) v u Q I rx ry ⟨rfl, by simpa using q⟩
  | str x => exact op_ne pins s σ H (.str x) (.str x) v u Q I rx ry ⟨rfl, by simpa using q⟩
  | ref a =>
    cases (show v = Value.ref a from rx)
    cases (show u = Value.ref a from ry)
    rcases hs with ⟨xs, ha⟩ | ⟨xs, ha⟩ | ⟨kvs, ha⟩
    · obtain ⟨_, its, n, r, hg⟩ := (show ObjOk X.prog X.w H s.heap a (.lst xs) from I.hok a _ ha)
      have hl : s.heap.IsList a its.toArray := ⟨_, hg, rfl, n, rfl⟩
      refine SeqAt.RcNeAt.lists (e := fun _ => true) hl hl rfl hu (fun j h1 h2 => SeqAt.EqAt.same _) X.prog X.w _ _ ?_
      rw [show ((List.range its.toArray.size).all fun _ => true) = true from List.all_eq_true.mpr fun _ _ => rfl]
      exact ⟨.bl false, H, I, rfl, q⟩
    · obtain ⟨_, its, r, ob, h1, h2, h3⟩ := (show ObjOk X.prog X.w H s.heap a (.tup xs) from I.hok a _ ha)
      have hl : s.heap.IsTuple a its.toArray := ⟨ob, h1, h2, h3⟩
      refine SeqAt.RcNeAt.tuples (e := fun _ => true) hl hl hu (fun j h1 h2 => SeqAt.EqAt.same _) X.prog X.w _ _ ?_
      rw [show ((List.range (min its.toArray.size its.toArray.size)).all fun _ => true) = true from List.all_eq_true.mpr fun _ _ => rfl]
      simp only [beq_self_eq_true, Bool.and_true, Bool.not_true]
      exact ⟨.bl false, H, I, rfl, q⟩
    · obtain ⟨_, ya, va, ra, da⟩ := (show ObjOk X.prog X.w H s.heap a (.dK kvs) from I.hok a _ ha)
      refine PySem.W.keq_ne (knd := mixKind X.prog X.w) (r := true) ya ya da da hu (fun _ => keqHits_self va fun p hp => ?_) ?_
      · obtain ⟨_, _, _, _, _, _, _, _, nd⟩ := da
        exact ⟨p.2, PySem.valueAt_of_mem nd hp, rfl⟩
      · simp only [beq_self_eq_true, Bool.and_true, Bool.not_true]
        exact ⟨.bl false, H, I, rfl, q⟩
  | _ => exact hs.elim
end

/-! ### calls of own defs, cuts, counts -/
/-- a def that may be called by its name -/
structure Cal (P : Program) (w : World) (K : PySem.W.Frag) (mg : Str → Option Value) (base : Heap) (x : Str) (k : Nat) (ps : List Str) (sp : Sp) : Prop where
  ex : ∃ (f : Addr) (fd : FuncData), FnOk P w K mg base CX0 k f fd ps sp ∧ mg x = some (.ref f) ∧ PySem.W.keepIn K (.ref f) = true ∧ Binds K fd ps []
section
variable {X : Cx} {e : Expr} {es : List Expr} {t : TA} {x : Str} {p pos : Pos} {k : Nat} {ps : List Str} {sp : Sp}
theorem pcal (C : Cal X.prog X.w X.K X.mg X.base x k ps sp) (hr : Room k X.A) (hg : Gl X x) (ha : PA X (e :: es) t)
    (hdb : (x == ("__debug__" : Str)) = false := by decide) (he : starEach (e :: es) X.env = (false, eval e X.env) :: starEach es X.env := by rfl) (hpl : (backTo pos (starEach es X.env)).any (·.1) = false := by rfl) :
    PE X (.Call (.Name x p) (e :: es) [] pos) (tCall sp [] E0 t) := by
  obtain ⟨f, fd, G, g, kp, b⟩ := C.ex
  exact pe_call G hr hg g kp b .nil pass0 ha hdb he hpl
def tCut (t u : TS) : TS := fun D σ H => ∃ Mid : L2.St → Hp → Prop, t { D with nx := Mid } σ H ∧ ∀ σ' H', Mid σ' H' → u D σ' H'
theorem pss_cut {st : Stmt} {rest : List Stmt} {t u : TS} (h1 : PS X st t) (h2 : PSs X rest u) : PSs X (st :: rest) (tCut t u) := by
  refine ⟨fun pins s σ H D I h => ?_⟩
  obtain ⟨Mid, hm, hu⟩ := h
  refine wpAny_execs_cons (thn (h1.run pins s σ H { D with nx := Mid } I hm) fun f s1 q => ?_)
  cases f with
  | next =>
    obtain ⟨σ', H', I', q⟩ := q
    exact h2.run pins s1 σ' H' D I' (hu σ' H' q)
  | ret v => exact q
  | brk => exact q
  | cont => exact q
/-- % and // by a positive number that is not written -/
theorem op_modP : OpR X (binaryOp .Mod) (rI (fun _ j => 0 < j) fun i j => .int (i % j)) := op_mod
theorem op_fdivP : OpR X (binaryOp .FloorDiv) (rI CDiv fun i j => .int (i / j)) := op_fdiv
end
/-- only the object at p may have changed -/
def Ch (p : Addr) (H H' : Hp) : Prop := ∀ b, b ≠ p → H' b = H b
theorem Ch.refl (p : Addr) (H : Hp) : Ch p H H := fun _ _ => rfl
theorem Ch.upd {p : Addr} {H H' : Hp} (c : Ch p H H') (o : HO) : Ch p H (upd H' p o) := fun b hb => by
  rw [upd_ne hb]
  exact c b hb
theorem Ch.trans {p : Addr} {H H1 H2 : Hp} (a : Ch p H H1) (b : Ch p H1 H2) : Ch p H H2 := fun c hc => (b c hc).trans (a c hc)
/-- all that was tracked but p stands -/
def Kp (p : Addr) (H H' : Hp) : Prop := ∀ b o, b ≠ p → H b = some o → H' b = some o
theorem Ch.kp {p : Addr} {H H' : Hp} (c : Ch p H H') : Kp p H H' := fun b o hb e => by
  rw [c b hb]
  exact e
theorem Kp.refl (p : Addr) (H : Hp) : Kp p H H := fun _ _ _ e => e
theorem Kp.trans {p : Addr} {H H1 H2 : Hp} (a : Kp p H H1) (b : Kp p H1 H2) : Kp p H H2 := fun c o hc e => b c o hc (a c o hc e)
theorem Kp.new {p a : Addr} {H H' : Hp} {o : HO} (k : Kp p H H') (n : H' a = none) : Kp p H (upd H' a o) := fun b u hb e => by
  have z := k b u hb e
  rw [upd_ne (ne_of_none z n)]
  exact z
theorem Kp.seq {K : PySem.W.Frag} {p : Addr} {H H' : Hp} {a : Addr} {xs : List V} (e : Kp p H H') (ne : a ≠ p) (h : SqL K H a xs) : SqL K H' a xs := by
  rcases h with (h | ⟨o, h⟩) | h
  · exact .inl (.inl (e _ _ ne h))
  · exact .inl (.inr ⟨o, e _ _ ne h⟩)
  · exact .inr h
/-- xs.count(y): flat things -/
def rCntV (K : PySem.W.Frag) : V → List V → Hp → VK → Prop := fun x xs H Q => ∃ (p : Addr) (ys : List V) (y : V), x = .ref p ∧ xs = [y] ∧ SqL K H p ys ∧ flatV y = true ∧ ys.all flatV = true ∧ Q (.int (ys.countP fun z => eqV z y)) H
theorem countP_eqU {y : V} : ∀ {ys : List V} {us : List Value}, Vals ys us → ys.all flatV = true → us.countP (eqU y) = ys.countP fun z => eqV z y
  | _, _, .nil, _ => rfl
  | z :: ys, u :: us, .cons r t, h => by
    have h' : (flatV z && ys.all flatV) = true := h
    obtain ⟨h1, h2⟩ := Bool.and_eq_true_iff.mp h'
    rw [List.countP_cons, List.countP_cons, countP_eqU t h2, eqU_of r h1]
theorem mt_lcountV {X : Cx} : MtR X "list.count" (rCntV X.K) := by
  intro pins s σ H x xs v us Q I rx rxs h
  obtain ⟨p, ys, y, rfl, rfl, hs, fy, fys, q⟩ := h
  cases rx
  obtain ⟨u, rfl, ru⟩ := rxs.one
  obtain ⟨its, rv, ⟨⟨cls, dd, data, sl⟩, n, ho, hc, hdn, hd⟩, hlen⟩ := I.list hs
  simp only at hc hd
  subst hc hd
  refine call_meets PySem.F.slot_list_count ⟨_, ho, rfl⟩ PySem.F.entry_list_count (PySem.F.args_list_count_2 _ _)
    (SeqAt.list_countAt p its.toArray n dd sl u (eqU y)) ⟨ho, fun z hz => mem_eqAt ru fy rv fys z (by simpa using hz), ?_⟩
  have ec : its.toArray.toList.countP (eqU y) = ys.countP fun z => eqV z y := countP_eqU rv fys
  refine ⟨.int (ys.countP fun z => eqV z y), H, I.tok _, ⟨s.toks, ?_⟩, q⟩
  show Value.int ((its.toArray.toList.countP (eqU y) : Nat) : Int) s.toks = _
  rw [ec]
end ZX
set_option Elab.async false
set_option linter.all false
set_option maxRecDepth 100000
set_option maxHeartbeats 2000000
namespace K00
open PySem PySem.Spec PyProof.Rows L2 ZX
def top (i : Nat) : Stmt := PySem.Challenge.pw_putoffpiles_k00_errors_and_their_fields.main.body.getD i (.Pass ⟨0, 0, 0, 0⟩)
abbrev sHand : Stmt := top 30
abbrev sDraw : Stmt := top 31
abbrev sAny : Stmt := top 32
abbrev sDeep : Stmt := top 33
abbrev sLaw : Stmt := top 34
abbrev FnP (K : PySem.W.Frag) (x : Str) (st : Stmt) (f : Addr) (fd : FuncData) : Prop := FunD K x x (defArgs st) (defBody st) (defScope st) [] [] f fd
/-- the built-ins' names -/
structure Bi (mg : Str → Option Value) : Prop where
  b_abs : mg "abs" = none
  b_int : mg "int" = none
  b_len : mg "len" = none
  b_range : mg "range" = none
  b_any : mg "any" = none
  b_bool : mg "bool" = none
  b_isinstance : mg "isinstance" = none
  b_ValueError : mg "ValueError" = none
/-- the hand of draws at p -/
structure HandIs (H : Hp) (p c : Addr) (cs : List Int) (i g k d : Int) : Prop where
  hp : H p = some (.lst [.ref c, .int i, .int g, .int k, .int d])
  hc : H c = some (.lst (cs.map V.int))
  ne : c ≠ p
  nn : ∀ x ∈ cs, 0 ≤ x
  i0 : 0 ≤ i
  g0 : 0 ≤ g
  k0 : 0 ≤ k
  d0 : 0 ≤ d
def HandAt (H : Hp) (p : Addr) : Prop := ∃ c cs i g k d, HandIs H p c cs i g k d
theorem HandIs.put {H : Hp} {p c : Addr} {cs : List Int} {i g k d i' g' k' d' : Int} (h : HandIs H p c cs i g k d) (hi : 0 ≤ i') (hg : 0 ≤ g') (hk : 0 ≤ k') (hd : 0 ≤ d') :
    HandIs (upd H p (.lst [.ref c, .int i', .int g', .int k', .int d'])) p c cs i' g' k' d' :=
  ⟨upd_same, by rw [upd_ne h.ne]; exact h.hc, h.ne, h.nn, hi, hg, hk, hd⟩
theorem HandAt.kp {H H' : Hp} {p : Addr} (h : HandAt H p) (k : ∀ b o, H b = some o → H' b = some o) : HandAt H' p := by
  obtain ⟨c, cs, i, g, kk, d, h⟩ := h
  exact ⟨c, cs, i, g, kk, d, k _ _ h.hp, k _ _ h.hc, h.ne, h.nn, h.i0, h.g0, h.k0, h.d0⟩
theorem HandAt.new {H : Hp} {p a : Addr} {o : HO} (h : HandAt H p) (n : H a = none) : HandAt (upd H a o) p := h.kp fun b u e => by
  rw [upd_ne (ne_of_none e n)]
  exact e
theorem HandAt.some {H : Hp} {p : Addr} (h : HandAt H p) : ∃ o, H p = some o := by
  obtain ⟨c, cs, i, g, kk, d, h⟩ := h
  exact ⟨_, h.hp⟩
/-! ### promises -/
def spHand (K : PySem.W.Frag) : Sp := fun vs H Q _ => ∃ (a : Addr) (ns : List Int), vs = [.ref a] ∧ SqL K H a (ns.map V.int) ∧ ns.length ≤ 63 ∧ ∀ (p : Addr) (H' : Hp), HandAt H' p → Same H H' → H p = none → Q (.ref p) H'
def spDraw : Sp := fun vs H Q _ => ∃ (p : Addr) (m : Int), vs = [.ref p, .int m] ∧ HandAt H p ∧ 0 < m ∧ m < 1073741824 ∧ ∀ (d : Int) (H' : Hp), 0 ≤ d → d < m → HandAt H' p → Ch p H H' → Q (.int d) H'
section
variable {P : Program} {w : World} {K : PySem.W.Frag} {mg : Str → Option Value} {base : Heap}
theorem scHand : FnScope ["_law_script", "_law_cells", "_law_cell"] ["_law_script"] (defScope sHand) := ⟨rfl, rfl, rfl, by decide +kernel, rfl, by decide +kernel, by decide +kernel⟩
theorem ok_hand {f : Addr} {fd : FuncData} (F : FnP K "_law_hand" sHand f fd) (T : Bi mg) : FnOk P w K mg base CX0 1 f fd ["_law_script"] (spHand K) := by
  refine F.ok scHand (fun vs H Q E h => ?_) (fun cdv A outer s H vs Q E hr h => ?_)
  · obtain ⟨a, ns, rfl, _⟩ := h
    rfl
  · obtain ⟨a, ns, rfl, hS, hl, k⟩ := h
    refine ⟨_, PSs.nox (pss_cut (ps_setLc (i := 1) (own := [("_law_cell", 2)]) (g := gName 2) (tt := tYes) rfl scHand.nd rfl rfl (sw_true rfl rfl rfl (by decide +kernel)) (pi_list (pe_slice sl_list (pv 0) po_none (po_some pe_int))) (blkOk_by (N := ["_law_script", "_law_cells", "_law_cell"]) (sc := defScope sHand) (by decide +kernel)) (fun _ _ _ _ _ => (pg_name (i := 2) scHand.nd rfl (Or.inl rfl))) (fun _ _ _ _ _ => pts_nil) (fun _ _ _ _ _ => (pe_callB call_abs (by rfl) T.b_abs (by decide +kernel) (pa_cons (pe_callTy call_int1 (by rfl) T.b_int (by decide +kernel) (pa_cons (pv 2) pa_nil)) pa_nil))))
    (pss_one (ps_ret (pe_lst (pa_cons (pv 1) (pa_cons pe_int (pa_cons pe_int (pa_cons (pe_op op_add pe_int (pe_callB call_len_seq (by rfl) T.b_len (by decide +kernel) (pa_cons (pv 1) pa_nil))) (pa_cons pe_int pa_nil))))))))), ?_⟩
    refine ⟨fun σ' H' => ∃ (c : Addr) (cs : List Int), σ' = [some (.ref a), some (.ref c), none] ∧ Same H H' ∧ H c = none ∧ H' c = some (.lst (cs.map V.int)) ∧ ∀ x ∈ cs, 0 ≤ x, ?_, ?_⟩
    · -- the comprehension
      refine ⟨_, rfl, _, rfl, a, _, rfl, hS, fun p np => ?_⟩
      have hlen : (cutV (ns.map V.int) none (some 63)) = ns.map V.int := by
        unfold cutV
        rw [List.length_map]
        have h1 : HT.sIx ns.length 0 none = 0 := rfl
        have h2 : HT.sIx ns.length ns.length (some 63) = min 63 ns.length := HT.sIx_nat _ _ 63
        rw [h1, h2, List.drop_zero, Nat.sub_zero, Nat.min_eq_right hl]
        exact List.take_of_length_le (by rw [List.length_map]; exact Nat.le_refl _)
      rw [hlen]
      refine ⟨p, rfl, ⟨_, SqL.of upd_same⟩, fun D hD => ?_⟩
      have npD : p ≠ D := ne_of_none (upd_same (H := H) (a := p)) hD
      have nH : H D = none := by
        rw [upd_ne npD.symm] at hD
        exact hD
      refine lc_list (K := K) (xs := ns.map V.int) (fun i H' => ∃ cs : List Int, H' = upd (upd H p (.lst (ns.map V.int))) D (.lst (cs.map V.int)) ∧ cs.length = i ∧ ∀ x ∈ cs, 0 ≤ x) ⟨[], rfl, rfl, fun x hx => nomatch hx⟩ ?_ ?_ ?_
      · rintro i H' _ ⟨cs, rfl, _⟩
        exact SqL.of (by rw [upd_ne npD, upd_same])
      · rintro i x H' hx ⟨cs, rfl, hi, hc⟩
        obtain ⟨z, rfl⟩ : ∃ z, x = V.int z := by
          rw [List.getElem?_map] at hx
          cases e : ns[i]? with
          | none => rw [e] at hx; cases hx
          | some z => rw [e] at hx; exact ⟨z, (Option.some.inj hx).symm⟩
        have hil : i < (ns.map V.int).length := (List.getElem?_eq_some_iff.mp hx).1
        rw [List.length_map] at hil
        refine ⟨rfl, _, rfl, .inl ⟨_, rfl, _, rfl, cs.map V.int, upd_same, Nat.lt_of_le_of_lt (by rw [List.length_map, hi]; omega) (show 63 < sizeLine by decide), cs ++ [if z < 0 then -z else z], ?_, by rw [List.length_append, hi]; rfl, fun x hx => ?_⟩⟩
        · rw [upd_upd, List.map_append]
          rfl
        · rcases List.mem_append.mp hx with h | h
          · exact hc x h
          · rw [List.mem_singleton.mp h]
            split <;> omega
      · rintro H' ⟨cs, rfl, _, hc⟩
        refine ⟨D, cs, rfl, fun b o e => ?_, nH, upd_same, hc⟩
        rw [upd_ne (ne_of_none e nH), upd_ne (ne_of_none e np)]
        exact e
    · rintro σ' H' ⟨c, cs, rfl, s1, n1, hc, hcn⟩
      refine ⟨_, rfl, _, rfl, c, _, rfl, .inl (SqL.of hc), _, _, rfl, rfl, (by show 5 ≤ sizeLine; decide), fun p np => ?_⟩
      have ncp : c ≠ p := ne_of_none hc np
      refine k p _ ⟨c, cs, 0, 0, _, 0, upd_same, by rw [upd_ne ncp]; exact hc, ncp, hcn, by omega, by omega, by omega, by omega⟩ (fun b o e => ?_) (s1.free np)
      rw [upd_ne (ne_of_none (s1 b o e) np)]
      exact s1 b o e
end
end K00
set_option Elab.async false
set_option linter.all false
set_option maxRecDepth 100000
set_option maxHeartbeats 4000000
namespace K00
open PySem PySem.Spec PyProof.Rows L2 ZX
section
variable {P : Program} {w : World} {K : PySem.W.Frag} {mg : Str → Option Value} {base : Heap}
theorem scDraw : FnScope ["_law_hand_here", "_law_many", "_law_cell", "_law_digit", "_law_number"] ["_law_hand_here", "_law_many"] (defScope sDraw) := ⟨rfl, rfl, rfl, by decide +kernel, rfl, by decide +kernel, by decide +kernel⟩
/-- what holds in draw between its statements -/
def DrawMid (p : Addr) (m : Int) (H0 : Hp) (σ : L2.St) (H : Hp) : Prop := ∃ (c : Addr) (cs : List Int) (i g k d : Int) (x y z : Option V), σ = [some (.ref p), some (.int m), x, y, z] ∧ HandIs H p c cs i g k d ∧ Ch p H0 H
/-- .. behind its last numbers -/
def DrawNum (p : Addr) (m : Int) (H0 : Hp) (σ : L2.St) (H : Hp) : Prop := ∃ (x y : Option V) (n : Int), σ = [some (.ref p), some (.int m), x, y, some (.int n)] ∧ HandAt H p ∧ Ch p H0 H ∧ 0 ≤ n ∧ n < 4294967296
theorem ok_draw {f : Addr} {fd : FuncData} (F : FnP K "_law_draw" sDraw f fd) (T : Bi mg) : FnOk P w K mg base CX0 1 f fd ["_law_hand_here", "_law_many"] spDraw := by
  refine F.ok scDraw (fun vs H Q E h => ?_) (fun cdv A outer s H vs Q E hr h => ?_)
  · obtain ⟨p, m, rfl, _⟩ := h
    rfl
  · obtain ⟨p, m, rfl, ⟨c, cs, i, g, kk, d, hh⟩, m0, m1, k⟩ := h
    refine ⟨_, PSs.nox (pss_cut (ps_if (PW.pt (pw_and (pt_cmpR op_eq (pe_ix ix_list (pv 0) pe_int (fun _ _ => rfl)) pe_int (nomark _)) (pw_and1 (pt_cmpR op_lt (pe_ix ix_list (pv 0) pe_int (fun _ _ => rfl)) (pe_callB call_len_seq (by rfl) T.b_len (by decide +kernel) (pa_cons (pe_ix ix_list (pv 0) pe_int (fun _ _ => rfl)) pa_nil)) (nomark _))))) (pss_cons (ps_set (i := 2) scDraw.nd rfl (Or.inl rfl) (pe_ix ix_list (pe_ix ix_list (pv 0) pe_int (fun _ _ => rfl)) (pe_ix ix_list (pv 0) pe_int (fun _ _ => rfl)) (fun _ _ => rfl)))
      (pss_cons (ps_asg (pe_op op_add (pe_ix ix_list (pv 0) pe_int (fun _ _ => rfl)) pe_int) (pg_sub (pv 0) pe_int set_list))
      (pss_cons (ps_asg (pe_op op_mod (pe_callTy call_int1 (by rfl) T.b_int (by decide +kernel) (pa_cons (pe_op op_add (pe_op op_add (pe_op op_mul (pe_ix ix_list (pv 0) pe_int (fun _ _ => rfl)) pe_int) (pv 2)) pe_int) pa_nil)) pe_int) (pg_sub (pv 0) pe_int set_list))
      (pss_one (ps_if (pt_cmpR op_ge (pv 2) (pe_op op_pow pe_int pe_int) (nomark _)) (pss_one (ps_asg (pv 2) (pg_sub (pv 0) pe_int set_list))) pss_nil))))) pss_nil)
    (pss_cut (ps_if (pt_cmpR op_gt (pe_ix ix_list (pv 0) pe_int (fun _ _ => rfl)) pe_int (nomark _)) (pss_cons (ps_set (i := 3) scDraw.nd rfl (Or.inl rfl) (pe_op op_modP (pe_callTy call_int1 (by rfl) T.b_int (by decide +kernel) (pa_cons (pe_ix ix_list (pv 0) pe_int (fun _ _ => rfl)) pa_nil)) (pv 1)))
      (pss_cons (ps_asg (pe_op op_fdivP (pe_ix ix_list (pv 0) pe_int (fun _ _ => rfl)) (pv 1)) (pg_sub (pv 0) pe_int set_list))
      (pss_one (ps_ret (pv 3))))) pss_nil)
    (pss_cons (ps_asg (pe_op op_add (pe_ix ix_list (pv 0) pe_int (fun _ _ => rfl)) pe_int) (pg_sub (pv 0) pe_int set_list))
    (pss_cut (ps_set (i := 4) scDraw.nd rfl (Or.inl rfl) (pe_op op_mod (pe_callTy call_int1 (by rfl) T.b_int (by decide +kernel) (pa_cons (pe_op op_mul (pe_callTy call_int1 (by rfl) T.b_int (by decide +kernel) (pa_cons (pe_op op_add (pe_ix ix_list (pv 0) pe_int (fun _ _ => rfl)) (pe_op op_mul pe_int (pe_ix ix_list (pv 0) pe_int (fun _ _ => rfl)))) pa_nil)) pe_int) pa_nil)) pe_int))
    (pss_cut (ps_set (i := 4) scDraw.nd rfl (Or.inl rfl) (pe_op op_mod (pe_callTy call_int1 (by rfl) T.b_int (by decide +kernel) (pa_cons (pe_op op_mul (pv 4) (pe_op op_add (pe_op op_fdiv (pv 4) pe_int) pe_int)) pa_nil)) pe_int))
    (pss_cut (ps_set (i := 4) scDraw.nd rfl (Or.inl rfl) (pe_op op_mod (pe_callTy call_int1 (by rfl) T.b_int (by decide +kernel) (pa_cons (pe_op op_mul (pv 4) (pe_op op_add (pe_op op_fdiv (pv 4) pe_int) pe_int)) pa_nil)) pe_int))
    (pss_one (ps_ret (pe_op op_modP (pe_callTy call_int1 (by rfl) T.b_int (by decide +kernel) (pa_cons (pe_op op_fdiv (pv 4) pe_int) pa_nil)) (pv 1)))))))))), ?_⟩
    refine ⟨DrawMid p m H, ?_, ?_⟩
    · refine ⟨_, rfl, p, _, _, _, rfl, rfl, SqL.of hh.hp, rfl, rfl, _, rfl, ?_⟩
      refine ite2 (fun e => ?_) (fun _ => ?_)
      · refine ⟨_, rfl, p, _, _, _, rfl, rfl, SqL.of hh.hp, rfl, _, rfl, p, _, _, _, rfl, rfl, SqL.of hh.hp, rfl, c, _, rfl, .inl (SqL.of hh.hc), _, _, rfl, rfl, _, rfl, ?_⟩
        refine ite2 (fun e => ?_) (fun _ => ?_)
        · have hi : i < ((cs.map V.int).length : Int) := of_decide_eq_true e
          obtain ⟨x, hx, hx0⟩ : ∃ x, cs[i.toNat]? = some x ∧ 0 ≤ x := by
            have hl : i.toNat < cs.length := by
              rw [List.length_map] at hi
              have := hh.i0
              omega
            exact ⟨_, List.getElem?_eq_getElem hl, hh.nn _ (List.getElem_mem hl)⟩
          have hat : atI (cs.map V.int) i = some (V.int x) := at_of (j := i.toNat) (by have := hh.i0; omega) (by rw [List.getElem?_map, hx]; rfl)
          refine ⟨_, rfl, p, _, _, _, rfl, rfl, SqL.of hh.hp, rfl, _, rfl, p, _, _, _, rfl, rfl, SqL.of hh.hp, rfl, c, _, _, _, rfl, rfl, SqL.of hh.hc, hat, ?_⟩
          -- hand[1] = hand[1] + 1
          have h2 := hh.put (i' := i + 1) (g' := g) (k' := kk) (d' := d) (by have := hh.i0; omega) hh.g0 hh.k0 hh.d0
          refine ⟨_, rfl, p, _, _, _, rfl, rfl, SqL.of hh.hp, rfl, _, _, rfl, rfl, _, rfl, p, _, _, 1, rfl, rfl, hh.hp, rfl, ?_⟩
          -- hand[3] = ..
          have h3 := h2.put (i' := i + 1) (g' := g) (k' := (kk * 69621 + x + 11) % 2147483629) (d' := d) (by have := hh.i0; omega) hh.g0 (Int.emod_nonneg _ (by decide)) hh.d0
          refine ⟨_, rfl, p, _, _, _, rfl, rfl, SqL.of h2.hp, rfl, _, _, rfl, rfl, .inr ⟨by decide, by decide⟩, _, rfl, _, _, rfl, rfl, _, _, rfl, rfl, .inl ⟨_, rfl, _, _, rfl, rfl, (by show (0 : Int) < 2147483629; decide), _, rfl, p, _, _, 3, rfl, rfl, h2.hp, rfl, ?_⟩⟩
          -- if cell >= 10 ** 18
          refine ⟨_, rfl, _, _, rfl, rfl, ⟨by decide, by decide, by decide⟩, _, _, rfl, rfl, _, rfl, ?_⟩
          refine ite2 (fun _ => ?_) (fun _ => ?_)
          · have h4 := h3.put (i' := i + 1) (g' := x) (k' := (kk * 69621 + x + 11) % 2147483629) (d' := d) (by have := hh.i0; omega) hx0 (Int.emod_nonneg _ (by decide)) hh.d0
            refine ⟨_, rfl, _, rfl, p, _, _, 2, rfl, rfl, h3.hp, rfl, ?_⟩
            exact ⟨c, cs, _, _, _, _, _, _, _, rfl, h4, ((Ch.refl _ _).upd _).upd _ |>.upd _⟩
          · exact ⟨c, cs, _, _, _, _, _, _, _, rfl, h3, ((Ch.refl _ _).upd _).upd _⟩
        · exact ⟨c, cs, i, g, kk, d, _, _, _, rfl, hh, Ch.refl _ _⟩
      · exact ⟨c, cs, i, g, kk, d, _, _, _, rfl, hh, Ch.refl _ _⟩
    · rintro σ' H' ⟨c, cs, i, g, kk, d, x, y, z, rfl, hh, ch⟩
      refine ⟨DrawMid p m H, ?_, ?_⟩
      · -- if hand[2] > 0
        refine ⟨_, rfl, p, _, _, _, rfl, rfl, SqL.of hh.hp, rfl, _, _, rfl, rfl, _, rfl, ?_⟩
        refine ite2 (fun _ => ?_) (fun _ => ?_)
        · refine ⟨_, rfl, p, _, _, _, rfl, rfl, SqL.of hh.hp, rfl, .inl ⟨_, rfl, _, rfl, _, _, rfl, rfl, m0, ?_⟩⟩
          have h2 := hh.put (i' := i) (g' := g / m) (k' := kk) (d' := d) hh.i0 (Int.ediv_nonneg hh.g0 (by omega)) hh.k0 hh.d0
          refine ⟨_, rfl, p, _, _, _, rfl, rfl, SqL.of hh.hp, rfl, _, rfl, _, _, rfl, rfl, ⟨m0, m1⟩, _, rfl, p, _, _, 2, rfl, rfl, hh.hp, rfl, ?_⟩
          exact ⟨_, rfl, k _ _ (Int.emod_nonneg _ (by omega)) (Int.emod_lt_of_pos _ m0) ⟨c, cs, _, _, _, _, h2⟩ (ch.upd _)⟩
        · exact ⟨c, cs, i, g, kk, d, _, _, _, rfl, hh, ch⟩
      · rintro σ' H' ⟨c, cs, i, g, kk, d, x, y, z, rfl, hh, ch⟩
        have h2 := hh.put (i' := i) (g' := g) (k' := kk) (d' := d + 1) hh.i0 hh.g0 hh.k0 (by have := hh.d0; omega)
        refine ⟨_, rfl, p, _, _, _, rfl, rfl, SqL.of hh.hp, rfl, _, _, rfl, rfl, _, rfl, p, _, _, 4, rfl, rfl, hh.hp, rfl, ?_⟩
        refine ⟨DrawNum p m H, ?_, ?_⟩
        · refine ⟨_, rfl, p, _, _, _, rfl, rfl, SqL.of h2.hp, rfl, _, rfl, p, _, _, _, rfl, rfl, SqL.of h2.hp, rfl, _, _, rfl, rfl, .inl ⟨by decide, by decide⟩, _, _, rfl, rfl, .inl ⟨_, rfl, _, _, rfl, rfl, .inr ⟨by decide, by decide⟩, .inl ⟨_, rfl, _, _, rfl, rfl, (by show (0 : Int) < 2147483647; decide), ?_⟩⟩⟩
          exact ⟨_, _, _, rfl, ⟨c, cs, _, _, _, _, h2⟩, ch.upd _, Int.emod_nonneg _ (by decide), Int.lt_trans (Int.emod_lt_of_pos _ (by decide)) (by decide)⟩
        · rintro σ' H' ⟨x, y, n, rfl, hh, ch, n0, n1⟩
          refine ⟨DrawNum p m H, ?_, ?_⟩
          · refine ⟨_, rfl, _, rfl, _, _, rfl, rfl, ⟨by decide, by decide⟩, _, _, rfl, rfl, _, _, rfl, rfl, .inl ⟨by omega, by omega⟩, .inl ⟨_, rfl, _, _, rfl, rfl, (by show (0 : Int) < 2147483647; decide), ?_⟩⟩
            exact ⟨_, _, _, rfl, hh, ch, Int.emod_nonneg _ (by decide), Int.lt_trans (Int.emod_lt_of_pos _ (by decide)) (by decide)⟩
          · rintro σ' H' ⟨x, y, n, rfl, hh, ch, n0, n1⟩
            refine ⟨DrawNum p m H, ?_, ?_⟩
            · refine ⟨_, rfl, _, rfl, _, _, rfl, rfl, ⟨by decide, by decide⟩, _, _, rfl, rfl, _, _, rfl, rfl, .inl ⟨by omega, by omega⟩, .inl ⟨_, rfl, _, _, rfl, rfl, (by show (0 : Int) < 2147483399; decide), ?_⟩⟩
              exact ⟨_, _, _, rfl, hh, ch, Int.emod_nonneg _ (by decide), Int.lt_trans (Int.emod_lt_of_pos _ (by decide)) (by decide)⟩
            · rintro σ' H' ⟨x, y, n, rfl, hh, ch, n0, n1⟩
              refine ⟨_, rfl, _, _, rfl, rfl, ⟨by decide, by decide⟩, .inl ⟨_, rfl, _, rfl, _, _, rfl, rfl, m0, ?_⟩⟩
              exact k _ _ (Int.emod_nonneg _ (by omega)) (Int.emod_lt_of_pos _ m0) hh ch
end
end K00
set_option Elab.async false
set_option linter.all false
set_option maxRecDepth 100000
set_option maxHeartbeats 4000000
namespace K00
open PySem PySem.Spec PyProof.Rows L2 ZX
/-- a thing nested in lists, tuples, dicts -/
inductive Deep (H : Hp) : V → Prop where
  | non : Deep H .non
  | str : Deep H (.str "x")
  | nil {a : Addr} (h : H a = some (.tup [])) : Deep H (.ref a)
  | lst {a : Addr} {v : V} (h : H a = some (.lst [v])) (d : Deep H v) : Deep H (.ref a)
  | tup {a : Addr} {v : V} (h : H a = some (.tup [v])) (d : Deep H v) : Deep H (.ref a)
  | dic {a : Addr} {v : V} (h : H a = some (.dK [(.inl 0, v)])) (d : Deep H v) : Deep H (.ref a)
theorem Deep.kp {H H' : Hp} {p : Addr} {v : V} (hh : HandAt H p) (k : Kp p H H') (d : Deep H v) : Deep H' v := by
  obtain ⟨c, cs, i, g, kk, dd, hh⟩ := hh
  induction d with
  | non => exact .non
  | str => exact .str
  | nil h => exact .nil (k _ _ (ne_of h hh.hp (by intro z; cases z)) h)
  | lst h _ ih => exact .lst (k _ _ (ne_of h hh.hp (by intro z; cases z)) h) ih
  | tup h _ ih => exact .tup (k _ _ (ne_of h hh.hp (by intro z; cases z)) h) ih
  | dic h _ ih => exact .dic (k _ _ (ne_of h hh.hp (by intro z; cases z)) h) ih
theorem Deep.same {H H' : Hp} {v : V} (k : Same H H') (d : Deep H v) : Deep H' v := by
  induction d with
  | non => exact .non
  | str => exact .str
  | nil h => exact .nil (k _ _ h)
  | lst h _ ih => exact .lst (k _ _ h) ih
  | tup h _ ih => exact .tup (k _ _ h) ih
  | dic h _ ih => exact .dic (k _ _ h) ih
theorem same_new {H : Hp} {a : Addr} {o : HO} (n : H a = none) : Same H (upd H a o) := fun b u e => by
  rw [upd_ne (ne_of_none e n)]
  exact e
def SqA (K : PySem.W.Frag) (H : Hp) (t : Addr) (xs : List V) : Prop := SqL K H t xs ∨ SqT K H t xs
theorem SqA.ch {K : PySem.W.Frag} {p : Addr} {H H' : Hp} {t : Addr} {xs : List V} (c : Ch p H H') (ne : t ≠ p) (h : SqA K H t xs) : SqA K H' t xs := by
  rcases h with ((h | ⟨o, h⟩) | h) | ((h | ⟨o, h⟩) | h)
  · exact .inl (.inl (.inl (by rw [c t ne]; exact h)))
  · exact .inl (.inl (.inr ⟨o, by rw [c t ne]; exact h⟩))
  · exact .inl (.inr h)
  · exact .inr (.inl (.inl (by rw [c t ne]; exact h)))
  · exact .inr (.inl (.inr ⟨o, by rw [c t ne]; exact h⟩))
  · exact .inr (.inr h)
def spAny (K : PySem.W.Frag) : Sp := fun vs H Q _ => ∃ (p t : Addr) (xs : List V), vs = [.ref p, .ref t] ∧ HandAt H p ∧ t ≠ p ∧ SqA K H t xs ∧ xs ≠ [] ∧ xs.length < 1073741824 ∧ ∀ (x : V) (H' : Hp), x ∈ xs → HandAt H' p → Ch p H H' → Q x H'
def spDeep : Sp := fun vs H Q _ => ∃ p : Addr, vs = [.ref p] ∧ HandAt H p ∧ ∀ (v : V) (H' : Hp), HandAt H' p → Kp p H H' → Deep H' v → Q v H'
section
variable {P : Program} {w : World} {K : PySem.W.Frag} {mg : Str → Option Value} {base : Heap}
theorem scAny : FnScope ["_law_hand_here", "_law_things"] ["_law_hand_here", "_law_things"] (defScope sAny) := ⟨rfl, rfl, rfl, by decide +kernel, rfl, by decide +kernel, by decide +kernel⟩
theorem ok_any {f : Addr} {fd : FuncData} (F : FnP K "_law_any" sAny f fd) (T : Bi mg) (C_draw : Cal P w K mg base "_law_draw" 1 ["_law_hand_here", "_law_many"] spDraw) : FnOk P w K mg base CX0 2 f fd ["_law_hand_here", "_law_things"] (spAny K) := by
  refine F.ok scAny (fun vs H Q E h => ?_) (fun cdv A outer s H vs Q E hr h => ?_)
  · obtain ⟨p, t, xs, rfl, _⟩ := h
    rfl
  · obtain ⟨p, t, xs, rfl, hh, ne, hS, hx, hl, k⟩ := h
    refine ⟨_, PSs.nox (pss_one (ps_ret (pe_ix ix_seq (pv 1) (pcal C_draw hr rfl (pa_cons (pv 0) (pa_cons (pe_callB call_len_seq (by rfl) T.b_len (by decide +kernel) (pa_cons (pv 1) pa_nil)) pa_nil))) (fun _ _ => rfl)))), ?_⟩
    have hpos : 0 < xs.length := List.length_pos_iff.mpr hx
    refine ⟨_, rfl, _, rfl, _, rfl, t, xs, rfl, hS, p, _, rfl, hh, by omega, by omega, fun d H' d0 d1 hh' ch => ?_⟩
    have hd : d.toNat < xs.length := by omega
    have hat : atI xs d = some xs[d.toNat] := at_of (j := d.toNat) (by omega) (List.getElem?_eq_getElem hd)
    have hQ := k xs[d.toNat] H' (List.getElem_mem hd) hh' ch
    rcases hS.ch ch ne with h | h
    · exact .inl ⟨t, xs, d, _, rfl, rfl, h, hat, hQ⟩
    · exact .inr (.inl ⟨t, xs, d, _, rfl, rfl, h, hat, hQ⟩)
theorem scDeep : FnScope ["_law_hand_here", "_law_found", "_law_turn"] ["_law_hand_here"] (defScope sDeep) := ⟨rfl, rfl, rfl, by decide +kernel, rfl, by decide +kernel, by decide +kernel⟩
def DeepMid (p : Addr) (H0 : Hp) (σ : L2.St) (H : Hp) : Prop := ∃ (v : V) (t : Option V), σ = [some (.ref p), some v, t] ∧ HandAt H p ∧ Kp p H0 H ∧ Deep H v
theorem three {a b c : V} {d : Int} (h0 : 0 ≤ d) (h3 : d < 3) (Q : V → Prop) (ha : Q a) (hb : Q b) (hc : Q c) : ∃ x, atI [a, b, c] d = some x ∧ Q x := by
  have e : d = 0 ∨ d = 1 ∨ d = 2 := by omega
  rcases e with rfl | rfl | rfl
  · exact ⟨a, rfl, ha⟩
  · exact ⟨b, rfl, hb⟩
  · exact ⟨c, rfl, hc⟩
theorem ok_deep {f : Addr} {fd : FuncData} (F : FnP K "_law_deep" sDeep f fd) (T : Bi mg) (C_draw : Cal P w K mg base "_law_draw" 1 ["_law_hand_here", "_law_many"] spDraw) : FnOk P w K mg base CX0 2 f fd ["_law_hand_here"] spDeep := by
  refine F.ok scDeep (fun vs H Q E h => ?_) (fun cdv A outer s H vs Q E hr h => ?_)
  · obtain ⟨p, rfl, _⟩ := h
    rfl
  · obtain ⟨p, rfl, hh, k⟩ := h
    refine ⟨_, PSs.nox (pss_cut (ps_set (i := 1) scDeep.nd rfl (Or.inl rfl) (pe_ix ix_list (pe_lst (pa_cons pe_non (pa_cons (pe_tup pa_nil) (pa_cons pe_str pa_nil)))) (pcal C_draw hr rfl (pa_cons (pv 0) (pa_cons pe_int pa_nil))) (fun _ _ => rfl)))
    (pss_cut (ps_for PassesOwn.never rfl (pi_range1 rfl T.b_range (pa_cons (pe_op op_add pe_int (pcal C_draw hr rfl (pa_cons (pv 0) (pa_cons pe_int pa_nil)))) pa_nil)) (pg_name (i := 2) scDeep.nd rfl (Or.inl rfl)) (pss_one (ps_set (i := 1) scDeep.nd rfl (Or.inl rfl) (pe_ix ix_list (pe_lst (pa_cons (pe_lst (pa_cons (pv 1) pa_nil)) (pa_cons (pe_tup (pa_cons (pv 1) pa_nil)) (pa_cons (pe_disp (pps_cons pe_int (pv 1) pps_nil) (by rfl) (by rfl) (fun z => by cases z) (by decide)) pa_nil)))) (pcal C_draw hr rfl (pa_cons (pv 0) (pa_cons pe_int pa_nil))) (fun _ _ => rfl)))))
    (pss_one (ps_ret (pv 1))))), ?_⟩
    refine ⟨DeepMid p H, ?_, ?_⟩
    · -- found = [None, (), 'x'][draw(3)]
      refine ⟨by decide, fun t nt => ⟨by show 3 ≤ sizeLine; decide, fun l nl => ?_⟩⟩
      have k1 : Kp p H (upd (upd H t (.tup [])) l (.lst [.non, .ref t, .str "x"])) := ((Kp.refl p H).new nt).new nl
      have hh1 := (hh.new (o := .tup []) nt).new (o := .lst [.non, .ref t, .str "x"]) nl
      have ntl : t ≠ l := ne_of_none upd_same nl
      have nlp : l ≠ p := by
        obtain ⟨o, e⟩ := (hh.new (o := .tup []) nt).some
        exact (ne_of_none e nl).symm
      have ntp : t ≠ p := by
        obtain ⟨o, e⟩ := hh.some
        exact (ne_of_none e nt).symm
      refine ⟨_, rfl, p, 3, rfl, hh1, by decide, by decide, fun d H' d0 d3 hh' ch => ?_⟩
      have ht : H' t = some (.tup []) := by
        rw [ch t ntp, upd_ne ntl]
        exact upd_same
      obtain ⟨x, hx, hd⟩ := three d0 d3 (Deep H') (a := .non) (b := .ref t) (c := .str "x") .non (.nil ht) .str
      refine ⟨l, _, _, x, rfl, rfl, SqL.of (by rw [ch l nlp]; exact upd_same), hx, ?_⟩
      exact ⟨x, _, rfl, hh', k1.trans ch.kp, hd⟩
    · rintro σ' H' ⟨v, t, rfl, hh', k1, hd⟩
      refine ⟨DeepMid p H, ?_, ?_⟩
      · refine ⟨_, rfl, p, 8, rfl, hh', by decide, by decide, fun d H2 d0 d8 hh2 ch => ?_⟩
        refine ⟨_, _, rfl, rfl, _, rfl, by omega, by omega, ?_⟩
        refine for_range (fun _ => DeepMid p H) ⟨v, t, rfl, hh2, k1.trans ch.kp, hd.kp hh' ch.kp⟩ ?_ (fun _ _ h => h)
        rintro i σ3 H3 hi ⟨v, t, rfl, hh3, k3, hd3⟩
        -- found = [[found], (found,), {0: found}][draw(3)]
        refine ⟨_, rfl, by show 1 ≤ sizeLine; decide, fun a na => ⟨_, rfl, by show 1 ≤ sizeLine; decide, fun b nb => ?_⟩⟩
        intro e ne
        refine ⟨_, rfl, upd_same, [(.inl 0, v)], rfl, by show 1 ≤ 15; decide, by show 3 ≤ sizeLine; decide, fun l nl => ?_⟩
        have eu : (upd (upd (upd (upd H3 a (.lst [v])) b (.tup [v])) e (.dK [])) e (.dK (mergeK [] [(.inl 0, v)]))) = upd (upd (upd H3 a (.lst [v])) b (.tup [v])) e (.dK [(.inl 0, v)]) := upd_upd
        rw [eu] at nl ⊢
        have sa := same_new (o := .lst [v]) na
        have sb := same_new (o := .tup [v]) nb
        have se := same_new (o := .dK [(.inl 0, v)]) ne
        have sl := same_new (o := .lst [.ref a, .ref b, .ref e]) nl
        have s3 : Same H3 _ := ((sa.trans sb).trans se).trans sl
        have hh4 := hh3.kp s3
        have pn : ∀ {G : Hp} {x : Addr}, Same H3 G → G x = none → x ≠ p := fun sG n => by
          obtain ⟨o, eo⟩ := hh3.some
          exact (ne_of_none (sG _ _ eo) n).symm
        have hd4 := hd3.same s3
        refine ⟨_, rfl, p, 3, rfl, hh4, by decide, by decide, fun d H5 d0 d3 hh5 ch => ?_⟩
        have hd5 : Deep H5 v := hd4.kp hh4 ch.kp
        have ha : H5 a = some (.lst [v]) := by
          rw [ch a (pn (fun _ _ z => z) na)]
          exact sl _ _ (se _ _ (sb _ _ upd_same))
        have hb : H5 b = some (.tup [v]) := by
          rw [ch b (pn sa nb)]
          exact sl _ _ (se _ _ upd_same)
        have he : H5 e = some (.dK [(.inl 0, v)]) := by
          rw [ch e (pn (sa.trans sb) ne)]
          exact sl _ _ upd_same
        have hl5 : H5 l = some (.lst [.ref a, .ref b, .ref e]) := by
          rw [ch l (pn ((sa.trans sb).trans se) nl)]
          exact upd_same
        obtain ⟨x, hx, hdx⟩ := three d0 d3 (Deep H5) (a := .ref a) (b := .ref b) (c := .ref e) (.lst ha hd5) (.tup hb hd5) (.dic he hd5)
        refine ⟨l, _, _, x, rfl, rfl, SqL.of hl5, hx, ?_⟩
        refine ⟨x, _, rfl, hh5, k3.trans (Kp.trans (fun z o _ eo => s3 z o eo) ch.kp), hdx⟩
      · rintro σ' H' ⟨v, t, rfl, hh', k1, hd⟩
        exact ⟨_, rfl, k v H' hh' k1 hd⟩
end
end K00
set_option Elab.async false
set_option linter.all false
set_option maxRecDepth 100000
set_option maxHeartbeats 4000000
namespace ZX
open PySem PySem.Spec PyProof.Rows L2
/-! ### a Hook: facts, defs, and one Bool more -/
structure SaysB (fa : List He.Fa) (fn : List He.DefD) (ex : PySem.W.Frag → Bool) (K : PySem.W.Frag) : Prop where
  d : He.SaysD fa fn K
  more : ex K = true
abbrev AlB : Type := He.AlD × Bool
def obsB (fa : List He.Fa) (fn : List He.DefD) (ex : PySem.W.Frag → Bool) (K : PySem.W.Frag) : AlB := (He.obsD fa fn K, ex K)
def obsBG (n : Nat) (fa : List He.Fa) (fn : List He.DefD) (ex : PySem.W.Frag → Bool) (g : Addr → Option Obj) : AlB := obsB fa fn ex (He.frG g (He.asD g n))
def valB (fn : List He.DefD) : AlB := (He.valD fn, true)
def hookB (n : Nat) (fa : List He.Fa) (fn : List He.DefD) (ex : PySem.W.Frag → Bool) : PySem.W.Hook where
  α := AlB
  obs := fun s => obsBG n fa fn ex s.heap.get?
  val := fun _ => valB fn
  says := fun _ h => ∃ K : PySem.W.Frag, K.In h ∧ SaysB fa fn ex K
  of := fun _ _ e => ⟨_, He.frG_in, congrArg (fun z : AlB => z.1) e, congrArg (fun z : AlB => z.2) e⟩
  keeps := fun _ _ _ ⟨K, hK, c⟩ k => ⟨K, PySem.W.Frag.In.keeps hK k, c⟩
theorem obsBG_eq {n : Nat} {fa : List He.Fa} {fn : List He.DefD} {ex : PySem.W.Frag → Bool} {g : Addr → Option Obj} {s : Shared} (h : ∀ a, g a = s.heap.get? a) : obsBG n fa fn ex g = (hookB n fa fn ex).obs s := by
  have e : g = s.heap.get? := funext h
  rw [e] <;> rfl
/-! ### own exception classes over one own class over ValueError -/
/-- the class x has the chain x, base, ValueError .. and its own dict -/
def clsB (K : PySem.W.Frag) (base x : Str) : Bool := match K.lookup (He.ga K x) with
  | some ⟨.type "type", _, .cls cd, sl⟩ => (match sl.toList with
    | [_, _, _, _, some (.builtin n), _] => decide (cd.mro = [.ref (He.ga K x), .ref (He.ga K base), .type "ValueError", .type "Exception", .type "BaseException", .type "object"]) && (n == "ValueError.__new__" && (!cd.hasDel && cd.hasDict))
    | _ => false)
  | _ => false
theorem clsB_ok {K : PySem.W.Frag} {base x : Str} (h : clsB K base x = true) : ∃ nm q N bs sn sub ab col dd k0 k1 k2 k3 k5,
    K.lookup (He.ga K x) = some (excClassObj nm q (He.ga K x) N bs [.ref (He.ga K base), .type "ValueError", .type "Exception", .type "BaseException", .type "object"] true sn sub ab col dd k0 k1 k2 k3 k5 "ValueError.__new__") := by
  unfold clsB at h
  split at h
  · rename_i dd cd sl ho
    split at h
    · rename_i k0 k1 k2 k3 n k5 hs
      obtain ⟨h1, h⟩ := Bool.and_eq_true_iff.mp h
      obtain ⟨h2, h⟩ := Bool.and_eq_true_iff.mp h
      obtain ⟨h3, h4⟩ := Bool.and_eq_true_iff.mp h
      have hm := of_decide_eq_true h1
      have hn := eq_of_beq h2
      obtain ⟨nm, bs, mro, ns, qn, hd, sn, sb, ab, col, del⟩ := cd
      dsimp only at hm h3 h4
      subst hm hn h4
      have hdel : del = false := by
        cases del with
        | false => rfl
        | true => cases h3
      subst hdel
      have hsl : sl = #[k0, k1, k2, k3, some (.builtin "ValueError.__new__"), k5] := by
        obtain ⟨l⟩ := sl
        simp only at hs
        rw [hs]
      subst hsl
      exact ⟨nm, qn, ns, bs, sn, sb, ab, col, dd, k0, k1, k2, k3, k5, ho⟩
    · cases h
  · cases h
def opB (a b : Option (Option Value)) : Bool := decide (a = b)
/-- all that the walk asks of such a class, whose __init__ is its own -/
def ecB (K : PySem.W.Frag) (base x : Str) : Bool := clsB K base x && (opB (PySem.W.findIn K (.ref (He.ga K x)) "__setattr__") (some (some (.builtin "object.__setattr__"))) &&
  (PySem.W.keepIn K (.ref (He.ga K x)) && (opB (PySem.W.findIn K (.ref (He.ga K x)) "__init__") (some (some (.ref (He.ma K (He.ga K x) "__init__")))) &&
  (decide (PySem.W.typeIn K (.ref (He.ma K (He.ga K x) "__init__")) = some (.type "function")) && (opB (PySem.W.findIn K (.ref (He.ga K x)) "__getattribute__") (some (some (.builtin "BaseException.__getattribute__"))) &&
  (opB (PySem.W.findIn K (.ref (He.ga K x)) "__getattr__") (some none) && opB (PySem.W.findIn K (.ref (He.ga K x)) "__class__") (some (some (.builtin "object.__class__")))))))))
structure EcC (K : PySem.W.Frag) (base x : Str) : Prop where
  cls : ∃ nm q N bs sn sub ab col dd k0 k1 k2 k3 k5,
    K.lookup (He.ga K x) = some (excClassObj nm q (He.ga K x) N bs [.ref (He.ga K base), .type "ValueError", .type "Exception", .type "BaseException", .type "object"] true sn sub ab col dd k0 k1 k2 k3 k5 "ValueError.__new__")
  sa : PySem.W.findIn K (.ref (He.ga K x)) "__setattr__" = some (some (.builtin "object.__setattr__"))
  kC : PySem.W.keepIn K (.ref (He.ga K x)) = true
  iC : PySem.W.findIn K (.ref (He.ga K x)) "__init__" = some (some (.ref (He.ma K (He.ga K x) "__init__")))
  tI : PySem.W.typeIn K (.ref (He.ma K (He.ga K x) "__init__")) = some (.type "function")
  ga : PySem.W.findIn K (.ref (He.ga K x)) "__getattribute__" = some (some (.builtin "BaseException.__getattribute__"))
  gg : PySem.W.findIn K (.ref (He.ga K x)) "__getattr__" = some none
  kc : PySem.W.findIn K (.ref (He.ga K x)) "__class__" = some (some (.builtin "object.__class__"))
theorem ecB_ok {K : PySem.W.Frag} {base x : Str} (h : ecB K base x = true) : EcC K base x := by
  obtain ⟨h1, h⟩ := Bool.and_eq_true_iff.mp h
  obtain ⟨h2, h⟩ := Bool.and_eq_true_iff.mp h
  obtain ⟨h3, h⟩ := Bool.and_eq_true_iff.mp h
  obtain ⟨h4, h⟩ := Bool.and_eq_true_iff.mp h
  obtain ⟨h5, h⟩ := Bool.and_eq_true_iff.mp h
  obtain ⟨h6, h⟩ := Bool.and_eq_true_iff.mp h
  obtain ⟨h7, h8⟩ := Bool.and_eq_true_iff.mp h
  exact ⟨clsB_ok h1, of_decide_eq_true h2, h3, of_decide_eq_true h4, of_decide_eq_true h5, of_decide_eq_true h6, of_decide_eq_true h7, of_decide_eq_true h8⟩
section
variable {K : PySem.W.Frag} {base x : Str}
theorem EcC.cd (E : EcC K base x) : ∃ cd, PySem.W.clsIn K (He.ga K x) = some cd ∧ cd.mro = [.ref (He.ga K x), .ref (He.ga K base), .type "ValueError", .type "Exception", .type "BaseException", .type "object"] ∧ cd.hasDict = true := by
  obtain ⟨nm, q, N, bs, sn, sub, ab, col, dd, k0, k1, k2, k3, k5, h⟩ := E.cls
  refine ⟨{ name := nm, bases := bs, mro := [.ref (He.ga K x), .ref (He.ga K base), .type "ValueError", .type "Exception", .type "BaseException", .type "object"], ns := N, qualname := q, hasDict := true, slotNames := sn, subclasses := sub, abstract := ab, collection := col, hasDel := false }, ?_, rfl, rfl⟩
  unfold PySem.W.clsIn
  rw [h]
theorem EcC.mro (E : EcC K base x) (v : Value) : PySem.W.mroIn K (He.ga K x) v = some ([Value.ref (He.ga K x), .ref (He.ga K base), .type "ValueError", .type "Exception", .type "BaseException", .type "object"].contains v) := by
  obtain ⟨cd, h, hm, _⟩ := E.cd
  unfold PySem.W.mroIn
  rw [h, Option.bind_some, hm]
  rfl
theorem EcC.exC (E : EcC K base x) : PySem.W.subIn K (.ref (He.ga K x)) (.type "BaseException") = some true := by
  show PySem.W.mroIn K (He.ga K x) (.type "BaseException") = some true
  rw [E.mro]
  simp
theorem EcC.tyC (E : EcC K base x) : PySem.W.typeIn K (.ref (He.ga K x)) = some (.type "type") := by
  obtain ⟨nm, q, N, bs, sn, sub, ab, col, dd, k0, k1, k2, k3, k5, h⟩ := E.cls
  unfold PySem.W.typeIn
  simp only [h, Option.map_some]
theorem EcC.hd (E : EcC K base x) : PySem.W.hasDictIn K (He.ga K x) = true := by
  obtain ⟨cd, h, _, hd⟩ := E.cd
  unfold PySem.W.hasDictIn
  rw [h]
  simpa using hd
theorem EcC.oex (E : EcC K base x) : OexC K (He.ga K x) := by
  obtain ⟨nm, q, N, bs, sn, sub, ab, col, dd, k0, k1, k2, k3, k5, h⟩ := E.cls
  exact ⟨⟨nm, q, N, bs, _, sn, sub, ab, col, dd, k0, k1, k2, k3, k5, h, by simp only [PySem.HandSPX.refsVE]; decide +kernel⟩, E.sa, E.exC, E.tyC, E.kC⟩
theorem EcC.xf (E : EcC K base x) : XfC K (He.ga K x) := ⟨E.ga, E.gg, E.exC, E.hd⟩
theorem EcC.ec (E : EcC K base x) : L2.ExcC K (He.ga K x) := ⟨E.ga, E.gg, E.exC, E.hd, E.kc, by kernel_rfl, by kernel_rfl, by rw [E.mro]; simp⟩
/-- isinstance against a class of the program -/
theorem EcC.kit (E : EcC K base x) {D : Addr} (hD : (PySem.W.clsIn K D).isSome = true) (tD : PySem.W.typeIn K (.ref D) = some (.type "type")) : PySem.W.kitOne K (.ref (He.ga K x)) (.ref D) = some (decide (D = He.ga K x ∨ D = He.ga K base)) := by
  unfold PySem.W.kitOne
  by_cases e : D = He.ga K x
  · subst e
    rw [if_pos (by simp)]
    simp
  · rw [if_neg (by simpa using fun z => e z.symm)]
    have e2 : ((PySem.W.clsIn K D).isSome && PySem.W.typeIn K (.ref D) == some (.type "type")) = true := by
      rw [hD, tD] <;> rfl
    show (if ((PySem.W.clsIn K D).isSome && PySem.W.typeIn K (.ref D) == some (.type "type")) = true then PySem.W.mroIn K (He.ga K x) (.ref D) else none) = _
    rw [if_pos e2, E.mro]
    simp [e]
theorem EcC.kitV (E : EcC K base x) : PySem.W.kitOne K (.ref (He.ga K x)) (.type "ValueError") = some true := by
  unfold PySem.W.kitOne
  rw [if_neg (by simp)]
  show (if PySem.W.kitMeta "ValueError" = true then PySem.W.mroIn K (He.ga K x) (.type "ValueError") else none) = some true
  rw [if_pos (by decide +kernel), E.mro]
  simp
end
end ZX
set_option Elab.async false
set_option linter.all false
set_option maxRecDepth 100000
set_option maxHeartbeats 0
namespace K00
open PySem PySem.Spec PyProof.Rows L2 ZX
/-! ### the head: facts by names, the run -/
abbrev iBadProgram : Stmt := inClass (top 8) 0
abbrev iBadText : Stmt := inClass (top 9) 0
abbrev iTooMany : Stmt := inClass (top 10) 0
abbrev iUnknown : Stmt := inClass (top 11) 0
abbrev iBadBook : Stmt := inClass (top 2) 0
abbrev iBadWorker : Stmt := inClass (top 3) 0
abbrev iNoPlace : Stmt := inClass (top 12) 0
abbrev iNoFunctions : Stmt := inClass (top 13) 0
abbrev iIsOver : Stmt := inClass (top 14) 0
abbrev iBadStep : Stmt := inClass (top 15) 0
abbrev iNoName : Stmt := inClass (top 16) 0
abbrev iNoNote : Stmt := inClass (top 17) 0
abbrev iNothingDone : Stmt := inClass (top 18) 0
abbrev iNoWay : Stmt := inClass (top 19) 0
abbrev iNoLot : Stmt := inClass (top 20) 0
abbrev iNoRing : Stmt := inClass (top 21) 0
abbrev iNoNumber : Stmt := inClass (top 22) 0
abbrev iEndless : Stmt := inClass (top 23) 0
abbrev iNoRow : Stmt := inClass (top 24) 0
abbrev iNoMarks : Stmt := inClass (top 25) 0
abbrev iNoRoom : Stmt := inClass (top 26) 0
abbrev iBadRow : Stmt := inClass (top 27) 0
abbrev iNoText : Stmt := inClass (top 28) 0
abbrev iKnotted : Stmt := inClass (top 4) 0
abbrev iNoSteps : Stmt := inClass (top 5) 0
abbrev iNoHead : Stmt := inClass (top 6) 0
abbrev iNoRows : Stmt := inClass (top 7) 0
def dD (x : Str) (st : Stmt) : He.DefD := ⟨(x, none), x, x, defArgs st, defBody st, defScope st, [], []⟩
def dI (x q : Str) (st : Stmt) : He.DefD := ⟨(x, some "__init__"), "__init__", q, defArgs st, defBody st, defScope st, [], []⟩
def fn : List He.DefD := [dD "_law_hand" sHand, dD "_law_draw" sDraw, dD "_law_any" sAny, dD "_law_deep" sDeep, dD "law" sLaw, dI "BadProgram" "BadProgram.__init__" iBadProgram, dI "BadText" "BadText.__init__" iBadText, dI "TooMany" "TooMany.__init__" iTooMany, dI "Unknown" "Unknown.__init__" iUnknown, dI "BadBook" "BadBook.__init__" iBadBook, dI "BadWorker" "BadWorker.__init__" iBadWorker, dI "NoPlace" "NoPlace.__init__" iNoPlace, dI "NoFunctions" "NoFunctions.__init__" iNoFunctions, dI "IsOver" "IsOver.__init__" iIsOver, dI "BadStep" "BadStep.__init__" iBadStep, dI "NoName" "NoName.__init__" iNoName, dI "NoNote" "NoNote.__init__" iNoNote, dI "NothingDone" "NothingDone.__init__" iNothingDone, dI "NoWay" "NoWay.__init__" iNoWay, dI "NoLot" "NoLot.__init__" iNoLot, dI "NoRing" "NoRing.__init__" iNoRing, dI "NoNumber" "NoNumber.__init__" iNoNumber, dI "Endless" "Endless.__init__" iEndless, dI "NoRow" "NoRow.__init__" iNoRow, dI "NoMarks" "NoMarks.__init__" iNoMarks, dI "NoRoom" "NoRoom.__init__" iNoRoom, dI "BadRow" "BadRow.__init__" iBadRow, dI "NoText" "NoText.__init__" iNoText, dI "Knotted" "Knotted.__init__" iKnotted, dI "NoSteps" "NoSteps.__init__" iNoSteps, dI "NoHead" "NoHead.__init__" iNoHead, dI "NoRows" "NoRows.__init__" iNoRows]
def fa : List He.Fa := [.glo "_law_hand", .glo "_law_draw", .glo "_law_any", .glo "_law_deep", .glo "law", .free "abs", .free "int", .free "len", .free "range", .free "any", .free "bool", .free "isinstance", .free "ValueError", .glo "PileError", .glo "BadProgram", .glo "BadText", .glo "TooMany", .glo "Unknown", .glo "BadBook", .glo "BadWorker", .glo "NoPlace", .glo "NoFunctions", .glo "IsOver", .glo "BadStep", .glo "NoName", .glo "NoNote", .glo "NothingDone", .glo "NoWay", .glo "NoLot", .glo "NoRing", .glo "NoNumber", .glo "Endless", .glo "NoRow", .glo "NoMarks", .glo "NoRoom", .glo "BadRow", .glo "NoText", .glo "Knotted", .glo "NoSteps", .glo "NoHead", .glo "NoRows", .noat "BadProgram" "place", .noat "BadText" "line", .noat "TooMany" "most", .noat "Unknown" "name", .noat "BadBook" "part", .noat "BadWorker" "number"]
def names : List Str := ["BadProgram", "BadText", "TooMany", "Unknown", "BadBook", "BadWorker", "NoPlace", "NoFunctions", "IsOver", "BadStep", "NoName", "NoNote", "NothingDone", "NoWay", "NoLot", "NoRing", "NoNumber", "Endless", "NoRow", "NoMarks", "NoRoom", "BadRow", "NoText", "Knotted", "NoSteps", "NoHead", "NoRows"]
def ex (K : PySem.W.Frag) : Bool := (names.all fun x => ecB K "PileError" x) && (decide ((He.ga K "PileError" :: names.map (He.ga K)).Nodup) && ((PySem.W.clsIn K (He.ga K "PileError")).isSome && decide (PySem.W.typeIn K (.ref (He.ga K "PileError")) = some (.type "type"))))
abbrev R : PySem.W.OpenRow := PySem.W.OpenLaw.row PySem.Challenge.rw_putoffpiles_k00_errors_and_their_fields
abbrev hk : PySem.W.Hook := hookB 5 fa fn ex
def ob (s : PySem.W.SharedT) : AlB := obsBG 5 fa fn ex (HandSHeadRun.getT s)
theorem ob_eq (s : PySem.W.SharedT) : ob s = hk.obs s.abs := obsBG_eq (HandSHeadRun.getT_eq s)
def loose : List Str := ["PileError", "BadProgram", "BadText", "TooMany", "Unknown", "BadBook", "BadWorker", "NoPlace", "NoFunctions", "IsOver", "BadStep", "NoName", "NoNote", "NothingDone", "NoWay", "NoLot", "NoRing", "NoNumber", "Endless", "NoRow", "NoMarks", "NoRoom", "BadRow", "NoText", "Knotted", "NoSteps", "NoHead", "NoRows", "_law_hand", "_law_draw", "_law_any", "_law_deep"]
theorem run (w : World) : HandSHeadRun.RunEq R (PySem.W.view R.prog [34]) hk ob 12000 loose w := by
  intro os
  kernel_rfl
end K00
set_option Elab.async false
set_option linter.all false
set_option maxRecDepth 100000
set_option maxHeartbeats 4000000
namespace K00
open PySem PySem.Spec PyProof.Rows L2 ZX
/-! ### the errors' making -/
def spF (C : Addr) (f : Str) : Sp := fun vs H Q _ => ∃ (a : Addr) (v : V), vs = [.ref a, v] ∧ H a = some (exo a C none) ∧ ∀ dx, H dx = none → dx ≠ a → Q .non (upd (upd H dx (exd dx [(f, v)])) a (exo a C (some dx)))
def spP : Sp := fun vs H Q _ => ∃ a : Addr, vs = [.ref a] ∧ Q .non H
/-- a new error without a field -/
theorem rd0 {C : Addr} {H : Hp} {Q : Addr → Hp → Prop} (k : ∀ (a : Addr) (H' : Hp), Same H H' → H' a = some (exo a C none) → Q a H') : ([] : List V).length ≤ 1000 ∧ ∀ a, H a = none → spP [.ref a] (upd H a (exo a C none)) (fun v H2 => v = .non ∧ Q a H2) (fun _ _ _ => False) :=
  ⟨Nat.zero_le _, fun a n => ⟨a, rfl, rfl, k a _ (same_new n) upd_same⟩⟩
/-- a new error with its field -/
theorem rd1 {C : Addr} {f : Str} {v : V} {H : Hp} {Q : Addr → Hp → Prop} (k : ∀ (a d : Addr) (H' : Hp), Same H H' → H' a = some (exo a C (some d)) → H' d = some (exd d [(f, v)]) → Q a H') : [v].length ≤ 1000 ∧ ∀ a, H a = none → spF C f [.ref a, v] (upd H a (exo a C none)) (fun v H2 => v = .non ∧ Q a H2) (fun _ _ _ => False) :=
  ⟨by show 1 ≤ 1000; decide, fun a n => ⟨a, v, rfl, upd_same, fun d nd ne => ⟨rfl, k a d _ (fun b o e => by
    have nb : b ≠ a := ne_of_none e n
    have nd' : H d = none := by
      rw [upd_ne ne] at nd
      exact nd
    rw [upd_ne nb, upd_ne (ne_of_none e nd'), upd_ne nb]
    exact e) upd_same (by rw [upd_ne ne, upd_same])⟩⟩⟩
/-- an error of the class at C -/
def Exc1 (H : Hp) (C : Addr) (v : V) : Prop := ∃ a, v = .ref a ∧ (H a = some (exo a C none) ∨ ∃ d fs, H a = some (exo a C (some d)) ∧ H d = some (exd d fs))
theorem Exc1.same {H H' : Hp} {C : Addr} {v : V} (s : Same H H') (h : Exc1 H C v) : Exc1 H' C v := by
  obtain ⟨a, e, h | ⟨d, fs, h1, h2⟩⟩ := h
  · exact ⟨a, e, .inl (s _ _ h)⟩
  · exact ⟨a, e, .inr ⟨d, fs, s _ _ h1, s _ _ h2⟩⟩
theorem exc0 {H : Hp} {C a : Addr} (h : H a = some (exo a C none)) : Exc1 H C (.ref a) := ⟨a, rfl, .inl h⟩
theorem exc1 {H : Hp} {C a d : Addr} {fs : List (Str × V)} (h1 : H a = some (exo a C (some d))) (h2 : H d = some (exd d fs)) : Exc1 H C (.ref a) := ⟨a, rfl, .inr ⟨d, fs, h1, h2⟩⟩
def Made (H : Hp) : List Addr → List V → Prop
  | [], [] => True
  | C :: Cs, v :: vs => Exc1 H C v ∧ Made H Cs vs
  | _, _ => False
theorem Made.same {H H' : Hp} (s : Same H H') : ∀ {Cs : List Addr} {vs : List V}, Made H Cs vs → Made H' Cs vs
  | [], [], _ => True.intro
  | _ :: _, _ :: _, h => ⟨h.1.same s, Made.same s h.2⟩
  | [], _ :: _, h => h.elim
  | _ :: _, [], h => h.elim
theorem Made.snoc {H H' : Hp} {C : Addr} {v : V} (s : Same H H') (e : Exc1 H' C v) : ∀ {Cs : List Addr} {vs : List V}, Made H Cs vs → Made H' (Cs ++ [C]) (vs ++ [v])
  | [], [], _ => ⟨e, True.intro⟩
  | _ :: _, _ :: _, h => ⟨h.1.same s, Made.snoc s e h.2⟩
  | [], _ :: _, h => h.elim
  | _ :: _, [], h => h.elim
theorem Made.app {H : Hp} : ∀ {Cs Ds : List Addr} {vs us : List V}, Made H Cs vs → Made H Ds us → Made H (Cs ++ Ds) (vs ++ us)
  | [], _, [], _, _, h => h
  | _ :: _, _, _ :: _, _, h, g => ⟨h.1, Made.app h.2 g⟩
  | [], _, _ :: _, _, h, _ => h.elim
  | _ :: _, _, [], _, h, _ => h.elim
theorem Made.len {H : Hp} : ∀ {Cs : List Addr} {vs : List V}, Made H Cs vs → vs.length = Cs.length
  | [], [], _ => rfl
  | _ :: _, _ :: _, h => congrArg Nat.succ (Made.len h.2)
  | [], _ :: _, h => h.elim
  | _ :: _, [], h => h.elim
theorem Made.get {H : Hp} : ∀ {Cs : List Addr} {vs : List V} {i : Nat} {C : Addr}, Made H Cs vs → Cs[i]? = some C → ∃ v, vs[i]? = some v ∧ Exc1 H C v
  | C :: Cs, v :: vs, 0, _, h, e => by
    have e' : C = _ := Option.some.inj e
    subst e'
    exact ⟨v, rfl, h.1⟩
  | _ :: Cs, _ :: vs, i + 1, C, h, e => Made.get (Cs := Cs) (vs := vs) (i := i) h.2 e
  | [], _, _, _, _, e => by simp at e
  | _ :: _, [], _, _, h, _ => h.elim
/-! ### what stands behind the top -/
structure Ctx (P : Program) (w : World) (K : PySem.W.Frag) (mg : Str → Option Value) (base : Heap) : Prop where
  bi : Bi mg
  g_BadProgram : mg "BadProgram" = some (.ref (He.ga K "BadProgram"))
  g_BadText : mg "BadText" = some (.ref (He.ga K "BadText"))
  g_TooMany : mg "TooMany" = some (.ref (He.ga K "TooMany"))
  g_Unknown : mg "Unknown" = some (.ref (He.ga K "Unknown"))
  g_BadBook : mg "BadBook" = some (.ref (He.ga K "BadBook"))
  g_BadWorker : mg "BadWorker" = some (.ref (He.ga K "BadWorker"))
  g_NoPlace : mg "NoPlace" = some (.ref (He.ga K "NoPlace"))
  g_NoFunctions : mg "NoFunctions" = some (.ref (He.ga K "NoFunctions"))
  g_IsOver : mg "IsOver" = some (.ref (He.ga K "IsOver"))
  g_BadStep : mg "BadStep" = some (.ref (He.ga K "BadStep"))
  g_NoName : mg "NoName" = some (.ref (He.ga K "NoName"))
  g_NoNote : mg "NoNote" = some (.ref (He.ga K "NoNote"))
  g_NothingDone : mg "NothingDone" = some (.ref (He.ga K "NothingDone"))
  g_NoWay : mg "NoWay" = some (.ref (He.ga K "NoWay"))
  g_NoLot : mg "NoLot" = some (.ref (He.ga K "NoLot"))
  g_NoRing : mg "NoRing" = some (.ref (He.ga K "NoRing"))
  g_NoNumber : mg "NoNumber" = some (.ref (He.ga K "NoNumber"))
  g_Endless : mg "Endless" = some (.ref (He.ga K "Endless"))
  g_NoRow : mg "NoRow" = some (.ref (He.ga K "NoRow"))
  g_NoMarks : mg "NoMarks" = some (.ref (He.ga K "NoMarks"))
  g_NoRoom : mg "NoRoom" = some (.ref (He.ga K "NoRoom"))
  g_BadRow : mg "BadRow" = some (.ref (He.ga K "BadRow"))
  g_NoText : mg "NoText" = some (.ref (He.ga K "NoText"))
  g_Knotted : mg "Knotted" = some (.ref (He.ga K "Knotted"))
  g_NoSteps : mg "NoSteps" = some (.ref (He.ga K "NoSteps"))
  g_NoHead : mg "NoHead" = some (.ref (He.ga K "NoHead"))
  g_NoRows : mg "NoRows" = some (.ref (He.ga K "NoRows"))
  g_PileError : mg "PileError" = some (.ref (He.ga K "PileError"))
  e_BadProgram : EcC K "PileError" "BadProgram"
  e_BadText : EcC K "PileError" "BadText"
  e_TooMany : EcC K "PileError" "TooMany"
  e_Unknown : EcC K "PileError" "Unknown"
  e_BadBook : EcC K "PileError" "BadBook"
  e_BadWorker : EcC K "PileError" "BadWorker"
  e_NoPlace : EcC K "PileError" "NoPlace"
  e_NoFunctions : EcC K "PileError" "NoFunctions"
  e_IsOver : EcC K "PileError" "IsOver"
  e_BadStep : EcC K "PileError" "BadStep"
  e_NoName : EcC K "PileError" "NoName"
  e_NoNote : EcC K "PileError" "NoNote"
  e_NothingDone : EcC K "PileError" "NothingDone"
  e_NoWay : EcC K "PileError" "NoWay"
  e_NoLot : EcC K "PileError" "NoLot"
  e_NoRing : EcC K "PileError" "NoRing"
  e_NoNumber : EcC K "PileError" "NoNumber"
  e_Endless : EcC K "PileError" "Endless"
  e_NoRow : EcC K "PileError" "NoRow"
  e_NoMarks : EcC K "PileError" "NoMarks"
  e_NoRoom : EcC K "PileError" "NoRoom"
  e_BadRow : EcC K "PileError" "BadRow"
  e_NoText : EcC K "PileError" "NoText"
  e_Knotted : EcC K "PileError" "Knotted"
  e_NoSteps : EcC K "PileError" "NoSteps"
  e_NoHead : EcC K "PileError" "NoHead"
  e_NoRows : EcC K "PileError" "NoRows"
  i_BadProgram : ∃ fd, FnOk P w K mg base CX0 1 (He.ma K (He.ga K "BadProgram") "__init__") fd ["self", "place"] (spF (He.ga K "BadProgram") "place") ∧ Binds K fd ["self", "place"] []
  i_BadText : ∃ fd, FnOk P w K mg base CX0 1 (He.ma K (He.ga K "BadText") "__init__") fd ["self", "line"] (spF (He.ga K "BadText") "line") ∧ Binds K fd ["self", "line"] []
  i_TooMany : ∃ fd, FnOk P w K mg base CX0 1 (He.ma K (He.ga K "TooMany") "__init__") fd ["self", "most"] (spF (He.ga K "TooMany") "most") ∧ Binds K fd ["self", "most"] []
  i_Unknown : ∃ fd, FnOk P w K mg base CX0 1 (He.ma K (He.ga K "Unknown") "__init__") fd ["self", "name"] (spF (He.ga K "Unknown") "name") ∧ Binds K fd ["self", "name"] []
  i_BadBook : ∃ fd, FnOk P w K mg base CX0 1 (He.ma K (He.ga K "BadBook") "__init__") fd ["self", "part"] (spF (He.ga K "BadBook") "part") ∧ Binds K fd ["self", "part"] []
  i_BadWorker : ∃ fd, FnOk P w K mg base CX0 1 (He.ma K (He.ga K "BadWorker") "__init__") fd ["self", "number"] (spF (He.ga K "BadWorker") "number") ∧ Binds K fd ["self", "number"] []
  i_NoPlace : ∃ fd, FnOk P w K mg base CX0 1 (He.ma K (He.ga K "NoPlace") "__init__") fd ["self"] spP ∧ Binds K fd ["self"] []
  i_NoFunctions : ∃ fd, FnOk P w K mg base CX0 1 (He.ma K (He.ga K "NoFunctions") "__init__") fd ["self"] spP ∧ Binds K fd ["self"] []
  i_IsOver : ∃ fd, FnOk P w K mg base CX0 1 (He.ma K (He.ga K "IsOver") "__init__") fd ["self"] spP ∧ Binds K fd ["self"] []
  i_BadStep : ∃ fd, FnOk P w K mg base CX0 1 (He.ma K (He.ga K "BadStep") "__init__") fd ["self"] spP ∧ Binds K fd ["self"] []
  i_NoName : ∃ fd, FnOk P w K mg base CX0 1 (He.ma K (He.ga K "NoName") "__init__") fd ["self"] spP ∧ Binds K fd ["self"] []
  i_NoNote : ∃ fd, FnOk P w K mg base CX0 1 (He.ma K (He.ga K "NoNote") "__init__") fd ["self"] spP ∧ Binds K fd ["self"] []
  i_NothingDone : ∃ fd, FnOk P w K mg base CX0 1 (He.ma K (He.ga K "NothingDone") "__init__") fd ["self"] spP ∧ Binds K fd ["self"] []
  i_NoWay : ∃ fd, FnOk P w K mg base CX0 1 (He.ma K (He.ga K "NoWay") "__init__") fd ["self"] spP ∧ Binds K fd ["self"] []
  i_NoLot : ∃ fd, FnOk P w K mg base CX0 1 (He.ma K (He.ga K "NoLot") "__init__") fd ["self"] spP ∧ Binds K fd ["self"] []
  i_NoRing : ∃ fd, FnOk P w K mg base CX0 1 (He.ma K (He.ga K "NoRing") "__init__") fd ["self"] spP ∧ Binds K fd ["self"] []
  i_NoNumber : ∃ fd, FnOk P w K mg base CX0 1 (He.ma K (He.ga K "NoNumber") "__init__") fd ["self"] spP ∧ Binds K fd ["self"] []
  i_Endless : ∃ fd, FnOk P w K mg base CX0 1 (He.ma K (He.ga K "Endless") "__init__") fd ["self"] spP ∧ Binds K fd ["self"] []
  i_NoRow : ∃ fd, FnOk P w K mg base CX0 1 (He.ma K (He.ga K "NoRow") "__init__") fd ["self"] spP ∧ Binds K fd ["self"] []
  i_NoMarks : ∃ fd, FnOk P w K mg base CX0 1 (He.ma K (He.ga K "NoMarks") "__init__") fd ["self"] spP ∧ Binds K fd ["self"] []
  i_NoRoom : ∃ fd, FnOk P w K mg base CX0 1 (He.ma K (He.ga K "NoRoom") "__init__") fd ["self"] spP ∧ Binds K fd ["self"] []
  i_BadRow : ∃ fd, FnOk P w K mg base CX0 1 (He.ma K (He.ga K "BadRow") "__init__") fd ["self"] spP ∧ Binds K fd ["self"] []
  i_NoText : ∃ fd, FnOk P w K mg base CX0 1 (He.ma K (He.ga K "NoText") "__init__") fd ["self"] spP ∧ Binds K fd ["self"] []
  i_Knotted : ∃ fd, FnOk P w K mg base CX0 1 (He.ma K (He.ga K "Knotted") "__init__") fd ["self"] spP ∧ Binds K fd ["self"] []
  i_NoSteps : ∃ fd, FnOk P w K mg base CX0 1 (He.ma K (He.ga K "NoSteps") "__init__") fd ["self"] spP ∧ Binds K fd ["self"] []
  i_NoHead : ∃ fd, FnOk P w K mg base CX0 1 (He.ma K (He.ga K "NoHead") "__init__") fd ["self"] spP ∧ Binds K fd ["self"] []
  i_NoRows : ∃ fd, FnOk P w K mg base CX0 1 (He.ma K (He.ga K "NoRows") "__init__") fd ["self"] spP ∧ Binds K fd ["self"] []
  n_BadProgram : PySem.W.findIn K (.ref (He.ga K "BadProgram")) "place" = some none
  n_BadText : PySem.W.findIn K (.ref (He.ga K "BadText")) "line" = some none
  n_TooMany : PySem.W.findIn K (.ref (He.ga K "TooMany")) "most" = some none
  n_Unknown : PySem.W.findIn K (.ref (He.ga K "Unknown")) "name" = some none
  n_BadBook : PySem.W.findIn K (.ref (He.ga K "BadBook")) "part" = some none
  n_BadWorker : PySem.W.findIn K (.ref (He.ga K "BadWorker")) "number" = some none
  nd : (He.ga K "PileError" :: names.map (He.ga K)).Nodup
  pc : (PySem.W.clsIn K (He.ga K "PileError")).isSome = true
  pt : PySem.W.typeIn K (.ref (He.ga K "PileError")) = some (.type "type")
  hand : Cal P w K mg base "_law_hand" 1 ["_law_script"] (spHand K)
  draw : Cal P w K mg base "_law_draw" 1 ["_law_hand_here", "_law_many"] spDraw
  any_ : Cal P w K mg base "_law_any" 2 ["_law_hand_here", "_law_things"] (spAny K)
  deep : Cal P w K mg base "_law_deep" 2 ["_law_hand_here"] spDeep
section
variable {P : Program} {w : World} {K : PySem.W.Frag} {mg : Str → Option Value} {base : Heap}
theorem scBadProgram : FnScope ["self", "place"] ["self", "place"] (defScope iBadProgram) := ⟨rfl, rfl, rfl, by decide +kernel, rfl, by decide +kernel, by decide +kernel⟩
theorem ok_BadProgram {f : Addr} {fd : FuncData} (F : FunD K "__init__" "BadProgram.__init__" (defArgs iBadProgram) (defBody iBadProgram) (defScope iBadProgram) [] [] f fd) (E : EcC K "PileError" "BadProgram") (no : PySem.W.findIn K (.ref (He.ga K "BadProgram")) "place" = some none) : FnOk P w K mg base CX0 1 f fd ["self", "place"] (spF (He.ga K "BadProgram") "place") := by
  refine F.ok scBadProgram (fun vs H Q E h => ?_) (fun cdv A outer s H vs Q E' hr h => ?_)
  · obtain ⟨a, v, rfl, _⟩ := h
    rfl
  · obtain ⟨a, v, rfl, ha, k⟩ := h
    refine ⟨_, PSs.nox (pss_one (ps_ost (pv 0) (pv 1))), ?_⟩
    exact ⟨_, rfl, _, rfl, a, _, rfl, E.oex, no, .inl ⟨ha, fun dx n ne => k dx n ne⟩⟩
theorem scBadText : FnScope ["self", "line"] ["self", "line"] (defScope iBadText) := ⟨rfl, rfl, rfl, by decide +kernel, rfl, by decide +kernel, by decide +kernel⟩
theorem ok_BadText {f : Addr} {fd : FuncData} (F : FunD K "__init__" "BadText.__init__" (defArgs iBadText) (defBody iBadText) (defScope iBadText) [] [] f fd) (E : EcC K "PileError" "BadText") (no : PySem.W.findIn K (.ref (He.ga K "BadText")) "line" = some none) : FnOk P w K mg base CX0 1 f fd ["self", "line"] (spF (He.ga K "BadText") "line") := by
  refine F.ok scBadText (fun vs H Q E h => ?_) (fun cdv A outer s H vs Q E' hr h => ?_)
  · obtain ⟨a, v, rfl, _⟩ := h
    rfl
  · obtain ⟨a, v, rfl, ha, k⟩ := h
    refine ⟨_, PSs.nox (pss_one (ps_ost (pv 0) (pv 1))), ?_⟩
    exact ⟨_, rfl, _, rfl, a, _, rfl, E.oex, no, .inl ⟨ha, fun dx n ne => k dx n ne⟩⟩
theorem scTooMany : FnScope ["self", "most"] ["self", "most"] (defScope iTooMany) := ⟨rfl, rfl, rfl, by decide +kernel, rfl, by decide +kernel, by decide +kernel⟩
theorem ok_TooMany {f : Addr} {fd : FuncData} (F : FunD K "__init__" "TooMany.__init__" (defArgs iTooMany) (defBody iTooMany) (defScope iTooMany) [] [] f fd) (E : EcC K "PileError" "TooMany") (no : PySem.W.findIn K (.ref (He.ga K "TooMany")) "most" = some none) : FnOk P w K mg base CX0 1 f fd ["self", "most"] (spF (He.ga K "TooMany") "most") := by
  refine F.ok scTooMany (fun vs H Q E h => ?_) (fun cdv A outer s H vs Q E' hr h => ?_)
  · obtain ⟨a, v, rfl, _⟩ := h
    rfl
  · obtain ⟨a, v, rfl, ha, k⟩ := h
    refine ⟨_, PSs.nox (pss_one (ps_ost (pv 0) (pv 1))), ?_⟩
    exact ⟨_, rfl, _, rfl, a, _, rfl, E.oex, no, .inl ⟨ha, fun dx n ne => k dx n ne⟩⟩
theorem scUnknown : FnScope ["self", "name"] ["self", "name"] (defScope iUnknown) := ⟨rfl, rfl, rfl, by decide +kernel, rfl, by decide +kernel, by decide +kernel⟩
theorem ok_Unknown {f : Addr} {fd : FuncData} (F : FunD K "__init__" "Unknown.__init__" (defArgs iUnknown) (defBody iUnknown) (defScope iUnknown) [] [] f fd) (E : EcC K "PileError" "Unknown") (no : PySem.W.findIn K (.ref (He.ga K "Unknown")) "name" = some none) : FnOk P w K mg base CX0 1 f fd ["self", "name"] (spF (He.ga K "Unknown") "name") := by
  refine F.ok scUnknown (fun vs H Q E h => ?_) (fun cdv A outer s H vs Q E' hr h => ?_)
  · obtain ⟨a, v, rfl, _⟩ := h
    rfl
  · obtain ⟨a, v, rfl, ha, k⟩ := h
    refine ⟨_, PSs.nox (pss_one (ps_ost (pv 0) (pv 1))), ?_⟩
    exact ⟨_, rfl, _, rfl, a, _, rfl, E.oex, no, .inl ⟨ha, fun dx n ne => k dx n ne⟩⟩
theorem scBadBook : FnScope ["self", "part"] ["self", "part"] (defScope iBadBook) := ⟨rfl, rfl, rfl, by decide +kernel, rfl, by decide +kernel, by decide +kernel⟩
theorem ok_BadBook {f : Addr} {fd : FuncData} (F : FunD K "__init__" "BadBook.__init__" (defArgs iBadBook) (defBody iBadBook) (defScope iBadBook) [] [] f fd) (E : EcC K "PileError" "BadBook") (no : PySem.W.findIn K (.ref (He.ga K "BadBook")) "part" = some none) : FnOk P w K mg base CX0 1 f fd ["self", "part"] (spF (He.ga K "BadBook") "part") := by
  refine F.ok scBadBook (fun vs H Q E h => ?_) (fun cdv A outer s H vs Q E' hr h => ?_)
  · obtain ⟨a, v, rfl, _⟩ := h
    rfl
  · obtain ⟨a, v, rfl, ha, k⟩ := h
    refine ⟨_, PSs.nox (pss_one (ps_ost (pv 0) (pv 1))), ?_⟩
    exact ⟨_, rfl, _, rfl, a, _, rfl, E.oex, no, .inl ⟨ha, fun dx n ne => k dx n ne⟩⟩
theorem scBadWorker : FnScope ["self", "number"] ["self", "number"] (defScope iBadWorker) := ⟨rfl, rfl, rfl, by decide +kernel, rfl, by decide +kernel, by decide +kernel⟩
theorem ok_BadWorker {f : Addr} {fd : FuncData} (F : FunD K "__init__" "BadWorker.__init__" (defArgs iBadWorker) (defBody iBadWorker) (defScope iBadWorker) [] [] f fd) (E : EcC K "PileError" "BadWorker") (no : PySem.W.findIn K (.ref (He.ga K "BadWorker")) "number" = some none) : FnOk P w K mg base CX0 1 f fd ["self", "number"] (spF (He.ga K "BadWorker") "number") := by
  refine F.ok scBadWorker (fun vs H Q E h => ?_) (fun cdv A outer s H vs Q E' hr h => ?_)
  · obtain ⟨a, v, rfl, _⟩ := h
    rfl
  · obtain ⟨a, v, rfl, ha, k⟩ := h
    refine ⟨_, PSs.nox (pss_one (ps_ost (pv 0) (pv 1))), ?_⟩
    exact ⟨_, rfl, _, rfl, a, _, rfl, E.oex, no, .inl ⟨ha, fun dx n ne => k dx n ne⟩⟩
theorem scNoPlace : FnScope ["self"] ["self"] (defScope iNoPlace) := ⟨rfl, rfl, rfl, by decide +kernel, rfl, by decide +kernel, by decide +kernel⟩
theorem ok_NoPlace {f : Addr} {fd : FuncData} (F : FunD K "__init__" "NoPlace.__init__" (defArgs iNoPlace) (defBody iNoPlace) (defScope iNoPlace) [] [] f fd) : FnOk P w K mg base CX0 1 f fd ["self"] spP := by
  refine F.ok scNoPlace (fun vs H Q E h => ?_) (fun cdv A outer s H vs Q E' hr h => ?_)
  · obtain ⟨a, rfl, _⟩ := h
    rfl
  · obtain ⟨a, rfl, k⟩ := h
    exact ⟨_, PSs.nox (pss_one ps_pass), k⟩
theorem scNoFunctions : FnScope ["self"] ["self"] (defScope iNoFunctions) := ⟨rfl, rfl, rfl, by decide +kernel, rfl, by decide +kernel, by decide +kernel⟩
theorem ok_NoFunctions {f : Addr} {fd : FuncData} (F : FunD K "__init__" "NoFunctions.__init__" (defArgs iNoFunctions) (defBody iNoFunctions) (defScope iNoFunctions) [] [] f fd) : FnOk P w K mg base CX0 1 f fd ["self"] spP := by
  refine F.ok scNoFunctions (fun vs H Q E h => ?_) (fun cdv A outer s H vs Q E' hr h => ?_)
  · obtain ⟨a, rfl, _⟩ := h
    rfl
  · obtain ⟨a, rfl, k⟩ := h
    exact ⟨_, PSs.nox (pss_one ps_pass), k⟩
theorem scIsOver : FnScope ["self"] ["self"] (defScope iIsOver) := ⟨rfl, rfl, rfl, by decide +kernel, rfl, by decide +kernel, by decide +kernel⟩
theorem ok_IsOver {f : Addr} {fd : FuncData} (F : FunD K "__init__" "IsOver.__init__" (defArgs iIsOver) (defBody iIsOver) (defScope iIsOver) [] [] f fd) : FnOk P w K mg base CX0 1 f fd ["self"] spP := by
  refine F.ok scIsOver (fun vs H Q E h => ?_) (fun cdv A outer s H vs Q E' hr h => ?_)
  · obtain ⟨a, rfl, _⟩ := h
    rfl
  · obtain ⟨a, rfl, k⟩ := h
    exact ⟨_, PSs.nox (pss_one ps_pass), k⟩
theorem scBadStep : FnScope ["self"] ["self"] (defScope iBadStep) := ⟨rfl, rfl, rfl, by decide +kernel, rfl, by decide +kernel, by decide +kernel⟩
theorem ok_BadStep {f : Addr} {fd : FuncData} (F : FunD K "__init__" "BadStep.__init__" (defArgs iBadStep) (defBody iBadStep) (defScope iBadStep) [] [] f fd) : FnOk P w K mg base CX0 1 f fd ["self"] spP := by
  refine F.ok scBadStep (fun vs H Q E h => ?_) (fun cdv A outer s H vs Q E' hr h => ?_)
  · obtain ⟨a, rfl, _⟩ := h
    rfl
  · obtain ⟨a, rfl, k⟩ := h
    exact ⟨_, PSs.nox (pss_one ps_pass), k⟩
theorem scNoName : FnScope ["self"] ["self"] (defScope iNoName) := ⟨rfl, rfl, rfl, by decide +kernel, rfl, by decide +kernel, by decide +kernel⟩
theorem ok_NoName {f : Addr} {fd : FuncData} (F : FunD K "__init__" "NoName.__init__" (defArgs iNoName) (defBody iNoName) (defScope iNoName) [] [] f fd) : FnOk P w K mg base CX0 1 f fd ["self"] spP := by
  refine F.ok scNoName (fun vs H Q E h => ?_) (fun cdv A outer s H vs Q E' hr h => ?_)
  · obtain ⟨a, rfl, _⟩ := h
    rfl
  · obtain ⟨a, rfl, k⟩ := h
    exact ⟨_, PSs.nox (pss_one ps_pass), k⟩
theorem scNoNote : FnScope ["self"] ["self"] (defScope iNoNote) := ⟨rfl, rfl, rfl, by decide +kernel, rfl, by decide +kernel, by decide +kernel⟩
theorem ok_NoNote {f : Addr} {fd : FuncData} (F : FunD K "__init__" "NoNote.__init__" (defArgs iNoNote) (defBody iNoNote) (defScope iNoNote) [] [] f fd) : FnOk P w K mg base CX0 1 f fd ["self"] spP := by
  refine F.ok scNoNote (fun vs H Q E h => ?_) (fun cdv A outer s H vs Q E' hr h => ?_)
  · obtain ⟨a, rfl, _⟩ := h
    rfl
  · obtain ⟨a, rfl, k⟩ := h
    exact ⟨_, PSs.nox (pss_one ps_pass), k⟩
theorem scNothingDone : FnScope ["self"] ["self"] (defScope iNothingDone) := ⟨rfl, rfl, rfl, by decide +kernel, rfl, by decide +kernel, by decide +kernel⟩
theorem ok_NothingDone {f : Addr} {fd : FuncData} (F : FunD K "__init__" "NothingDone.__init__" (defArgs iNothingDone) (defBody iNothingDone) (defScope iNothingDone) [] [] f fd) : FnOk P w K mg base CX0 1 f fd ["self"] spP := by
  refine F.ok scNothingDone (fun vs H Q E h => ?_) (fun cdv A outer s H vs Q E' hr h => ?_)
  · obtain ⟨a, rfl, _⟩ := h
    rfl
  · obtain ⟨a, rfl, k⟩ := h
    exact ⟨_, PSs.nox (pss_one ps_pass), k⟩
theorem scNoWay : FnScope ["self"] ["self"] (defScope iNoWay) := ⟨rfl, rfl, rfl, by decide +kernel, rfl, by decide +kernel, by decide +kernel⟩
theorem ok_NoWay {f : Addr} {fd : FuncData} (F : FunD K "__init__" "NoWay.__init__" (defArgs iNoWay) (defBody iNoWay) (defScope iNoWay) [] [] f fd) : FnOk P w K mg base CX0 1 f fd ["self"] spP := by
  refine F.ok scNoWay (fun vs H Q E h => ?_) (fun cdv A outer s H vs Q E' hr h => ?_)
  · obtain ⟨a, rfl, _⟩ := h
    rfl
  · obtain ⟨a, rfl, k⟩ := h
    exact ⟨_, PSs.nox (pss_one ps_pass), k⟩
theorem scNoLot : FnScope ["self"] ["self"] (defScope iNoLot) := ⟨rfl, rfl, rfl, by decide +kernel, rfl, by decide +kernel, by decide +kernel⟩
theorem ok_NoLot {f : Addr} {fd : FuncData} (F : FunD K "__init__" "NoLot.__init__" (defArgs iNoLot) (defBody iNoLot) (defScope iNoLot) [] [] f fd) : FnOk P w K mg base CX0 1 f fd ["self"] spP := by
  refine F.ok scNoLot (fun vs H Q E h => ?_) (fun cdv A outer s H vs Q E' hr h => ?_)
  · obtain ⟨a, rfl, _⟩ := h
    rfl
  · obtain ⟨a, rfl, k⟩ := h
    exact ⟨_, PSs.nox (pss_one ps_pass), k⟩
theorem scNoRing : FnScope ["self"] ["self"] (defScope iNoRing) := ⟨rfl, rfl, rfl, by decide +kernel, rfl, by decide +kernel, by decide +kernel⟩
theorem ok_NoRing {f : Addr} {fd : FuncData} (F : FunD K "__init__" "NoRing.__init__" (defArgs iNoRing) (defBody iNoRing) (defScope iNoRing) [] [] f fd) : FnOk P w K mg base CX0 1 f fd ["self"] spP := by
  refine F.ok scNoRing (fun vs H Q E h => ?_) (fun cdv A outer s H vs Q E' hr h => ?_)
  · obtain ⟨a, rfl, _⟩ := h
    rfl
  · obtain ⟨a, rfl, k⟩ := h
    exact ⟨_, PSs.nox (pss_one ps_pass), k⟩
theorem scNoNumber : FnScope ["self"] ["self"] (defScope iNoNumber) := ⟨rfl, rfl, rfl, by decide +kernel, rfl, by decide +kernel, by decide +kernel⟩
theorem ok_NoNumber {f : Addr} {fd : FuncData} (F : FunD K "__init__" "NoNumber.__init__" (defArgs iNoNumber) (defBody iNoNumber) (defScope iNoNumber) [] [] f fd) : FnOk P w K mg base CX0 1 f fd ["self"] spP := by
  refine F.ok scNoNumber (fun vs H Q E h => ?_) (fun cdv A outer s H vs Q E' hr h => ?_)
  · obtain ⟨a, rfl, _⟩ := h
    rfl
  · obtain ⟨a, rfl, k⟩ := h
    exact ⟨_, PSs.nox (pss_one ps_pass), k⟩
theorem scEndless : FnScope ["self"] ["self"] (defScope iEndless) := ⟨rfl, rfl, rfl, by decide +kernel, rfl, by decide +kernel, by decide +kernel⟩
theorem ok_Endless {f : Addr} {fd : FuncData} (F : FunD K "__init__" "Endless.__init__" (defArgs iEndless) (defBody iEndless) (defScope iEndless) [] [] f fd) : FnOk P w K mg base CX0 1 f fd ["self"] spP := by
  refine F.ok scEndless (fun vs H Q E h => ?_) (fun cdv A outer s H vs Q E' hr h => ?_)
  · obtain ⟨a, rfl, _⟩ := h
    rfl
  · obtain ⟨a, rfl, k⟩ := h
    exact ⟨_, PSs.nox (pss_one ps_pass), k⟩
theorem scNoRow : FnScope ["self"] ["self"] (defScope iNoRow) := ⟨rfl, rfl, rfl, by decide +kernel, rfl, by decide +kernel, by decide +kernel⟩
theorem ok_NoRow {f : Addr} {fd : FuncData} (F : FunD K "__init__" "NoRow.__init__" (defArgs iNoRow) (defBody iNoRow) (defScope iNoRow) [] [] f fd) : FnOk P w K mg base CX0 1 f fd ["self"] spP := by
  refine F.ok scNoRow (fun vs H Q E h => ?_) (fun cdv A outer s H vs Q E' hr h => ?_)
  · obtain ⟨a, rfl, _⟩ := h
    rfl
  · obtain ⟨a, rfl, k⟩ := h
    exact ⟨_, PSs.nox (pss_one ps_pass), k⟩
theorem scNoMarks : FnScope ["self"] ["self"] (defScope iNoMarks) := ⟨rfl, rfl, rfl, by decide +kernel, rfl, by decide +kernel, by decide +kernel⟩
theorem ok_NoMarks {f : Addr} {fd : FuncData} (F : FunD K "__init__" "NoMarks.__init__" (defArgs iNoMarks) (defBody iNoMarks) (defScope iNoMarks) [] [] f fd) : FnOk P w K mg base CX0 1 f fd ["self"] spP := by
  refine F.ok scNoMarks (fun vs H Q E h => ?_) (fun cdv A outer s H vs Q E' hr h => ?_)
  · obtain ⟨a, rfl, _⟩ := h
    rfl
  · obtain ⟨a, rfl, k⟩ := h
    exact ⟨_, PSs.nox (pss_one ps_pass), k⟩
theorem scNoRoom : FnScope ["self"] ["self"] (defScope iNoRoom) := ⟨rfl, rfl, rfl, by decide +kernel, rfl, by decide +kernel, by decide +kernel⟩
theorem ok_NoRoom {f : Addr} {fd : FuncData} (F : FunD K "__init__" "NoRoom.__init__" (defArgs iNoRoom) (defBody iNoRoom) (defScope iNoRoom) [] [] f fd) : FnOk P w K mg base CX0 1 f fd ["self"] spP := by
  refine F.ok scNoRoom (fun vs H Q E h => ?_) (fun cdv A outer s H vs Q E' hr h => ?_)
  · obtain ⟨a, rfl, _⟩ := h
    rfl
  · obtain ⟨a, rfl, k⟩ := h
    exact ⟨_, PSs.nox (pss_one ps_pass), k⟩
theorem scBadRow : FnScope ["self"] ["self"] (defScope iBadRow) := ⟨rfl, rfl, rfl, by decide +kernel, rfl, by decide +kernel, by decide +kernel⟩
theorem ok_BadRow {f : Addr} {fd : FuncData} (F : FunD K "__init__" "BadRow.__init__" (defArgs iBadRow) (defBody iBadRow) (defScope iBadRow) [] [] f fd) : FnOk P w K mg base CX0 1 f fd ["self"] spP := by
  refine F.ok scBadRow (fun vs H Q E h => ?_) (fun cdv A outer s H vs Q E' hr h => ?_)
  · obtain ⟨a, rfl, _⟩ := h
    rfl
  · obtain ⟨a, rfl, k⟩ := h
    exact ⟨_, PSs.nox (pss_one ps_pass), k⟩
theorem scNoText : FnScope ["self"] ["self"] (defScope iNoText) := ⟨rfl, rfl, rfl, by decide +kernel, rfl, by decide +kernel, by decide +kernel⟩
theorem ok_NoText {f : Addr} {fd : FuncData} (F : FunD K "__init__" "NoText.__init__" (defArgs iNoText) (defBody iNoText) (defScope iNoText) [] [] f fd) : FnOk P w K mg base CX0 1 f fd ["self"] spP := by
  refine F.ok scNoText (fun vs H Q E h => ?_) (fun cdv A outer s H vs Q E' hr h => ?_)
  · obtain ⟨a, rfl, _⟩ := h
    rfl
  · obtain ⟨a, rfl, k⟩ := h
    exact ⟨_, PSs.nox (pss_one ps_pass), k⟩
theorem scKnotted : FnScope ["self"] ["self"] (defScope iKnotted) := ⟨rfl, rfl, rfl, by decide +kernel, rfl, by decide +kernel, by decide +kernel⟩
theorem ok_Knotted {f : Addr} {fd : FuncData} (F : FunD K "__init__" "Knotted.__init__" (defArgs iKnotted) (defBody iKnotted) (defScope iKnotted) [] [] f fd) : FnOk P w K mg base CX0 1 f fd ["self"] spP := by
  refine F.ok scKnotted (fun vs H Q E h => ?_) (fun cdv A outer s H vs Q E' hr h => ?_)
  · obtain ⟨a, rfl, _⟩ := h
    rfl
  · obtain ⟨a, rfl, k⟩ := h
    exact ⟨_, PSs.nox (pss_one ps_pass), k⟩
theorem scNoSteps : FnScope ["self"] ["self"] (defScope iNoSteps) := ⟨rfl, rfl, rfl, by decide +kernel, rfl, by decide +kernel, by decide +kernel⟩
theorem ok_NoSteps {f : Addr} {fd : FuncData} (F : FunD K "__init__" "NoSteps.__init__" (defArgs iNoSteps) (defBody iNoSteps) (defScope iNoSteps) [] [] f fd) : FnOk P w K mg base CX0 1 f fd ["self"] spP := by
  refine F.ok scNoSteps (fun vs H Q E h => ?_) (fun cdv A outer s H vs Q E' hr h => ?_)
  · obtain ⟨a, rfl, _⟩ := h
    rfl
  · obtain ⟨a, rfl, k⟩ := h
    exact ⟨_, PSs.nox (pss_one ps_pass), k⟩
theorem scNoHead : FnScope ["self"] ["self"] (defScope iNoHead) := ⟨rfl, rfl, rfl, by decide +kernel, rfl, by decide +kernel, by decide +kernel⟩
theorem ok_NoHead {f : Addr} {fd : FuncData} (F : FunD K "__init__" "NoHead.__init__" (defArgs iNoHead) (defBody iNoHead) (defScope iNoHead) [] [] f fd) : FnOk P w K mg base CX0 1 f fd ["self"] spP := by
  refine F.ok scNoHead (fun vs H Q E h => ?_) (fun cdv A outer s H vs Q E' hr h => ?_)
  · obtain ⟨a, rfl, _⟩ := h
    rfl
  · obtain ⟨a, rfl, k⟩ := h
    exact ⟨_, PSs.nox (pss_one ps_pass), k⟩
theorem scNoRows : FnScope ["self"] ["self"] (defScope iNoRows) := ⟨rfl, rfl, rfl, by decide +kernel, rfl, by decide +kernel, by decide +kernel⟩
theorem ok_NoRows {f : Addr} {fd : FuncData} (F : FunD K "__init__" "NoRows.__init__" (defArgs iNoRows) (defBody iNoRows) (defScope iNoRows) [] [] f fd) : FnOk P w K mg base CX0 1 f fd ["self"] spP := by
  refine F.ok scNoRows (fun vs H Q E h => ?_) (fun cdv A outer s H vs Q E' hr h => ?_)
  · obtain ⟨a, rfl, _⟩ := h
    rfl
  · obtain ⟨a, rfl, k⟩ := h
    exact ⟨_, PSs.nox (pss_one ps_pass), k⟩
end
end K00
set_option Elab.async false
set_option linter.all false
set_option maxRecDepth 100000
set_option maxHeartbeats 8000000
namespace ZX
open PySem PySem.Spec PyProof.Rows L2
section
variable {X : Cx} {e : Expr} {es : List Expr} {ta : TA} {base x : Str} {p pos : Pos} {ps : List Str} {sp : Sp}
theorem mk1 (E : EcC X.K base x) (i : ∃ fd, FnOk X.prog X.w X.K X.mg X.base CX0 1 (He.ma X.K (He.ga X.K x) "__init__") fd ps sp ∧ Binds X.K fd ps []) (hm : X.mg x = some (.ref (He.ga X.K x))) (hr : Room 2 X.A) (hg : Gl X x) (ha : PA X (e :: es) ta)
    (hdb : (x == ("__debug__" : Str)) = false := by decide) (he : starEach (e :: es) X.env = (false, eval e X.env) :: starEach es X.env := by rfl) (hpl : (backTo pos (starEach es X.env)).any (·.1) = false := by rfl) :
    PE X (.Call (.Name x p) (e :: es) [] pos) (tMkV (He.ga X.K x) sp ta) := by
  obtain ⟨fd, G, b⟩ := i
  exact pe_oex E.oex E.iC E.tI G hr b hg hm ha hdb he hpl
theorem mk0 (E : EcC X.K base x) (i : ∃ fd, FnOk X.prog X.w X.K X.mg X.base CX0 1 (He.ma X.K (He.ga X.K x) "__init__") fd ps sp ∧ Binds X.K fd ps []) (hm : X.mg x = some (.ref (He.ga X.K x))) (hr : Room 2 X.A) (hg : Gl X x)
    (hdb : (x == ("__debug__" : Str)) = false := by decide) : PE X (.Call (.Name x p) [] [] pos) (tMkV (He.ga X.K x) sp tNil) := by
  obtain ⟨fd, G, b⟩ := i
  exact pe_oex0 E.oex E.iC E.tI G hr b hg hm hdb
theorem call_isiA {X : Cx} {K : PySem.W.Frag} (h : X.K = K) : CallR X (.builtin "isinstance") (rIsi K) := by
  subst h
  exact call_isi
theorem pe_cls {a : Addr} (hg : Gl X x) (hm : X.mg x = some (.ref a)) (hd : (x == ("__debug__" : Str)) = false := by decide) : PE X (.Name x pos) (tC (.ref a)) := pe_glob (v := .ref a) hg hm rfl hd
end
end ZX
namespace K00
open PySem PySem.Spec PyProof.Rows L2 ZX
/-! ### the law -/
def Thing (K : PySem.W.Frag) (H : Hp) (v : V) : Prop := Selfy H v ∧ ∃ t b, TyX K H v t ∧ PySem.W.kitOne K t (.type "bool") = some b
theorem thing_deep {K : PySem.W.Frag} {H : Hp} {v : V} (d : Deep H v) : Thing K H v := by
  cases d with
  | non => exact ⟨True.intro, _, false, .base .non, kit_ty (by decide +kernel)⟩
  | str => exact ⟨True.intro, _, false, .base (.str _), kit_ty (by decide +kernel)⟩
  | nil h => exact ⟨.inr (.inl ⟨_, h⟩), _, false, .base (.tup h), kit_ty (by decide +kernel)⟩
  | lst h _ => exact ⟨.inl ⟨_, h⟩, _, false, .base (.lst h), kit_ty (by decide +kernel)⟩
  | tup h _ => exact ⟨.inr (.inl ⟨_, h⟩), _, false, .base (.tup h), kit_ty (by decide +kernel)⟩
  | dic h _ => exact ⟨.inr (.inr ⟨_, h⟩), _, false, .base (.dK h), kit_ty (by decide +kernel)⟩
theorem thing_int {K : PySem.W.Frag} {H : Hp} (i : Int) : Thing K H (.int i) := ⟨True.intro, _, false, .base (.int _), kit_ty (by decide +kernel)⟩
theorem thing_bl {K : PySem.W.Frag} {H : Hp} (i : Bool) : Thing K H (.bl i) := ⟨True.intro, _, true, .base (.bl _), kit_ty (by decide +kernel)⟩
theorem thing_non {K : PySem.W.Frag} {H : Hp} : Thing K H .non := ⟨True.intro, _, false, .base .non, kit_ty (by decide +kernel)⟩
theorem thing_str {K : PySem.W.Frag} {H : Hp} (x : Str) : Thing K H (.str x) := ⟨True.intro, _, false, .base (.str _), kit_ty (by decide +kernel)⟩
theorem thing_lst {K : PySem.W.Frag} {H : Hp} {a : Addr} {xs : List V} (h : H a = some (.lst xs)) : Thing K H (.ref a) := ⟨.inl ⟨_, h⟩, _, false, .base (.lst h), kit_ty (by decide +kernel)⟩
theorem thing_tup {K : PySem.W.Frag} {H : Hp} {a : Addr} {xs : List V} (h : H a = some (.tup xs)) : Thing K H (.ref a) := ⟨.inr (.inl ⟨_, h⟩), _, false, .base (.tup h), kit_ty (by decide +kernel)⟩
theorem thing_dic {K : PySem.W.Frag} {H : Hp} {a : Addr} {xs : List (Key × V)} (h : H a = some (.dK xs)) : Thing K H (.ref a) := ⟨.inr (.inr ⟨_, h⟩), _, false, .base (.dK h), kit_ty (by decide +kernel)⟩
/-- what a thing is, without the heap: it stays one -/
inductive ThingAt (H : Hp) : V → Prop where
  | non : ThingAt H .non
  | bl (b : Bool) : ThingAt H (.bl b)
  | int (i : Int) : ThingAt H (.int i)
  | str (x : Str) : ThingAt H (.str x)
  | lst {a : Addr} {xs : List V} (h : H a = some (.lst xs)) : ThingAt H (.ref a)
  | tup {a : Addr} {xs : List V} (h : H a = some (.tup xs)) : ThingAt H (.ref a)
  | dic {a : Addr} {xs : List (Key × V)} (h : H a = some (.dK xs)) : ThingAt H (.ref a)
theorem ThingAt.same {H H' : Hp} {v : V} (s : Same H H') (h : ThingAt H v) : ThingAt H' v := by
  cases h with
  | non => exact .non
  | bl b => exact .bl b
  | int i => exact .int i
  | str x => exact .str x
  | lst h => exact .lst (s _ _ h)
  | tup h => exact .tup (s _ _ h)
  | dic h => exact .dic (s _ _ h)
theorem ThingAt.off {H H' : Hp} {p : Addr} {v : V} (c : Ch p H H') (h : ThingAt H v) (n : v ≠ .ref p) : ThingAt H' v := by
  have q : ∀ a, V.ref a ≠ .ref p → H' a = H a := fun a z => c a fun e => z (by rw [e])
  cases h with
  | non => exact .non
  | bl b => exact .bl b
  | int i => exact .int i
  | str x => exact .str x
  | lst h => exact .lst ((q _ n).trans h)
  | tup h => exact .tup ((q _ n).trans h)
  | dic h => exact .dic ((q _ n).trans h)
theorem ThingAt.deep {H : Hp} {v : V} (d : Deep H v) : ThingAt H v := by
  cases d with
  | non => exact .non
  | str => exact .str _
  | nil h => exact .tup h
  | lst h _ => exact .lst h
  | tup h _ => exact .tup h
  | dic h _ => exact .dic h
theorem ThingAt.thing {K : PySem.W.Frag} {H : Hp} {v : V} (h : ThingAt H v) : Thing K H v := by
  cases h with
  | non => exact thing_non
  | bl b => exact thing_bl b
  | int i => exact thing_int i
  | str x => exact thing_str x
  | lst h => exact thing_lst h
  | tup h => exact thing_tup h
  | dic h => exact thing_dic h
def spLaw (K : PySem.W.Frag) : Sp := fun vs H Q _ => ∃ (a : Addr) (ns : List Int), vs = [.ref a] ∧ SqL K H a (ns.map V.int) ∧ ns.length ≤ 63 ∧ ∀ H', Q (.bl true) H'
def flagsOf (i : Nat) (js : List Nat) : List V := js.map fun j => V.bl (decide (i = j))
theorem flags_count : ∀ i : Fin 27, (flagsOf i.val (List.range 27)).countP (fun z => eqV z (.bl true)) = 1 := by decide +kernel
theorem flags_flat (i : Nat) (js : List Nat) : (flagsOf i js).all flatV = true := by
  unfold flagsOf
  rw [List.all_map]
  exact List.all_eq_true.mpr fun _ _ => rfl
theorem flags_at {i : Nat} (h : i < 27) : (flagsOf i (List.range 27))[i]? = some (.bl true) := by
  unfold flagsOf
  rw [List.getElem?_map, List.getElem?_range h]
  simp
section
variable {P : Program} {w : World} {K : PySem.W.Frag} {mg : Str → Option Value} {base : Heap}
theorem kitN (C : Ctx P w K mg base) (eall : ∀ x ∈ names, EcC K "PileError" x) {i j : Nat} {x y : Str} (hx : names[i]? = some x) (hy : names[j]? = some y) : PySem.W.kitOne K (.ref (He.ga K x)) (.ref (He.ga K y)) = some (decide (i = j)) := by
  have Ex := eall x (List.mem_of_getElem? hx)
  have Ey := eall y (List.mem_of_getElem? hy)
  have cy : (PySem.W.clsIn K (He.ga K y)).isSome = true := by
    obtain ⟨cd, h, _⟩ := Ey.cd
    rw [h] <;> rfl
  rw [Ex.kit cy Ey.tyC]
  obtain ⟨hp, hn⟩ := List.nodup_cons.mp C.nd
  have np : He.ga K y ≠ He.ga K "PileError" := fun z => hp (by
    rw [← z]
    exact List.mem_map.mpr ⟨y, List.mem_of_getElem? hy, rfl⟩)
  have hxy : (He.ga K y = He.ga K x ∨ He.ga K y = He.ga K "PileError") ↔ i = j := by
    constructor
    · rintro (h | h)
      · refine nd_ix hn (x := He.ga K x) ?_ ?_
        · rw [List.getElem?_map, hx]
          rfl
        · rw [List.getElem?_map, hy, ← h]
          rfl
      · exact absurd h np
    · intro h
      subst h
      rw [hx] at hy
      cases hy
      exact .inl rfl
  rw [decide_eq_decide.mpr hxy]

abbrev NL : List Str := ["_law_script", "_law_hand_here", "_law_things", "_law_thing", "_law_made", "_law_kept", "_law_one", "_law_at", "_law_flags"]
theorem scLaw : FnScope NL ["_law_script"] (defScope sLaw) := ⟨rfl, rfl, rfl, by decide +kernel, rfl, by decide +kernel, by decide +kernel⟩
def M1 (a : Addr) (σ : L2.St) (H : Hp) : Prop := ∃ p, σ = [some (.ref a), some (.ref p), none, none, none, none, none, none, none] ∧ HandAt H p
def M2 (a : Addr) (σ : L2.St) (H : Hp) : Prop := ∃ p t xs, σ = [some (.ref a), some (.ref p), some (.ref t), none, none, none, none, none, none] ∧ HandAt H p ∧ t ≠ p ∧ H t = some (.lst xs) ∧ xs ≠ [] ∧ xs.length ≤ 11 ∧ ∀ x ∈ xs, ThingAt H x ∧ x ≠ .ref p
def M3 (a : Addr) (σ : L2.St) (H : Hp) : Prop := ∃ p t v, σ = [some (.ref a), some (.ref p), some (.ref t), some v, none, none, none, none, none] ∧ ThingAt H v
def M5 (K : PySem.W.Frag) (a : Addr) (σ : L2.St) (H : Hp) : Prop := ∃ p t v L M vs, σ = [some (.ref a), some (.ref p), some (.ref t), some v, some (.ref L), some (.ref M), none, none, none] ∧ ThingAt H v ∧ H M = some (.lst [v, v, v, v, v, v]) ∧ H L = some (.lst vs) ∧ Made H ((names.take 6).map (He.ga K)) vs
def MN (K : PySem.W.Frag) (n : Nat) (a : Addr) (σ : L2.St) (H : Hp) : Prop := ∃ p t v L M vs x y z, σ = [some (.ref a), some (.ref p), some (.ref t), some v, some (.ref L), some (.ref M), x, y, z] ∧ H L = some (.lst vs) ∧ Made H ((names.take n).map (He.ga K)) vs
/-- within a turn: the i-th error is looked at, n flags are known -/
def MF (K : PySem.W.Frag) (i n : Nat) (a : Addr) (σ : L2.St) (H : Hp) : Prop := ∃ p t v L M vs o C l, σ = [some (.ref a), some (.ref p), some (.ref t), some v, some (.ref L), some (.ref M), some o, some (.int (0 + (i : Nat))), l] ∧ H L = some (.lst vs) ∧ Made H (names.map (He.ga K)) vs ∧
  names[i]? = some C ∧ Exc1 H (He.ga K C) o ∧ (n = 0 ∨ ∃ f, l = some (.ref f) ∧ H f = some (.lst (flagsOf i (List.range n))))

theorem ok_law {f : Addr} {fd : FuncData} (F : FnP K "law" sLaw f fd) (C : Ctx P w K mg base) (eall : ∀ x ∈ names, EcC K "PileError" x) : FnOk P w K mg base CX0 3 f fd ["_law_script"] (spLaw K) := by
  refine F.ok scLaw (fun vs H Q E h => ?_) (fun cdv A outer s H vs Q E hr h => ?_)
  · obtain ⟨a, ns, rfl, _⟩ := h
    rfl
  · obtain ⟨a, ns, rfl, hS, hl, k⟩ := h
    have hu : (A.deeper (envOfC "law" (defScope sLaw) s.heap.objs.size f cdv)).units < cLine := Nat.lt_of_succ_lt (hu_of hr)
    refine ⟨_, PSs.nox (pss_cut (ps_set (i := 1) scLaw.nd rfl (Or.inl rfl) (pcal C.hand (hr.mono (by decide)) rfl (pa_cons (pv 0) pa_nil)))
    (pss_cut (ps_set (i := 2) scLaw.nd rfl (Or.inl rfl) (pe_lst (pa_cons pe_int (pa_cons (pe_un un_neg pe_int) (pa_cons pe_bl (pa_cons pe_non (pa_cons pe_str (pa_cons pe_str (pa_cons (pe_tup (pa_cons pe_int (pa_cons pe_int pa_nil))) (pa_cons (pe_lst (pa_cons pe_int pa_nil)) (pa_cons (pe_disp (pps_cons pe_str pe_int pps_nil) (by rfl) (by rfl) (fun z => by cases z) (by decide)) (pa_cons (pcal C.deep hr rfl (pa_cons (pv 1) pa_nil)) (pa_cons (pe_op op_pow pe_int pe_int) pa_nil)))))))))))))
    (pss_cut (ps_set (i := 3) scLaw.nd rfl (Or.inr rfl) (pcal C.any_ hr rfl (pa_cons (pv 1) (pa_cons (pv 2) pa_nil))))
    (pss_cons (ps_set (i := 4) scLaw.nd rfl (Or.inl rfl) (pe_lst (pa_cons (mk1 C.e_BadProgram C.i_BadProgram C.g_BadProgram hr rfl (pa_cons (pv 3) pa_nil)) (pa_cons (mk1 C.e_BadText C.i_BadText C.g_BadText hr rfl (pa_cons (pv 3) pa_nil)) (pa_cons (mk1 C.e_TooMany C.i_TooMany C.g_TooMany hr rfl (pa_cons (pv 3) pa_nil)) (pa_cons (mk1 C.e_Unknown C.i_Unknown C.g_Unknown hr rfl (pa_cons (pv 3) pa_nil)) (pa_cons (mk1 C.e_BadBook C.i_BadBook C.g_BadBook hr rfl (pa_cons (pv 3) pa_nil)) (pa_cons (mk1 C.e_BadWorker C.i_BadWorker C.g_BadWorker hr rfl (pa_cons (pv 3) pa_nil)) pa_nil))))))))
    (pss_cut (ps_set (i := 5) scLaw.nd rfl (Or.inl rfl) (pe_lst (pa_cons (pe_xv (pe_ix ix_list (pv 4) pe_int (fun _ _ => rfl)) rfl) (pa_cons (pe_xv (pe_ix ix_list (pv 4) pe_int (fun _ _ => rfl)) rfl) (pa_cons (pe_xv (pe_ix ix_list (pv 4) pe_int (fun _ _ => rfl)) rfl) (pa_cons (pe_xv (pe_ix ix_list (pv 4) pe_int (fun _ _ => rfl)) rfl) (pa_cons (pe_xv (pe_ix ix_list (pv 4) pe_int (fun _ _ => rfl)) rfl) (pa_cons (pe_xv (pe_ix ix_list (pv 4) pe_int (fun _ _ => rfl)) rfl) pa_nil))))))))
    (pss_cut (ps_if (pt_val (pe_callB (cr_any rfl) (by rfl) C.bi.b_any (by decide +kernel) (pa_cons (pe_lc (own := [("_law_one", 6)]) (g := gName 6) (tt := tYes) (by rfl) scLaw.nd (pi_list (pv 5)) (blkOk_by (N := NL) (sc := defScope sLaw) (by decide +kernel)) (fun _ _ _ _ _ => (pg_name (i := 6) scLaw.nd rfl (Or.inl rfl))) (fun _ _ _ _ _ => pts_nil) (fun _ _ _ _ _ => (pe_or (pe_cmpR op_ne (pe_callB (call_isiA (K := K) rfl) (by rfl) C.bi.b_isinstance (by decide +kernel) (pa_cons (pv 6) (pa_cons (pe_bltn (v := .ty "bool") (by rfl) C.bi.b_bool (by decide +kernel) rfl) pa_nil))) (pe_callB (call_isiA (K := K) rfl) (by rfl) C.bi.b_isinstance (by decide +kernel) (pa_cons (pv 3) (pa_cons (pe_bltn (v := .ty "bool") (by rfl) C.bi.b_bool (by decide +kernel) rfl) pa_nil))) (nomark _)) (pe_one (pe_cmpR (op_neS hu) (pv 6) (pv 3) (nomark _)))))) pa_nil))) (pss_one (ps_ret pe_bl)) pss_nil)
    (pss_cut (ps_set (i := 4) scLaw.nd rfl (Or.inl rfl) (pe_op op_cat (pv 4) (pe_lst (pa_cons (mk0 C.e_NoPlace C.i_NoPlace C.g_NoPlace hr rfl) (pa_cons (mk0 C.e_NoFunctions C.i_NoFunctions C.g_NoFunctions hr rfl) (pa_cons (mk0 C.e_IsOver C.i_IsOver C.g_IsOver hr rfl) (pa_cons (mk0 C.e_BadStep C.i_BadStep C.g_BadStep hr rfl) (pa_cons (mk0 C.e_NoName C.i_NoName C.g_NoName hr rfl) (pa_cons (mk0 C.e_NoNote C.i_NoNote C.g_NoNote hr rfl) (pa_cons (mk0 C.e_NothingDone C.i_NothingDone C.g_NothingDone hr rfl) (pa_cons (mk0 C.e_NoWay C.i_NoWay C.g_NoWay hr rfl) (pa_cons (mk0 C.e_NoLot C.i_NoLot C.g_NoLot hr rfl) pa_nil))))))))))))
    (pss_cut (ps_set (i := 4) scLaw.nd rfl (Or.inl rfl) (pe_op op_cat (pv 4) (pe_lst (pa_cons (mk0 C.e_NoRing C.i_NoRing C.g_NoRing hr rfl) (pa_cons (mk0 C.e_NoNumber C.i_NoNumber C.g_NoNumber hr rfl) (pa_cons (mk0 C.e_Endless C.i_Endless C.g_Endless hr rfl) (pa_cons (mk0 C.e_NoRow C.i_NoRow C.g_NoRow hr rfl) (pa_cons (mk0 C.e_NoMarks C.i_NoMarks C.g_NoMarks hr rfl) (pa_cons (mk0 C.e_NoRoom C.i_NoRoom C.g_NoRoom hr rfl) (pa_cons (mk0 C.e_BadRow C.i_BadRow C.g_BadRow hr rfl) (pa_cons (mk0 C.e_NoText C.i_NoText C.g_NoText hr rfl) (pa_cons (mk0 C.e_Knotted C.i_Knotted C.g_Knotted hr rfl) pa_nil))))))))))))
    (pss_cut (ps_set (i := 4) scLaw.nd rfl (Or.inl rfl) (pe_op op_cat (pv 4) (pe_lst (pa_cons (mk0 C.e_NoSteps C.i_NoSteps C.g_NoSteps hr rfl) (pa_cons (mk0 C.e_NoHead C.i_NoHead C.g_NoHead hr rfl) (pa_cons (mk0 C.e_NoRows C.i_NoRows C.g_NoRows hr rfl) pa_nil))))))
    (pss_cut (ps_for PassesOwn.never rfl (pi_range1 rfl C.bi.b_range (pa_cons pe_int pa_nil)) (pg_name (i := 7) scLaw.nd rfl (Or.inl rfl)) (pss_cut (ps_set (i := 6) scLaw.nd rfl (Or.inl rfl) (pe_ix ix_list (pv 4) (pv 7) (fun _ _ => rfl)))
        (pss_cut (ps_set (i := 8) scLaw.nd rfl (Or.inl rfl) (pe_lst (pa_cons (pe_callB call_isV (by rfl) C.bi.b_isinstance (by decide +kernel) (pa_cons (pv 6) (pa_cons (pe_cls (by rfl) C.g_BadProgram) pa_nil))) (pa_cons (pe_callB call_isV (by rfl) C.bi.b_isinstance (by decide +kernel) (pa_cons (pv 6) (pa_cons (pe_cls (by rfl) C.g_BadText) pa_nil))) (pa_cons (pe_callB call_isV (by rfl) C.bi.b_isinstance (by decide +kernel) (pa_cons (pv 6) (pa_cons (pe_cls (by rfl) C.g_TooMany) pa_nil))) pa_nil)))))
        (pss_cut (ps_set (i := 8) scLaw.nd rfl (Or.inl rfl) (pe_op op_cat (pv 8) (pe_lst (pa_cons (pe_callB call_isV (by rfl) C.bi.b_isinstance (by decide +kernel) (pa_cons (pv 6) (pa_cons (pe_cls (by rfl) C.g_Unknown) pa_nil))) (pa_cons (pe_callB call_isV (by rfl) C.bi.b_isinstance (by decide +kernel) (pa_cons (pv 6) (pa_cons (pe_cls (by rfl) C.g_BadBook) pa_nil))) pa_nil)))))
        (pss_cut (ps_set (i := 8) scLaw.nd rfl (Or.inl rfl) (pe_op op_cat (pv 8) (pe_lst (pa_cons (pe_callB call_isV (by rfl) C.bi.b_isinstance (by decide +kernel) (pa_cons (pv 6) (pa_cons (pe_cls (by rfl) C.g_BadWorker) pa_nil))) (pa_cons (pe_callB call_isV (by rfl) C.bi.b_isinstance (by decide +kernel) (pa_cons (pv 6) (pa_cons (pe_cls (by rfl) C.g_NoPlace) pa_nil))) pa_nil)))))
        (pss_cut (ps_set (i := 8) scLaw.nd rfl (Or.inl rfl) (pe_op op_cat (pv 8) (pe_lst (pa_cons (pe_callB call_isV (by rfl) C.bi.b_isinstance (by decide +kernel) (pa_cons (pv 6) (pa_cons (pe_cls (by rfl) C.g_NoFunctions) pa_nil))) (pa_cons (pe_callB call_isV (by rfl) C.bi.b_isinstance (by decide +kernel) (pa_cons (pv 6) (pa_cons (pe_cls (by rfl) C.g_IsOver) pa_nil))) (pa_cons (pe_callB call_isV (by rfl) C.bi.b_isinstance (by decide +kernel) (pa_cons (pv 6) (pa_cons (pe_cls (by rfl) C.g_BadStep) pa_nil))) pa_nil))))))
        (pss_cut (ps_set (i := 8) scLaw.nd rfl (Or.inl rfl) (pe_op op_cat (pv 8) (pe_lst (pa_cons (pe_callB call_isV (by rfl) C.bi.b_isinstance (by decide +kernel) (pa_cons (pv 6) (pa_cons (pe_cls (by rfl) C.g_NoName) pa_nil))) (pa_cons (pe_callB call_isV (by rfl) C.bi.b_isinstance (by decide +kernel) (pa_cons (pv 6) (pa_cons (pe_cls (by rfl) C.g_NoNote) pa_nil))) (pa_cons (pe_callB call_isV (by rfl) C.bi.b_isinstance (by decide +kernel) (pa_cons (pv 6) (pa_cons (pe_cls (by rfl) C.g_NothingDone) pa_nil))) pa_nil))))))
        (pss_cut (ps_set (i := 8) scLaw.nd rfl (Or.inl rfl) (pe_op op_cat (pv 8) (pe_lst (pa_cons (pe_callB call_isV (by rfl) C.bi.b_isinstance (by decide +kernel) (pa_cons (pv 6) (pa_cons (pe_cls (by rfl) C.g_NoWay) pa_nil))) (pa_cons (pe_callB call_isV (by rfl) C.bi.b_isinstance (by decide +kernel) (pa_cons (pv 6) (pa_cons (pe_cls (by rfl) C.g_NoLot) pa_nil))) (pa_cons (pe_callB call_isV (by rfl) C.bi.b_isinstance (by decide +kernel) (pa_cons (pv 6) (pa_cons (pe_cls (by rfl) C.g_NoRing) pa_nil))) pa_nil))))))
        (pss_cut (ps_set (i := 8) scLaw.nd rfl (Or.inl rfl) (pe_op op_cat (pv 8) (pe_lst (pa_cons (pe_callB call_isV (by rfl) C.bi.b_isinstance (by decide +kernel) (pa_cons (pv 6) (pa_cons (pe_cls (by rfl) C.g_NoNumber) pa_nil))) (pa_cons (pe_callB call_isV (by rfl) C.bi.b_isinstance (by decide +kernel) (pa_cons (pv 6) (pa_cons (pe_cls (by rfl) C.g_Endless) pa_nil))) (pa_cons (pe_callB call_isV (by rfl) C.bi.b_isinstance (by decide +kernel) (pa_cons (pv 6) (pa_cons (pe_cls (by rfl) C.g_NoRow) pa_nil))) pa_nil))))))
        (pss_cut (ps_set (i := 8) scLaw.nd rfl (Or.inl rfl) (pe_op op_cat (pv 8) (pe_lst (pa_cons (pe_callB call_isV (by rfl) C.bi.b_isinstance (by decide +kernel) (pa_cons (pv 6) (pa_cons (pe_cls (by rfl) C.g_NoMarks) pa_nil))) (pa_cons (pe_callB call_isV (by rfl) C.bi.b_isinstance (by decide +kernel) (pa_cons (pv 6) (pa_cons (pe_cls (by rfl) C.g_NoRoom) pa_nil))) (pa_cons (pe_callB call_isV (by rfl) C.bi.b_isinstance (by decide +kernel) (pa_cons (pv 6) (pa_cons (pe_cls (by rfl) C.g_BadRow) pa_nil))) pa_nil))))))
        (pss_cut (ps_set (i := 8) scLaw.nd rfl (Or.inl rfl) (pe_op op_cat (pv 8) (pe_lst (pa_cons (pe_callB call_isV (by rfl) C.bi.b_isinstance (by decide +kernel) (pa_cons (pv 6) (pa_cons (pe_cls (by rfl) C.g_NoText) pa_nil))) (pa_cons (pe_callB call_isV (by rfl) C.bi.b_isinstance (by decide +kernel) (pa_cons (pv 6) (pa_cons (pe_cls (by rfl) C.g_Knotted) pa_nil))) (pa_cons (pe_callB call_isV (by rfl) C.bi.b_isinstance (by decide +kernel) (pa_cons (pv 6) (pa_cons (pe_cls (by rfl) C.g_NoSteps) pa_nil))) pa_nil))))))
        (pss_cut (ps_set (i := 8) scLaw.nd rfl (Or.inl rfl) (pe_op op_cat (pv 8) (pe_lst (pa_cons (pe_callB call_isV (by rfl) C.bi.b_isinstance (by decide +kernel) (pa_cons (pv 6) (pa_cons (pe_cls (by rfl) C.g_NoHead) pa_nil))) (pa_cons (pe_callB call_isV (by rfl) C.bi.b_isinstance (by decide +kernel) (pa_cons (pv 6) (pa_cons (pe_cls (by rfl) C.g_NoRows) pa_nil))) pa_nil)))))
        (pss_one (ps_if (PW.pt (pw_or (pt_cmpR op_ne (pe_bm PySem.F.plainAttrs_list PySem.F.slot_list_count PySem.F.type_list_count mt_lcountV (pv 8) (pa_cons pe_bl pa_nil)) pe_int (nomark _)) (pw_or (pt_not (pt_val (pe_ix ix_list (pv 8) (pv 7) (fun _ _ => rfl)))) (pw_or (pt_not (pt_val (pe_callB call_isV (by rfl) C.bi.b_isinstance (by decide +kernel) (pa_cons (pv 6) (pa_cons (pe_cls (by rfl) C.g_PileError) pa_nil))))) (pw_or1 (pt_not (pt_val (pe_callB call_isV (by rfl) C.bi.b_isinstance (by decide +kernel) (pa_cons (pv 6) (pa_cons (pe_bltn (v := .ty "ValueError") (by rfl) C.bi.b_ValueError (by decide +kernel) rfl) pa_nil)))))))))) (pss_one (ps_ret pe_bl)) pss_nil))))))))))))))
    (pss_one (ps_ret pe_bl)))))))))))), ?_⟩
    refine ⟨M1 a, ?_, ?_⟩
    · -- the hand
      exact ⟨_, rfl, a, ns, rfl, hS, hl, fun p H' hh _ _ => ⟨p, rfl, hh⟩⟩
    · rintro σ1 H1 ⟨p, rfl, hh⟩
      refine ⟨M2 a, ?_, ?_⟩
      · -- the things
        refine ⟨_, rfl, by show 2 ≤ sizeLine; decide, fun t nt => ⟨by show 1 ≤ sizeLine; decide, fun l nl => fun d nd => ⟨upd_same, [(.inr "a", .int 4)], rfl, by show 1 ≤ 15; decide, ?_⟩⟩⟩
        have eu : (upd (upd (upd (upd H1 t (.tup [.int 1, .int 2])) l (.lst [.int 3])) d (.dK [])) d (.dK (mergeK [] [(.inr "a", .int 4)]))) = upd (upd (upd H1 t (.tup [.int 1, .int 2])) l (.lst [.int 3])) d (.dK [(.inr "a", .int 4)]) := upd_upd
        rw [eu]
        have st := same_new (o := .tup [.int 1, .int 2]) nt
        have sl := same_new (o := .lst [.int 3]) nl
        have sd := same_new (o := .dK [(.inr "a", .int 4)]) nd
        have s3 := (st.trans sl).trans sd
        have pn : ∀ {G : Hp} {x : Addr}, Same H1 G → G x = none → x ≠ p := fun sG n => by
          obtain ⟨o, eo⟩ := hh.some
          exact (ne_of_none (sG _ _ eo) n).symm
        have ntp := pn (fun _ _ z => z) nt
        have nlp := pn st nl
        have ndp := pn (st.trans sl) nd
        refine ⟨_, rfl, p, rfl, hh.kp s3, fun v H' hh' kp dd => ⟨_, _, rfl, rfl, ⟨by decide, by decide, by decide⟩, by show 11 ≤ sizeLine; decide, fun T nT => ?_⟩⟩
        have sT : Same H' (upd H' T (.lst [.int 0, .int (-1), .bl true, .non, .str "x", .str "", .ref t, .ref l, .ref d, v, .int (10 ^ (29 : Int).toNat)])) := same_new nT
        have nTp : T ≠ p := by
          obtain ⟨o, eo⟩ := hh'.some
          exact (ne_of_none eo nT).symm
        have ht : H' t = some (.tup [.int 1, .int 2]) := kp _ _ ntp (sd _ _ (sl _ _ upd_same))
        have hl' : H' l = some (.lst [.int 3]) := kp _ _ nlp (sd _ _ upd_same)
        have hd : H' d = some (.dK [(.inr "a", .int 4)]) := kp _ _ ndp upd_same
        have nv : v ≠ .ref p := fun z => by
          obtain ⟨c, cs, i, g, kk, dr, hi⟩ := hh'
          rw [z] at dd
          cases dd with
          | nil h => rw [hi.hp] at h; cases h
          | lst h _ => rw [hi.hp] at h; cases h
          | tup h _ => rw [hi.hp] at h; cases h
          | dic h _ => rw [hi.hp] at h; cases h
        refine ⟨p, T, _, rfl, hh'.kp sT, nTp, upd_same, by simp, by simp, fun x hx => ?_⟩
        have nr : ∀ {b : Addr}, b ≠ p → V.ref b ≠ .ref p := fun h z => h (V.ref.inj z)
        simp only [List.mem_cons, List.not_mem_nil, or_false] at hx
        rcases hx with rfl | rfl | rfl | rfl | rfl | rfl | rfl | rfl | rfl | rfl | rfl
        · exact ⟨.int _, by simp⟩
        · exact ⟨.int _, by simp⟩
        · exact ⟨.bl _, by simp⟩
        · exact ⟨.non, by simp⟩
        · exact ⟨.str _, by simp⟩
        · exact ⟨.str _, by simp⟩
        · exact ⟨.tup (sT _ _ ht), nr ntp⟩
        · exact ⟨.lst (sT _ _ hl'), nr nlp⟩
        · exact ⟨.dic (sT _ _ hd), nr ndp⟩
        · exact ⟨(ThingAt.deep dd).same sT, nv⟩
        · exact ⟨.int _, by simp⟩
      · rintro σ2 H2 ⟨p, t, xs, rfl, hh, ne, ht, hx, hlen, hth⟩
        refine ⟨M3 a, ?_, ?_⟩
        · exact ⟨_, rfl, _, rfl, p, t, xs, rfl, hh, ne, .inl (SqL.of ht), hx, by omega, fun x H' hxm hh' ch => ⟨p, t, x, rfl, (hth x hxm).1.off ch (hth x hxm).2⟩⟩
        · rintro σ3 H3 ⟨p, t, v, rfl, hv⟩
          -- six errors with a field
          refine ⟨_, rfl, rd1 fun a1 d1 G1 s1 ea1 ed1 => ⟨_, rfl, rd1 fun a2 d2 G2 s2 ea2 ed2 => ⟨_, rfl, rd1 fun a3 d3 G3 s3 ea3 ed3 => ⟨_, rfl, rd1 fun a4 d4 G4 s4 ea4 ed4 => ⟨_, rfl, rd1 fun a5 d5 G5 s5 ea5 ed5 => ⟨_, rfl, rd1 fun a6 d6 G6 s6 ea6 ed6 => ⟨by show 6 ≤ sizeLine; decide, fun L nL => ?_⟩⟩⟩⟩⟩⟩⟩
          have q6 : Same G6 _ := same_new (o := .lst [.ref a1, .ref a2, .ref a3, .ref a4, .ref a5, .ref a6]) nL
          have q5 := s6.trans q6
          have q4 := s5.trans q5
          have q3 := s4.trans q4
          have q2 := s3.trans q3
          have q1 := s2.trans q2
          have q0 := s1.trans q1
          have ha1 := q1 _ _ ea1
          have hd1 := q1 _ _ ed1
          have ha2 := q2 _ _ ea2
          have hd2 := q2 _ _ ed2
          have ha3 := q3 _ _ ea3
          have hd3 := q3 _ _ ed3
          have ha4 := q4 _ _ ea4
          have hd4 := q4 _ _ ed4
          have ha5 := q5 _ _ ea5
          have hd5 := q5 _ _ ed5
          have ha6 := q6 _ _ ea6
          have hd6 := q6 _ _ ed6
          -- the fields
          refine ⟨M5 K a, ⟨_, rfl, L, _, _, _, rfl, rfl, SqL.of upd_same, rfl, a1, _, d1, _, v, rfl, C.e_BadProgram.xf, C.n_BadProgram, ha1, hd1, by simp [List.lookup], _, rfl, L, _, _, _, rfl, rfl, SqL.of upd_same, rfl, a2, _, d2, _, v, rfl, C.e_BadText.xf, C.n_BadText, ha2, hd2, by simp [List.lookup], _, rfl, L, _, _, _, rfl, rfl, SqL.of upd_same, rfl, a3, _, d3, _, v, rfl, C.e_TooMany.xf, C.n_TooMany, ha3, hd3, by simp [List.lookup], _, rfl, L, _, _, _, rfl, rfl, SqL.of upd_same, rfl, a4, _, d4, _, v, rfl, C.e_Unknown.xf, C.n_Unknown, ha4, hd4, by simp [List.lookup], _, rfl, L, _, _, _, rfl, rfl, SqL.of upd_same, rfl, a5, _, d5, _, v, rfl, C.e_BadBook.xf, C.n_BadBook, ha5, hd5, by simp [List.lookup], _, rfl, L, _, _, _, rfl, rfl, SqL.of upd_same, rfl, a6, _, d6, _, v, rfl, C.e_BadWorker.xf, C.n_BadWorker, ha6, hd6, by simp [List.lookup], by show 6 ≤ sizeLine; decide, fun M nM => ?_⟩, ?_⟩
          · exact ⟨p, t, v, L, M, _, rfl, (hv.same q0).same (same_new nM), upd_same, same_new nM _ _ upd_same, ⟨(exc1 ha1 hd1).same (same_new nM), (exc1 ha2 hd2).same (same_new nM), (exc1 ha3 hd3).same (same_new nM), (exc1 ha4 hd4).same (same_new nM), (exc1 ha5 hd5).same (same_new nM), (exc1 ha6 hd6).same (same_new nM), True.intro⟩⟩
          · rintro σ5 H5 ⟨p, t, v, L, M, vs, rfl, hv, hM, hL, hmade⟩
            refine ⟨MN K 6 a, ?_, ?_⟩
            · -- any(..)
              refine ⟨_, rfl, M, rfl, ⟨_, SqL.of hM⟩, fun D nD => ?_⟩
              have nMD : M ≠ D := ne_of_none hM nD
              refine lc_list (K := K) (a := M) (xs := [v, v, v, v, v, v]) (fun i H' => H' = upd H5 D (.lst ((List.replicate i false).map V.bl))) rfl ?_ ?_ ?_
              · rintro i H' _ rfl
                exact SqL.of (by rw [upd_ne nMD]; exact hM)
              · rintro i x H' hx rfl
                have hi : i < 6 := (List.getElem?_eq_some_iff.mp hx).1
                have hxv : x = v := by
                  obtain ⟨_, e⟩ := List.getElem?_eq_some_iff.mp hx
                  have hm : x ∈ [v, v, v, v, v, v] := by
                    rw [← e]
                    exact List.getElem_mem _
                  simpa using hm
                subst hxv
                obtain ⟨hself, tt, bb, hty, hkit⟩ := (hv.same (same_new (o := .lst ((List.replicate i false).map V.bl)) nD)).thing (K := K)
                refine ⟨rfl, _, rfl, _, _, tt, _, bb, rfl, .ty "bool", hty, hkit, _, rfl, _, _, tt, _, bb, rfl, .ty "bool", hty, hkit, rfl, _, rfl, ?_⟩
                refine iteNS rfl ?_
                refine ⟨_, rfl, _, rfl, rfl, hself, _, upd_same, ?_, ?_⟩
                · rw [List.length_map, List.length_replicate]
                  exact Nat.lt_trans hi (by decide)
                · show upd (upd _ _ _) _ _ = _
                  rw [upd_upd, List.replicate_succ', List.map_append]
                  rfl
              · rintro H' rfl
                refine ⟨D, List.replicate 6 false, rfl, SqL.of upd_same, _, rfl, ?_⟩
                exact ⟨p, t, v, L, M, vs, _, _, _, rfl, same_new nD _ _ hL, hmade.same (same_new nD)⟩
            · rintro σ6 H6 ⟨p, t, v, L, M, vs, x, y, z, rfl, hL, hmade⟩
              refine ⟨MN K 15 a, ?_, ?_⟩
              · refine ⟨_, rfl, rd0 fun a1 G1 s1 e1 => rd0 fun a2 G2 s2 e2 => rd0 fun a3 G3 s3 e3 => rd0 fun a4 G4 s4 e4 => rd0 fun a5 G5 s5 e5 => rd0 fun a6 G6 s6 e6 => rd0 fun a7 G7 s7 e7 => rd0 fun a8 G8 s8 e8 => rd0 fun a9 G9 s9 e9 => ⟨by show 9 ≤ sizeLine; decide, fun l nl => ?_⟩⟩
                have q9 : Same G9 _ := same_new (o := .lst [.ref a1, .ref a2, .ref a3, .ref a4, .ref a5, .ref a6, .ref a7, .ref a8, .ref a9]) nl
                have q8 := s9.trans q9
                have q7 := s8.trans q8
                have q6 := s7.trans q7
                have q5 := s6.trans q6
                have q4 := s5.trans q5
                have q3 := s4.trans q4
                have q2 := s3.trans q3
                have q1 := s2.trans q2
                have q0 := s1.trans q1
                have hlen : vs.length = 6 := hmade.len
                refine ⟨L, l, vs, _, rfl, rfl, q0 _ _ hL, upd_same, by rw [hlen]; show 6 + 9 ≤ sizeLine; decide, fun np nnp => ?_⟩
                have hm2 : Made _ [He.ga K "NoPlace", He.ga K "NoFunctions", He.ga K "IsOver", He.ga K "BadStep", He.ga K "NoName", He.ga K "NoNote", He.ga K "NothingDone", He.ga K "NoWay", He.ga K "NoLot"] [.ref a1, .ref a2, .ref a3, .ref a4, .ref a5, .ref a6, .ref a7, .ref a8, .ref a9] := ⟨exc0 (q1 _ _ e1), exc0 (q2 _ _ e2), exc0 (q3 _ _ e3), exc0 (q4 _ _ e4), exc0 (q5 _ _ e5), exc0 (q6 _ _ e6), exc0 (q7 _ _ e7), exc0 (q8 _ _ e8), exc0 (q9 _ _ e9), True.intro⟩
                exact ⟨p, t, v, np, M, _, _, _, _, rfl, upd_same, ((hmade.same q0).app hm2).same (same_new nnp)⟩
              · rintro σ6 H6 ⟨p, t, v, L, M, vs, x, y, z, rfl, hL, hmade⟩
                refine ⟨MN K 24 a, ?_, ?_⟩
                · refine ⟨_, rfl, rd0 fun a1 G1 s1 e1 => rd0 fun a2 G2 s2 e2 => rd0 fun a3 G3 s3 e3 => rd0 fun a4 G4 s4 e4 => rd0 fun a5 G5 s5 e5 => rd0 fun a6 G6 s6 e6 => rd0 fun a7 G7 s7 e7 => rd0 fun a8 G8 s8 e8 => rd0 fun a9 G9 s9 e9 => ⟨by show 9 ≤ sizeLine; decide, fun l nl => ?_⟩⟩
                  have q9 : Same G9 _ := same_new (o := .lst [.ref a1, .ref a2, .ref a3, .ref a4, .ref a5, .ref a6, .ref a7, .ref a8, .ref a9]) nl
                  have q8 := s9.trans q9
                  have q7 := s8.trans q8
                  have q6 := s7.trans q7
                  have q5 := s6.trans q6
                  have q4 := s5.trans q5
                  have q3 := s4.trans q4
                  have q2 := s3.trans q3
                  have q1 := s2.trans q2
                  have q0 := s1.trans q1
                  have hlen : vs.length = 15 := hmade.len
                  refine ⟨L, l, vs, _, rfl, rfl, q0 _ _ hL, upd_same, by rw [hlen]; show 15 + 9 ≤ sizeLine; decide, fun np nnp => ?_⟩
                  have hm2 : Made _ [He.ga K "NoRing", He.ga K "NoNumber", He.ga K "Endless", He.ga K "NoRow", He.ga K "NoMarks", He.ga K "NoRoom", He.ga K "BadRow", He.ga K "NoText", He.ga K "Knotted"] [.ref a1, .ref a2, .ref a3, .ref a4, .ref a5, .ref a6, .ref a7, .ref a8, .ref a9] := ⟨exc0 (q1 _ _ e1), exc0 (q2 _ _ e2), exc0 (q3 _ _ e3), exc0 (q4 _ _ e4), exc0 (q5 _ _ e5), exc0 (q6 _ _ e6), exc0 (q7 _ _ e7), exc0 (q8 _ _ e8), exc0 (q9 _ _ e9), True.intro⟩
                  exact ⟨p, t, v, np, M, _, _, _, _, rfl, upd_same, ((hmade.same q0).app hm2).same (same_new nnp)⟩
                · rintro σ6 H6 ⟨p, t, v, L, M, vs, x, y, z, rfl, hL, hmade⟩
                  refine ⟨MN K 27 a, ?_, ?_⟩
                  · refine ⟨_, rfl, rd0 fun a1 G1 s1 e1 => rd0 fun a2 G2 s2 e2 => rd0 fun a3 G3 s3 e3 => ⟨by show 3 ≤ sizeLine; decide, fun l nl => ?_⟩⟩
                    have q3 : Same G3 _ := same_new (o := .lst [.ref a1, .ref a2, .ref a3]) nl
                    have q2 := s3.trans q3
                    have q1 := s2.trans q2
                    have q0 := s1.trans q1
                    have hlen : vs.length = 24 := hmade.len
                    refine ⟨L, l, vs, _, rfl, rfl, q0 _ _ hL, upd_same, by rw [hlen]; show 24 + 3 ≤ sizeLine; decide, fun np nnp => ?_⟩
                    have hm2 : Made _ [He.ga K "NoSteps", He.ga K "NoHead", He.ga K "NoRows"] [.ref a1, .ref a2, .ref a3] := ⟨exc0 (q1 _ _ e1), exc0 (q2 _ _ e2), exc0 (q3 _ _ e3), True.intro⟩
                    exact ⟨p, t, v, np, M, _, _, _, _, rfl, upd_same, ((hmade.same q0).app hm2).same (same_new nnp)⟩
                  · rintro σ7 H7 ⟨p, t, v, L, M, vs, x, y, z, rfl, hL, hmade⟩
                    refine ⟨MN K 27 a, ?_, fun _ _ _ => k _⟩
                    refine ⟨_, rfl, by decide, by decide, for_range (fun _ => MN K 27 a) ⟨p, t, v, L, M, vs, _, _, _, rfl, hL, hmade⟩ ?_ (fun _ _ h => h)⟩
                    rintro i σ8 H8 hi ⟨p, t, v, L, M, vs, x, y, z, rfl, hL, hmade⟩
                    have hi27 : i < 27 := hi
                    have hmade : Made H8 (names.map (He.ga K)) vs := hmade
                    obtain ⟨Cn, hCn⟩ : ∃ Cn, names[i]? = some Cn := ⟨_, List.getElem?_eq_getElem (show i < names.length from hi27)⟩
                    obtain ⟨o, ho, hex⟩ := hmade.get (i := i) (C := He.ga K Cn) (by rw [List.getElem?_map, hCn]; rfl)
                    refine ⟨MF K i 0 a, ?_, ?_⟩
                    · exact ⟨_, rfl, _, rfl, L, vs, _, o, rfl, rfl, SqL.of hL, at_of (j := i) (by omega) ho, ⟨p, t, v, L, M, vs, o, Cn, _, rfl, hL, hmade, hCn, hex, .inl rfl⟩⟩
                    · rintro σ9 H9 ⟨p, t, v, L, M, vs, o, Cn, fl, rfl, hL, hmade, hCn, hex, hfl⟩
                      obtain ⟨oa, rfl, hobj⟩ := id hex
                      refine ⟨MF K i 3 a, ?_, ?_⟩
                      · refine ⟨_, rfl, oa, _, .ref (He.ga K "BadProgram"), _, decide (i = 0), rfl, (eall _ (List.mem_of_getElem? hCn)).ec, hobj, .own _, kitN C eall hCn (j := 0) rfl, _, rfl, oa, _, .ref (He.ga K "BadText"), _, decide (i = 1), rfl, (eall _ (List.mem_of_getElem? hCn)).ec, hobj, .own _, kitN C eall hCn (j := 1) rfl, _, rfl, oa, _, .ref (He.ga K "TooMany"), _, decide (i = 2), rfl, (eall _ (List.mem_of_getElem? hCn)).ec, hobj, .own _, kitN C eall hCn (j := 2) rfl, by show 3 ≤ sizeLine; decide, fun l nl => ?_⟩
                        exact ⟨p, t, v, L, M, vs, _, Cn, _, rfl, same_new nl _ _ hL, hmade.same (same_new nl), hCn, hex.same (same_new nl), .inr ⟨l, rfl, upd_same⟩⟩
                      · rintro σ9 H9 ⟨p, t, v, L, M, vs, o, Cn, fl, rfl, hL, hmade, hCn, hex, hfl⟩
                        obtain ⟨oa, rfl, hobj⟩ := id hex
                        refine ⟨MF K i 5 a, ?_, ?_⟩
                        · obtain ⟨fa, rfl, hfa⟩ := hfl.resolve_left (by decide)
                          refine ⟨_, rfl, _, rfl, oa, _, .ref (He.ga K "Unknown"), _, decide (i = 3), rfl, (eall _ (List.mem_of_getElem? hCn)).ec, hobj, .own _, kitN C eall hCn (j := 3) rfl, _, rfl, oa, _, .ref (He.ga K "BadBook"), _, decide (i = 4), rfl, (eall _ (List.mem_of_getElem? hCn)).ec, hobj, .own _, kitN C eall hCn (j := 4) rfl, by show 2 ≤ sizeLine; decide, fun l nl => ?_⟩
                          refine ⟨fa, l, _, _, rfl, rfl, same_new nl _ _ hfa, upd_same, by show 3 + 2 ≤ sizeLine; decide, fun q nq => ?_⟩
                          have sq := (same_new nl).trans (same_new (o := .lst (flagsOf i (List.range 5))) nq)
                          exact ⟨p, t, v, L, M, vs, _, Cn, _, rfl, sq _ _ hL, hmade.same sq, hCn, hex.same sq, .inr ⟨q, rfl, upd_same⟩⟩
                        · rintro σ9 H9 ⟨p, t, v, L, M, vs, o, Cn, fl, rfl, hL, hmade, hCn, hex, hfl⟩
                          obtain ⟨oa, rfl, hobj⟩ := id hex
                          refine ⟨MF K i 7 a, ?_, ?_⟩
                          · obtain ⟨fa, rfl, hfa⟩ := hfl.resolve_left (by decide)
                            refine ⟨_, rfl, _, rfl, oa, _, .ref (He.ga K "BadWorker"), _, decide (i = 5), rfl, (eall _ (List.mem_of_getElem? hCn)).ec, hobj, .own _, kitN C eall hCn (j := 5) rfl, _, rfl, oa, _, .ref (He.ga K "NoPlace"), _, decide (i = 6), rfl, (eall _ (List.mem_of_getElem? hCn)).ec, hobj, .own _, kitN C eall hCn (j := 6) rfl, by show 2 ≤ sizeLine; decide, fun l nl => ?_⟩
                            refine ⟨fa, l, _, _, rfl, rfl, same_new nl _ _ hfa, upd_same, by show 5 + 2 ≤ sizeLine; decide, fun q nq => ?_⟩
                            have sq := (same_new nl).trans (same_new (o := .lst (flagsOf i (List.range 7))) nq)
                            exact ⟨p, t, v, L, M, vs, _, Cn, _, rfl, sq _ _ hL, hmade.same sq, hCn, hex.same sq, .inr ⟨q, rfl, upd_same⟩⟩
                          · rintro σ9 H9 ⟨p, t, v, L, M, vs, o, Cn, fl, rfl, hL, hmade, hCn, hex, hfl⟩
                            obtain ⟨oa, rfl, hobj⟩ := id hex
                            refine ⟨MF K i 10 a, ?_, ?_⟩
                            · obtain ⟨fa, rfl, hfa⟩ := hfl.resolve_left (by decide)
                              refine ⟨_, rfl, _, rfl, oa, _, .ref (He.ga K "NoFunctions"), _, decide (i = 7), rfl, (eall _ (List.mem_of_getElem? hCn)).ec, hobj, .own _, kitN C eall hCn (j := 7) rfl, _, rfl, oa, _, .ref (He.ga K "IsOver"), _, decide (i = 8), rfl, (eall _ (List.mem_of_getElem? hCn)).ec, hobj, .own _, kitN C eall hCn (j := 8) rfl, _, rfl, oa, _, .ref (He.ga K "BadStep"), _, decide (i = 9), rfl, (eall _ (List.mem_of_getElem? hCn)).ec, hobj, .own _, kitN C eall hCn (j := 9) rfl, by show 3 ≤ sizeLine; decide, fun l nl => ?_⟩
                              refine ⟨fa, l, _, _, rfl, rfl, same_new nl _ _ hfa, upd_same, by show 7 + 3 ≤ sizeLine; decide, fun q nq => ?_⟩
                              have sq := (same_new nl).trans (same_new (o := .lst (flagsOf i (List.range 10))) nq)
                              exact ⟨p, t, v, L, M, vs, _, Cn, _, rfl, sq _ _ hL, hmade.same sq, hCn, hex.same sq, .inr ⟨q, rfl, upd_same⟩⟩
                            · rintro σ9 H9 ⟨p, t, v, L, M, vs, o, Cn, fl, rfl, hL, hmade, hCn, hex, hfl⟩
                              obtain ⟨oa, rfl, hobj⟩ := id hex
                              refine ⟨MF K i 13 a, ?_, ?_⟩
                              · obtain ⟨fa, rfl, hfa⟩ := hfl.resolve_left (by decide)
                                refine ⟨_, rfl, _, rfl, oa, _, .ref (He.ga K "NoName"), _, decide (i = 10), rfl, (eall _ (List.mem_of_getElem? hCn)).ec, hobj, .own _, kitN C eall hCn (j := 10) rfl, _, rfl, oa, _, .ref (He.ga K "NoNote"), _, decide (i = 11), rfl, (eall _ (List.mem_of_getElem? hCn)).ec, hobj, .own _, kitN C eall hCn (j := 11) rfl, _, rfl, oa, _, .ref (He.ga K "NothingDone"), _, decide (i = 12), rfl, (eall _ (List.mem_of_getElem? hCn)).ec, hobj, .own _, kitN C eall hCn (j := 12) rfl, by show 3 ≤ sizeLine; decide, fun l nl => ?_⟩
                                refine ⟨fa, l, _, _, rfl, rfl, same_new nl _ _ hfa, upd_same, by show 10 + 3 ≤ sizeLine; decide, fun q nq => ?_⟩
                                have sq := (same_new nl).trans (same_new (o := .lst (flagsOf i (List.range 13))) nq)
                                exact ⟨p, t, v, L, M, vs, _, Cn, _, rfl, sq _ _ hL, hmade.same sq, hCn, hex.same sq, .inr ⟨q, rfl, upd_same⟩⟩
                              · rintro σ9 H9 ⟨p, t, v, L, M, vs, o, Cn, fl, rfl, hL, hmade, hCn, hex, hfl⟩
                                obtain ⟨oa, rfl, hobj⟩ := id hex
                                refine ⟨MF K i 16 a, ?_, ?_⟩
                                · obtain ⟨fa, rfl, hfa⟩ := hfl.resolve_left (by decide)
                                  refine ⟨_, rfl, _, rfl, oa, _, .ref (He.ga K "NoWay"), _, decide (i = 13), rfl, (eall _ (List.mem_of_getElem? hCn)).ec, hobj, .own _, kitN C eall hCn (j := 13) rfl, _, rfl, oa, _, .ref (He.ga K "NoLot"), _, decide (i = 14), rfl, (eall _ (List.mem_of_getElem? hCn)).ec, hobj, .own _, kitN C eall hCn (j := 14) rfl, _, rfl, oa, _, .ref (He.ga K "NoRing"), _, decide (i = 15), rfl, (eall _ (List.mem_of_getElem? hCn)).ec, hobj, .own _, kitN C eall hCn (j := 15) rfl, by show 3 ≤ sizeLine; decide, fun l nl => ?_⟩
                                  refine ⟨fa, l, _, _, rfl, rfl, same_new nl _ _ hfa, upd_same, by show 13 + 3 ≤ sizeLine; decide, fun q nq => ?_⟩
                                  have sq := (same_new nl).trans (same_new (o := .lst (flagsOf i (List.range 16))) nq)
                                  exact ⟨p, t, v, L, M, vs, _, Cn, _, rfl, sq _ _ hL, hmade.same sq, hCn, hex.same sq, .inr ⟨q, rfl, upd_same⟩⟩
                                · rintro σ9 H9 ⟨p, t, v, L, M, vs, o, Cn, fl, rfl, hL, hmade, hCn, hex, hfl⟩
                                  obtain ⟨oa, rfl, hobj⟩ := id hex
                                  refine ⟨MF K i 19 a, ?_, ?_⟩
                                  · obtain ⟨fa, rfl, hfa⟩ := hfl.resolve_left (by decide)
                                    refine ⟨_, rfl, _, rfl, oa, _, .ref (He.ga K "NoNumber"), _, decide (i = 16), rfl, (eall _ (List.mem_of_getElem? hCn)).ec, hobj, .own _, kitN C eall hCn (j := 16) rfl, _, rfl, oa, _, .ref (He.ga K "Endless"), _, decide (i = 17), rfl, (eall _ (List.mem_of_getElem? hCn)).ec, hobj, .own _, kitN C eall hCn (j := 17) rfl, _, rfl, oa, _, .ref (He.ga K "NoRow"), _, decide (i = 18), rfl, (eall _ (List.mem_of_getElem? hCn)).ec, hobj, .own _, kitN C eall hCn (j := 18) rfl, by show 3 ≤ sizeLine; decide, fun l nl => ?_⟩
                                    refine ⟨fa, l, _, _, rfl, rfl, same_new nl _ _ hfa, upd_same, by show 16 + 3 ≤ sizeLine; decide, fun q nq => ?_⟩
                                    have sq := (same_new nl).trans (same_new (o := .lst (flagsOf i (List.range 19))) nq)
                                    exact ⟨p, t, v, L, M, vs, _, Cn, _, rfl, sq _ _ hL, hmade.same sq, hCn, hex.same sq, .inr ⟨q, rfl, upd_same⟩⟩
                                  · rintro σ9 H9 ⟨p, t, v, L, M, vs, o, Cn, fl, rfl, hL, hmade, hCn, hex, hfl⟩
                                    obtain ⟨oa, rfl, hobj⟩ := id hex
                                    refine ⟨MF K i 22 a, ?_, ?_⟩
                                    · obtain ⟨fa, rfl, hfa⟩ := hfl.resolve_left (by decide)
                                      refine ⟨_, rfl, _, rfl, oa, _, .ref (He.ga K "NoMarks"), _, decide (i = 19), rfl, (eall _ (List.mem_of_getElem? hCn)).ec, hobj, .own _, kitN C eall hCn (j := 19) rfl, _, rfl, oa, _, .ref (He.ga K "NoRoom"), _, decide (i = 20), rfl, (eall _ (List.mem_of_getElem? hCn)).ec, hobj, .own _, kitN C eall hCn (j := 20) rfl, _, rfl, oa, _, .ref (He.ga K "BadRow"), _, decide (i = 21), rfl, (eall _ (List.mem_of_getElem? hCn)).ec, hobj, .own _, kitN C eall hCn (j := 21) rfl, by show 3 ≤ sizeLine; decide, fun l nl => ?_⟩
                                      refine ⟨fa, l, _, _, rfl, rfl, same_new nl _ _ hfa, upd_same, by show 19 + 3 ≤ sizeLine; decide, fun q nq => ?_⟩
                                      have sq := (same_new nl).trans (same_new (o := .lst (flagsOf i (List.range 22))) nq)
                                      exact ⟨p, t, v, L, M, vs, _, Cn, _, rfl, sq _ _ hL, hmade.same sq, hCn, hex.same sq, .inr ⟨q, rfl, upd_same⟩⟩
                                    · rintro σ9 H9 ⟨p, t, v, L, M, vs, o, Cn, fl, rfl, hL, hmade, hCn, hex, hfl⟩
                                      obtain ⟨oa, rfl, hobj⟩ := id hex
                                      refine ⟨MF K i 25 a, ?_, ?_⟩
                                      · obtain ⟨fa, rfl, hfa⟩ := hfl.resolve_left (by decide)
                                        refine ⟨_, rfl, _, rfl, oa, _, .ref (He.ga K "NoText"), _, decide (i = 22), rfl, (eall _ (List.mem_of_getElem? hCn)).ec, hobj, .own _, kitN C eall hCn (j := 22) rfl, _, rfl, oa, _, .ref (He.ga K "Knotted"), _, decide (i = 23), rfl, (eall _ (List.mem_of_getElem? hCn)).ec, hobj, .own _, kitN C eall hCn (j := 23) rfl, _, rfl, oa, _, .ref (He.ga K "NoSteps"), _, decide (i = 24), rfl, (eall _ (List.mem_of_getElem? hCn)).ec, hobj, .own _, kitN C eall hCn (j := 24) rfl, by show 3 ≤ sizeLine; decide, fun l nl => ?_⟩
                                        refine ⟨fa, l, _, _, rfl, rfl, same_new nl _ _ hfa, upd_same, by show 22 + 3 ≤ sizeLine; decide, fun q nq => ?_⟩
                                        have sq := (same_new nl).trans (same_new (o := .lst (flagsOf i (List.range 25))) nq)
                                        exact ⟨p, t, v, L, M, vs, _, Cn, _, rfl, sq _ _ hL, hmade.same sq, hCn, hex.same sq, .inr ⟨q, rfl, upd_same⟩⟩
                                      · rintro σ9 H9 ⟨p, t, v, L, M, vs, o, Cn, fl, rfl, hL, hmade, hCn, hex, hfl⟩
                                        obtain ⟨oa, rfl, hobj⟩ := id hex
                                        refine ⟨MF K i 27 a, ?_, ?_⟩
                                        · obtain ⟨fa, rfl, hfa⟩ := hfl.resolve_left (by decide)
                                          refine ⟨_, rfl, _, rfl, oa, _, .ref (He.ga K "NoHead"), _, decide (i = 25), rfl, (eall _ (List.mem_of_getElem? hCn)).ec, hobj, .own _, kitN C eall hCn (j := 25) rfl, _, rfl, oa, _, .ref (He.ga K "NoRows"), _, decide (i = 26), rfl, (eall _ (List.mem_of_getElem? hCn)).ec, hobj, .own _, kitN C eall hCn (j := 26) rfl, by show 2 ≤ sizeLine; decide, fun l nl => ?_⟩
                                          refine ⟨fa, l, _, _, rfl, rfl, same_new nl _ _ hfa, upd_same, by show 25 + 2 ≤ sizeLine; decide, fun q nq => ?_⟩
                                          have sq := (same_new nl).trans (same_new (o := .lst (flagsOf i (List.range 27))) nq)
                                          exact ⟨p, t, v, L, M, vs, _, Cn, _, rfl, sq _ _ hL, hmade.same sq, hCn, hex.same sq, .inr ⟨q, rfl, upd_same⟩⟩
                                        · rintro σ9 H9 ⟨p, t, v, L, M, vs, o, Cn, fl, rfl, hL, hmade, hCn, hex, hfl⟩
                                          obtain ⟨oa, rfl, hobj⟩ := id hex
                                          obtain ⟨fa, rfl, hfa⟩ := hfl.resolve_left (by decide)
                                          have hE := eall _ (List.mem_of_getElem? hCn)
                                          have hcnt := flags_count ⟨i, hi27⟩
                                          have hkp : PySem.W.kitOne K (.ref (He.ga K Cn)) (.ref (He.ga K "PileError")) = some true := by
                                            rw [hE.kit C.pc C.pt]
                                            simp
                                          refine ⟨_, rfl, .inl ⟨rfl, _, SqL.of hfa⟩, fa, _, _, rfl, rfl, SqL.of hfa, rfl, flags_flat i _, rfl, _, rfl, ?_⟩
                                          refine iteNS (by rw [hcnt]; rfl) ?_
                                          refine ⟨_, rfl, _, rfl, fa, _, _, _, rfl, rfl, SqL.of hfa, at_of (j := i) (by omega) (flags_at hi27), _, rfl, ?_⟩
                                          refine ⟨_, rfl, oa, _, .ref (He.ga K "PileError"), _, true, rfl, hE.ec, hobj, .own _, hkp, _, rfl, ?_⟩
                                          refine ⟨_, rfl, oa, _, .ty "ValueError", _, true, rfl, hE.ec, hobj, .ty _, hE.kitV, _, rfl, ?_⟩
                                          exact ⟨p, t, v, L, M, vs, _, _, _, rfl, hL, hmade⟩
end
end K00
set_option Elab.async false
set_option linter.all false
set_option maxRecDepth 100000
set_option maxHeartbeats 4000000
namespace K00
open PySem PySem.Spec PyProof.Rows L2 ZX
theorem bi1 {K : PySem.W.Frag} {params : Arguments} {body : List Stmt} {scope : Scope} {x q : Str} {f : Addr} {fd : FuncData} {y : Str} (F : FunD K x q params body scope [] [] f fd)
    (h : ∀ (kV doc pm : Value) (an : Option Addr) (cdv ct : Value) (us : List Value), us.length = [y].length → bindArgs (PySem.W.fnOf x q params body scope .none kV doc pm an cdv ct) ⟨us, []⟩ = pure ([y].zip us)) : Binds K fd [y] [] := F.bindsN h
theorem ctx {P : Program} {w : World} {K : PySem.W.Frag} {h : Heap} {mg : Str → Option Value} {base : Heap} (X : K.In h) (G : h.Ns mainGlobals mg) (c : SaysB fa fn ex K) : Ctx P w K mg base ∧ (∀ x ∈ names, EcC K "PileError" x) := by
  have glo : ∀ (i : Nat) (x : Str), fa[i]? = some (.glo x) → mg x = some (.ref (He.ga K x)) := fun i x e => He.glo_ok X G (c.d.fact i (f := .glo x) e)
  have free : ∀ (i : Nat) (x : Str), fa[i]? = some (.free x) → mg x = none := fun i x e => He.free_ok X G (c.d.fact i (f := .free x) e)
  have hex := c.more
  obtain ⟨h1, h2⟩ := Bool.and_eq_true_iff.mp (show ((names.all fun x => ecB K "PileError" x) && (decide ((He.ga K "PileError" :: names.map (He.ga K)).Nodup) && ((PySem.W.clsIn K (He.ga K "PileError")).isSome && decide (PySem.W.typeIn K (.ref (He.ga K "PileError")) = some (.type "type"))))) = true from hex)
  obtain ⟨h3, h4⟩ := Bool.and_eq_true_iff.mp h2
  obtain ⟨h5, h6⟩ := Bool.and_eq_true_iff.mp h4
  have eall : ∀ x ∈ names, EcC K "PileError" x := fun x hx => ecB_ok (List.all_eq_true.mp h1 x hx)
  have en : ∀ (i : Nat) (x : Str), names[i]? = some x → EcC K "PileError" x := fun i x e => eall x (List.mem_of_getElem? e)
  have bi : Bi mg := ⟨free 5 _ rfl, free 6 _ rfl, free 7 _ rfl, free 8 _ rfl, free 9 _ rfl, free 10 _ rfl, free 11 _ rfl, free 12 _ rfl⟩
  obtain ⟨f0, F0⟩ := c.d.def_ 0 (d := dD "_law_hand" sHand) rfl
  obtain ⟨f1, F1⟩ := c.d.def_ 1 (d := dD "_law_draw" sDraw) rfl
  obtain ⟨f2, F2⟩ := c.d.def_ 2 (d := dD "_law_any" sAny) rfl
  obtain ⟨f3, F3⟩ := c.d.def_ 3 (d := dD "_law_deep" sDeep) rfl
  have draw : Cal P w K mg base "_law_draw" 1 ["_law_hand_here", "_law_many"] spDraw := ⟨_, f1, ok_draw F1 bi, glo 1 _ rfl, F1.kp, FunD.bindsN (ps := ["_law_hand_here", "_law_many"]) F1 fun _ _ _ _ _ _ us hl => match us, hl with | [_, _], _ => rfl⟩
  refine ⟨{
    bi := bi
    g_BadProgram := glo 14 _ rfl
    g_BadText := glo 15 _ rfl
    g_TooMany := glo 16 _ rfl
    g_Unknown := glo 17 _ rfl
    g_BadBook := glo 18 _ rfl
    g_BadWorker := glo 19 _ rfl
    g_NoPlace := glo 20 _ rfl
    g_NoFunctions := glo 21 _ rfl
    g_IsOver := glo 22 _ rfl
    g_BadStep := glo 23 _ rfl
    g_NoName := glo 24 _ rfl
    g_NoNote := glo 25 _ rfl
    g_NothingDone := glo 26 _ rfl
    g_NoWay := glo 27 _ rfl
    g_NoLot := glo 28 _ rfl
    g_NoRing := glo 29 _ rfl
    g_NoNumber := glo 30 _ rfl
    g_Endless := glo 31 _ rfl
    g_NoRow := glo 32 _ rfl
    g_NoMarks := glo 33 _ rfl
    g_NoRoom := glo 34 _ rfl
    g_BadRow := glo 35 _ rfl
    g_NoText := glo 36 _ rfl
    g_Knotted := glo 37 _ rfl
    g_NoSteps := glo 38 _ rfl
    g_NoHead := glo 39 _ rfl
    g_NoRows := glo 40 _ rfl
    g_PileError := glo 13 _ rfl
    e_BadProgram := en 0 _ rfl
    e_BadText := en 1 _ rfl
    e_TooMany := en 2 _ rfl
    e_Unknown := en 3 _ rfl
    e_BadBook := en 4 _ rfl
    e_BadWorker := en 5 _ rfl
    e_NoPlace := en 6 _ rfl
    e_NoFunctions := en 7 _ rfl
    e_IsOver := en 8 _ rfl
    e_BadStep := en 9 _ rfl
    e_NoName := en 10 _ rfl
    e_NoNote := en 11 _ rfl
    e_NothingDone := en 12 _ rfl
    e_NoWay := en 13 _ rfl
    e_NoLot := en 14 _ rfl
    e_NoRing := en 15 _ rfl
    e_NoNumber := en 16 _ rfl
    e_Endless := en 17 _ rfl
    e_NoRow := en 18 _ rfl
    e_NoMarks := en 19 _ rfl
    e_NoRoom := en 20 _ rfl
    e_BadRow := en 21 _ rfl
    e_NoText := en 22 _ rfl
    e_Knotted := en 23 _ rfl
    e_NoSteps := en 24 _ rfl
    e_NoHead := en 25 _ rfl
    e_NoRows := en 26 _ rfl
    i_BadProgram := by
      obtain ⟨fd, F⟩ := c.d.def_ 5 (d := dI "BadProgram" "BadProgram.__init__" iBadProgram) rfl
      exact ⟨fd, ok_BadProgram F (en 0 _ rfl) (He.noat_ok (c.d.fact 41 (f := .noat "BadProgram" "place") rfl)), FunD.bindsN (ps := ["self", "place"]) F fun _ _ _ _ _ _ us hl => match us, hl with | [_, _], _ => rfl⟩
    i_BadText := by
      obtain ⟨fd, F⟩ := c.d.def_ 6 (d := dI "BadText" "BadText.__init__" iBadText) rfl
      exact ⟨fd, ok_BadText F (en 1 _ rfl) (He.noat_ok (c.d.fact 42 (f := .noat "BadText" "line") rfl)), FunD.bindsN (ps := ["self", "line"]) F fun _ _ _ _ _ _ us hl => match us, hl with | [_, _], _ => rfl⟩
    i_TooMany := by
      obtain ⟨fd, F⟩ := c.d.def_ 7 (d := dI "TooMany" "TooMany.__init__" iTooMany) rfl
      exact ⟨fd, ok_TooMany F (en 2 _ rfl) (He.noat_ok (c.d.fact 43 (f := .noat "TooMany" "most") rfl)), FunD.bindsN (ps := ["self", "most"]) F fun _ _ _ _ _ _ us hl => match us, hl with | [_, _], _ => rfl⟩
    i_Unknown := by
      obtain ⟨fd, F⟩ := c.d.def_ 8 (d := dI "Unknown" "Unknown.__init__" iUnknown) rfl
      exact ⟨fd, ok_Unknown F (en 3 _ rfl) (He.noat_ok (c.d.fact 44 (f := .noat "Unknown" "name") rfl)), FunD.bindsN (ps := ["self", "name"]) F fun _ _ _ _ _ _ us hl => match us, hl with | [_, _], _ => rfl⟩
    i_BadBook := by
      obtain ⟨fd, F⟩ := c.d.def_ 9 (d := dI "BadBook" "BadBook.__init__" iBadBook) rfl
      exact ⟨fd, ok_BadBook F (en 4 _ rfl) (He.noat_ok (c.d.fact 45 (f := .noat "BadBook" "part") rfl)), FunD.bindsN (ps := ["self", "part"]) F fun _ _ _ _ _ _ us hl => match us, hl with | [_, _], _ => rfl⟩
    i_BadWorker := by
      obtain ⟨fd, F⟩ := c.d.def_ 10 (d := dI "BadWorker" "BadWorker.__init__" iBadWorker) rfl
      exact ⟨fd, ok_BadWorker F (en 5 _ rfl) (He.noat_ok (c.d.fact 46 (f := .noat "BadWorker" "number") rfl)), FunD.bindsN (ps := ["self", "number"]) F fun _ _ _ _ _ _ us hl => match us, hl with | [_, _], _ => rfl⟩
    i_NoPlace := by
      obtain ⟨fd, F⟩ := c.d.def_ 11 (d := dI "NoPlace" "NoPlace.__init__" iNoPlace) rfl
      exact ⟨fd, ok_NoPlace F, FunD.bindsN (ps := ["self"]) F fun _ _ _ _ _ _ us hl => match us, hl with | [_], _ => rfl⟩
    i_NoFunctions := by
      obtain ⟨fd, F⟩ := c.d.def_ 12 (d := dI "NoFunctions" "NoFunctions.__init__" iNoFunctions) rfl
      exact ⟨fd, ok_NoFunctions F, FunD.bindsN (ps := ["self"]) F fun _ _ _ _ _ _ us hl => match us, hl with | [_], _ => rfl⟩
    i_IsOver := by
      obtain ⟨fd, F⟩ := c.d.def_ 13 (d := dI "IsOver" "IsOver.__init__" iIsOver) rfl
      exact ⟨fd, ok_IsOver F, FunD.bindsN (ps := ["self"]) F fun _ _ _ _ _ _ us hl => match us, hl with | [_], _ => rfl⟩
    i_BadStep := by
      obtain ⟨fd, F⟩ := c.d.def_ 14 (d := dI "BadStep" "BadStep.__init__" iBadStep) rfl
      exact ⟨fd, ok_BadStep F, FunD.bindsN (ps := ["self"]) F fun _ _ _ _ _ _ us hl => match us, hl with | [_], _ => rfl⟩
    i_NoName := by
      obtain ⟨fd, F⟩ := c.d.def_ 15 (d := dI "NoName" "NoName.__init__" iNoName) rfl
      exact ⟨fd, ok_NoName F, FunD.bindsN (ps := ["self"]) F fun _ _ _ _ _ _ us hl => match us, hl with | [_], _ => rfl⟩
    i_NoNote := by
      obtain ⟨fd, F⟩ := c.d.def_ 16 (d := dI "NoNote" "NoNote.__init__" iNoNote) rfl
      exact ⟨fd, ok_NoNote F, FunD.bindsN (ps := ["self"]) F fun _ _ _ _ _ _ us hl => match us, hl with | [_], _ => rfl⟩
    i_NothingDone := by
      obtain ⟨fd, F⟩ := c.d.def_ 17 (d := dI "NothingDone" "NothingDone.__init__" iNothingDone) rfl
      exact ⟨fd, ok_NothingDone F, FunD.bindsN (ps := ["self"]) F fun _ _ _ _ _ _ us hl => match us, hl with | [_], _ => rfl⟩
    i_NoWay := by
      obtain ⟨fd, F⟩ := c.d.def_ 18 (d := dI "NoWay" "NoWay.__init__" iNoWay) rfl
      exact ⟨fd, ok_NoWay F, FunD.bindsN (ps := ["self"]) F fun _ _ _ _ _ _ us hl => match us, hl with | [_], _ => rfl⟩
    i_NoLot := by
      obtain ⟨fd, F⟩ := c.d.def_ 19 (d := dI "NoLot" "NoLot.__init__" iNoLot) rfl
      exact ⟨fd, ok_NoLot F, FunD.bindsN (ps := ["self"]) F fun _ _ _ _ _ _ us hl => match us, hl with | [_], _ => rfl⟩
    i_NoRing := by
      obtain ⟨fd, F⟩ := c.d.def_ 20 (d := dI "NoRing" "NoRing.__init__" iNoRing) rfl
      exact ⟨fd, ok_NoRing F, FunD.bindsN (ps := ["self"]) F fun _ _ _ _ _ _ us hl => match us, hl with | [_], _ => rfl⟩
    i_NoNumber := by
      obtain ⟨fd, F⟩ := c.d.def_ 21 (d := dI "NoNumber" "NoNumber.__init__" iNoNumber) rfl
      exact ⟨fd, ok_NoNumber F, FunD.bindsN (ps := ["self"]) F fun _ _ _ _ _ _ us hl => match us, hl with | [_], _ => rfl⟩
    i_Endless := by
      obtain ⟨fd, F⟩ := c.d.def_ 22 (d := dI "Endless" "Endless.__init__" iEndless) rfl
      exact ⟨fd, ok_Endless F, FunD.bindsN (ps := ["self"]) F fun _ _ _ _ _ _ us hl => match us, hl with | [_], _ => rfl⟩
    i_NoRow := by
      obtain ⟨fd, F⟩ := c.d.def_ 23 (d := dI "NoRow" "NoRow.__init__" iNoRow) rfl
      exact ⟨fd, ok_NoRow F, FunD.bindsN (ps := ["self"]) F fun _ _ _ _ _ _ us hl => match us, hl with | [_], _ => rfl⟩
    i_NoMarks := by
      obtain ⟨fd, F⟩ := c.d.def_ 24 (d := dI "NoMarks" "NoMarks.__init__" iNoMarks) rfl
      exact ⟨fd, ok_NoMarks F, FunD.bindsN (ps := ["self"]) F fun _ _ _ _ _ _ us hl => match us, hl with | [_], _ => rfl⟩
    i_NoRoom := by
      obtain ⟨fd, F⟩ := c.d.def_ 25 (d := dI "NoRoom" "NoRoom.__init__" iNoRoom) rfl
      exact ⟨fd, ok_NoRoom F, FunD.bindsN (ps := ["self"]) F fun _ _ _ _ _ _ us hl => match us, hl with | [_], _ => rfl⟩
    i_BadRow := by
      obtain ⟨fd, F⟩ := c.d.def_ 26 (d := dI "BadRow" "BadRow.__init__" iBadRow) rfl
      exact ⟨fd, ok_BadRow F, FunD.bindsN (ps := ["self"]) F fun _ _ _ _ _ _ us hl => match us, hl with | [_], _ => rfl⟩
    i_NoText := by
      obtain ⟨fd, F⟩ := c.d.def_ 27 (d := dI "NoText" "NoText.__init__" iNoText) rfl
      exact ⟨fd, ok_NoText F, FunD.bindsN (ps := ["self"]) F fun _ _ _ _ _ _ us hl => match us, hl with | [_], _ => rfl⟩
    i_Knotted := by
      obtain ⟨fd, F⟩ := c.d.def_ 28 (d := dI "Knotted" "Knotted.__init__" iKnotted) rfl
      exact ⟨fd, ok_Knotted F, FunD.bindsN (ps := ["self"]) F fun _ _ _ _ _ _ us hl => match us, hl with | [_], _ => rfl⟩
    i_NoSteps := by
      obtain ⟨fd, F⟩ := c.d.def_ 29 (d := dI "NoSteps" "NoSteps.__init__" iNoSteps) rfl
      exact ⟨fd, ok_NoSteps F, FunD.bindsN (ps := ["self"]) F fun _ _ _ _ _ _ us hl => match us, hl with | [_], _ => rfl⟩
    i_NoHead := by
      obtain ⟨fd, F⟩ := c.d.def_ 30 (d := dI "NoHead" "NoHead.__init__" iNoHead) rfl
      exact ⟨fd, ok_NoHead F, FunD.bindsN (ps := ["self"]) F fun _ _ _ _ _ _ us hl => match us, hl with | [_], _ => rfl⟩
    i_NoRows := by
      obtain ⟨fd, F⟩ := c.d.def_ 31 (d := dI "NoRows" "NoRows.__init__" iNoRows) rfl
      exact ⟨fd, ok_NoRows F, FunD.bindsN (ps := ["self"]) F fun _ _ _ _ _ _ us hl => match us, hl with | [_], _ => rfl⟩
    n_BadProgram := He.noat_ok (c.d.fact 41 (f := .noat "BadProgram" "place") rfl)
    n_BadText := He.noat_ok (c.d.fact 42 (f := .noat "BadText" "line") rfl)
    n_TooMany := He.noat_ok (c.d.fact 43 (f := .noat "TooMany" "most") rfl)
    n_Unknown := He.noat_ok (c.d.fact 44 (f := .noat "Unknown" "name") rfl)
    n_BadBook := He.noat_ok (c.d.fact 45 (f := .noat "BadBook" "part") rfl)
    n_BadWorker := He.noat_ok (c.d.fact 46 (f := .noat "BadWorker" "number") rfl)
    nd := of_decide_eq_true h3
    pc := h5
    pt := of_decide_eq_true h6
    hand := ⟨_, f0, ok_hand F0 bi, glo 0 _ rfl, F0.kp, FunD.bindsN (ps := ["_law_script"]) F0 fun _ _ _ _ _ _ us hl => match us, hl with | [_], _ => rfl⟩
    draw := draw
    any_ := ⟨_, f2, ok_any F2 bi draw, glo 2 _ rfl, F2.kp, FunD.bindsN (ps := ["_law_hand_here", "_law_things"]) F2 fun _ _ _ _ _ _ us hl => match us, hl with | [_, _], _ => rfl⟩
    deep := ⟨_, f3, ok_deep F3 bi draw, glo 3 _ rfl, F3.kp, FunD.bindsN (ps := ["_law_hand_here"]) F3 fun _ _ _ _ _ _ us hl => match us, hl with | [_], _ => rfl⟩ }, eall⟩
theorem facts {P : Program} {w : World} {K : PySem.W.Frag} {h : Heap} {mg : Str → Option Value} {f : Addr} (X : K.In h) (G : h.Ns mainGlobals mg) (hfa : mg ("law" : Str) = some (.ref f)) (c : SaysB fa fn ex K) :
    ∃ fd : FuncData, (∀ (s : Shared) (v : Value), BindsTo s fd ⟨[v], []⟩ [("_law_script", v)]) ∧ ∀ base : Heap, K.In base → base.Ns mainGlobals mg → FnOk P w K mg base CX0 3 f fd ["_law_script"] (spLaw K) := by
  obtain ⟨fd, F⟩ := c.d.def_ 4 (d := dD "law" sLaw) rfl
  have e := hfa.symm.trans (He.glo_ok X G (c.d.fact 4 (f := .glo "law") rfl))
  cases e
  have b := FunD.bindsA (ps := ["_law_script"]) F fun _ _ _ _ _ _ us hl => match us, hl with | [_], _ => rfl
  refine ⟨fd, fun s v => b s [v] rfl, fun base _ _ => ?_⟩
  obtain ⟨C, eall⟩ := ctx (P := P) (w := w) (base := base) X G c
  exact ok_law F C eall
end K00
open PySem PySem.W PySem.Calls PyProof.Rows
theorem PySem.Challenge.cw_putoffpiles_k00_errors_and_their_fields_holds : PySem.Challenge.rw_putoffpiles_k00_errors_and_their_fields.Holds := by
  w_on; o_law
  refine HandSHeadRun.head_any (r := OpenLaw.row PySem.Challenge.rw_putoffpiles_k00_errors_and_their_fields) (q := view (OpenLaw.row PySem.Challenge.rw_putoffpiles_k00_errors_and_their_fields).prog [34]) (H := K00.hk) (ob := K00.ob) (M := 12000) (loose := K00.loose) (d := HandSHeadRun.topDef (OpenLaw.row PySem.Challenge.rw_putoffpiles_k00_errors_and_their_fields).prog 34) (kwd := []) K00.ob_eq
    (by kernel_rfl) (fun s => by kernel_rfl) K00.run (by kernel_rfl) (by kernel_rfl) (by kernel_rfl) (by rfl) (by first | assumption | decide +kernel) (by decide +kernel) ⟨rfl, rfl, rfl, rfl, rfl, by decide +kernel⟩ ?hw ?hc
  case hw => w_witness2
  case hc =>
    refine L2.walk_ofE (l := PySem.Challenge.rw_putoffpiles_k00_errors_and_their_fields) (n := 63) (k := 3) (x := "_law_script") (CX := L2.CX0) rfl (by decide) (by kernel_rfl) ⟨rfl, by decide, by decide⟩ ?F (fun _ _ _ _ z => z)
    intro w mg fa h Y G hmg0
    obtain ⟨K, KX, c⟩ := Y
    have hmg : mg ("law" : PySem.Str) = some (.ref fa) := by
      have e : (HandSHeadRun.topDef (OpenLaw.row PySem.Challenge.rw_putoffpiles_k00_errors_and_their_fields).prog 34).name = ("law" : PySem.Str) := by kernel_rfl
      rw [← e]
      exact hmg0
    obtain ⟨fd, hb, hF⟩ := K00.facts (P := (PySem.Challenge.rw_putoffpiles_k00_errors_and_their_fields).prog) (w := w) KX G hmg c
    exact ⟨K, fd, K00.spLaw K, KX, hb, fun H a ns hl _ hS => ⟨a, ns, rfl, hS, hl, fun _ => rfl⟩, hF⟩
