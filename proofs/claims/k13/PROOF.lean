import PyProof.Rows.All
import Wide.All
import OpenK.AllK
import Wide.FinOn
import KE.KExcIs
import KE.KEqDict
import PyProof.NeKinds
import HandS.ForMost
import HandS.Exc
import HandS.ExcInit
import HandS.ExcField
import HandS.IsInst
import HandS.DeepEq
import HandS.ExcIs
import HandS.SetFor
import KE.KDictLaw
import KE.KSuper
import HandS.Nested
import HandS.Style
import HandS.Star
import KE.GoesMore
import HandS.Walk
import HandS.Set
import HandS.Strs
import HandS.SetBool
import HandS.DictComp
import HandS.More
import HandS.OwnEq
import HandS.Defaults
import HandS.HeadHook2
import PySem.Challenge.RW_putoffpiles_k13_whole_each_note_once_and
import HandS.RevTup
import PyProof.Rows.SortShellAny
import HandS.ExcValue
import HandS.TryOnly
import HandS.Iter
import HandS.Dict
import HandS.WordsDict
import HandS.NoneIn
import PyProof.AutoSeq1
import HandS.SortInts
import HandS.TupAny
import HandS.Zip
import HandS.NestedK
import KE.KTupSum
import HandS.TupMul
import HandS.Conv
import HandS.Head0
import HandS.Head1
import HandS.Head2
import HandS.HeadEnd
import HandS.HeadHook1
import HandS.HeadHook4
import HandS.HeadWalk
set_option Elab.async false
set_option linter.all false
set_option maxRecDepth 100000
set_option maxHeartbeats 2000000
/-! Rules of my own: an own exception as a value (made, its field read, isinstance), and != of a thing and itself. -/
namespace ZX
open PySem PySem.Spec PyProof.Rows L2

/-- C(e, ..) as a value, C's own __init__ keeping sp -/
def tMkV (C : Addr) (sp : Sp) (ta : TA) : TE := fun σ H Q => ta σ H fun vs H1 => vs.length ≤ 1000 ∧ ∀ a, H1 a = none → sp (.ref a :: vs) (upd H1 a (exo a C none)) (fun v H2 => v = .non ∧ Q (.ref a) H2) (fun _ _ _ => False)
section
variable {X : Cx} {o e : Expr} {es : List Expr} {to te : TE} {ta : TA} {f x : Str} {p p' p1 p2 pos : Pos} {C fI : Addr} {k : Nat} {fd : FuncData} {ps : List Str} {sp : Sp}
theorem run_oex {pins : List (Addr × Obj)} {s1 : Shared} {σ : L2.St} {H1 : Hp} {Q : VK} {us : List Value} {vs : List V} (T : OexC X.K C) (iC : PySem.W.findIn X.K (.ref C) "__init__" = some (some (.ref fI))) (tI : PySem.W.typeIn X.K (.ref fI) = some (.type "function"))
    (F1 : FnOk X.prog X.w X.K X.mg X.base CX0 k fI fd ps sp) (hr : Room (k + 1) X.A) (hb : Binds X.K fd ps []) (I1 : Inv X pins σ H1 s1) (r1 : Vals vs us) (hz : vs.length ≤ 1000)
    (q1 : ∀ a, H1 a = none → sp (.ref a :: vs) (upd H1 a (exo a C none)) (fun v H2 => v = .non ∧ Q (.ref a) H2) (fun _ _ _ => False)) :
    wpAny (model X.prog X.w) X.A (call (.ref C) us) (EP X pins σ Q) X.xe s1 := by
  obtain ⟨nm, q, N, bs, bm, sn, sub, ab, col, dd, k0, k1, k2, k3, k5, hC, hbm⟩ := T.cls
  obtain ⟨hp, g, dr, tk, os⟩ := s1
  have hsz : hp.objs.size ≤ hp.objs.size + 1 := Nat.le_succ _
  have hn : H1 (hp.objs.size + 1) = none := I1.hok.fresh hsz
  have hq := q1 (hp.objs.size + 1) hn
  have kk : ∀ b o, hp.get? b = some o → ((hp.push (PySem.W.kdv_tup us)).push (PySem.HandSPX.excO C hp.objs.size)).get? b = some o := fun b o e => Heap.get?_push_of_some _ (Heap.get?_push_of_some _ e)
  have hget : ((hp.push (PySem.W.kdv_tup us)).push (PySem.HandSPX.excO C hp.objs.size)).get? (hp.objs.size + 1) = some (PySem.HandSPX.excO C hp.objs.size) := by heap_get
  have I2 : Inv X pins σ (upd H1 (hp.objs.size + 1) (exo (hp.objs.size + 1) C none)) ⟨(hp.push (PySem.W.kdv_tup us)).push (PySem.HandSPX.excO C hp.objs.size), g, dr, tk, os⟩ :=
    I1.laid (t' := tk) (a := hp.objs.size + 1) (o := exo (hp.objs.size + 1) C none) (h' := (hp.push (PySem.W.kdv_tup us)).push (PySem.HandSPX.excO C hp.objs.size)) kk hsz (exo_ok hget)
  have hq2 : sp (.ref (hp.objs.size + 1) :: (vs ++ [])) (upd H1 (hp.objs.size + 1) (exo (hp.objs.size + 1) C none)) (fun v H2 => v = .non ∧ Q (.ref (hp.objs.size + 1)) H2) (fun _ _ _ => False) := by
    rw [List.append_nil]
    exact hq
  have r2 : Vals (V.ref (hp.objs.size + 1) :: (vs ++ [])) (Value.ref (hp.objs.size + 1) :: (us ++ [])) := .cons rfl (r1.append .nil)
  have hl : (Value.ref (hp.objs.size + 1) :: us ++ []).length = ps.length := by
    have e := r2.length
    rw [F1.len _ _ _ _ hq2] at e
    exact e.symm
  have hus : us.length ≤ sizeLine := by
    rw [← Paired.length r1, sizeLine_eq]
    omega
  have hbz := hb ⟨(hp.push (PySem.W.kdv_tup us)).push (PySem.HandSPX.excO C hp.objs.size), g, dr, tk, os⟩ (Value.ref (hp.objs.size + 1) :: us) I2.kIn hl
  rw [List.cons_append] at hbz
  refine wpAny_call (PySem.HandSPX.call_own F.excBase_ValueError (fun Y => PySem.HandSPX.refsVE_contains Y bm hbm) (I1.kIn _ _ hC) (PySem.W.looks_findIn I1.kIn iC) (fun self => PySem.W.bind_fn I1.kIn self tI) hus
    (codeAny_mono (F1.run _ X.stack _ _ ⟨Value.ref (hp.objs.size + 1) :: us, []⟩ (Value.ref (hp.objs.size + 1) :: (us ++ [])) _ _ (fun _ _ _ => False) (hr.make C us []) (I2.env0.make C us []) hbz r2 hq2) fun r s' hq' => ?_))
  cases r with
  | error er => exact False.elim hq'
  | ok fl =>
    cases fl with
    | ret u =>
      obtain ⟨v, H2, os2, bare2, un2, hok2, rv, ev, q2⟩ := hq'
      subst ev
      obtain ⟨h2, g2, d2, t2, os'⟩ := s'
      exact ⟨rv, .ref _, H2, I2.call' (ch := []) os2 un2 hok2 bare2 (fun b z => absurd z (by simp)), rfl, q2⟩
    | next => exact False.elim hq'
    | brk => exact False.elim hq'
    | cont => exact False.elim hq'
theorem pe_oex (T : OexC X.K C) (iC : PySem.W.findIn X.K (.ref C) "__init__" = some (some (.ref fI))) (tI : PySem.W.typeIn X.K (.ref fI) = some (.type "function"))
    (F1 : FnOk X.prog X.w X.K X.mg X.base CX0 k fI fd ps sp) (hr : Room (k + 1) X.A) (hb : Binds X.K fd ps []) (hg : Gl X x) (hm : X.mg x = some (.ref C)) (ha : PA X (e :: es) ta)
    (hdb : (x == ("__debug__" : Str)) = false := by decide) (he : starEach (e :: es) X.env = (false, eval e X.env) :: starEach es X.env := by rfl) (hpl : (backTo pos (starEach es X.env)).any (·.1) = false := by rfl) :
    PE X (.Call (.Name x p) (e :: es) [] pos) (tMkV C sp ta) := by
  refine ⟨fun pins s σ H Q I h => ?_⟩
  refine wpAny_Call_Name_kw (ld_glob I hg hm ?_ hdb)
  refine PySem.W.callWith_K (h₀ := X.base) I.ok.mod.kin T.kC (thn (ha.run pos pins s σ H _ I h) fun us s1 ⟨vs, H1, I1, r1, hz, q1⟩ => ⟨I1.kIn, ?_⟩) he hpl
  exact run_oex T iC tI F1 hr hb I1 r1 hz q1
theorem pe_oex0 (T : OexC X.K C) (iC : PySem.W.findIn X.K (.ref C) "__init__" = some (some (.ref fI))) (tI : PySem.W.typeIn X.K (.ref fI) = some (.type "function"))
    (F1 : FnOk X.prog X.w X.K X.mg X.base CX0 k fI fd ps sp) (hr : Room (k + 1) X.A) (hb : Binds X.K fd ps []) (hg : Gl X x) (hm : X.mg x = some (.ref C))
    (hdb : (x == ("__debug__" : Str)) = false := by decide) :
    PE X (.Call (.Name x p) [] [] pos) (tMkV C sp tNil) := by
  refine ⟨fun pins s σ H Q I h => ?_⟩
  refine wpAny_Call_Name_kw (ld_glob I hg hm ?_ hdb)
  exact PySem.W.callWith_K0 I.kIn T.kC (run_oex (us := []) (vs := []) T iC tI F1 hr hb I .nil h.1 h.2)

/-- e.f of an exception that stands as a value -/
def tXv (K : PySem.W.Frag) (f : Str) (te : TE) : TE := fun σ H Q => te σ H fun x H1 => ∃ (a C dd : Addr) (fs : List (Str × V)) (v : V), x = .ref a ∧ XfC K C ∧ PySem.W.findIn K (.ref C) f = some none ∧ H1 a = some (exo a C (some dd)) ∧ H1 dd = some (exd dd fs) ∧ fs.lookup f = some v ∧ Q v H1
theorem pe_xv (he : PE X e te) (hb : attributeBase e f X.env (eval e X.env) = eval e X.env := by rfl) : PE X (.Attribute e f pos) (tXv X.K f te) := by
  refine ⟨fun pins s σ H Q I h => ?_⟩
  refine attr_of hb (thn (he.run pins s σ H _ I h) fun u s1 hh => ?_)
  obtain ⟨x, H1, I1, rx, a, C, dd, fs, v, ex, T, hno, ea, ed, l, q⟩ := hh
  subst ex
  obtain rfl : u = Value.ref a := rx
  obtain ⟨t1, ha⟩ := exo_at I1.hok ea
  obtain ⟨mA, hns, hr⟩ := exd_at I1.hok ed
  obtain ⟨od, ho, hl⟩ := lookIn_ns hns
  obtain ⟨u, hu, ru⟩ := RelO.some_of (v := v) (o := mA f) (by rw [← l]; exact hr f)
  have J : PySem.W.InstAt s1.heap a _ C (some od) := ⟨ha, rfl, rfl, ho⟩
  exact HandSPX.exc_get I1.kIn J T.ga T.gg T.exC (PySem.W.findObj_own T.hdC hno rfl (by rw [hl, hu])) (handed_of ru) ⟨v, H1, I1.tok _, ru, q⟩

/-- isinstance(e, c), e an exception that stands as a value -/
def rIsV (K : PySem.W.Frag) : List V → Hp → VK → Prop := fun xs H Q => ∃ (a D : Addr) (c : V) (cv : Value) (b : Bool), xs = [.ref a, c] ∧ L2.ExcC K D ∧ ((H a = some (exo a D none)) ∨ ∃ dd fs, H a = some (exo a D (some dd)) ∧ H dd = some (exd dd fs)) ∧ ClsV c cv ∧ PySem.W.kitOne K (.ref D) cv = some b ∧ Q (.bl b) H
theorem call_isV : CallR X (.builtin "isinstance") (rIsV X.K) := by
  intro pins s σ H xs us Q I r h
  obtain ⟨a, D, c, cv, b, rfl, C, ha, hc, e, q⟩ := h
  obtain ⟨u1, u2, rfl, r1, r2⟩ := vals2 r
  have ec := hc.eq r2
  subst ec
  cases (show u1 = Value.ref a from r1)
  have hcl : (PySem.W.clsIn X.K D).isSome = true := by
    obtain ⟨cd, hc, _⟩ := PySem.W.any_some C.hd
    exact Option.isSome_iff_exists.mpr ⟨cd, hc⟩
  rcases ha with ha | ⟨dd, fs, ha, hd⟩
  · obtain ⟨t1, hg⟩ := exo_at I.hok ha
    have J : PySem.W.InstAt s.heap a _ D none := ⟨hg, rfl, rfl, trivial⟩
    exact PySem.W.kia_one (PySem.W.kitx_exc hcl C.hg C.hk C.hs C.ha C.hn C.ht C.hm) I.kIn J e (fun z => nomatch z) fun tk => ⟨.bl b, H, I.kept (t' := tk) fun _ _ z => z, rfl, q⟩
  · obtain ⟨t1, hg⟩ := exo_at I.hok ha
    obtain ⟨mA, hns, hr⟩ := exd_at I.hok hd
    obtain ⟨od, ho, hl⟩ := lookIn_ns hns
    have J : PySem.W.InstAt s.heap a _ D (some od) := ⟨hg, rfl, rfl, ho⟩
    exact PySem.W.kia_one (PySem.W.kitx_exc hcl C.hg C.hk C.hs C.ha C.hn C.ht C.hm) I.kIn J e (fun z => nomatch z) fun tk => ⟨.bl b, H, I.kept (t' := tk) fun _ _ z => z, rfl, q⟩

/-- x != x: False, x a number, a flag, None, a text, a list, a tuple, a dict -/
def Selfy (H : Hp) : V → Prop
  | .non => True
  | .bl _ => True
  | .int _ => True
  | .str _ => True
  | .ref a => (∃ xs, H a = some (.lst xs)) ∨ (∃ xs, H a = some (.tup xs)) ∨ ∃ kvs, H a = some (.dK kvs)
  | _ => False
def rNeS : R2 := fun x y H Q => x = y ∧ Selfy H x ∧ Q (.bl false) H
theorem keqHits_self {κ : Type} [DecidableEq κ] {A : Around} {s : Shared} {kb : List (κ × Value)} : ∀ l : List (κ × Value), (∀ p ∈ l, ∃ y, valueAt kb p.1 = some y ∧ y = p.2) → PySem.W.KeqHits A s kb l true
  | [], _ => .nil
  | (k, v) :: r, h => by
    obtain ⟨y, hy, e⟩ := h (k, v) List.mem_cons_self
    subst e
    show PySem.W.KeqHits A s kb ((k, y) :: r) (true && true)
    exact .hit hy (SeqAt.EqAt.same _) (keqHits_self r fun p hp => h p (List.mem_cons_of_mem _ hp))
theorem op_neS (hu : X.A.units < cLine) : OpR X (compareOp .NotEq) rNeS := by
  intro pins s σ H x y v u Q I rx ry h
  obtain ⟨rfl, hs, q⟩ := h
  cases x with
  | non => exact op_ne pins s σ H .non .non v u Q I rx ry ⟨rfl, by simpa using q⟩
  | bl b => exact op_ne pins s σ H (.bl b) (.bl b) v u Q I rx ry ⟨rfl, by simpa using q⟩
  | int i => exact op_ne pins s σ H (.int i) (.int i) v u Q I rx ry ⟨rfl, by simpa using q⟩
  | str x => exact op_ne pins s σ H (.str x) (.str x) v u Q I rx ry ⟨rfl, by simpa using q⟩
  | ref a =>
    cases (show v = Value.ref a from rx)
    cases (show u = Value.ref a from ry)
    rcases hs with ⟨xs, ha⟩ | ⟨xs, ha⟩ | ⟨kvs, ha⟩
    · obtain ⟨_, its, n, r, hg⟩ := (show ObjOk X.prog X.w H s.heap a (.lst xs) from I.hok a _ ha)
      have hl : s.heap.IsList a its.toArray := ⟨_, hg, rfl, n, rfl⟩
      refine SeqAt.RcNeAt.lists (e := fun _ => true) hl hl rfl hu (fun j h1 h2 => SeqAt.EqAt.same _) X.prog X.w _ _ ?_
      rw [show ((List.range its.toArray.size).all fun _ => true) = true from List.all_eq_true.mpr fun _ _ => rfl]
      exact ⟨.bl false, H, I, rfl, q⟩
    · obtain ⟨_, its, r, ob, h1, h2, h3⟩ := (show ObjOk X.prog X.w H s.heap a (.tup xs) from I.hok a _ ha)
      have hl : s.heap.IsTuple a its.toArray := ⟨ob, h1, h2, h3⟩
      refine SeqAt.RcNeAt.tuples (e := fun _ => true) hl hl hu (fun j h1 h2 => SeqAt.EqAt.same _) X.prog X.w _ _ ?_
      rw [show ((List.range (min its.toArray.size its.toArray.size)).all fun _ => true) = true from List.all_eq_true.mpr fun _ _ => rfl]
      simp only [beq_self_eq_true, Bool.and_true, Bool.not_true]
      exact ⟨.bl false, H, I, rfl, q⟩
    · obtain ⟨_, ya, va, ra, da⟩ := (show ObjOk X.prog X.w H s.heap a (.dK kvs) from I.hok a _ ha)
      refine PySem.W.keq_ne (knd := mixKind X.prog X.w) (r := true) ya ya da da hu (fun _ => keqHits_self va fun p hp => ?_) ?_
      · obtain ⟨_, _, _, _, _, _, _, _, nd⟩ := da
        exact ⟨p.2, PySem.valueAt_of_mem nd hp, rfl⟩
      · simp only [beq_self_eq_true, Bool.and_true, Bool.not_true]
        exact ⟨.bl false, H, I, rfl, q⟩
  | _ => exact hs.elim
end

/-! ### calls of own defs, cuts, counts -/
/-- a def that may be called by its name -/
structure Cal (P : Program) (w : World) (K : PySem.W.Frag) (mg : Str → Option Value) (base : Heap) (x : Str) (k : Nat) (ps : List Str) (sp : Sp) : Prop where
  ex : ∃ (f : Addr) (fd : FuncData), FnOk P w K mg base CX0 k f fd ps sp ∧ mg x = some (.ref f) ∧ PySem.W.keepIn K (.ref f) = true ∧ Binds K fd ps []
section
variable {X : Cx} {e : Expr} {es : List Expr} {t : TA} {x : Str} {p pos : Pos} {k : Nat} {ps : List Str} {sp : Sp}
theorem pcal (C : Cal X.prog X.w X.K X.mg X.base x k ps sp) (hr : Room k X.A) (hg : Gl X x) (ha : PA X (e :: es) t)
    (hdb : (x == ("__debug__" : Str)) = false := by decide) (he : starEach (e :: es) X.env = (false, eval e X.env) :: starEach es X.env := by rfl) (hpl : (backTo pos (starEach es X.env)).any (·.1) = false := by rfl) :
    PE X (.Call (.Name x p) (e :: es) [] pos) (tCall sp [] E0 t) := by
  obtain ⟨f, fd, G, g, kp, b⟩ := C.ex
  exact pe_call G hr hg g kp b .nil pass0 ha hdb he hpl
def tCut (t u : TS) : TS := fun D σ H => ∃ Mid : L2.St → Hp → Prop, t { D with nx := Mid } σ H ∧ ∀ σ' H', Mid σ' H' → u D σ' H'
theorem pss_cut {st : Stmt} {rest : List Stmt} {t u : TS} (h1 : PS X st t) (h2 : PSs X rest u) : PSs X (st :: rest) (tCut t u) := by
  refine ⟨fun pins s σ H D I h => ?_⟩
  obtain ⟨Mid, hm, hu⟩ := h
  refine wpAny_execs_cons (thn (h1.run pins s σ H { D with nx := Mid } I hm) fun f s1 q => ?_)
  cases f with
  | next =>
    obtain ⟨σ', H', I', q⟩ := q
    exact h2.run pins s1 σ' H' D I' (hu σ' H' q)
  | ret v => exact q
  | brk => exact q
  | cont => exact q
/-- % and // by a positive number that is not written -/
theorem op_modP : OpR X (binaryOp .Mod) (rI (fun _ j => 0 < j) fun i j => .int (i % j)) := op_mod
theorem op_fdivP : OpR X (binaryOp .FloorDiv) (rI CDiv fun i j => .int (i / j)) := op_fdiv
end
/-- only the object at p may have changed -/
def Ch (p : Addr) (H H' : Hp) : Prop := ∀ b, b ≠ p → H' b = H b
theorem Ch.refl (p : Addr) (H : Hp) : Ch p H H := fun _ _ => rfl
theorem Ch.upd {p : Addr} {H H' : Hp} (c : Ch p H H') (o : HO) : Ch p H (upd H' p o) := fun b hb => by
  rw [upd_ne hb]
  exact c b hb
theorem Ch.trans {p : Addr} {H H1 H2 : Hp} (a : Ch p H H1) (b : Ch p H1 H2) : Ch p H H2 := fun c hc => (b c hc).trans (a c hc)
/-- all that was tracked but p stands -/
def Kp (p : Addr) (H H' : Hp) : Prop := ∀ b o, b ≠ p → H b = some o → H' b = some o
theorem Ch.kp {p : Addr} {H H' : Hp} (c : Ch p H H') : Kp p H H' := fun b o hb e => by
  rw [c b hb]
  exact e
theorem Kp.refl (p : Addr) (H : Hp) : Kp p H H := fun _ _ _ e => e
theorem Kp.trans {p : Addr} {H H1 H2 : Hp} (a : Kp p H H1) (b : Kp p H1 H2) : Kp p H H2 := fun c o hc e => b c o hc (a c o hc e)
theorem Kp.new {p a : Addr} {H H' : Hp} {o : HO} (k : Kp p H H') (n : H' a = none) : Kp p H (upd H' a o) := fun b u hb e => by
  have z := k b u hb e
  rw [upd_ne (ne_of_none z n)]
  exact z
theorem Kp.seq {K : PySem.W.Frag} {p : Addr} {H H' : Hp} {a : Addr} {xs : List V} (e : Kp p H H') (ne : a ≠ p) (h : SqL K H a xs) : SqL K H' a xs := by
  rcases h with (h | ⟨o, h⟩) | h
  · exact .inl (.inl (e _ _ ne h))
  · exact .inl (.inr ⟨o, e _ _ ne h⟩)
  · exact .inr h
/-- xs.count(y): flat things -/
def rCntV (K : PySem.W.Frag) : V → List V → Hp → VK → Prop := fun x xs H Q => ∃ (p : Addr) (ys : List V) (y : V), x = .ref p ∧ xs = [y] ∧ SqL K H p ys ∧ flatV y = true ∧ ys.all flatV = true ∧ Q (.int (ys.countP fun z => eqV z y)) H
theorem countP_eqU {y : V} : ∀ {ys : List V} {us : List Value}, Vals ys us → ys.all flatV = true → us.countP (eqU y) = ys.countP fun z => eqV z y
  | _, _, .nil, _ => rfl
  | z :: ys, u :: us, .cons r t, h => by
    have h' : (flatV z && ys.all flatV) = true := h
    obtain ⟨h1, h2⟩ := Bool.and_eq_true_iff.mp h'
    rw [List.countP_cons, List.countP_cons, countP_eqU t h2, eqU_of r h1]
theorem mt_lcountV {X : Cx} : MtR X "list.count" (rCntV X.K) := by
  intro pins s σ H x xs v us Q I rx rxs h
  obtain ⟨p, ys, y, rfl, rfl, hs, fy, fys, q⟩ := h
  cases rx
  obtain ⟨u, rfl, ru⟩ := rxs.one
  obtain ⟨its, rv, ⟨⟨cls, dd, data, sl⟩, n, ho, hc, hdn, hd⟩, hlen⟩ := I.list hs
  simp only at hc hd
  subst hc hd
  refine call_meets PySem.F.slot_list_count ⟨_, ho, rfl⟩ PySem.F.entry_list_count (PySem.F.args_list_count_2 _ _)
    (SeqAt.list_countAt p its.toArray n dd sl u (eqU y)) ⟨ho, fun z hz => mem_eqAt ru fy rv fys z (by simpa using hz), ?_⟩
  have ec : its.toArray.toList.countP (eqU y) = ys.countP fun z => eqV z y := countP_eqU rv fys
  refine ⟨.int (ys.countP fun z => eqV z y), H, I.tok _, ⟨s.toks, ?_⟩, q⟩
  show Value.int ((its.toArray.toList.countP (eqU y) : Nat) : Int) s.toks = _
  rw [ec]
end ZX
set_option Elab.async false
set_option linter.all false
set_option maxRecDepth 100000
set_option maxHeartbeats 4000000
/-! Rules of my own: super().m(e, ..) as a statement of a method. -/
namespace ZR
open PySem PySem.Spec PyProof.Rows L2
/-- statements, run as the code c -/
structure PSsC (X : Cx) (c : Code) (ss : List Stmt) (t : TS) : Prop where
  run : ∀ (pins : List (Addr × Obj)) (s : Shared) (σ : L2.St) (H : Hp) (D : Ends), Inv X pins σ H s → t D σ H → _root_.PySem.wpAt (model X.prog X.w) X.A c (execs ss X.env) (SP X pins D) X.xe s
theorem psc_of {X : Cx} {c : Code} {ss : List Stmt} {t : TS} (h : PSs X ss t) : PSsC X c ss t := ⟨fun pins s σ H D I q => _root_.PySem.wpAt_of_wpAny (h.run pins s σ H D I q)⟩
theorem psc_cons {X : Cx} {c : Code} {st : Stmt} {rest : List Stmt} {t u : TS} (h1 : PS X st t) (h2 : PSsC X c rest u) : PSsC X c (st :: rest) (tSeq t u) := by
  refine ⟨fun pins s σ H D I h => ?_⟩
  refine PySem.ks_wpAt_execs_cons (_root_.PySem.wpAt_of_wpAny (thn (h1.run pins s σ H { D with nx := u D } I h) fun f s1 q => ?_))
  cases f with
  | next =>
    obtain ⟨σ', H', I', q⟩ := q
    exact h2.run pins s1 σ' H' D I' q
  | ret v => exact q
  | brk => exact q
  | cont => exact q
def tCutC (t : TS) (u : TS) : TS := fun D σ H => ∃ Mid : L2.St → Hp → Prop, t { D with nx := Mid } σ H ∧ ∀ σ' H', Mid σ' H' → u D σ' H'
theorem psc_cut {X : Cx} {c : Code} {st : Stmt} {rest : List Stmt} {t u : TS} (h1 : PS X st t) (h2 : PSsC X c rest u) : PSsC X c (st :: rest) (tCutC t u) := by
  refine ⟨fun pins s σ H D I h => ?_⟩
  obtain ⟨Mid, h, hm⟩ := h
  refine PySem.ks_wpAt_execs_cons (_root_.PySem.wpAt_of_wpAny (thn (h1.run pins s σ H { D with nx := Mid } I h) fun f s1 q => ?_))
  cases f with
  | next =>
    obtain ⟨σ', H', I', q⟩ := q
    exact h2.run pins s1 σ' H' D I' (hm _ _ q)
  | ret v => exact q
  | brk => exact q
  | cont => exact q
/-- super().m(e, ..), self in the first slot, the class in the slot j -/
def tSup (j : Nat) (C D : Addr) (sp : Sp) (E : XK) (t : TA) : TS := fun En σ H => ∃ x dx fs, σ[0]? = some (some (.ref x)) ∧ σ[j]? = some (some (.ref D)) ∧ H x = some (.ins C dx fs) ∧ t σ H fun vs H1 => sp (.ref x :: vs) H1 (fun _ H2 => En.nx σ H2) E
/-- what a method that says super() stands on: its code's file, its class, the next class's method -/
structure SupC (P : Program) (K : PySem.W.Frag) (f cda C D f2 : Addr) (m : Str) : Prop where
  fn : ∃ oc od fd osl ar, K.lookup f = some ⟨oc, od, .func fd, osl⟩ ∧ (fd.params.posonlyargs ++ fd.params.args).head? = some ar ∧ ar.arg = ("self" : Str)
  cd : ∃ ccl cdd vs ccs file tf, K.lookup cda = some ⟨ccl, cdd, .fields vs, ccs⟩ ∧ vs[2]? = some (.str file tf) ∧ ((P.main.file : Str) == file) = true
  top : (P.main.scope.names.lookup ("super" : Str)).isSome = false
  cls : ∃ cdD, PySem.W.clsIn K D = some cdD
  clC : ∃ cd, PySem.W.clsIn K C = some cd
  sub : PySem.W.mroIn K C (.ref D) = some true
  any : PySem.W.nsIn K cStatics "thirdparty.any" = some none
  next : PySem.W.ks_superIn K C D m = some (some (.ref f2))
  ty : PySem.W.typeIn K (.ref f2) = some (.type "function")
  fnI : PySem.W.fnIn K f2 = true
theorem boot_super : bootBuiltins "super" = some (.type "super") := by decide +kernel
section
variable {X : Cx} {CX : CXT} {k j : Nat} {f f2 cda C D : Addr} {fd2 : FuncData} {ps2 : List Str} {sp : Sp} {E : XK} {m : Str} {body : List Stmt} {p0 p1 apos pos spos : Pos} {e : Expr} {es : List Expr} {t : TA} {rest : List Stmt} {u : TS} {pl : Sem Bool}
theorem psc_super (S : SupC X.prog X.K f cda C D f2 m) (hfu : X.env.func = some f) (hcode : X.env.code = .ref cda) (hN0 : X.N[0]? = some ("self" : Str)) (hv0 : X.env.scope.names.lookup ("self" : Str) = some .local) (hNj : X.N[j]? = some ("__class__" : Str))
    (hkc : X.env.scope.names.lookup ("__class__" : Str) = some .free) (hks : X.env.scope.names.lookup ("super" : Str) = some .globalImplicit) (hms : X.mg "super" = none)
    (F : FnOk X.prog X.w X.K X.mg X.base CX k f2 fd2 ps2 sp) (hr : Room k X.A) (hb : Binds X.K fd2 ps2 []) (hx : Passes CX X E) (ha : PA X (e :: es) t) (h2 : PSsC X (.func body X.env) rest u) (hn : (m == ("__class__" : Str)) = false := by decide)
    (he : eval (.Call (.Attribute (.Call (.Name "super" p0) [] [] p1) m apos) (e :: es) [] pos) X.env = (do
      let ov ← attributeBase (.Call (.Name "super" p0) [] [] p1) m X.env (eval (.Call (.Name "super" p0) [] [] p1) X.env)
      standAt apos.atName
      let (f, first) ← holding [ov] (getMethod ov m pl)
      callWith pos f first (backTo pos (starEach (e :: es) X.env)) []) := by rfl)
    (hi : interactive X.env = false := by rfl) (hs : swapsWith (.Call (.Attribute (.Call (.Name "super" p0) [] [] p1) m apos) (e :: es) [] pos) none spos.line X.env = pure false := by rfl)
    (hst : starEach (e :: es) X.env = (false, eval e X.env) :: starEach es X.env := by rfl) (hpl : (backTo pos (starEach es X.env)).any (·.1) = false := by rfl) :
    PSsC X (.func body X.env) (.Expr (.Call (.Attribute (.Call (.Name "super" p0) [] [] p1) m apos) (e :: es) [] pos) spos :: rest) (tSeq (tSup j C D sp E t) u) := by
  refine ⟨fun pins s σ H En I h => ?_⟩
  obtain ⟨x, dx, fs, h0, hj, hx0, ht⟩ := h
  obtain ⟨oc, od, fd, osl, ar, kf, hp, har⟩ := S.fn
  obtain ⟨ccl, cdd, vs, ccs, file, tf, kcd, hvs, hfile⟩ := S.cd
  obtain ⟨cdD, hD⟩ := S.cls
  obtain ⟨cdC, hC⟩ := S.clC
  have KX := I.kIn
  obtain ⟨mm, hns, hloc⟩ := id I.loc
  obtain ⟨u0, r0, l0⟩ := hloc 0 _ _ hN0 h0 (.inl hv0)
  obtain rfl : u0 = Value.ref x := r0
  obtain ⟨uj, rj, lj⟩ := hloc j _ _ hNj hj (.inr (.inr hkc))
  obtain rfl : uj = Value.ref D := rj
  have e0 : mm ("self" : Str) = some (.ref x) := by
    rcases l0 with ⟨_, z⟩ | ⟨z | z, _⟩
    · exact z
    · have z : X.env.scope.names.lookup ("self" : Str) = some .cell := z
      rw [hv0] at z
      cases z
    · have z : X.env.scope.names.lookup ("self" : Str) = some .free := z
      rw [hv0] at z
      cases z
  obtain ⟨cc, hcc, hcell⟩ : ∃ c, X.env.cells.lookup ("__class__" : Str) = some c ∧ s.heap.IsCell c (some (.ref D)) := by
    rcases lj with ⟨z, _⟩ | ⟨_, c, z1, z2⟩
    · have z : X.env.scope.names.lookup ("__class__" : Str) = some .local := z
      rw [hkc] at z
      cases z
    · exact ⟨c, z1, z2⟩
  obtain ⟨oD, hD1, hD2⟩ : ∃ oD, s.heap.get? D = some oD ∧ oD.data = .cls cdD := by
    unfold PySem.W.clsIn at hD
    split at hD
    · rename_i c d cd' sl ho
      cases hD
      exact ⟨_, KX _ _ ho, rfl⟩
    · cases hD
  obtain ⟨_, _, _, hxo, _⟩ := id (I.hok x _ hx0)
  have hnC : x ≠ C := fun z => by
    unfold PySem.W.clsIn at hC
    split at hC
    · rename_i c d cd' sl ho
      have q := KX _ _ ho
      rw [← z, hxo] at q
      cases q
    · cases hC
  have hsub := PySem.W.looks_mroIn (M := model X.prog X.w) KX S.sub
  refine PySem.ks_wpAt_execs_cons (PySem.ks_wpAt_Expr_any (PySem.ks_wpAt_MethodCall (pl := pl) ?_ he) hi hs)
  refine PySem.ks_wpAt_super_base (env := X.env) hks hkc hn hfu (KX _ _ kf) rfl hp hcode (KX _ _ kcd) rfl hvs hfile S.top ?_
  obtain ⟨mb, hmb1, hmb2⟩ := I.mod.blt
  refine PySem.W.ks_loadName_global I.ok.kind hks (Calls.loadGlobal_builtin (by rw [I.ok.glob]; exact I.mod.glob.keeps I.bk) hms (by rw [I.ok.blt]; exact hmb1.keeps I.bk) ((hmb2 "super" (by decide)).trans boot_super) ⟨rfl, ?_⟩)
  refine wpAny_loadName_free I.ok.kind hkc hcc hcell ?_
  rw [har]
  refine wpAny_loadName_local I.ok.kind hv0 hns e0 ?_
  obtain ⟨hh, g, d, tk, os⟩ := s
  refine PySem.ks_wpAny_isType_cls hD1 hD2 ⟨rfl, ?_⟩
  refine PySem.ks_wpAny_call_super hD1 hD2 hxo rfl (fun c z => by cases z) hsub fun h' hso kp => ?_
  have I2 : Inv X pins σ H ⟨h', g, d, tk, os⟩ := I.kept (t' := tk) kp
  obtain ⟨of, hof, hofc⟩ : ∃ of, h'.get? f2 = some of ∧ of.cls = .type "function" := by
    have ht' : (X.K.lookup f2).map (·.cls) = some (.type "function") := S.ty
    cases z : X.K.lookup f2 with
    | none => rw [z] at ht'; cases ht'
    | some of => rw [z] at ht'; exact ⟨of, I2.kIn _ _ z, Option.some.inj ht'⟩
  have hsup := S.next
  unfold PySem.W.ks_superIn at hsup
  rw [hC] at hsup
  refine PySem.ks_wpAny_getMethod_super hso (PySem.W.looks_opaque I2.kIn S.any) (l₀ := cdC.mro) (fun A Q E s k q => wpAny_bind ((PySem.W.looks_clsIn I2.kIn hC) A _ E s k (wpAny_pure q))) rfl I2.kIn hsup hof hofc hnC hn ?_
  have I3 : Inv X pins σ H ⟨h'.push { cls := .type "method", data := .fields #[.ref f2, .ref x] }, g, d, tk + 1, os⟩ := I2.kept (t' := tk + 1) fun b o e => Heap.get?_push_of_some _ e
  have hq : (h'.push { cls := .type "method", data := .fields #[.ref f2, .ref x] }).get? h'.objs.size = some (PySem.W.methodObj (.ref f2) (.ref x)) := Heap.get?_push_size _ rfl
  have I4 : Inv X ((h'.objs.size, PySem.W.methodObj (.ref f2) (.ref x)) :: pins) σ H ⟨h'.push { cls := .type "method", data := .fields #[.ref f2, .ref x] }, g, d, tk + 1, os⟩ := I3.pins_of fun p hp => by
    rcases List.mem_cons.mp hp with rfl | hp
    · refine ⟨hq, I2.hok.fresh (Nat.le_refl _), fun z => ?_, I2.nofs (Nat.le_refl _), fun v z => by cases z⟩
      have := I2.lt
      have z : h'.objs.size = X.env.locals := z
      rw [← z] at this
      exact absurd this (Nat.lt_irrefl _)
    · exact I3.pin p (List.mem_append_right _ hp)
  refine wpAny_mono (Q := EP X pins σ fun _ H2 => u En σ H2) (E := X.xe) ?_ (fun v s' q => ?_) fun _ _ z => z
  · show wpAny _ _ (callWith pos (.ref h'.objs.size) [] (backTo pos (starEach (e :: es) X.env)) []) _ _ _
    rw [hst]
    refine PySem.W.callWith_of (P := PySem.W.MethP X.K h'.objs.size f2 (.ref x)) (by show ((false || (backTo pos (starEach es X.env)).any (·.1)) || false) = false; rw [hpl]; rfl) (PySem.W.keeps_M S.fnI) (PySem.Calls.evalArgs_plain ?_)
    have ha' := ha.run pos _ _ σ H _ I4 ht
    rw [hst] at ha'
    refine thn ha' fun us s5 ⟨vs5, H5, I5, r5, q5⟩ => ⟨⟨(I5.pin _ (List.mem_append_right _ List.mem_cons_self)).1, I5.kIn⟩, ?_⟩
    have hq5 := (I5.pin (h'.objs.size, PySem.W.methodObj (.ref f2) (.ref x)) (List.mem_append_right _ List.mem_cons_self)).1
    have I6 : Inv X pins σ H5 s5 := I5.pins_of fun p hp => I5.pin p (List.mem_append_right _ (List.mem_cons_of_mem _ hp))
    refine wpAny_call (PySem.ks_codeAny_call_bound hq5 ?_)
    have r6 : Vals (.ref x :: vs5) (.ref x :: us) := .cons rfl r5
    have hl : ((Value.ref x :: us) ++ []).length = ps2.length := by
      rw [List.append_nil, ← r6.length]
      exact F.len _ _ _ _ q5
    have hbb := hb s5 (Value.ref x :: us) I6.kIn hl
    rw [List.append_nil] at hbb
    refine codeAny_mono (F.run X.A X.stack s5 H5 ⟨Value.ref x :: us, []⟩ (Value.ref x :: us) (.ref x :: vs5) _ E hr I6.env0 hbb r6 q5) fun r s7 hq7 => ?_
    match r, hq7 with
    | .ok (.ret _), z => exact I6.after z
    | .error e7, z => exact hx pins σ H5 s5 e7 s7 I6 z
  · obtain ⟨v2, H2, I7, r7, q7⟩ := q
    exact h2.run pins s' σ H2 En I7 q7
end
/-! ### a method whose closure has its class's cell -/
open NdefX (NScope CellsAt startF envF NF ncx inv_startN)
/-- such a method of the text, as it stands behind the top -/
structure FunC (K : PySem.W.Frag) (F : NF) (D f : Addr) (fd : FuncData) : Prop where
  ex : ∃ (oc : Value) (od : Option Addr) (kV doc pm : Value) (an : Option Addr) (ct : Value) (osl : Array (Option Value)) (cc : Addr) (cl : Value) (cld : Option Addr) (csl : Array (Option Value)),
    F.cl = [(("__class__" : Str), cc)] ∧ fd = PySem.W.fnX F.name F.qual F.params F.body F.scope F.cl .none kV doc pm an (.ref F.c) ct ∧ K.lookup f = some ⟨oc, od, .func fd, osl⟩ ∧ PySem.W.codeIn K (.ref F.c) F.qual = true ∧ K.lookup cc = some ⟨cl, cld, .cell (some (.ref D)), csl⟩
  kp : PySem.W.keepIn K (.ref f) = true
theorem look1 {x y : Str} {c c' : Addr} (h : [(x, c)].lookup y = some c') : y = x ∧ c' = c := by
  rw [List.lookup] at h
  split at h
  · rename_i q
    exact ⟨eq_of_beq q, (Option.some.inj h).symm⟩
  · cases h
section
variable {CX : CXT} {P : Program} {w : World} {K : PySem.W.Frag} {mg : Str → Option Value} {base : Heap} {N ps : List Str} {F : NF} {D f : Addr} {fd : FuncData} {k : Nat} {sp : Sp}
theorem FunC.ok (FC : FunC K F D f fd) (S : NScope N ps [("__class__" : Str)] F.scope) (len : ∀ vs H Q E, sp vs H Q E → vs.length = ps.length)
    (hbody : ∀ (A : Around) (outer : List Env) (s : Shared) (H : Hp) (vs : List V) (Q : VK) (E : XK), Room k (A.deeper (envF F f s.heap.objs.size)) → sp vs H Q E →
      ∃ t, PSsC (ncx CX P w K mg base N F f A outer s H E) (.func F.body (envF F f s.heap.objs.size)) F.body t ∧ t { nx := fun _ H' => Q .non H', rt := Q } (startF N vs [some (.ref D)]) H) :
    FnOk P w K mg base CX (k + 1) f fd ps sp := by
  obtain ⟨oc, od, kV, doc, pm, an, ct, osl, cc, cl, cld, csl, hcl, rfl, lk, hcd, kc⟩ := FC.ex
  refine ⟨len, fun A outer s H args us vs Q E hr e0 hb r hsp => ?_⟩
  have hl := len _ _ _ _ hsp
  have KX : K.In s.heap := e0.mod.kin.keeps fun b o e => (e0.bs b o e).1
  have lim : s.heap.NoLimit := e0.mod.nolimit.keeps fun b o e => (e0.bs b o e).1
  have C : CellsAt F.cl [("__class__" : Str)] [some (.ref D)] s.heap H := by
    have hcc := e0.bs cc _ (e0.mod.kin cc _ kc)
    rw [hcl]
    refine ⟨rfl, fun y c e => ?_, fun x y c e1 e2 => ?_, fun i y e => ?_⟩
    · obtain ⟨_, rfl⟩ := look1 e
      exact ⟨hcc.2, _, _, hcc.1, rfl⟩
    · rw [(look1 e1).1, (look1 e2).1]
    · cases i with
      | zero =>
        cases e
        refine ⟨cc, rfl, fun v ev => ?_⟩
        cases ev
        exact ⟨.ref D, rfl, _, hcc.1, rfl⟩
      | succ i => simp at e
  refine codeAny_call_function hr.depth (KX _ _ lk) rfl S.co S.gen rfl (PySem.W.codeRec_of KX hcd) (hb _ _ _ _ ?_)
  refine wpAny_newFunctionEnv S.nocell (fun ⟨n, _⟩ hy => S.par n (List.of_mem_zip hy).1) (fun h₁ hns hsb => ⟨lim.fresh _ hsb, ?_⟩) S.kind
  show codeAny _ _ (.func F.body (envF F f s.heap.objs.size)) _ _
  refine PySem.ks_codeAny_funcAt ?_
  have kp : ∀ b o, s.heap.get? b = some o → h₁.get? b = some o := fun b o e => hsb.extBut b o (Nat.ne_of_lt (Heap.lt_size e)) (Heap.get?_push_of_some _ e)
  obtain ⟨t, ht, hq⟩ := hbody A outer s H vs Q E (hr.deeper _) hsp
  have I : Inv (ncx CX P w K mg base N F f A outer s H E) [] (startF N vs [some (.ref D)]) H { s with heap := h₁, toks := s.toks + (ps.zip us).length } := inv_startN S hr.hd e0 hl r C hns kp
  refine _root_.PySem.wpAt_mono (ht.run [] _ (startF N vs [some (.ref D)]) H _ I hq) (fun fl s' hs => ?_) fun e s' hs => hs
  match fl, hs with
  | .ret _, ⟨v, _, H2, J, rv, q⟩ => exact ⟨v, H2, J.os, J.bare, J.base, J.hok, rv, q⟩
  | .next, ⟨_, H2, J, q⟩ => exact ⟨.non, H2, J.os, J.bare, J.base, J.hok, rfl, q⟩
  | .brk, ⟨_, _, _, q⟩ => exact q.elim
  | .cont, ⟨_, _, _, q⟩ => exact q.elim
end
end ZR
set_option Elab.async false
set_option linter.all false
set_option maxRecDepth 100000
set_option maxHeartbeats 2000000
/-! Rules of my own: t[::-1] of a tuple. -/
namespace ZR
open PySem PySem.Spec PyProof.Rows L2
section
variable {prog : Program} {w : World} {A : Around} {E : Value → Shared → Prop} {s : Shared}
theorem places_rev (n : Nat) : Builtin.Slice.sliceAdjust none none (-1) (n : Int) = ((n : Int) - 1, -1) ∧ Builtin.Slice.slicePlaces ((n : Int) - 1) (-1) (-1) = n := by
  constructor
  · unfold Builtin.Slice.sliceAdjust
    simp
  · unfold Builtin.Slice.slicePlaces
    simp
    omega
theorem fm_congr {α β : Type} {f g : α → Option β} : ∀ {l : List α}, (∀ x ∈ l, f x = g x) → l.filterMap f = l.filterMap g
  | [], _ => rfl
  | x :: l, h => by
    rw [List.filterMap_cons, List.filterMap_cons, h x List.mem_cons_self, fm_congr fun y hy => h y (List.mem_cons_of_mem _ hy)]
theorem pick_take {α : Type} (r : List α) : ∀ k, (List.range k).filterMap (fun m => r[m]?) = r.take k
  | 0 => rfl
  | k + 1 => by
    rw [List.range_succ, List.filterMap_append, pick_take r k, List.take_add_one]
    cases h : r[k]? <;> simp [h]
theorem pick_rev (xs : Array Value) : ((List.range xs.size).filterMap fun (m : Nat) => xs[(((xs.size : Int) - 1) + (m : Int) * (-1)).toNat]?) = xs.toList.reverse := by
  have e : (List.range xs.size).filterMap (fun (m : Nat) => xs[(((xs.size : Int) - 1) + (m : Int) * (-1)).toNat]?) = (List.range xs.size).filterMap (fun m => xs.toList.reverse[m]?) := by
    refine fm_congr fun m hm => ?_
    have hm' : m < xs.size := List.mem_range.mp hm
    have h1 : (((xs.size : Int) - 1) + (m : Int) * (-1)).toNat = xs.size - 1 - m := by omega
    rw [h1, List.getElem?_reverse (by simpa using hm'), Array.getElem?_toList, Array.length_toList]
  rw [e, pick_take]
  exact List.take_of_length_le (by simp)
theorem applied_rev {sl : Addr} {n : Nat} {u : Tok} {Q : Int × Int × Nat → Shared → Prop} (hs : s.heap.IsSliceOf sl .none .none (.int (-1) u)) (h : Q ((n : Int) - 1, -1, n) s) :
    wpAny (model prog w) A (Builtin.Slice.sliceApplied (.ref sl) (pure (n : Int))) Q E s := by
  obtain ⟨os, hos, hcs, hds⟩ := id hs
  unfold Builtin.Slice.sliceApplied Builtin.Slice.sliceFields
  refine wpAny_bind (wpAny_bind (wpAny_field hos hds (x := .none) rfl (wpAny_bind (wpAny_field hos hds (x := .none) rfl (wpAny_bind (wpAny_field hos hds (x := .int (-1) u) rfl (wpAny_pure ?_)))))))
  refine wpAny_bind (slicePart_int ?_)
  show wpAny _ _ (if ((-1 : Int) == 0) = true then _ else _) _ _ s
  rw [if_neg (by decide)]
  refine wpAny_bind (slicePart_none (wpAny_bind (slicePart_none (wpAny_bind (wpAny_pure ?_)))))
  show wpAny _ _ (match Builtin.Slice.sliceAdjust none none (-1) (n : Int) with | (lo, hi) => pure (lo, (-1 : Int), Builtin.Slice.slicePlaces lo hi (-1))) _ _ s
  rw [(places_rev n).1]
  show wpAny _ _ (pure ((n : Int) - 1, (-1 : Int), Builtin.Slice.slicePlaces ((n : Int) - 1) (-1) (-1))) _ _ s
  rw [(places_rev n).2]
  exact wpAny_pure h
theorem getItem_tuple_rev {t sl : Addr} {items : Array Value} {u : Tok} {Q : Value → Shared → Prop} (ht : IsTup s.heap t items) (hs : s.heap.IsSliceOf sl .none .none (.int (-1) u))
    (h : Q (.ref s.heap.objs.size) { s with heap := s.heap.push { cls := .type "tuple", data := .seq items.toList.reverse.toArray } }) (hsz : items.size ≤ sizeLine) : wpAny (model prog w) A (getItem (.ref t) (.ref sl)) Q E s := by
  have hok : sizeOk (.seq items.toList.reverse.toArray) := by
    show items.toList.reverse.toArray.size ≤ sizeLine
    rw [List.size_toArray, List.length_reverse, Array.length_toList]
    exact hsz
  obtain ⟨os, hos, hcs, hds⟩ := id hs
  have hTs : s.TypeIs (.ref sl) "slice" := ⟨os, hos, hcs⟩
  unfold getItem
  try with_reducible refine wpAny_holding ?_
  first | refine wpAny_bind (wpAny_pure ?_) | skip
  refine wpAny_bind (wpAny_sequenceKey ht.typeIs (by decide) ?_)
  refine wpAny_bind (wpAny_callSpecial?_slot (name := Str.ofString "__getitem__") ht.typeIs PyProof.Rows.slot_tuple_getitem
    (wpAny_call_entry PyProof.Rows.slot_tuple_getitem ht.typeIs entry_tuple_getitem ?_ (args_tuple_getitem _ _)))
  show wpAny _ _ (Builtin.Tuple.tupleItemsOf (.ref t) >>= _) _ _ s
  refine wpAny_bind (tupleItemsOf_ ht ?_)
  refine wpAny_bind (wpAny_typeOf hTs ?_)
  rw [if_pos (by decide)]
  refine wpAny_bind (applied_rev hs ?_)
  have hno : ¬ ((((items.size : Int) - 1) == 0 && (-1 : Int) == 1 && items.size == items.size) = true) := by simp
  show wpAny _ _ (if ((((items.size : Int) - 1) == 0 && (-1 : Int) == 1 && items.size == items.size) = true) then _ else _) _ _ s
  rw [if_neg hno, pick_rev]
  first
    | exact wpAny_bind (m := Builtin.Tuple.tupleExact _) (wpAny_newObj_type (wpAny_pure ⟨_, rfl, wpAny_pure h⟩) hok)
    | exact wpAny_bind (m := Builtin.Tuple.tupleExact _) (wpAny_newObj_type (wpAny_bind (wpAny_pure (wpAny_pure ⟨_, rfl, wpAny_pure h⟩))) hok)
    | exact wpAny_bind (wpAny_bind (m := Builtin.Tuple.tupleExact _) (wpAny_newObj_type (wpAny_pure (wpAny_pure ⟨_, rfl, wpAny_pure h⟩)) hok))
end
/-- t[::-1] of a tuple: a new tuple -/
def tRevT (K : PySem.W.Frag) (te : TE) : TE := fun σ H Q => te σ H fun x H1 => ∃ a xs, x = .ref a ∧ SqT K H1 a xs ∧ ∀ p, H1 p = none → Q (.ref p) (upd H1 p (.tup xs.reverse))
section
variable {X : Cx}
theorem pe_revT {e : Expr} {te : TE} {k : Nat} {p1 p2 p3 pos : Pos} (he : PE X e te) : PE X (.Subscript e (.Slice none none (some (.UnaryOp .USub (.Constant (.int 1) k p1) p2)) p3) pos) (tRevT X.K te) := by
  refine ⟨fun pins s σ H Q I h => ?_⟩
  refine Subscript_ (thn (he.run pins s σ H _ I h) fun v s1 ⟨x, H1, I1, r1, q1⟩ => ?_)
  obtain ⟨a, xs, ex, hx, q⟩ := q1
  subst ex
  cases r1
  have hst : PE X (.UnaryOp .USub (.Constant (.int 1) k p1) p2) (tUn (rU fun i => .int (-i)) (tC (.int 1))) := pe_un un_neg pe_int
  refine wpAny_Slice (thn (po_none.run pins s1 σ H1 (fun o H2 => o = none ∧ H2 = H1) I1 ⟨rfl, rfl⟩) fun vl s2 ⟨l, H2, I2, pl, el, e2⟩ => ?_)
  subst el e2
  refine thn (po_none.run pins s2 σ H2 (fun o H3 => o = none ∧ H3 = H2) I2 ⟨rfl, rfl⟩) fun vu s3 ⟨u, H3, I3, pu, eu, e3⟩ => ?_
  subst eu e3
  have hst2 : PO X (some (.UnaryOp .USub (.Constant (.int 1) k p1) p2)) (tPart (tUn (rU fun i => .int (-i)) (tC (.int 1)))) := po_some hst
  refine thn (hst2.run pins s3 σ H3 (fun o H4 => o = some (-1) ∧ H4 = H3) I3 ⟨1, rfl, -1, rfl, rfl, rfl⟩) fun vs s4 ⟨o, H4, I4, ps, eo, e4⟩ => ?_
  subst eo e4
  cases pl
  cases pu
  obtain ⟨u, rfl⟩ : ∃ u, vs = Value.int (-1) u := by
    cases ps with
    | int i t => exact ⟨_, rfl⟩
  have I5 : Inv X pins σ H4 { s4 with heap := s4.heap.push { cls := .type "slice", data := .fields #[.none, .none, .int (-1) u] } } := I4.kept (t' := s4.toks) fun b ob q => Heap.get?_push_of_some _ q
  obtain ⟨its, r, ht, hz⟩ := I5.tuple hx
  have hlen := r.length
  show wpAny (model X.prog X.w) X.A (subscriptTail e (.Slice none none (some (.UnaryOp .USub (.Constant (.int 1) k p1) p2)) p3) (.ref a) (.ref s4.heap.objs.size)) (EP X pins σ Q) X.xe { s4 with heap := s4.heap.push { cls := .type "slice", data := .fields #[.none, .none, .int (-1) u] } }
  refine tail_any (ops := [.ref a, .ref s4.heap.objs.size]) ht.typeIs PyProof.Rows.slot_tuple_getitem.lookup ?_ (by with_unfolding_all rfl)
  refine getItem_tuple_rev ht (Heap.IsSliceOf.new _ _ _ _) ?_ (by rw [List.size_toArray]; omega)
  refine ⟨.ref _, _, I5.laid (t' := s4.toks) (o := .tup xs.reverse) (fun b ob q => Heap.get?_push_of_some _ q) (Nat.le_refl _) ?_, rfl, q _ (I5.hok.fresh (Nat.le_refl _))⟩
  exact ⟨by rw [List.length_reverse]; exact hz, its.reverse, r.reverse, IsTup.new _ _⟩
end
end ZR
set_option Elab.async false
set_option linter.all false
set_option maxRecDepth 100000
set_option maxHeartbeats 2000000
/-! Rules of my own: for i, x in enumerate(t), t a tuple. -/
namespace ZR
open PySem PySem.Spec PyProof.Rows L2
open AutoSeq1 (wpAny_loadPart')
set_option maxHeartbeats 1000000 in
theorem meets_enum_tup (l : Addr) (items : Array Value) (n : Nat) (dct : Option Addr) (sl : Array (Option Value)) :
    Meets (Builtin.«enumerate.__new__» ⟨[.type "enumerate", .ref l], []⟩) (fun _ R s => s.heap.get? l = some { cls := .type "tuple", dict := dct, data := .seq items n, slots := sl } ∧
      R (.ok (.ret (.ref (s.heap.push { cls := .type "tuple_iterator", data := .fields #[.ref l, .int 0 0] }).objs.size)))
        { s with heap := (s.heap.push { cls := .type "tuple_iterator", data := .fields #[.ref l, .int 0 0] }).push { cls := .type "enumerate", data := .fields #[.none, .bool false, .ref s.heap.objs.size, rawInt 0, .none, .none] } }) :=
  .of_wp fun prog w A R s h => by
    obtain ⟨hp, g, d, tk, os⟩ := s; obtain ⟨hl, h⟩ := h
    have hsub := sub_enumerate
    have hL : Heap.IsTuple (Shared.heap ⟨hp, g, d, tk, os⟩) l items := ⟨_, hl, rfl, n, rfl⟩
    wp_walk using wpAny_loadPart' hl
    refine wpAny_stack_any fun st => wpAny_pure ?_
    split
    · rename_i c _ _ _ _ _
      cases (c == Value.type "enumerate")
      · wp_walk using wpAny_loadPart' hl, wpAny_pyIter_tuple hL
        exact ⟨_, rfl, h⟩
      · wp_walk using wpAny_loadPart' hl, wpAny_pyIter_tuple hL
        exact ⟨_, rfl, h⟩
    · wp_walk using wpAny_loadPart' hl, wpAny_pyIter_tuple hL
      exact ⟨_, rfl, h⟩
section
variable {prog : Program} {w : World} {A : Around} {E : Value → Shared → Prop} {s : Shared}
theorem call_enum_tup {l : Addr} {items : Array Value} {Q : Value → Shared → Prop} (hL : IsTup s.heap l items)
    (h : ∀ h', IsEnum h' (s.heap.objs.size + 1) s.heap.objs.size 0 .none → h'.IsTupleIter s.heap.objs.size l 0 →
      (∀ b o, s.heap.get? b = some o → h'.get? b = some o) → Q (.ref (s.heap.objs.size + 1)) { s with heap := h' }) :
    wpAny (model prog w) A (call (.type "enumerate") [.ref l]) Q E s := by
  obtain ⟨⟨c, dct, dt, sl⟩, hl, hc, n, hd⟩ := hL
  replace hc : c = .type "tuple" := hc
  replace hd : dt = .seq items n := hd
  subst hc hd
  refine callType_new F.called_enumerate (by decide) (F.typeCall_enumerate_1 _) (F.newCall_enumerate_1 _) (fun obj => F.args_object_init_2 obj _) F.entry_enumerate_new
    (meets_enum_tup l items n dct sl) ⟨hl, ?_⟩
  have hz : (s.heap.push { cls := .type "tuple_iterator", data := .fields #[.ref l, .int 0 0] }).objs.size = s.heap.objs.size + 1 := Heap.size_push ..
  show _ ∧ _
  rw [hz]
  have he : IsEnum ((s.heap.push { cls := .type "tuple_iterator", data := .fields #[.ref l, .int 0 0] }).push
      { cls := .type "enumerate", data := .fields #[.none, .bool false, .ref s.heap.objs.size, rawInt 0, .none, .none] }) (s.heap.objs.size + 1) s.heap.objs.size 0 .none := by
    have := Heap.get?_push_size (s.heap.push { cls := .type "tuple_iterator", data := .fields #[.ref l, .int 0 0] })
      (o := { cls := .type "enumerate", data := .fields #[.none, .bool false, .ref s.heap.objs.size, rawInt 0, .none, .none] }) rfl
    rw [hz] at this
    exact this
  exact ⟨⟨_, he, rfl⟩, h _ he ⟨_, Heap.get?_push_of_some _ (Heap.get?_push_size _ rfl), rfl, rfl⟩ fun b o x => Heap.get?_push_of_some _ (Heap.get?_push_of_some _ x)⟩
end
/-- the tuple at a, each item in a new pair with its number -/
def Itet (K : PySem.W.Frag) (a : Addr) : It :=
  ⟨fun i H => ∃ (xs : List V) (x : V), SqT K H a xs ∧ xs[i]? = some x, fun i H v H' => ∃ T x, v = .ref T ∧ H T = none ∧ H' = upd H T (.tup [.int (i : Nat), x]) ∧ ∀ xs, SqT K H a xs → xs[i]? = some x, fun i H => ∃ xs : List V, SqT K H a xs ∧ xs.length = i⟩
theorem turn_enumT {P : Program} {w : World} {K : PySem.W.Frag} {elts : List Expr} {kk : Nat} {tpos : Pos} (a e it : Addr) :
    Turn P w K (.Tuple elts kk tpos) (Itet K a) [e, it] e (fun i h => (∃ old, IsEnum h e it ((i : Nat) : Int) old) ∧ h.IsTupleIter it a i ∧ e ≠ it) where
  mem := by simp
  obj := fun i h st b hb => by
    obtain ⟨⟨old, he⟩, ⟨o, ho, hc, hd⟩, _⟩ := st
    have e' : b = e ∨ b = it := by simpa using hb
    rcases e' with z | z
    · rw [z]; exact ⟨_, he, fun v q => nomatch q⟩
    · rw [z]; exact ⟨o, ho, fun v q => by rw [hd] at q; cases q⟩
  keep := fun i h h' st k => let ⟨⟨old, he⟩, hi, hne⟩ := st; ⟨⟨old, k e (by simp) _ he⟩, hi.at fun o q => k it (by simp) o q, hne⟩
  item := by
    intro X hP hw hK hc i pins s σ H E I hf st hg
    subst hP hw hK
    obtain ⟨⟨old, he⟩, hit, hne⟩ := st
    obtain ⟨xs, x, hq, hx⟩ := hg
    obtain ⟨its, rv, p, hz⟩ := I.tuple hq
    obtain ⟨u, hu, ru⟩ := rv.get hx
    have hel : e < s.heap.objs.size := Heap.lt_size he
    have hil : it < s.heap.objs.size := by obtain ⟨_, q, _⟩ := hit; exact Heap.lt_size q
    have hae : a ≠ e := fun z => by
      obtain ⟨o, ho, hc, _⟩ := p
      rw [z] at ho
      have he' : s.heap.get? e = some _ := he
      rw [he'] at ho
      cases ho
      injection hc with q
      exact absurd q (by decide)
    have hai : a ≠ it := fun z => by
      obtain ⟨o, ho, hc, _⟩ := p
      obtain ⟨o2, ho2, hc2, _⟩ := hit
      rw [z, ho2] at ho
      cases ho
      rw [hc2] at hc
      injection hc with q
      exact absurd q (by decide)
    have D := Draws.tuple (prog := X.prog) (w := X.w) (A := X.A.in1) (I.ok.hd hc) it a hai its.toArray
    have hlt : i < its.toArray.size := by
      rw [List.size_toArray]
      exact (List.getElem?_eq_some_iff.mp hu).1
    refine wpAny_pyNext_enum_itemD D he ⟨hit, p⟩ hlt hne (by simp [hae.symm, hne]) fun x' h' tk hx' ho st' hT hsz hk => ?_
    have ex : x' = u := by
      have z : its.toArray[i]? = some x' := hx'
      rw [List.getElem?_toArray, hu] at z
      exact (Option.some.inj z).symm
    subst ex
    refine ⟨_, rfl, wpAny_letOwnedTupleGo_enum (s := { s with heap := h', toks := tk + 1 }) ho fun h'' he' sb => ?_⟩
    have hT2 : h''.get? s.heap.objs.size = some { cls := .type "tuple", data := .seq #[.int i tk, x'] } := (sb.2 _ (Nat.ne_of_gt hel)).trans hT
    have new : ObjOk X.prog X.w (upd H s.heap.objs.size (.tup [.int (i : Nat), x])) h'' s.heap.objs.size (.tup [.int (i : Nat), x]) :=
      ⟨by show 2 ≤ sizeLine; decide, [.int i tk, x'], .cons ⟨_, rfl⟩ (.cons ru .nil), ⟨_, hT2, rfl, _, rfl⟩⟩
    have I1 : Inv X pins σ (upd H s.heap.objs.size (.tup [.int (i : Nat), x])) { s with heap := h'', toks := tk + 1 } :=
      I.turnedNew (ch := [e, it]) (fun b ob hb q => (sb.2 b (fun z => hb (by simp [z]))).trans (hk b ob (fun z => hb (by simp [z])) (fun z => hb (by simp [z])) q)) hf (Nat.le_refl _) new
    refine ⟨.ref s.heap.objs.size, _, I1, rfl, ⟨_, x, rfl, I.hok.fresh (Nat.le_refl _), rfl, fun ys hy => ?_⟩, ⟨⟨x', ?_⟩, st'.1.at fun o q => (sb.2 it (Ne.symm hne)).trans q, hne⟩, fun b hb => ?_⟩
    · rw [I.tuple_inj hy hq]
      exact hx
    · have e1 : ((i + 1 : Nat) : Int) = (i : Int) + 1 := by omega
      rw [e1]; exact he'
    · have hb' : b < s.heap.objs.size := by
        have e' : b = e ∨ b = it := by simpa using hb
        rcases e' with z | z
        · rw [z]; exact hel
        · rw [z]; exact hil
      rw [upd_ne (Nat.ne_of_lt hb')]
      exact (hf b hb).1
  done := by
    intro X hP hw hK hc i pins s σ H E I hf st hg
    subst hP hw hK
    obtain ⟨⟨old, he⟩, hit, hne⟩ := st
    obtain ⟨xs, hq, hx⟩ := hg
    obtain ⟨its, rv, p, hz⟩ := I.tuple hq
    obtain ⟨f0, f1, f2, f3, f4, f5⟩ := hf it (by simp)
    have hl := rv.length
    have hai : a ≠ it := fun z => by
      obtain ⟨o, ho, hc, _⟩ := p
      obtain ⟨o2, ho2, hc2, _⟩ := hit
      rw [z, ho2] at ho
      cases ho
      rw [hc2] at hc
      injection hc with q
      exact absurd q (by decide)
    have D := Draws.tuple (prog := X.prog) (w := X.w) (A := X.A.in1) (I.ok.hd hc) it a hai its.toArray
    have hsz : its.toArray.size = i := by
      rw [List.size_toArray, ← hl]
      exact hx
    refine wpAny_pyNext_enum_endD D he (by rw [hsz]; exact ⟨hit, p⟩) fun h' eb => ?_
    exact ⟨rfl, I.turned (t' := s.toks) (fun b o hb q => eb b o hb q) f0 f1 f3 f4 f5⟩
  self := fun A i s Q E st h => let ⟨⟨_, he⟩, _⟩ := st; wpAny_pyIter_enum he h
def iEnumT (K : PySem.W.Frag) (ta : TA) : TI := fun σ H R => ta σ H fun vs H1 => ∃ a xs, vs = [.ref a] ∧ SqT K H1 a xs ∧ R (Itet K a) H1
theorem pi_enumT {X : Cx} {e : Expr} {ta : TA} {p pos tpos : Pos} {elts : List Expr} {kk : Nat} (hg : Gl X "enumerate") (hm : X.mg "enumerate" = none) (ha : PA X [e] ta) (hs : starEach [e] X.env = [(false, eval e X.env)] := by rfl) :
    PI X (.Tuple elts kk tpos) (.Call (.Name "enumerate" p) [e] [] pos) (iEnumT X.K ta) := by
  refine ⟨fun pins s σ H R I h => ?_⟩
  refine Call_ (ld_blt I hg hm boot_enumerate (PyProof.Rows.callWith_type1 (thn (ha.run pos pins s σ H _ I h) fun us s1 ⟨vs, H1, I1, r1, q1⟩ => ?_) hs rfl))
  obtain ⟨a, xs, ex, hq, q⟩ := q1
  subst ex
  cases r1 with
  | cons r rr =>
    cases rr
    cases r
    obtain ⟨its, rv, p', hz⟩ := I1.tuple hq
    refine call_enum_tup p' fun h' he hit hk => wpAny_pyIter_enum he ?_
    have I2 : Inv X pins σ H1 { s1 with heap := h' } := I1.kept (t' := s1.toks) hk
    refine ⟨s1.heap.objs.size + 1, [s1.heap.objs.size + 1, s1.heap.objs.size], _, _, H1, rfl, I2, turn_enumT a (s1.heap.objs.size + 1) s1.heap.objs.size, ⟨⟨.none, he⟩, hit, Nat.succ_ne_self _⟩, fun b hb => ?_, q⟩
    have hle : s1.heap.objs.size ≤ b := by
      have e' : b = s1.heap.objs.size + 1 ∨ b = s1.heap.objs.size := by simpa using hb
      rcases e' with z | z
      · rw [z]; exact Nat.le_add_right _ _
      · rw [z]; exact Nat.le_refl _
    exact I1.fpOk hle (I1.hok.fresh hle)
theorem walk_enumT {K : PySem.W.Frag} {a : Addr} {xs : List V} : Walk (Itet K a) xs.length (fun H => SqT K H a xs) (YPair (fun i => some (.int (i : Nat))) (fun i => xs[i]?)) := by
  refine ⟨fun i _ hi q => ⟨xs, xs[i], q, by simp [hi]⟩, fun _ q => ⟨xs, q, rfl⟩, fun i H v H' _ q y => ?_⟩
  obtain ⟨T, x, h1, h2, h3, h4⟩ := y
  exact ⟨T, .int (i : Nat), x, h1, h2, h3, rfl, h4 xs q⟩
end ZR
set_option Elab.async false
set_option linter.all false
set_option maxRecDepth 100000
set_option maxHeartbeats 4000000
/-! Rules of my own: sets of texts, made by a comprehension of one or two walks, or of a list, and sorted. -/
namespace ZR
open PySem PySem.Spec PyProof.Rows L2
/-- the text of an entry -/
def txt (e : Int × Value) : Str := match e.2 with
  | .str x _ => x
  | _ => Str.empty
/-- entries and table of a set of the texts ks (in some order) -/
structure Tx (w : World) (es : Array (Int × Value)) (t : SetTable) (ks : List Str) : Prop where
  pm : (es.toList.map txt).Perm ks
  gd : ∀ e ∈ es.toList, ∃ x u, e = (hashStr w x, Value.str x u)
  nd : ks.Nodup
  sm : es.size < scanBound
  ft : t.fits es.size = true
  ri : Ris t.place.toList
  ld : w.params.followText "set-order" = true ∨ t.led = true
def SetS (w : World) (h : Heap) (a : Addr) (ks : List Str) : Prop := ∃ o es ep t, h.get? a = some o ∧ o.ExactSet ∧ o.data = .set es ep t ∧ Tx w es t ks
/-- ks with x -/
def ins (x : Str) (ks : List Str) : List Str := if x ∈ ks then ks else ks ++ [x]
theorem SetS.at {w : World} {h h' : Heap} {a : Addr} {ks : List Str} (R : SetS w h a ks) (k : ∀ o, h.get? a = some o → h'.get? a = some o) : SetS w h' a ks := by
  obtain ⟨o, es, ep, t, ho, r⟩ := R
  exact ⟨o, es, ep, t, k o ho, r⟩
section
variable {P : Program} {w : World} {es : Array (Int × Value)} {t : SetTable} {ks : List Str}
theorem Tx.len (T : Tx w es t ks) : es.size = ks.length := by
  rw [← T.pm.length_eq, List.length_map, Array.length_toList]
theorem Tx.elems (T : Tx w es t ks) : ElemsOf (PySem.strKind P w) es.toList := fun e he => by
  obtain ⟨x, u, rfl⟩ := T.gd e he
  exact ⟨⟨x, strKind_is _ _ _ _, rfl⟩, rfl⟩
theorem Tx.mem (T : Tx w es t ks) (x : Str) : x ∈ ks ↔ ∃ e ∈ es.toList, (PySem.strKind P w).is x e.2 = true := by
  rw [← T.pm.mem_iff, List.mem_map]
  constructor
  · rintro ⟨e, he, q⟩
    obtain ⟨y, u, rfl⟩ := T.gd e he
    have e2 : y = x := q
    subst e2
    exact ⟨_, he, strKind_is _ _ _ _⟩
  · rintro ⟨e, he, q⟩
    obtain ⟨y, u, rfl⟩ := T.gd e he
    obtain ⟨u', e2⟩ := Value.isStrOf_shape (show Value.isStrOf x (Value.str y u) = true from q)
    have e3 : y = x := by
      injection e2
    exact ⟨_, he, show y = x from e3⟩
/-- a new text is laid -/
theorem Tx.lay (T : Tx w es t ks) {x : Str} (hx : x ∉ ks) (u : Tok) (room : ks.length + 1 < scanBound) : Tx w (layNew t es (hashStr w x) (.str x u)).1 (layNew t es (hashStr w x) (.str x u)).2.1 (ks ++ [x]) := by
  have p0 := layNew_perm t es (hashStr w x) (.str x u)
  rw [Array.toList_push] at p0
  refine ⟨?_, fun e he => ?_, ?_, ?_, layNew_fits t es _ _, layNew_ris t es _ _ T.ri, T.ld.imp id fun z => by rw [layNew_led t es _ _]; exact z⟩
  · have q := p0.map txt
    rw [List.map_append] at q
    exact q.trans (T.pm.append_right _)
  · rcases List.mem_append.mp (p0.mem_iff.mp he) with z | z
    · exact T.gd e z
    · exact ⟨x, u, List.mem_singleton.mp z⟩
  · exact List.nodup_append.mpr ⟨T.nd, by simp, fun a ha b hb e => hx (by rw [← List.mem_singleton.mp hb, ← e]; exact ha)⟩
  · rw [← Array.length_toList, p0.length_eq, List.length_append, Array.length_toList, T.len]
    exact room
/-- the table is laid anew -/
theorem Tx.relay (T : Tx w es t ks) (n : Nat) : Tx w (relayAll t es n).1 (relayAll t es n).2.1 ks := by
  have p0 := relayAll_perm t es n
  refine ⟨(p0.map txt).trans T.pm, fun e he => T.gd e (p0.mem_iff.mp he), T.nd, ?_, relayAll_fits t es n, relayAll_ris t es n, T.ld.imp id fun z => by rw [relayAll_led t es n]; exact z⟩
  rw [← Array.length_toList, p0.length_eq, Array.length_toList]
  exact T.sm
end
section
variable {P : Program} {w : World} {A : Around} {E : Value → Shared → Prop} {s : Shared} {a : Addr} {ks : List Str}
theorem put_at {h : Heap} {o : Obj} {es es' : Array (Int × Value)} {ep : Nat} {t t' : SetTable} (ho : h.get? a = some o) (hd : o.data = .set es ep t) :
    (h.update a (Obj.putSet es' t')).get? a = some { o with data := .set es' (ep + 1) t' } := by
  have q := Heap.get?_update_self (Obj.putSet es' t') ho (by rw [putSet_of es' t' hd]; rfl)
  rw [putSet_of es' t' hd] at q
  exact q
theorem putS_ok {o : Obj} {es es1 : Array (Int × Value)} {ep : Nat} {t t1 : SetTable} {Q : Unit → Shared → Prop} (ho : s.heap.get? a = some o) (hex : o.ExactSet) (hd : o.data = .set es ep t) (T : Tx w es1 t1 ks)
    (h : ∀ h' o', h'.get? a = some o' → o'.ExactSet → (∃ e', o'.data = .set es1 e' t1) → Heap.SameBut a s.heap h' → Q () { s with heap := h' }) : wpAny (model P w) A (storeSet a es1 t1) Q E s :=
  wpAny_storeSet_of ho hd (h _ _ (put_at ho hd) hex ⟨_, rfl⟩ (Heap.SameBut.update s.heap a _)) (fits_of_scanBound T.sm)
theorem gave_ok {b : Bool} {Q : Unit → Shared → Prop} (q : Q () s) : wpAny (model P w) A (match b with | true => rule "set.scan.the-table-gave-way" | false => pure ()) Q E s := by
  cases b
  · exact wpAny_pure q
  · exact wpAny_rule q
theorem addS_tail {g : Bool → Sem Unit} (hg : ∀ (b : Bool) (s₁ : Shared) (Q' : Unit → Shared → Prop), Q' () s₁ → wpAny (model P w) A (g b) Q' E s₁)
    {o : Obj} {es es1 : Array (Int × Value)} {ep : Nat} {t t1 : SetTable} {wd : Bool} {R : Option Bool → Shared → Prop} (ho : s.heap.get? a = some o) (hex : o.ExactSet) (hd : o.data = .set es ep t) (T : Tx w es1 t1 ks)
    (hR : ∀ h', Heap.SameBut a s.heap h' → SetS w h' a ks → R (some true) { s with heap := h' }) :
    wpAny (model P w) A (do
        storeSet a es1 t1
        if (!wd && t1.tooFull) = true then do
            g (relayAll t1 es1 (SetTable.grown es1.size)).2.2
            storeSet a (relayAll t1 es1 (SetTable.grown es1.size)).1 (relayAll t1 es1 (SetTable.grown es1.size)).2.1
            pure (some true)
          else pure (some true)) R E s := by
  refine wpAny_bind (putS_ok ho hex hd T fun h1 o1 ho1 hex1 ⟨e1, hd1⟩ sb1 => ?_)
  split
  · refine wpAny_bind (hg _ _ _ ?_)
    refine wpAny_bind (putS_ok (s := { s with heap := h1 }) ho1 hex1 hd1 (T.relay _) fun h2 o2 ho2 hex2 ⟨e2, hd2⟩ sb2 => ?_)
    exact wpAny_pure (hR h2 (sb1.trans sb2) ⟨o2, _, e2, _, ho2, hex2, hd2, T.relay _⟩)
  · exact wpAny_pure (hR h1 sb1 ⟨o1, es1, e1, t1, ho1, hex1, hd1, T⟩)
/-- set.add of a text, behind its hash -/
theorem addS_hashed {x : Str} {u : Tok} {Q : Bool → Shared → Prop} (R : SetS w s.heap a ks) (room : ks.length + 1 < scanBound)
    (hQ : ∀ (h' : Heap) (b : Bool), Heap.SameBut a s.heap h' → SetS w h' a (ins x ks) → Q b { s with heap := h' }) :
    wpAny (model P w) A (setAddHashed a (.str x u) ((PySem.strKind P w).hash x)) Q E s := by
  obtain ⟨o, es, ep, t, ho, hex, hd, T⟩ := R
  have hkey : (PySem.strKind P w).is x (.str x u) = true := strKind_is _ _ _ _
  have hsc : (Value.str x u).scannable = true := rfl
  have hel : ElemsOf (PySem.strKind P w) es.toList := T.elems
  unfold setAddHashed setAddHashedIn
  refine wpAny_holding (wpAny_bind (wpAny_setState_of ho hd T.ft ?_))
  dsimp only
  rw [byScan_of hsc T.sm hel]
  simp only [↓reduceIte]
  unfold setAddByScan
  refine wpAny_bind (wpAny_bind (wpAny_rule (wpAny_bind (wpAny_setScan_of hkey ho hd T.ft hel ?_))))
  by_cases hx : x ∈ ks
  · have hf : ∃ j, List.findIdx? (fun e => (PySem.strKind P w).is x e.2) es.toList = some j := by
      cases q : List.findIdx? (fun e => (PySem.strKind P w).is x e.2) es.toList with
      | some j => exact ⟨j, rfl⟩
      | none =>
        obtain ⟨e, he, z⟩ := (T.mem (P := P) x).mp hx
        have c := List.findIdx?_eq_none_iff.mp q e he
        rw [z] at c
        cases c
    obtain ⟨j, hj⟩ := hf
    rw [hj]
    dsimp only
    refine wpAny_pure (wpAny_pure ?_)
    have q : SetS w s.heap a (ins x ks) := by
      unfold ins
      rw [if_pos hx]
      exact ⟨o, es, ep, t, ho, hex, hd, T⟩
    exact hQ s.heap _ (Heap.SameBut.refl a s.heap) q
  · have hf : List.findIdx? (fun e => (PySem.strKind P w).is x e.2) es.toList = none := by
      refine List.findIdx?_eq_none_iff.mpr fun e he => ?_
      cases z : (PySem.strKind P w).is x e.2 with
      | false => rfl
      | true => exact absurd ((T.mem (P := P) x).mpr ⟨e, he, z⟩) hx
    rw [hf]
    dsimp only
    have T1 : Tx w (layNew t es ((PySem.strKind P w).hash x) (.str x u)).1 (layNew t es ((PySem.strKind P w).hash x) (.str x u)).2.1 (ks ++ [x]) := T.lay hx u room
    have ei : ins x ks = ks ++ [x] := if_neg hx
    generalize layNew t es ((PySem.strKind P w).hash x) (.str x u) = Z at T1 ⊢
    obtain ⟨es1, t1, wd, gv⟩ := Z
    dsimp only at T1 ⊢
    refine wpAny_bind (gave_ok ?_)
    have fin : ∀ h', Heap.SameBut a s.heap h' → SetS w h' a (ks ++ [x]) → wpAny (model P w) A (pure true) Q E { s with heap := h' } := fun h' sb r => wpAny_pure (hQ h' true sb (by rw [ei]; exact r))
    split
    · refine wpAny_bind ?_
      rw [hashByValue_scannable 8 hsc]
      refine wpAny_pure ?_
      refine addS_tail ?_ ho hex hd (ks := ks ++ [x]) ?_ ?_
      · intro b s₁ Q' q
        exact gave_ok q
      · split
        · exact T1
        · exact ⟨T1.pm, T1.gd, T1.nd, T1.sm, SetTable.fits_plain_off T1.ft, T1.ri, T1.ld⟩
      · intro h' sb r
        exact fin h' sb r
    · refine wpAny_bind (wpAny_pure ?_)
      simp only [↓reduceIte]
      refine addS_tail ?_ ho hex hd (ks := ks ++ [x]) T1 ?_
      · intro b s₁ Q' q
        exact gave_ok q
      · intro h' sb r
        exact fin h' sb r
end
end ZR
set_option Elab.async false
set_option linter.all false
set_option maxRecDepth 100000
set_option maxHeartbeats 4000000
/-! Rules of my own: {e for t0 in i0 for t1 in i1}, e a text. -/
namespace ZR
open PySem PySem.Spec PyProof.Rows L2
/-! ### sets of texts as tracked things -/
def SetTO (w : World) (a : Addr) (ks : List Str) : HO := .ext fun h => SetS w h a ks
theorem setTO_new {w : World} {P : Program} {H : Hp} {h : Heap} {a : Addr} {ks : List Str} (R : SetS w h a ks) : ObjOk P w H h a (SetTO w a ks) := by
  have ⟨o, _, _, _, ho, _⟩ := R
  exact ⟨R, ⟨o, ho⟩, fun h1 h2 p k => SetS.at p k⟩
theorem setTO_get {X : Cx} {pins : List (Addr × Obj)} {σ : L2.St} {H : Hp} {s : Shared} {a : Addr} {ks : List Str} (I : Inv X pins σ H s) (ha : H a = some (SetTO X.w a ks)) : SetS X.w s.heap a ks := (I.hok a _ ha).1
theorem setS_fresh {h : Heap} (w : World) : SetS w (h.push { cls := .type "set", dict := none, data := .set #[] 0 (.fresh 0 0 (!w.params.followText "set-order")) }) h.objs.size [] :=
  ⟨_, #[], 0, _, Heap.get?_push_size _ rfl, ⟨rfl, rfl, rfl⟩, rfl, .refl _, fun e he => by simp at he, List.nodup_nil, by decide, by rfl, List.Pairwise.nil, by
    show _ ∨ (!w.params.followText "set-order") = true
    cases w.params.followText "set-order"
    · exact .inr rfl
    · exact .inl rfl⟩
section
variable {X : Cx} {pins : List (Addr × Obj)} {σ : L2.St} {H : Hp} {s : Shared} {E : Value → Shared → Prop} {D : Addr} {ks : List Str} {x : Str} {u : Tok} {Q : Value → Shared → Prop}
/-- set.add of a text to a tracked set -/
theorem addT_ok (I : Inv X pins σ H s) (hD : H D = some (SetTO X.w D ks)) (room : ks.length + 1 < scanBound) (h : ∀ s', Inv X pins σ (upd H D (SetTO X.w D (ins x ks))) s' → Q .none s') :
    wpAny (model X.prog X.w) X.A (call (.builtin "set.add") [.ref D, .str x u]) Q E s := by
  have R := setTO_get I hD
  have hT : s.TypeIs (.ref D) "set" := by
    obtain ⟨o, _, _, _, ho, hex, _⟩ := R
    exact ⟨o, ho, hex.1⟩
  refine wpAny_call_entry F.slot_set_add hT F.entry_set_add ?_ (F.args_set_add_2 _ _)
  unfold Builtin.«set.add» Builtin.Frozenset.oneOther
  simp only [List.isEmpty_nil, bind_assoc]
  unfold Builtin.Frozenset.addrOf setAdd
  refine wpAny_bind (wpAny_pure ?_)
  try dsimp only
  refine wpAny_bind (wpAny_pure ?_)
  try dsimp only
  refine wpAny_bind (wpAny_holding (wpAny_bind ((PySem.strKind X.prog X.w).pyHash (k := x) (strKind_is _ _ _ _) ?_)))
  refine addS_hashed (s := { s with toks := s.toks + 1 }) R room fun h' b sb r => ?_
  show wpAny _ _ (ret Value.none) _ _ _
  refine wpAny_pure ⟨_, rfl, ?_⟩
  obtain ⟨o, es, ep, t, ho, rr⟩ := id r
  exact h _ (I.write (e := D) (t' := s.toks + 1) (by rw [hD]; trivial) (.inl rfl) (fun b u hb hu => (sb.2 b hb).trans hu) ⟨o, ho⟩ (setTO_new r))
end
/-! ### the comprehension's code -/
abbrev SC2 (elt t0 i0 t1 i1 : Expr) (sc : Scope) (pos : Pos) : Expr := .SetComp elt [⟨t0, i0, [], 0⟩, ⟨t1, i1, [], 0⟩] sc pos
section
variable {elt t0 i0 t1 i1 : Expr} {sc : Scope} {pos : Pos} {it acc : Value} {env : Env}
theorem turn_0 : compTurn (SC2 elt t0 i0 t1 i1 sc pos) 0 it acc env = (do
    standAt i0.pos
    match ← pyNext it with
    | none => pure (.done .next)
    | some v =>
      letOwnedTupleGo t0 it v
      assign t0 env v
      let x ← eval i1 env
      standAt i1.pos
      let x ← foldedSetIterable i1 env x
      let _ ← runOwn (.compStart (SC2 elt t0 i0 t1 i1 sc pos) 1 (← holding [x] (pyIter x)) acc env) env
      again (.compLoop (SC2 elt t0 i0 t1 i1 sc pos) 0 it acc env)) := by rfl
theorem turn_1 : compTurn (SC2 elt t0 i0 t1 i1 sc pos) 1 it acc env = (do
    standAt i1.pos
    match ← pyNext it with
    | none => pure (.done .next)
    | some v =>
      letOwnedTupleGo t1 it v
      assign t1 env v
      (do let v ← eval elt env; standAt elt.pos; let _ ← call (.builtin "set.add") [acc, v])
      again (.compLoop (SC2 elt t0 i0 t1 i1 sc pos) 1 it acc env)) := by rfl
end
section
variable {prog : Program} {w : World} {A : Around} {R : Result → Shared → Prop} {s : Shared} {elt t0 i0 t1 i1 : Expr} {sc : Scope} {pos : Pos} {it acc : Value} {env : Env}
/-- what is wished where the block raises -/
abbrev Nt (prog : Program) (w : World) (A : Around) (env : Env) (R : Result → Shared → Prop) : Value → Shared → Prop := notedBy (model prog w) A env fun e s' => R (.error e) s'
theorem loop_0 (hs : ∀ x, foldedSetIterable i1 env x = pure x) (I : Nat → Shared → Prop)
    (turn : ∀ n s, I n s → wpAny (model prog w) A (pyNext it) (fun r s1 => match r with
      | none => R (.ok .next) s1
      | some v => wpAny (model prog w) A (letOwnedTupleGo t0 it v) (fun _ s2 => wpAny (model prog w) A (assign t0 env v) (fun _ s3 => wpAny (model prog w) A (eval i1 env) (fun x s4 => wpAny (model prog w) A (pyIter x) (fun it1 s5 =>
          codeAny (model prog w) A (.compStart (SC2 elt t0 i0 t1 i1 sc pos) 1 it1 acc env) (fun r s' => (∃ f, r = .ok f) ∧ ∃ m, m < n ∧ I m s') s5)
        (Nt prog w A env R) s4) (Nt prog w A env R) s3) (Nt prog w A env R) s2) (Nt prog w A env R) s1) (Nt prog w A env R) s)
    (n : Nat) (h : I n s) : codeAny (model prog w) A (.compLoop (SC2 elt t0 i0 t1 i1 sc pos) 0 it acc env) R s := by
  refine codeAny_loop rfl I (fun n s hI => ?_) n h
  show wpAny _ A ((compTurn (SC2 elt t0 i0 t1 i1 sc pos) 0 it acc env).onRaise (fun x => do noteFrame x env; theTreesLotGoes x)) _ _ s
  refine wpAny_noted ?_
  rw [turn_0]
  refine wpAny_bind (wpAny_standAt (wpAny_bind (wpAny_mono (turn n s hI) (fun r s1 h1 => ?_) fun _ _ z => z)))
  cases r with
  | none => exact wpAny_pure h1
  | some v =>
    refine wpAny_bind (wpAny_mono h1 (fun _ s2 h2 => wpAny_bind (wpAny_mono h2 (fun _ s3 h3 => wpAny_bind (wpAny_mono h3 (fun x s4 h4 => ?_) fun _ _ z => z)) fun _ _ z => z)) fun _ _ z => z)
    refine wpAny_bind (wpAny_standAt (wpAny_bind (wpAny_of_eq (hs x) (wpAny_bind (wpAny_holding (wpAny_mono h4 (fun it1 s5 h5 => ?_) fun _ _ z => z))))))
    refine wpAny_bind (wpAny_runOwn ?_)
    rw [Around.mark_none]
    refine codeAny_mono h5 fun r s' hr => ?_
    obtain ⟨⟨f, rfl⟩, hm⟩ := hr
    first
      | exact wpAny_pure ⟨rfl, hm⟩
      | exact wpAny_bind (wpAny_pure (wpAny_pure ⟨rfl, hm⟩))
theorem loop_1 (I : Nat → Shared → Prop)
    (turn : ∀ n s, I n s → wpAny (model prog w) A (pyNext it) (fun r s1 => match r with
      | none => R (.ok .next) s1
      | some v => wpAny (model prog w) A (letOwnedTupleGo t1 it v) (fun _ s2 => wpAny (model prog w) A (assign t1 env v) (fun _ s3 => wpAny (model prog w) A (eval elt env) (fun x s4 =>
          wpAny (model prog w) A (call (.builtin "set.add") [acc, x]) (fun _ s' => ∃ m, m < n ∧ I m s')
        (Nt prog w A env R) s4) (Nt prog w A env R) s3) (Nt prog w A env R) s2) (Nt prog w A env R) s1) (Nt prog w A env R) s)
    (n : Nat) (h : I n s) : codeAny (model prog w) A (.compLoop (SC2 elt t0 i0 t1 i1 sc pos) 1 it acc env) R s := by
  refine codeAny_loop rfl I (fun n s hI => ?_) n h
  show wpAny _ A ((compTurn (SC2 elt t0 i0 t1 i1 sc pos) 1 it acc env).onRaise (fun x => do noteFrame x env; theTreesLotGoes x)) _ _ s
  refine wpAny_noted ?_
  rw [turn_1]
  refine wpAny_bind (wpAny_standAt (wpAny_bind (wpAny_mono (turn n s hI) (fun r s1 h1 => ?_) fun _ _ z => z)))
  cases r with
  | none => exact wpAny_pure h1
  | some v =>
    refine wpAny_bind (wpAny_mono h1 (fun _ s2 h2 => wpAny_bind (wpAny_mono h2 (fun _ s3 h3 => ?_) fun _ _ z => z)) fun _ _ z => z)
    refine wpAny_bind (wpAny_bind (wpAny_mono h3 (fun x s4 h4 => wpAny_bind (wpAny_standAt (wpAny_bind (wpAny_mono h4 (fun _ s' hm => ?_) fun _ _ z => z)))) fun _ _ z => z))
    first
      | exact wpAny_pure (wpAny_pure ⟨rfl, hm⟩)
      | exact wpAny_pure ⟨rfl, hm⟩
theorem start_1 (h0 : codeAny (model prog w) A (.compLoop (SC2 elt t0 i0 t1 i1 sc pos) 1 it acc env) R s)
    (h : wpAny (model prog w) A (pyIter it) (fun it' s' => codeAny (model prog w) A (.compLoop (SC2 elt t0 i0 t1 i1 sc pos) 1 it' acc env) R s') (Nt prog w A env R) s) :
    codeAny (model prog w) A (.compStart (SC2 elt t0 i0 t1 i1 sc pos) 1 it acc env) R s := by
  refine codeAny_of_tree ?_
  show wpAny _ _ ((compStart (SC2 elt t0 i0 t1 i1 sc pos) 1 it acc env).onRaise (fun x => do noteFrame x env; standAt theWindowsPlace)) _ _ s
  refine wpAny_notedAt ?_
  unfold compStart
  show wpAny _ _ (ask >>= _) _ _ s
  refine wpAny_bind (wpAny_askSetting (wpAny_ite ?_))
  split
  · first
      | exact wpAny_bind (wpAny_pure (wpAny_pure (And.intro rfl h0)))
      | exact wpAny_pure (And.intro rfl h0)
  · first
      | exact wpAny_bind (wpAny_rule (wpAny_bind (wpAny_standAt (wpAny_bind (wpAny_mono h (fun it' s' h' => wpAny_pure (And.intro rfl h')) fun _ _ x => x)))))
      | (refine wpAny_bind (wpAny_rule ?_); show wpAny _ _ (standAt i1.pos >>= _) _ _ s; exact wpAny_bind (wpAny_standAt (wpAny_bind (wpAny_mono h (fun it' s' h' => wpAny_pure (And.intro rfl h')) fun _ _ x => x))))
end
end ZR
set_option Elab.async false
set_option linter.all false
set_option maxRecDepth 100000
set_option maxHeartbeats 4000000
namespace ZR
open PySem PySem.Spec PyProof.Rows L2
theorem wipe_keep {x : Option V} {i : Nat} : ∀ {vs : List Nat} {σ : L2.St}, σ[i]? = some x → ¬ i ∈ vs → (wipe σ vs)[i]? = some x
  | [], σ, h, _ => h
  | v :: vs, σ, h, n => by
    show ((wipe σ vs).set v none)[i]? = some x
    have hne : v ≠ i := fun e => n (by rw [e]; exact List.mem_cons_self)
    rw [List.getElem?_set_ne hne]
    exact wipe_keep h fun z => n (List.mem_cons_of_mem _ z)
/-! ### one turn of a walk within a block -/
/-- between two turns -/
def Mid (Y : Cx) (fpw : List Addr) (tn : Nat → Heap → Prop) (π : List (Addr × Obj)) (σ0 : L2.St) (W : Nat → Nat → Hp → Prop) (n : Nat) (s : Shared) : Prop :=
  ∃ i H, Inv Y π σ0 H s ∧ tn i s.heap ∧ (∀ b ∈ fpw, H b = none) ∧ W i n H
theorem walk_turn {Y : Cx} {tg : Expr} {J : It} {fpw : List Addr} {it : Addr} {tn : Nat → Heap → Prop} {π : List (Addr × Obj)} {σ0 : L2.St} {vs : List Nat} {g : TG} {W : Nat → Nat → Hp → Prop} {rest : L2.St → Hp → (Hp → Prop) → Prop} {Qs : Hp → Prop}
    (hc : Y.calm = true) (hx : Y.xe = fun _ _ => False) (T : Turn Y.prog Y.w Y.K tg J fpw it tn) (pg : PG Y tg g) (hst : ∀ H, (∀ b ∈ fpw, H b = none) → ∀ b ∈ fpw, FpOk Y π H b)
    (turn : ∀ i m H, W i m H → (J.stop i H ∧ Qs H) ∨ (J.go i H ∧ ∃ Nx : Hp → Prop, (∀ H', Nx H' → ∃ m', m' < m ∧ W (i + 1) m' H') ∧ ∀ x H', J.yld i H x H' → g x σ0 H' fun σ2 H2 => wipe σ2 vs = σ0 ∧ rest σ2 H2 Nx))
    {n : Nat} {s : Shared} (hK : Mid Y fpw tn π σ0 W n s) {Rn Rb : Shared → Prop} {N : Value → Shared → Prop}
    (hstop : ∀ H s', Inv Y π σ0 H s' → Qs H → Rn s')
    (hgo : ∀ σ8 H8 s8 h7 (Nx : Hp → Prop), Inv Y (π ++ pinsAt fpw h7) σ8 H8 s8 → wipe σ8 vs = σ0 → rest σ8 H8 Nx →
      (∀ σ9 H' s', Inv Y (π ++ pinsAt fpw h7) σ9 H' s' → σ0.length = σ9.length → (∀ (j : Nat) v, σ0[j]? = some (some v) → σ9[j]? = some (some v)) → Nx H' → ∃ m, m < n ∧ Mid Y fpw tn π σ0 W m s') → Rb s8) :
    wpAny (model Y.prog Y.w) Y.A (pyNext (.ref it)) (fun r s1 => match r with
      | none => Rn s1
      | some v => wpAny (model Y.prog Y.w) Y.A (letOwnedTupleGo tg (.ref it) v) (fun _ s2 => wpAny (model Y.prog Y.w) Y.A (assign tg Y.env v) (fun _ s3 => Rb s3) N s2) N s1) N s := by
  obtain ⟨i, H, I, st, hn, w⟩ := hK
  rcases turn i n H w with ⟨stop, q⟩ | ⟨go, Nx, hNx, step⟩
  · refine thnF (T.done Y rfl rfl rfl hc i π s σ0 H (fun _ _ => False) I (hst H hn) st stop) fun r s1 ⟨hr, I1⟩ => ?_
    subst hr
    exact hstop H s1 I1 q
  · refine thnF (T.item Y rfl rfl rfl hc i π s σ0 H (fun _ _ => False) I (hst H hn) st go) fun r s1 ⟨u, hr, h1⟩ => ?_
    subst hr
    refine thnF h1 fun _ s2 ⟨x, H2, I2, r2, y2, st2, n2⟩ => ?_
    have P2 := I2.pinned (hst H2 n2) (T.obj _ _ st2)
    have pr := pg.run _ s2 σ0 H2 x u _ P2 r2 (step x H2 y2)
    rw [hx] at pr
    refine thnF pr fun _ s3 ⟨σ8, H8, I8, hw8, q8⟩ => ?_
    refine hgo σ8 H8 s3 s2.heap Nx I8 hw8 q8 fun σ9 H' s' I' hl hk nx => ?_
    obtain ⟨m', hm, w'⟩ := hNx H' nx
    have pin : ∀ b ∈ fpw, ∀ o, s2.heap.get? b = some o → s'.heap.get? b = some o ∧ H' b = none := fun b hb o e =>
      let z := I'.pin (b, o) (List.mem_append_right _ (List.mem_append_right _ (mem_pinsAt hb e)))
      ⟨z.1, z.2.1⟩
    refine ⟨m', hm, i + 1, H', (I'.unpinned (pins := π)).weak hl hk, T.keep _ _ _ st2 fun b hb o e => (pin b hb o e).1, fun b hb => ?_, w'⟩
    obtain ⟨o, e, _⟩ := T.obj _ _ st2 b hb
    exact (pin b hb o e).2
/-! ### the comprehension -/
/-- {elt for tg in iter for tg1 in iter1}, elt a text; vs: the block's names, vs1: those of the second target -/
def tSc2 (w : World) (wi : TI) (g : TG) (wi1 : TI) (g1 : TG) (te : TE) (vs vs1 : List Nat) : TE := fun σ H Q => wi σ H fun J H1 => ∀ D, H1 D = none → ∃ W : Nat → Nat → Hp → Prop, (∃ m, W 0 m (upd H1 D (SetTO w D []))) ∧ ∀ i m H, W i m H →
  (J.stop i H ∧ Q (.ref D) H) ∨ (J.go i H ∧ ∃ Nx : Hp → Prop, (∀ H', Nx H' → ∃ m', m' < m ∧ W (i + 1) m' H') ∧ ∀ x H', J.yld i H x H' → g x (wipe σ vs) H' fun σ2 H2 => wipe σ2 vs = wipe σ vs ∧
    wi1 σ2 H2 fun J1 H4 => ∃ W1 : Nat → Nat → Hp → Prop, (∃ k, W1 0 k H4) ∧ ∀ j k H, W1 j k H → (J1.stop j H ∧ Nx H) ∨ (J1.go j H ∧ ∃ Nx1 : Hp → Prop, (∀ H', Nx1 H' → ∃ k', k' < k ∧ W1 (j + 1) k' H') ∧
      ∀ x H', J1.yld j H x H' → g1 x (wipe σ2 vs1) H' fun σ3 H5 => wipe σ3 vs1 = wipe σ2 vs1 ∧ te σ3 H5 fun y H6 => ∃ (z : Str) (ks : List Str), y = .str z ∧ H6 D = some (SetTO w D ks) ∧ ks.length + 1 < scanBound ∧ Nx1 (upd H6 D (SetTO w D (ins z ks)))))
section
variable {X : Cx}
theorem pe_sc2 {elt tg iter tg1 iter1 : Expr} {scope : Scope} {own : List (Str × Nat)} {vs1 : List Nat} {pos : Pos} {wi wi1 : TI} {g g1 : TG} {te : TE} (hc : X.calm = true) (hN : X.N.Nodup) (hi : PI X tg iter wi) (ok : BlkOk X.N X.env.scope scope own) (hv : ∀ i ∈ vs1, i ∈ own.map (·.2))
    (hg : ∀ (s : Shared) (H : Hp) (C : Addr) (cl : List (Str × Addr)) (fp : List Addr), PG (X.blk s H scope (compEnvC scope cl C X.env) fp) tg g)
    (hi1 : ∀ (s : Shared) (H : Hp) (C : Addr) (cl : List (Str × Addr)) (fp : List Addr), PI (X.blk s H scope (compEnvC scope cl C X.env) fp) tg1 iter1 wi1)
    (hg1 : ∀ (s : Shared) (H : Hp) (C : Addr) (cl : List (Str × Addr)) (fp : List Addr), PG (X.blk s H scope (compEnvC scope cl C X.env) fp) tg1 g1)
    (he : ∀ (s : Shared) (H : Hp) (C : Addr) (cl : List (Str × Addr)) (fp : List Addr), PE (X.blk s H scope (compEnvC scope cl C X.env) fp) elt te)
    (hs : ∀ x, foldedSetIterable iter X.env x = pure x := by intro _; rfl) (hs1 : ∀ env x, foldedSetIterable iter1 env x = pure x := by intro _ _; rfl) :
    PE X (.SetComp elt [⟨tg, iter, [], 0⟩, ⟨tg1, iter1, [], 0⟩] scope pos) (tSc2 X.w wi g wi1 g1 te (own.map (·.2)) vs1) := by
  refine ⟨fun pins s σ H Q I h => ?_⟩
  rw [PpSet.eval_SetComp]
  have hfree : ∀ y ∈ scope.names, y.2 = .free → ∃ c, X.env.cells.lookup y.1 = some c := fun y hy e => (ok.free y hy e).elim (fun k => I.ok.has _ (.inl k)) fun k => I.ok.has _ (.inr k)
  refine wpAny_comprehension_free (use := none) rfl hs (closure_ok hfree) ok.kind (fun y hy e => by rw [ok.uniq y hy, e])
    (thn (hi.run pins s σ H _ I h) fun xv s1 hx => thn hx fun itv s2 ⟨it, fp, tn, J, H2, e, I2, T, st2, f2, q⟩ => ?_)
  subst e
  refine PpSet.newSet_ok (newEnv_comp ?_)
  -- the new set
  generalize hD : s2.heap.objs.size = D
  obtain ⟨W, ⟨m0, w0⟩, turn⟩ := q D (I2.hok.fresh (Nat.le_of_eq hD))
  generalize hS : ({ s2 with heap := s2.heap.push { cls := .type "set", dict := none, data := .set #[] 0 (.fresh 0 0 (!X.w.params.followText "set-order")) } } : Shared) = s3
  have kp : ∀ b o, s2.heap.get? b = some o → s3.heap.get? b = some o := fun b o e => by
    rw [← hS]
    exact Heap.get?_push_of_some _ e
  have sz3 : s3.heap.objs.size = s2.heap.objs.size + 1 := by
    rw [← hS]
    exact Heap.size_push _ _
  have I3 : Inv X pins σ (upd H2 D (SetTO X.w D [])) s3 := by
    rw [← hS]
    refine I2.laid (t' := s2.toks) (fun b o e => Heap.get?_push_of_some _ e) (Nat.le_of_eq hD) ?_
    rw [← hD]
    exact setTO_new (setS_fresh X.w)
  have f3 : ∀ b ∈ fp, FpOk X pins (upd H2 D (SetTO X.w D [])) b ∧ b < s3.heap.objs.size := fun b hb => by
    obtain ⟨o, e, _⟩ := T.obj _ _ st2 b hb
    have hlt := Heap.lt_size e
    refine ⟨⟨?_, (f2 b hb).2⟩, by rw [sz3]; exact Nat.lt_succ_of_lt hlt⟩
    rw [upd_ne (by rw [← hD]; exact Nat.ne_of_lt hlt)]
    exact (f2 b hb).1
  have st3 : tn 0 s3.heap := T.keep _ _ _ st2 fun b _ o e => kp b o e
  have I4 := block_start I3 ok hN f3
  generalize hcl : cellsFrom (s3.heap.objs.size + 1) scope.names (cloFrom X.env.cells scope.names []) = cl at I4
  have pg := hg s3 (upd H2 D (SetTO X.w D [])) s3.heap.objs.size cl fp
  have pi1 := hi1 s3 (upd H2 D (SetTO X.w D [])) s3.heap.objs.size cl fp
  have pg1 := hg1 s3 (upd H2 D (SetTO X.w D [])) s3.heap.objs.size cl fp
  have pe := he s3 (upd H2 D (SetTO X.w D [])) s3.heap.objs.size cl fp
  show codeAny (model X.prog X.w) X.A (.compStart (SC2 elt tg iter tg1 iter1 scope pos) 0 (.ref it) (.ref D) (compEnvC scope cl s3.heap.objs.size X.env)) (compPost (model X.prog X.w) X.A X.xe none (EP X pins σ Q) (.ref D) s3.heap.objs.size) { s3 with heap := pushCells (s3.heap.push { cls := .type "dict", data := .dict #[] }) scope.names }
  have nfp : ∀ b ∈ fp, (upd H2 D (SetTO X.w D [])) b = none := fun b hb => (f3 b hb).1.1
  generalize hce : compEnvC scope cl s3.heap.objs.size X.env = ce at I4 pg pi1 pg1 pe ⊢
  have cL : ce.locals = s3.heap.objs.size := by
    subst hce
    rfl
  generalize hH3 : upd H2 D (SetTO X.w D []) = H3 at I3 I4 pg pi1 pg1 pe w0 nfp f3
  generalize hs4 : ({ s3 with heap := pushCells (s3.heap.push { cls := .type "dict", data := .dict #[] }) scope.names } : Shared) = s4 at I4 ⊢
  have st4 : tn 0 s4.heap := T.keep _ _ _ st3 fun b _ o e => by
    rw [← hs4]
    exact pushCells_keeps _ _ _ _ (Heap.get?_push_of_some _ e)
  have stat : ∀ {σ' : L2.St} {H' : Hp} {s' : Shared} {π : List (Addr × Obj)} {fpw : List Addr}, Inv (X.blk s3 H3 scope ce fp) [] σ' H' s' → (∀ b ∈ fp, H' b = none) → ∀ b ∈ fp, FpOk (X.blk s3 H3 scope ce fp) [] H' b := fun {σ' H' s' _ _} I' hn b hb =>
    ⟨hn b hb, (I'.ok.exf b hb).1, I'.ok.exfs b hb, .inl hb, fun x c e => (I'.ok.exf b hb).2 x c e, fun p hp => absurd (show p ∈ ([] : List (Addr × Obj)) ++ [] from hp) (by simp)⟩
  have stat0 : ∀ H', (∀ b ∈ fp, H' b = none) → ∀ b ∈ fp, FpOk (X.blk s3 H3 scope ce fp) [] H' b := fun H' hn b hb =>
    ⟨hn b hb, (I4.ok.exf b hb).1, I4.ok.exfs b hb, .inl hb, fun x c e => (I4.ok.exf b hb).2 x c e, fun p hp => absurd (show p ∈ ([] : List (Addr × Obj)) ++ [] from hp) (by simp)⟩
  have loop : codeAny (model X.prog X.w) X.A (.compLoop (SC2 elt tg iter tg1 iter1 scope pos) 0 (.ref it) (.ref D) ce) (compPost (model X.prog X.w) X.A X.xe none (EP X pins σ Q) (.ref D) s3.heap.objs.size) s4 := by
    refine loop_0 (hs1 _) (Mid (X.blk s3 H3 scope ce fp) fp tn [] (wipe σ (own.map (·.2))) W) (fun n s5 hM => ?_) m0 ⟨0, H3, I4, st4, nfp, w0⟩
    refine walk_turn (Y := X.blk s3 H3 scope ce fp) hc rfl T pg stat0 turn hM (fun H5 s6 I6 qq => ?_) (fun σ8 H8 s8 h7 Nx I8 hw8 q8 back => ?_)
    · have I7 : Inv X pins σ H5 s6 := I3.call' (ch := fp) I6.os I6.base I6.hok I6.bare fun b hb => ⟨(f3 b hb).1.2.2.2.1, (f3 b hb).1.2.1, (f3 b hb).1.2.2.2.2.1, (f3 b hb).1.2.2.2.2.2⟩
      have nC : H5 s3.heap.objs.size = none := by
        have z : H5 ce.locals = none := I6.free
        rw [cL] at z
        exact z
      obtain ⟨m, hn, _⟩ := I6.loc
      have hn : s6.heap.Ns ce.locals m := hn
      rw [cL] at hn
      obtain ⟨f0, f1, f2, f3, f4, f5⟩ := I3.fpOk (Nat.le_refl _) nC
      exact ⟨m, hn, fun h'' sb => ⟨.ref D, H5, I7.turned (t' := s6.toks) (fun b o hb e => (sb.2 b hb).trans e) f0 f1 f3 f4 f5, rfl, qq⟩⟩
    · refine thnF (pi1.run _ s8 σ8 H8 _ I8 q8) fun xv1 s9 hx1 => thnF hx1 fun itv1 s10 ⟨it1, fp1, tn1, J1, H4, e1, I10, T1, st10, f10, W1, ⟨k0, w1⟩, turn1⟩ => ?_
      subst e1
      have I10' := I10.weak (σ' := wipe σ8 vs1) (wipe_length ..) fun j v e => (wipe_some e).1
      refine start_1 ?_ (T1.self _ 0 _ _ _ st10 ?_)
      all_goals
        refine loop_1 (Mid (X.blk s3 H3 scope ce fp) fp1 tn1 _ (wipe σ8 vs1) W1) (fun k s11 hM1 => ?_) k0 ⟨0, H4, I10', st10, fun b hb => (f10 b hb).1, w1⟩
        refine walk_turn (Y := X.blk s3 H3 scope ce fp) hc rfl T1 pg1 (fun H' hn b hb => ⟨hn b hb, (f10 b hb).2⟩) turn1 hM1 (fun H5 s6 I6 qq => ?_) (fun σ9 H9 s12 h8 Nx1 I9 hw9 q9 back1 => ?_)
        · refine ⟨⟨_, rfl⟩, back _ _ _ I6 ?_ ?_ qq⟩
          · have z := congrArg List.length hw8
            rw [wipe_length, wipe_length] at z
            rw [wipe_length, wipe_length, z]
          · intro j v e
            rw [← hw8] at e
            obtain ⟨e1, e2⟩ := wipe_some e
            exact wipe_keep e1 fun z => e2 (hv j z)
        · refine thnF (pe.run _ s12 σ9 H9 _ I9 q9) fun z s13 ⟨yv, H10, I11, r10, zz, ks, ey, hD10, hz10, nx⟩ => ?_
          subst ey
          obtain ⟨u, hu⟩ : ∃ u, z = Value.str zz u := r10
          subst hu
          exact addT_ok (X := X.blk s3 H3 scope ce fp) I11 hD10 hz10 fun s14 I14 => back1 _ _ _ I14 (by have z := congrArg List.length hw9; rw [wipe_length, wipe_length] at z; rw [wipe_length, z]) (fun j v e => (wipe_some (by rw [hw9]; exact e)).1) nx
  exact PpSet.codeAny_compStart_set loop (T.self X.A 0 _ _ _ st4 loop)
end
end ZR
set_option Elab.async false
set_option linter.all false
set_option maxRecDepth 100000
set_option maxHeartbeats 4000000
/-! Rules of my own: {e for t in i if c}, e a text. -/
namespace ZR
open PySem PySem.Spec PyProof.Rows L2
/-- {elt for tg in iter if ..}, elt a text; vs: the block's names -/
def tSc1 (w : World) (wi : TI) (g : TG) (tt : TT) (te : TE) (vs : List Nat) : TE := fun σ H Q => wi σ H fun J H1 => ∀ D, H1 D = none → ∃ W : Nat → Nat → Hp → Prop, (∃ m, W 0 m (upd H1 D (SetTO w D []))) ∧ ∀ i m H, W i m H →
  (J.stop i H ∧ Q (.ref D) H) ∨ (J.go i H ∧ ∃ Nx : Hp → Prop, (∀ H', Nx H' → ∃ m', m' < m ∧ W (i + 1) m' H') ∧ ∀ x H', J.yld i H x H' → g x (wipe σ vs) H' fun σ2 H2 => wipe σ2 vs = wipe σ vs ∧
    tt σ2 H2 fun b H3 => if b = true then te σ2 H3 fun y H6 => ∃ (z : Str) (ks : List Str), y = .str z ∧ H6 D = some (SetTO w D ks) ∧ ks.length + 1 < scanBound ∧ Nx (upd H6 D (SetTO w D (ins z ks))) else Nx H3)
section
variable {X : Cx}
theorem pe_sc1 {elt tg iter : Expr} {ifs : List Expr} {scope : Scope} {own : List (Str × Nat)} {pos : Pos} {wi : TI} {g : TG} {tt : TT} {te : TE} (hc : X.calm = true) (hN : X.N.Nodup) (hi : PI X tg iter wi) (ok : BlkOk X.N X.env.scope scope own)
    (hg : ∀ (s : Shared) (H : Hp) (C : Addr) (cl : List (Str × Addr)) (fp : List Addr), PG (X.blk s H scope (compEnvC scope cl C X.env) fp) tg g)
    (hty : ∀ (s : Shared) (H : Hp) (C : Addr) (cl : List (Str × Addr)) (fp : List Addr), PTs (X.blk s H scope (compEnvC scope cl C X.env) fp) ifs tt)
    (he : ∀ (s : Shared) (H : Hp) (C : Addr) (cl : List (Str × Addr)) (fp : List Addr), PE (X.blk s H scope (compEnvC scope cl C X.env) fp) elt te)
    (hs : ∀ x, foldedSetIterable iter X.env x = pure x := by intro _; rfl) :
    PE X (.SetComp elt [⟨tg, iter, ifs, 0⟩] scope pos) (tSc1 X.w wi g tt te (own.map (·.2))) := by
  refine ⟨fun pins s σ H Q I h => ?_⟩
  rw [PpSet.eval_SetComp]
  have hfree : ∀ y ∈ scope.names, y.2 = .free → ∃ c, X.env.cells.lookup y.1 = some c := fun y hy e => (ok.free y hy e).elim (fun k => I.ok.has _ (.inl k)) fun k => I.ok.has _ (.inr k)
  refine wpAny_comprehension_free (use := none) rfl hs (closure_ok hfree) ok.kind (fun y hy e => by rw [ok.uniq y hy, e])
    (thn (hi.run pins s σ H _ I h) fun xv s1 hx => thn hx fun itv s2 ⟨it, fp, tn, J, H2, e, I2, T, st2, f2, q⟩ => ?_)
  subst e
  refine PpSet.newSet_ok (newEnv_comp ?_)
  generalize hD : s2.heap.objs.size = D
  obtain ⟨W, ⟨m0, w0⟩, turn⟩ := q D (I2.hok.fresh (Nat.le_of_eq hD))
  generalize hS : ({ s2 with heap := s2.heap.push { cls := .type "set", dict := none, data := .set #[] 0 (.fresh 0 0 (!X.w.params.followText "set-order")) } } : Shared) = s3
  have kp : ∀ b o, s2.heap.get? b = some o → s3.heap.get? b = some o := fun b o e => by
    rw [← hS]
    exact Heap.get?_push_of_some _ e
  have sz3 : s3.heap.objs.size = s2.heap.objs.size + 1 := by
    rw [← hS]
    exact Heap.size_push _ _
  have I3 : Inv X pins σ (upd H2 D (SetTO X.w D [])) s3 := by
    rw [← hS]
    refine I2.laid (t' := s2.toks) (fun b o e => Heap.get?_push_of_some _ e) (Nat.le_of_eq hD) ?_
    rw [← hD]
    exact setTO_new (setS_fresh X.w)
  have f3 : ∀ b ∈ fp, FpOk X pins (upd H2 D (SetTO X.w D [])) b ∧ b < s3.heap.objs.size := fun b hb => by
    obtain ⟨o, e, _⟩ := T.obj _ _ st2 b hb
    have hlt := Heap.lt_size e
    refine ⟨⟨?_, (f2 b hb).2⟩, by rw [sz3]; exact Nat.lt_succ_of_lt hlt⟩
    rw [upd_ne (by rw [← hD]; exact Nat.ne_of_lt hlt)]
    exact (f2 b hb).1
  have st3 : tn 0 s3.heap := T.keep _ _ _ st2 fun b _ o e => kp b o e
  have I4 := block_start I3 ok hN f3
  generalize hcl : cellsFrom (s3.heap.objs.size + 1) scope.names (cloFrom X.env.cells scope.names []) = cl at I4
  have pg := hg s3 (upd H2 D (SetTO X.w D [])) s3.heap.objs.size cl fp
  have pt := hty s3 (upd H2 D (SetTO X.w D [])) s3.heap.objs.size cl fp
  have pe := he s3 (upd H2 D (SetTO X.w D [])) s3.heap.objs.size cl fp
  show codeAny (model X.prog X.w) X.A (.compStart (.SetComp elt [⟨tg, iter, ifs, 0⟩] scope pos) 0 (.ref it) (.ref D) (compEnvC scope cl s3.heap.objs.size X.env)) (compPost (model X.prog X.w) X.A X.xe none (EP X pins σ Q) (.ref D) s3.heap.objs.size) { s3 with heap := pushCells (s3.heap.push { cls := .type "dict", data := .dict #[] }) scope.names }
  have nfp : ∀ b ∈ fp, (upd H2 D (SetTO X.w D [])) b = none := fun b hb => (f3 b hb).1.1
  generalize hce : compEnvC scope cl s3.heap.objs.size X.env = ce at I4 pg pt pe ⊢
  have cL : ce.locals = s3.heap.objs.size := by
    subst hce
    rfl
  generalize hH3 : upd H2 D (SetTO X.w D []) = H3 at I3 I4 pg pt pe w0 nfp f3
  generalize hs4 : ({ s3 with heap := pushCells (s3.heap.push { cls := .type "dict", data := .dict #[] }) scope.names } : Shared) = s4 at I4 ⊢
  have st4 : tn 0 s4.heap := T.keep _ _ _ st3 fun b _ o e => by
    rw [← hs4]
    exact pushCells_keeps _ _ _ _ (Heap.get?_push_of_some _ e)
  have stat0 : ∀ H', (∀ b ∈ fp, H' b = none) → ∀ b ∈ fp, FpOk (X.blk s3 H3 scope ce fp) [] H' b := fun H' hn b hb =>
    ⟨hn b hb, (I4.ok.exf b hb).1, I4.ok.exfs b hb, .inl hb, fun x c e => (I4.ok.exf b hb).2 x c e, fun p hp => absurd (show p ∈ ([] : List (Addr × Obj)) ++ [] from hp) (by simp)⟩
  have loop : codeAny (model X.prog X.w) X.A (.compLoop (.SetComp elt [⟨tg, iter, ifs, 0⟩] scope pos) 0 (.ref it) (.ref D) ce) (compPost (model X.prog X.w) X.A X.xe none (EP X pins σ Q) (.ref D) s3.heap.objs.size) s4 := by
    refine PpSet.compLoopS_any (Mid (X.blk s3 H3 scope ce fp) fp tn [] (wipe σ (own.map (·.2))) W) (fun n s5 hM => ?_) m0 ⟨0, H3, I4, st4, nfp, w0⟩
    refine walk_turn (Y := X.blk s3 H3 scope ce fp) hc rfl T pg stat0 turn hM (fun H5 s6 I6 qq => ?_) (fun σ8 H8 s8 h7 Nx I8 hw8 q8 back => ?_)
    · have I7 : Inv X pins σ H5 s6 := I3.call' (ch := fp) I6.os I6.base I6.hok I6.bare fun b hb => ⟨(f3 b hb).1.2.2.2.1, (f3 b hb).1.2.1, (f3 b hb).1.2.2.2.2.1, (f3 b hb).1.2.2.2.2.2⟩
      have nC : H5 s3.heap.objs.size = none := by
        have z : H5 ce.locals = none := I6.free
        rw [cL] at z
        exact z
      obtain ⟨m, hn, _⟩ := I6.loc
      have hn : s6.heap.Ns ce.locals m := hn
      rw [cL] at hn
      obtain ⟨f0, f1, f2, f3, f4, f5⟩ := I3.fpOk (Nat.le_refl _) nC
      exact ⟨m, hn, fun h'' sb => ⟨.ref D, H5, I7.turned (t' := s6.toks) (fun b o hb e => (sb.2 b hb).trans e) f0 f1 f3 f4 f5, rfl, qq⟩⟩
    · have hlen : (wipe σ (own.map (·.2))).length = σ8.length := by
        rw [← hw8, wipe_length]
      have hkeep : ∀ (j : Nat) v, (wipe σ (own.map (·.2)))[j]? = some (some v) → σ8[j]? = some (some v) := fun j v e => by
        rw [← hw8] at e
        exact (wipe_some e).1
      refine thnF (pt.run _ s8 σ8 H8 _ I8 q8) fun b s9 ⟨H9, I9, q9⟩ => ?_
      cases b with
      | false => exact back σ8 H9 s9 I9 hlen hkeep q9
      | true =>
        refine thnF (pe.run _ s9 σ8 H9 _ I9 q9) fun z s13 ⟨yv, H10, I11, r10, zz, ks, ey, hD10, hz10, nx⟩ => ?_
        subst ey
        obtain ⟨u, hu⟩ : ∃ u, z = Value.str zz u := r10
        subst hu
        exact addT_ok (X := X.blk s3 H3 scope ce fp) I11 hD10 hz10 fun s14 I14 => back _ _ _ I14 hlen hkeep nx
  exact PpSet.codeAny_compStart_set loop (T.self X.A 0 _ _ _ st4 loop)
end
/-! words that are not opened by themselves -/
@[irreducible] def tSc1S (w : World) (wi : TI) (g : TG) (tt : TT) (te : TE) (vs : List Nat) : TE := tSc1 w wi g tt te vs
theorem sc1S : @tSc1S = @tSc1 := by
  funext w wi g tt te vs
  unfold tSc1S
  rfl
@[irreducible] def tDcS (wi : TI) (g : TG) (tt : TT) (tk tv : TE) (vs : List Nat) : TE := tDc wi g tt tk tv vs
theorem dcS : @tDcS = @tDc := by
  funext wi g tt tk tv vs
  unfold tDcS
  rfl
section
variable {X : Cx} {w : World} {wi : TI} {g : TG} {tt : TT} {te tk tv : TE} {vs : List Nat} {σ : L2.St} {H : Hp} {Q : VK}
theorem pe_sealed1 {e : Expr} (h : PE X e (tSc1 X.w wi g tt te vs)) : PE X e (tSc1S X.w wi g tt te vs) := by
  rw [sc1S]
  exact h
theorem pe_sealedD {e : Expr} (h : PE X e (tDc wi g tt tk tv vs)) : PE X e (tDcS wi g tt tk tv vs) := by
  rw [dcS]
  exact h
theorem sc1_into (h : wi σ H fun J H1 => tSc1S w (fun _ _ R => R J H1) g tt te vs σ H1 Q) : tSc1S w wi g tt te vs σ H Q := by
  rw [sc1S] at *
  exact h
theorem dc_into (h : wi σ H fun J H1 => tDcS (fun _ _ R => R J H1) g tt tk tv vs σ H1 Q) : tDcS wi g tt tk tv vs σ H Q := by
  rw [dcS] at *
  exact h
end
end ZR
set_option Elab.async false
set_option linter.all false
set_option maxRecDepth 100000
set_option maxHeartbeats 4000000
/-! Rules of my own: d.update(e) of two dicts; t.index(n), t a tuple of whole numbers. -/
namespace ZR
open PySem PySem.Spec PyProof.Rows L2
def rDUpd : V → List V → Hp → VK → Prop := fun x vs H Q => ∃ (a b : Addr) (kvs more : List (Key × V)), x = .ref a ∧ vs = [.ref b] ∧ a ≠ b ∧ H a = some (.dK kvs) ∧ H b = some (.dK more) ∧ kvs.length + more.length ≤ sizeLine ∧ Q .non (upd H a (.dK (mergeK kvs more)))
theorem mtd_update {X : Cx} : MtR X "dict.update" rDUpd := by
  intro pins s σ H x vs v us Q I rx rv h
  obtain ⟨a, b, kvs, more, ex, ev, hne, ea, eb, hsz, q⟩ := h
  subst ex
  subst ev
  cases rx
  obtain ⟨u, eu, ru⟩ := rv.one
  subst eu
  cases ru
  obtain ⟨za, da, va, ra, ka⟩ := dk_of I.hok ea
  obtain ⟨zb, db, vb, rb, kb⟩ := dk_of I.hok eb
  refine call_meetsIn PySem.F.slot_dict_update ka.typeIs PySem.F.entry_dict_update (PySem.F.args_dict_update_2 _ _) (meets_dict_update (mixKind X.prog X.w) a b hne db) ⟨va, vb, ka, kb, by rw [← ra.length, ← rb.length]; exact hsz, fun h' k1 _ sb => ?_⟩
  have I2 := d_write (t' := s.toks) (ob := .dK (mergeK kvs more)) I (by rw [ea]; exact True.intro) sb ⟨_, k1.choose_spec.choose_spec.choose_spec.1⟩ (dk_new (Nat.le_trans (length_mergeK more kvs) hsz) da (KV.merge rb ra) k1)
  exact ⟨.non, _, I2, rfl, q⟩
/-- fresh keys are put behind -/
theorem merge_fresh : ∀ (more kvs : List (Key × V)), ((kvs ++ more).map (·.1)).Nodup → mergeK kvs more = kvs ++ more
  | [], kvs, _ => (List.append_nil kvs).symm
  | p :: r, kvs, h => by
    have h1 : p.1 ∉ kvs.map (·.1) := fun m => by
      rw [List.map_append, List.map_cons] at h
      exact (List.nodup_append.mp h).2.2 _ m _ List.mem_cons_self rfl
    have e : putK kvs p.1 p.2 = kvs ++ [p] := by
      unfold putK
      have : (kvs.any fun x => decide (x.1 = p.1)) = false := by
        rw [Bool.eq_false_iff]
        intro z
        obtain ⟨q, hq, hd⟩ := List.any_eq_true.mp z
        exact h1 (by rw [← of_decide_eq_true hd]; exact List.mem_map_of_mem hq)
      rw [this]
      rfl
    show mergeK (putK kvs p.1 p.2) r = _
    rw [e, merge_fresh r (kvs ++ [p]) (by rw [List.append_assoc]; exact h), List.append_assoc]
    rfl
theorem flat_intsL (ns : List Int) : (ns.map V.int).all flatV = true := by
  induction ns with
  | nil => rfl
  | cons _ _ ih => exact ih
/-- t.index(n), the first place, of whole numbers -/
def rTIdx (K : PySem.W.Frag) : V → List V → Hp → VK → Prop := fun x vs H Q => ∃ (a : Addr) (ns : List Int) (n : Int) (j : Nat), x = .ref a ∧ vs = [.int n] ∧ SqT K H a (ns.map V.int) ∧ ns[j]? = some n ∧ (∀ m, m < j → ns[m]? ≠ some n) ∧ Q (.int (j : Nat)) H
theorem mt_tidx {X : Cx} : MtR X "tuple.index" (rTIdx X.K) := by
  intro pins s σ H x vs v us Q I rx rv h
  obtain ⟨a, ns, n, j, ex, ev, hS, hj, hf, q⟩ := h
  subst ex
  subst ev
  cases rx
  obtain ⟨u, eu, tk, ru⟩ := rv.one
  subst eu
  subst ru
  obtain ⟨its, rr, ⟨⟨oc, od, odt, osl⟩, ho, hc, nn, hd⟩, _⟩ := I.tuple hS
  dsimp only at hc hd
  subst hc
  subst hd
  have hlen : ns.length = its.length := by
    have := rr.length
    rwa [List.length_map] at this
  have item : ∀ (m : Nat) (hm : m < its.toArray.size), ∃ t', ∃ (hm2 : m < ns.length), its.toArray[m] = Value.int ns[m] t' := fun m hm => by
    have hm2 : m < ns.length := by
      rw [hlen]
      rwa [List.size_toArray] at hm
    obtain ⟨w, hw, t', ew⟩ := rr.get (i := m) (x := .int ns[m]) (by rw [List.getElem?_map, List.getElem?_eq_getElem hm2]; rfl)
    refine ⟨t', hm2, ?_⟩
    rw [List.getElem_toArray]
    rw [← ew]
    exact (List.getElem?_eq_some_iff.mp hw).2
  have hjn : j < ns.length := (List.getElem?_eq_some_iff.mp hj).1
  have hja : j < its.toArray.size := by
    rw [List.size_toArray, ← hlen]
    exact hjn
  refine call_meets PySem.F.slot_tuple_index ⟨_, ho, rfl⟩ PySem.F.entry_tuple_index (PySem.F.args_tuple_index_2 _ _) (TI.tuple_indexAt a its.toArray nn od osl (.int n tk) (eqU (.int n)) j hja ?_ ?_) ⟨ho, fun w hw => mem_eqAt (x := .int n) ⟨tk, rfl⟩ rfl rr (flat_intsL ns) w (by simpa using hw), ⟨.int (j : Nat), H, I.tok _, ⟨_, rfl⟩, q⟩⟩
  · obtain ⟨t', hm2, e⟩ := item j hja
    have e2 : ns[j] = n := (List.getElem?_eq_some_iff.mp hj).2
    rw [e, e2]
    show eqV (.int n) (.int n) = true
    exact beq_self_eq_true n
  · intro m hm hmj
    obtain ⟨t', hm2, e⟩ := item m hm
    rw [e]
    show (ns[m] == n) = false
    rw [beq_eq_false_iff_ne]
    intro z
    exact hf m hmj (by rw [List.getElem?_eq_getElem hm2, z])
end ZR
set_option Elab.async false
set_option linter.all false
set_option maxRecDepth 100000
set_option maxHeartbeats 4000000
/-! Comprehensions whose words are not opened by themselves. -/
namespace ZR
open PySem PySem.Spec PyProof.Rows L2
@[irreducible] def tLcS (wi : TI) (g : TG) (tt : TT) (te : TE) (vs : List Nat) : TE := tLc wi g tt te vs
theorem lcS : @tLcS = @tLc := by
  funext wi g tt te vs
  unfold tLcS
  rfl
@[irreducible] def tSc2S (w : World) (wi : TI) (g : TG) (wi1 : TI) (g1 : TG) (te : TE) (vs vs1 : List Nat) : TE := tSc2 w wi g wi1 g1 te vs vs1
theorem sc2S : @tSc2S = @tSc2 := by
  funext w wi g wi1 g1 te vs vs1
  unfold tSc2S
  rfl
section
variable {X : Cx}
theorem pe_lcS {elt tg iter : Expr} {ifs : List Expr} {scope : Scope} {own : List (Str × Nat)} {pos : Pos} {wi : TI} {g : TG} {tt : TT} {te : TE} (hc : X.calm = true) (hN : X.N.Nodup) (hi : PI X tg iter wi) (ok : BlkOk X.N X.env.scope scope own)
    (hg : ∀ (s : Shared) (H : Hp) (C : Addr) (cl : List (Str × Addr)) (fp : List Addr), PG (X.blk s H scope (compEnvC scope cl C X.env) fp) tg g) (ht : ∀ (s : Shared) (H : Hp) (C : Addr) (cl : List (Str × Addr)) (fp : List Addr), PTs (X.blk s H scope (compEnvC scope cl C X.env) fp) ifs tt)
    (he : ∀ (s : Shared) (H : Hp) (C : Addr) (cl : List (Str × Addr)) (fp : List Addr), PE (X.blk s H scope (compEnvC scope cl C X.env) fp) elt te) (hs : ∀ x, foldedSetIterable iter X.env x = pure x := by intro _; rfl) :
    PE X (.ListComp elt [⟨tg, iter, ifs, 0⟩] scope pos) (tLcS wi g tt te (own.map (·.2))) := by
  rw [lcS]
  exact pe_lc hc hN hi ok hg ht he hs
theorem ps_setLcS {i : Nat} {y : Str} {py : Pos} {elt tg iter : Expr} {ifs : List Expr} {scope : Scope} {own : List (Str × Nat)} {pos spos : Pos} {wi : TI} {g : TG} {tt : TT} {te : TE} (hc : X.calm = true) (hN : X.N.Nodup) (hy : X.N[i]? = some y) (hyl : X.env.scope.names.lookup y = some .local)
    (hsw : swapsWith (.ListComp elt [⟨tg, iter, ifs, 0⟩] scope pos) (some (.Name y py)) spos.line X.env = pure true) (hi : PI X tg iter wi) (ok : BlkOk X.N X.env.scope scope own)
    (hg : ∀ (s : Shared) (H : Hp) (C : Addr) (cl : List (Str × Addr)) (fp : List Addr), PG (X.blk s H scope (compEnvC scope cl C X.env) fp) tg g) (ht : ∀ (s : Shared) (H : Hp) (C : Addr) (cl : List (Str × Addr)) (fp : List Addr), PTs (X.blk s H scope (compEnvC scope cl C X.env) fp) ifs tt)
    (he : ∀ (s : Shared) (H : Hp) (C : Addr) (cl : List (Str × Addr)) (fp : List Addr), PE (X.blk s H scope (compEnvC scope cl C X.env) fp) elt te) (hs : ∀ x, foldedSetIterable iter X.env x = pure x := by intro _; rfl) :
    PS X (.Assign [.Name y py] (.ListComp elt [⟨tg, iter, ifs, 0⟩] scope pos) spos) (tAsg (tLcS wi g tt te (own.map (·.2))) (gName i)) := by
  rw [lcS]
  exact ps_setLc hc hN hy hyl hsw hi ok hg ht he hs
theorem pe_sc2S {elt tg iter tg1 iter1 : Expr} {scope : Scope} {own : List (Str × Nat)} {vs1 : List Nat} {pos : Pos} {wi wi1 : TI} {g g1 : TG} {te : TE} (hc : X.calm = true) (hN : X.N.Nodup) (hi : PI X tg iter wi) (ok : BlkOk X.N X.env.scope scope own) (hv : ∀ i ∈ vs1, i ∈ own.map (·.2))
    (hg : ∀ (s : Shared) (H : Hp) (C : Addr) (cl : List (Str × Addr)) (fp : List Addr), PG (X.blk s H scope (compEnvC scope cl C X.env) fp) tg g)
    (hi1 : ∀ (s : Shared) (H : Hp) (C : Addr) (cl : List (Str × Addr)) (fp : List Addr), PI (X.blk s H scope (compEnvC scope cl C X.env) fp) tg1 iter1 wi1)
    (hg1 : ∀ (s : Shared) (H : Hp) (C : Addr) (cl : List (Str × Addr)) (fp : List Addr), PG (X.blk s H scope (compEnvC scope cl C X.env) fp) tg1 g1)
    (he : ∀ (s : Shared) (H : Hp) (C : Addr) (cl : List (Str × Addr)) (fp : List Addr), PE (X.blk s H scope (compEnvC scope cl C X.env) fp) elt te)
    (hs : ∀ x, foldedSetIterable iter X.env x = pure x := by intro _; rfl) (hs1 : ∀ env x, foldedSetIterable iter1 env x = pure x := by intro _ _; rfl) :
    PE X (.SetComp elt [⟨tg, iter, [], 0⟩, ⟨tg1, iter1, [], 0⟩] scope pos) (tSc2S X.w wi g wi1 g1 te (own.map (·.2)) vs1) := by
  rw [sc2S]
  exact pe_sc2 hc hN hi ok hv hg hi1 hg1 he hs hs1
/-! cuts -/
def tCutE (te : TE) : TE := fun σ H Q => ∃ M : VK, te σ H M ∧ ∀ v H', M v H' → Q v H'
theorem pe_cut {e : Expr} {te : TE} (h : PE X e te) : PE X e (tCutE te) := ⟨fun pins s σ H Q I ⟨M, h1, h2⟩ => thn (h.run pins s σ H M I h1) fun u s' ⟨v, H', I', r, q⟩ => ⟨v, H', I', r, h2 v H' q⟩⟩
def tCutT (tt : TT) : TT := fun σ H Q => ∃ M : Bool → Hp → Prop, tt σ H M ∧ ∀ b H', M b H' → Q b H'
theorem pt_cut {e : Expr} {tt : TT} (h : PT X e tt) : PT X e (tCutT tt) := ⟨fun pins s σ H Q I ⟨M, h1, h2⟩ => thn (h.run pins s σ H M I h1) fun b s' ⟨H', I', q⟩ => ⟨H', I', h2 b H' q⟩⟩
def tCutS (t : TS) : TS := fun D σ H => ∃ Mid : L2.St → Hp → Prop, t { D with nx := Mid } σ H ∧ ∀ σ' H', Mid σ' H' → D.nx σ' H'
theorem ps_cut {st : Stmt} {t : TS} (h : PS X st t) : PS X st (tCutS t) := by
  refine ⟨fun pins s σ H D I ⟨Mid, h1, h2⟩ => thn (h.run pins s σ H { D with nx := Mid } I h1) fun f s1 q => ?_⟩
  cases f with
  | next =>
    obtain ⟨σ', H', I', q⟩ := q
    exact ⟨σ', H', I', h2 σ' H' q⟩
  | ret v => exact q
  | brk => exact q
  | cont => exact q
end
end ZR
set_option Elab.async false
set_option linter.all false
set_option maxRecDepth 100000
set_option maxHeartbeats 4000000
/-! Programs: rows and blocks as own data, how they stand in the heap, their numbering. -/
namespace PM
open PySem PySem.Spec PyProof.Rows L2 ZX
inductive Rw where
  | note (x o : Str) (ps : List Str)
  | copy (x y : Str)
  | give (x : Str) (i : Int)
  | ask (x : Str)
  | prt (x : Str)
  | either (a b : List Rw)
  | again (a : List Rw)
mutual
def dR : Rw → PyData
  | .note x o ps => .tuple [.str "note", .str x, .str o, .tuple (ps.map .str)]
  | .copy x y => .tuple [.str "copy", .str x, .str y]
  | .give x i => .tuple [.str "give", .str x, .int i]
  | .ask x => .tuple [.str "ask", .str x]
  | .prt x => .tuple [.str "print", .str x]
  | .either a b => .tuple [.str "either", .tuple (dB a), .tuple (dB b)]
  | .again a => .tuple [.str "again", .tuple (dB a)]
def dB : List Rw → List PyData
  | [] => []
  | r :: b => dR r :: dB b
end
mutual
/-- a row and those within -/
def rowsR : Rw → List Rw
  | .either a b => .either a b :: (rowsB a ++ rowsB b)
  | .again a => .again a :: rowsB a
  | .note x o ps => [.note x o ps]
  | .copy x y => [.copy x y]
  | .give x i => [.give x i]
  | .ask x => [.ask x]
  | .prt x => [.prt x]
def rowsB : List Rw → List Rw
  | [] => []
  | r :: b => rowsR r ++ rowsB b
end
/-- the blocks within a row -/
def inner : Rw → List (List Rw)
  | .either a b => [a, b]
  | .again a => [a]
  | _ => []
def namesR : Rw → List Str
  | .note x _ ps => x :: ps
  | .copy x y => [x, y]
  | .give x _ => [x]
  | .ask x => [x]
  | .prt x => [x]
  | _ => []
mutual
/-- the next places of a row's rows -/
def leadsR : Rw → Nat → Nat → List (List Nat)
  | .either a b, p, e => [if a.isEmpty then e else p + 1, if b.isEmpty then e else p + 1 + (rowsB a).length] :: (leadsB a (p + 1) e ++ leadsB b (p + 1 + (rowsB a).length) e)
  | .again a, p, e => [if a.isEmpty then p else p + 1, e] :: leadsB a (p + 1) p
  | .note _ _ _, _, e => [[e]]
  | .copy _ _, _, e => [[e]]
  | .give _ _, _, e => [[e]]
  | .ask _, _, e => [[e]]
  | .prt _, _, e => [[e]]
def leadsB : List Rw → Nat → Nat → List (List Nat)
  | [], _, _ => []
  | r :: b, p, e => leadsR r p (if b.isEmpty then e else p + (rowsR r).length) ++ leadsB b (p + (rowsR r).length) e
end
mutual
/-- how deep blocks stand within -/
def depR : Rw → Nat
  | .either a b => max (depB a) (depB b) + 1
  | .again a => depB a + 1
  | .note _ _ _ => 0
  | .copy _ _ => 0
  | .give _ _ => 0
  | .ask _ => 0
  | .prt _ => 0
def depB : List Rw → Nat
  | [] => 0
  | r :: b => max (depR r) (depB b)
end
theorem rowsR_eq (r : Rw) : rowsR r = r :: (inner r).flatMap rowsB := by
  cases r <;> simp [rowsR, inner]
theorem dB_eq : ∀ b : List Rw, dB b = b.map dR
  | [] => rfl
  | r :: b => by rw [dB, dB_eq b]; rfl
theorem rowsB_eq : ∀ b : List Rw, rowsB b = b.flatMap rowsR
  | [] => rfl
  | r :: b => by rw [rowsB, rowsB_eq b]; rfl
theorem rowsR_pos (r : Rw) : 0 < (rowsR r).length := by
  rw [rowsR_eq]
  exact Nat.succ_pos _
mutual
theorem leadsR_len : ∀ (r : Rw) (p e : Nat), (leadsR r p e).length = (rowsR r).length
  | .either a b, p, e => by simp [leadsR, rowsR, leadsB_len a, leadsB_len b]
  | .again a, p, e => by simp [leadsR, rowsR, leadsB_len a]
  | .note _ _ _, _, _ => rfl
  | .copy _ _, _, _ => rfl
  | .give _ _, _, _ => rfl
  | .ask _, _, _ => rfl
  | .prt _, _, _ => rfl
theorem leadsB_len : ∀ (b : List Rw) (p e : Nat), (leadsB b p e).length = (rowsB b).length
  | [], _, _ => rfl
  | r :: b, p, e => by simp [leadsB, rowsB, leadsR_len r, leadsB_len b]
end
/-! ### in the heap -/
mutual
/-- a thing of tuples, texts, numbers, flags -/
inductive Tv (K : PySem.W.Frag) (H : Hp) : V → PyData → Prop
  | non : Tv K H .non .none
  | bl (b : Bool) : Tv K H (.bl b) (.bool b)
  | int (i : Int) : Tv K H (.int i) (.int i)
  | str (x : Str) : Tv K H (.str x) (.str x)
  | tup {a : Addr} {xs : List V} {ds : List PyData} : SqT K H a xs → Tvs K H xs ds → Tv K H (.ref a) (.tuple ds)
inductive Tvs (K : PySem.W.Frag) (H : Hp) : List V → List PyData → Prop
  | nil : Tvs K H [] []
  | cons {v : V} {vs : List V} {d : PyData} {ds : List PyData} : Tv K H v d → Tvs K H vs ds → Tvs K H (v :: vs) (d :: ds)
end
/-- all tuples stand -/
def Pt (H H' : Hp) : Prop := ∀ b xs, Rd H b (.tup xs) → Rd H' b (.tup xs)
theorem Pt.refl (H : Hp) : Pt H H := fun _ _ h => h
theorem Pt.trans {H H1 H2 : Hp} (a : Pt H H1) (b : Pt H1 H2) : Pt H H2 := fun c o h => b c o (a c o h)
theorem _root_.L2.Same.pt {H H' : Hp} (s : Same H H') : Pt H H' := fun b xs h => h.elim (fun h => .inl (s _ _ h)) fun ⟨o, h⟩ => .inr ⟨o, s _ _ h⟩
/-- a list changes -/
theorem Pt.lst {H : Hp} {a : Addr} {xs : List V} {o : HO} (h : H a = some (.lst xs)) : Pt H (upd H a o) := fun b ys hb => by
  have ne : b ≠ a := fun e => by
    subst e
    rcases hb with hb | ⟨o, hb⟩ <;> rw [h] at hb <;> cases hb
  exact hb.elim (fun h => .inl (by rw [upd_ne ne]; exact h)) fun ⟨o, h⟩ => .inr ⟨o, by rw [upd_ne ne]; exact h⟩
theorem Pt.new {H : Hp} {a : Addr} {o : HO} (h : H a = none) : Pt H (upd H a o) := Same.pt fun b u e => by
  rw [upd_ne (ne_of_none e h)]
  exact e
theorem Kp.pt {p : Addr} {H H' : Hp} {xs : List V} (h : H p = some (.lst xs)) (k : Kp p H H') : Pt H H' := fun b ys hb => by
  have ne : b ≠ p := fun e => by
    subst e
    rcases hb with hb | ⟨o, hb⟩ <;> rw [h] at hb <;> cases hb
  exact hb.elim (fun h => .inl (k _ _ ne h)) fun ⟨o, h⟩ => .inr ⟨o, k _ _ ne h⟩
section
variable {K : PySem.W.Frag} {H H' : Hp}
theorem Pt.sq {a : Addr} {xs : List V} (p : Pt H H') (h : SqT K H a xs) : SqT K H' a xs := h.imp (p _ _) id
mutual
theorem Tv.pt (p : Pt H H') : ∀ {v : V} {d : PyData}, Tv K H v d → Tv K H' v d
  | _, _, .non => .non
  | _, _, .bl b => .bl b
  | _, _, .int i => .int i
  | _, _, .str x => .str x
  | _, _, .tup h t => .tup (p.sq h) (Tvs.pt p t)
theorem Tvs.pt (p : Pt H H') : ∀ {vs : List V} {ds : List PyData}, Tvs K H vs ds → Tvs K H' vs ds
  | _, _, .nil => .nil
  | _, _, .cons h t => .cons (Tv.pt p h) (Tvs.pt p t)
end
mutual
theorem Tv.dp : ∀ {v : V} {d : PyData}, Tv K H v d → Dp K H v d
  | _, _, .non => .non
  | _, _, .bl b => .bl b
  | _, _, .int i => .int i
  | _, _, .str x => .str x
  | _, _, .tup h t => .tup h (Tvs.dp t)
theorem Tvs.dp : ∀ {vs : List V} {ds : List PyData}, Tvs K H vs ds → DpAll K H vs ds
  | _, _, .nil => .nil
  | _, _, .cons h t => .cons (Tv.dp h) (Tvs.dp t)
end
theorem Tvs.len : ∀ {vs : List V} {ds : List PyData}, Tvs K H vs ds → vs.length = ds.length
  | _, _, .nil => rfl
  | _, _, .cons _ t => congrArg Nat.succ (Tvs.len t)
theorem Tvs.app : ∀ {vs : List V} {ds : List PyData} {us : List V} {es : List PyData}, Tvs K H vs ds → Tvs K H us es → Tvs K H (vs ++ us) (ds ++ es)
  | _, _, _, _, .nil, t => t
  | _, _, _, _, .cons h t, u => .cons h (Tvs.app t u)
theorem Tvs.get : ∀ {vs : List V} {ds : List PyData} {i : Nat} {d : PyData}, Tvs K H vs ds → ds[i]? = some d → ∃ v, vs[i]? = some v ∧ Tv K H v d
  | _, _, i, _, .nil, e => by simp at e
  | _, _, 0, _, .cons h t, e => by
    cases e
    exact ⟨_, rfl, h⟩
  | _, _, i + 1, _, .cons h t, e => Tvs.get (i := i) t e
theorem Tvs.strs : ∀ {vs : List V} {ps : List Str}, Tvs K H vs (ps.map .str) → vs = ps.map V.str
  | _, [], .nil => rfl
  | _, _ :: _, .cons h t => by
    cases h
    rw [List.map_cons, Tvs.strs t]
theorem Tvs.ofStrs : ∀ {ps : List Str}, Tvs K H (ps.map V.str) (ps.map .str)
  | [] => .nil
  | _ :: _ => .cons (.str _) Tvs.ofStrs
end
abbrev RV (K : PySem.W.Frag) (H : Hp) (v : V) (r : Rw) : Prop := Tv K H v (dR r)
abbrev BV (K : PySem.W.Frag) (H : Hp) (v : V) (b : List Rw) : Prop := Tv K H v (.tuple (dB b))
abbrev RVs (K : PySem.W.Frag) (H : Hp) (vs : List V) (b : List Rw) : Prop := Tvs K H vs (dB b)
end PM
set_option Elab.async false
set_option linter.all false
set_option maxRecDepth 100000
set_option maxHeartbeats 4000000
/-! List comprehensions over things that stand, by what each item gives. -/
namespace PM
open PySem PySem.Spec PyProof.Rows L2 ZX ZR
theorem ifD {p A B : Prop} [Decidable p] (h : p) (a : A) : if decide p = true then A else B := by
  rw [decide_eq_true h]
  exact a
theorem ifDF {p A B : Prop} [Decidable p] (h : ¬ p) (b : B) : if decide p = true then A else B := by
  rw [decide_eq_false h]
  exact b
theorem ifB {c : Bool} {A B : Prop} (h : c = true) (a : A) : if c = true then A else B := by
  rw [h]
  exact a
theorem ifBF {c : Bool} {A B : Prop} (h : c = false) (b : B) : if c = true then A else B := by
  rw [h]
  exact b
/-- all that was tracked, but what stands at p, stands -/
def Kq (p : Option Addr) (H H' : Hp) : Prop := ∀ b o, some b ≠ p → H b = some o → H' b = some o
section
variable {p : Option Addr} {H H1 H2 : Hp}
theorem Kq.refl : Kq p H H := fun _ _ _ h => h
theorem Kq.trans (a : Kq p H H1) (b : Kq p H1 H2) : Kq p H H2 := fun c o n h => b c o n (a c o n h)
theorem Kq.new {a : Addr} {o : HO} (k : Kq p H H1) (h : H a = none) : Kq p H (upd H1 a o) := fun b u n e => by
  rw [upd_ne (ne_of_none e h)]
  exact k b u n e
theorem _root_.L2.Same.kq (s : Same H H1) : Kq p H H1 := fun b o _ h => s b o h
theorem Kq.same (k : Kq none H H1) : Same H H1 := fun b o h => k b o (fun z => nomatch z) h
theorem Kp.kq {p : Addr} (k : Kp p H H1) : Kq (some p) H H1 := fun b o n h => k b o (fun z => n (by rw [z])) h
theorem Kq.kp {p : Addr} (k : Kq (some p) H H1) : Kp p H H1 := fun b o n h => k b o (fun z => n (by injection z)) h
end
/-- J walks over zs as long as St holds -/
structure IterOf (J : It) (zs : List V) (St : Hp → Prop) : Prop where
  stop : ∀ H, St H → J.stop zs.length H
  go : ∀ i H, St H → i < zs.length → J.go i H
  yld : ∀ i H v H', St H → i < zs.length → J.yld i H v H' → H' = H ∧ zs[i]? = some v
theorem it_list {K : PySem.W.Frag} {a : Addr} {xs : List V} : IterOf (Itl K a) xs fun H => SqL K H a xs :=
  ⟨fun H h => ⟨xs, h, Nat.le_refl _⟩, fun i H h l => ⟨xs, xs[i], h, List.getElem?_eq_getElem l⟩, fun i H v H' h _ y => ⟨y.1, y.2 xs h⟩⟩
theorem it_tup {K : PySem.W.Frag} {a : Addr} {xs : List V} : IterOf (Itt K a) xs fun H => SqT K H a xs :=
  ⟨fun H h => ⟨xs, h, Nat.le_refl _⟩, fun i H h l => ⟨xs, xs[i], h, List.getElem?_eq_getElem l⟩, fun i H v H' h _ y => ⟨y.1, y.2 xs h⟩⟩
/-- the letters of a text -/
def letters (x : Str) : List V := x.cps.toList.map fun c => .str ⟨#[c]⟩
theorem letters_len (x : Str) : (letters x).length = x.cps.size := by rw [letters, List.length_map, Array.length_toList]
theorem it_str {x : Str} : IterOf (Its x) (letters x) fun _ => True :=
  ⟨fun H _ => Nat.le_of_eq (letters_len x).symm, fun i H _ l => by
    show i < x.cps.size
    rw [← letters_len]
    exact l, fun i H v H' _ _ y => by
    obtain ⟨e, c, hc, rfl⟩ := y
    refine ⟨e, ?_⟩
    rw [letters, List.getElem?_map, Array.getElem?_toList, hc]
    rfl⟩
theorem it_range {lo : Int} {n : Nat} : IterOf (Itr lo n) ((List.range n).map fun i => V.int (lo + (i : Nat))) fun _ => True := by
  refine ⟨fun H _ => ?_, fun i H _ l => ?_, fun i H v H' _ l y => ?_⟩
  · show n ≤ _
    simp
  · have l' := l
    rw [List.length_map, List.length_range] at l'
    exact l'
  · obtain ⟨e, rfl⟩ := y
    refine ⟨e, ?_⟩
    rw [List.length_map, List.length_range] at l
    rw [List.getElem?_map, List.getElem?_range l]
    rfl
/-- pairwise -/
inductive All2 {α β : Type} (R : α → β → Prop) : List α → List β → Prop
  | nil : All2 R [] []
  | cons {a : α} {b : β} {as : List α} {bs : List β} : R a b → All2 R as bs → All2 R (a :: as) (b :: bs)
theorem All2.imp {α β : Type} {R S : α → β → Prop} (f : ∀ a b, R a b → S a b) : ∀ {as : List α} {bs : List β}, All2 R as bs → All2 S as bs
  | _, _, .nil => .nil
  | _, _, .cons h t => .cons (f _ _ h) (All2.imp f t)
theorem All2.snoc {α β : Type} {R : α → β → Prop} {a : α} {b : β} (r : R a b) : ∀ {as : List α} {bs : List β}, All2 R as bs → All2 R (as ++ [a]) (bs ++ [b])
  | _, _, .nil => .cons r .nil
  | _, _, .cons h t => .cons h (All2.snoc r t)
theorem All2.len {α β : Type} {R : α → β → Prop} : ∀ {as : List α} {bs : List β}, All2 R as bs → as.length = bs.length
  | _, _, .nil => rfl
  | _, _, .cons _ t => congrArg Nat.succ (All2.len t)
theorem All2.map {α β : Type} {f : α → β} : ∀ {as : List α} {bs : List β}, All2 (fun a b => b = f a) as bs → bs = as.map f
  | _, _, .nil => rfl
  | _, _, .cons h t => by rw [h, All2.map t]; rfl
section
variable {J : It} {zs : List V} {St : Hp → Prop} {g : TG} {te : TE} {vs : List Nat} {σ : L2.St} {H1 : Hp} {Q : VK} {p : Option Addr} {Rel : Hp → V → V → Prop}
theorem lc_into {wi : TI} {tt : TT} {H : Hp} (h : wi σ H fun J H1 => tLcS (fun _ _ R => R J H1) g tt te vs σ H1 Q) : tLcS wi g tt te vs σ H Q := by
  rw [lcS] at *
  exact h
/-- [e for t in i]: no item raises; the one for c gives something that Rel tells of c, and changes nothing that stood but p -/
theorem lc_overA {α : Type} {as : List α} {Rel : Hp → α → V → Prop} (O : IterOf J zs St) (hz : as.length = zs.length) (hRel : ∀ c y H H', Pt H H' → Rel H c y → Rel H' c y) (hp : ∀ a, p = some a → ∃ o, H1 a = some o) (hlen : zs.length < sizeLine)
    (st : ∀ H', Kq p H1 H' → Pt H1 H' → St H')
    (step : ∀ (i : Nat) x c, zs[i]? = some x → as[i]? = some c → ∀ H', Kq p H1 H' → Pt H1 H' → ∀ R : VK, (∀ y H'', Kq p H' H'' → Pt H' H'' → Rel H'' c y → R y H'') → g x (wipe σ vs) H' fun σ2 H2 => wipe σ2 vs = wipe σ vs ∧ te σ2 H2 R)
    (fin : ∀ D ys H', Kq p H1 H' → Pt H1 H' → H1 D = none → H' D = some (.lst ys) → All2 (Rel H') as ys → Q (.ref D) H') :
    tLcS (fun _ _ R => R J H1) g tYes te vs σ H1 Q := by
  rw [lcS]
  intro D hD
  refine ⟨fun i m H => m = zs.length - i ∧ i ≤ zs.length ∧ Kq p H1 H ∧ Pt H1 H ∧ ∃ ys, H D = some (.lst ys) ∧ All2 (Rel H) (as.take i) ys, ⟨zs.length, rfl, Nat.zero_le _, Kq.refl.new hD, Pt.new hD, [], upd_same, by rw [List.take_zero]; exact .nil⟩, ?_⟩
  rintro i m H ⟨rfl, hi, kq, pt, ys, hys, all⟩
  have hst := st H kq pt
  by_cases hlt : i < zs.length
  · refine .inr ⟨O.go i H hst hlt, fun H' => i + 1 ≤ zs.length ∧ Kq p H1 H' ∧ Pt H1 H' ∧ ∃ ys, H' D = some (.lst ys) ∧ All2 (Rel H') (as.take (i + 1)) ys, fun H' h => ⟨zs.length - (i + 1), by omega, rfl, h⟩, fun x H' y => ?_⟩
    obtain ⟨rfl, hx⟩ := O.yld i H x H' hst hlt y
    have hia : i < as.length := by omega
    have hc : as[i]? = some as[i] := List.getElem?_eq_getElem hia
    have hDp : some D ≠ p := fun e => by
      obtain ⟨o, ho⟩ := hp D e.symm
      rw [hD] at ho
      cases ho
    show g x (wipe σ vs) H' fun σ2 H2 => wipe σ2 vs = wipe σ vs ∧ tYes σ2 H2 fun b H3 => if b = true then te σ2 H3 _ else _
    refine step i x as[i] hx hc H' kq pt _ fun y H'' k2 p2 r => ?_
    have hD2 := k2 D _ hDp hys
    have pD : Pt H'' (upd H'' D (.lst (ys ++ [y]))) := Pt.lst hD2
    have ptk : as.take (i + 1) = as.take i ++ [as[i]] := by
      rw [List.take_succ, hc]
      rfl
    have hl2 : ys.length < sizeLine := by
      rw [← all.len, List.length_take]
      omega
    refine ⟨ys, hD2, hl2, hlt, (kq.trans k2).new hD, (pt.trans p2).trans pD, ys ++ [y], upd_same, ?_⟩
    rw [ptk]
    exact All2.snoc (hRel _ _ _ _ pD r) (all.imp fun a b q => hRel _ _ _ _ (p2.trans pD) q)
  · have e : i = zs.length := by omega
    subst e
    rw [← hz, List.take_length] at all
    exact .inl ⟨O.stop H hst, fin D ys H kq pt hD hys all⟩
theorem lc_over (O : IterOf J zs St) (hRel : ∀ x y H H', Pt H H' → Rel H x y → Rel H' x y) (hp : ∀ a, p = some a → ∃ o, H1 a = some o) (hlen : zs.length < sizeLine)
    (st : ∀ H', Kq p H1 H' → Pt H1 H' → St H')
    (step : ∀ x ∈ zs, ∀ H', Kq p H1 H' → Pt H1 H' → ∀ R : VK, (∀ y H'', Kq p H' H'' → Pt H' H'' → Rel H'' x y → R y H'') → g x (wipe σ vs) H' fun σ2 H2 => wipe σ2 vs = wipe σ vs ∧ te σ2 H2 R)
    (fin : ∀ D ys H', Kq p H1 H' → Pt H1 H' → H1 D = none → H' D = some (.lst ys) → All2 (Rel H') zs ys → Q (.ref D) H') :
    tLcS (fun _ _ R => R J H1) g tYes te vs σ H1 Q :=
  lc_overA (as := zs) O rfl hRel hp hlen st (fun i x c hx hc => by
    rw [hx] at hc
    cases hc
    exact step x (List.mem_of_getElem? hx)) fin
end
end PM
namespace PM
open PySem PySem.Spec PyProof.Rows L2 ZX
section
variable {K : PySem.W.Frag} {H H' : Hp}
theorem Tv.tupI {v : V} {ds : List PyData} (h : Tv K H v (.tuple ds)) : ∃ a xs, v = .ref a ∧ SqT K H a xs ∧ Tvs K H xs ds := by
  cases h with
  | tup h t => exact ⟨_, _, rfl, h, t⟩
theorem Tv.strI {v : V} {x : Str} (h : Tv K H v (.str x)) : v = .str x := by
  cases h
  rfl
theorem Tv.intI {v : V} {i : Int} (h : Tv K H v (.int i)) : v = .int i := by
  cases h
  rfl
theorem tyT {a : Addr} {xs : List V} (h : SqT K H a xs) : TyX K H (.ref a) (.type "tuple") := by
  rcases h with (h | ⟨o, h⟩) | ⟨o, its, n, h, c, _⟩
  · exact .base (.tup h)
  · exact .fTuple h
  · exact .kTuple h c
theorem Tvs.all {R : V → PyData → Prop} (f : ∀ v d, Tv K H v d → R v d) : ∀ {vs : List V} {ds : List PyData}, Tvs K H vs ds → All2 R vs ds
  | _, _, .nil => .nil
  | _, _, .cons h t => .cons (f _ _ h) (Tvs.all f t)
theorem Tvs.snocI : ∀ {ds : List PyData} {vs : List V} {d : PyData}, Tvs K H vs (ds ++ [d]) → ∃ us u, vs = us ++ [u] ∧ Tvs K H us ds ∧ Tv K H u d
  | [], _, _, .cons h .nil => ⟨[], _, rfl, .nil, h⟩
  | _ :: _, _, _, .cons h t => by
    obtain ⟨us, u, rfl, h1, h2⟩ := Tvs.snocI t
    exact ⟨_ :: us, u, rfl, .cons h h1, h2⟩
theorem Tvs.rev : ∀ {vs : List V} {ds : List PyData}, Tvs K H vs ds → Tvs K H vs.reverse ds.reverse
  | _, _, .nil => .nil
  | _, _, .cons h t => by
    rw [List.reverse_cons, List.reverse_cons]
    exact Tvs.app (Tvs.rev t) (.cons h .nil)
theorem Tvs.ofAll2 {α : Type} {f : α → PyData} : ∀ {as : List α} {vs : List V}, All2 (fun a v => Tv K H v (f a)) as vs → Tvs K H vs (as.map f)
  | _, _, .nil => .nil
  | _, _, .cons h t => .cons h (Tvs.ofAll2 t)
theorem Tvs.ofAll : ∀ {vs : List V} {ds : List PyData}, All2 (fun v d => Tv K H v d) vs ds → Tvs K H vs ds
  | _, _, .nil => .nil
  | _, _, .cons h t => .cons h (Tvs.ofAll t)
end
/-! ### programs' form -/
def NameOk (x : Str) : Prop := 1 ≤ x.length ∧ x.length ≤ 8 ∧ ∀ c ∈ x.cps.toList, 97 ≤ c ∧ c ≤ 122
mutual
/-- a row that may stand in a block so deep -/
def okR : Nat → Rw → Prop
  | _, .note x o ps => NameOk x ∧ NameOk o ∧ ps.length ≤ 3 ∧ ∀ y ∈ ps, NameOk y
  | _, .copy x y => NameOk x ∧ NameOk y
  | _, .give x _ => NameOk x
  | _, .ask x => NameOk x
  | _, .prt x => NameOk x
  | d, .either a b => d < 4 ∧ a.length ≤ 12 ∧ b.length ≤ 12 ∧ okB (d + 1) a ∧ okB (d + 1) b
  | d, .again a => d < 4 ∧ a.length ≤ 12 ∧ okB (d + 1) a
def okB : Nat → List Rw → Prop
  | _, [] => True
  | d, r :: b => okR d r ∧ okB d b
end
end PM
namespace PM
open PySem PySem.Spec PyProof.Rows L2 ZX
theorem neS {a b : String} (h : decide (Str.ofString a = Str.ofString b) = false) : ¬ V.str (Str.ofString a) = V.str (Str.ofString b) := fun e => by
  injection e with e
  rw [e] at h
  simp at h
theorem same_new {H : Hp} {a : Addr} {o : HO} (n : H a = none) : Same H (upd H a o) := fun b u e => by
  rw [upd_ne (ne_of_none e n)]
  exact e
theorem at0 {x : V} {tl : List V} : atI (x :: tl) 0 = some x := at_of (j := 0) rfl rfl
/-- xs[1:] of a tuple that begins so -/
theorem cut1 {x : V} {tl : List V} : cutV (x :: tl) (some 1) none = tl := by
  have h1 : HT.sIx (x :: tl).length 0 (some 1) = 1 := by
    rw [show (some (1 : Int)) = some ((1 : Nat) : Int) from rfl, HT.sIx_nat]
    show min 1 (tl.length + 1) = 1
    omega
  have h2 : HT.sIx (x :: tl).length (x :: tl).length none = tl.length + 1 := rfl
  unfold cutV
  rw [h1, h2, List.drop_succ_cons, List.drop_zero]
  exact List.take_of_length_le (by omega)
theorem cut1_ne {x : V} {tl : List V} : ¬ (HT.sIx (x :: tl).length 0 (some 1) = 0 ∧ HT.sIx (x :: tl).length (x :: tl).length none = (x :: tl).length) := by
  rintro ⟨h, _⟩
  have h1 : HT.sIx (x :: tl).length 0 (some 1) = 1 := by
    rw [show (some (1 : Int)) = some ((1 : Nat) : Int) from rfl, HT.sIx_nat]
    show min 1 (tl.length + 1) = 1
    omega
  rw [h1] at h
  cases h
def wordR : Rw → Str
  | .note _ _ _ => "note"
  | .copy _ _ => "copy"
  | .give _ _ => "give"
  | .ask _ => "ask"
  | .prt _ => "print"
  | .either _ _ => "either"
  | .again _ => "again"
def argsR : Rw → List PyData
  | .note x o ps => [.str x, .str o, .tuple (ps.map .str)]
  | .copy x y => [.str x, .str y]
  | .give x i => [.str x, .int i]
  | .ask x => [.str x]
  | .prt x => [.str x]
  | .either a b => [.tuple (dB a), .tuple (dB b)]
  | .again a => [.tuple (dB a)]
theorem dR_eq (r : Rw) : dR r = .tuple (.str (wordR r) :: argsR r) := by
  cases r <;> rfl
theorem argsR_len (r : Rw) : 1 ≤ (argsR r).length ∧ (argsR r).length ≤ 3 := by
  cases r <;> exact ⟨by simp [argsR], by simp [argsR]⟩
section
variable {K : PySem.W.Frag} {H : Hp} {v : V}
theorem Tv.rowI {r : Rw} (h : Tv K H v (dR r)) : ∃ a tl, v = .ref a ∧ SqT K H a (.str (wordR r) :: tl) ∧ Tvs K H tl (argsR r) := by
  rw [dR_eq] at h
  obtain ⟨a, xs, rfl, hS, ht⟩ := h.tupI
  cases ht with
  | cons h1 t => cases h1 with
    | str _ => exact ⟨_, _, rfl, hS, t⟩
theorem Tvs.one {vs : List V} {d : PyData} (h : Tvs K H vs [d]) : ∃ v, vs = [v] ∧ Tv K H v d := by
  cases h with
  | cons h1 t => cases t with
    | nil => exact ⟨_, rfl, h1⟩
theorem Tvs.two {vs : List V} {d e : PyData} (h : Tvs K H vs [d, e]) : ∃ v u, vs = [v, u] ∧ Tv K H v d ∧ Tv K H u e := by
  cases h with
  | cons h1 t =>
    obtain ⟨u, rfl, h2⟩ := t.one
    exact ⟨_, _, rfl, h1, h2⟩
theorem Tvs.three {vs : List V} {d e f : PyData} (h : Tvs K H vs [d, e, f]) : ∃ v u t, vs = [v, u, t] ∧ Tv K H v d ∧ Tv K H u e ∧ Tv K H t f := by
  cases h with
  | cons h1 t =>
    obtain ⟨u, z, rfl, h2, h3⟩ := t.two
    exact ⟨_, _, _, rfl, h1, h2, h3⟩
end
end PM
set_option Elab.async false
set_option linter.all false
set_option maxRecDepth 100000
set_option maxHeartbeats 4000000
/-! List comprehensions with a word that holds between the turns. -/
namespace PM
open PySem PySem.Spec PyProof.Rows L2 ZX ZR
section
variable {J : It} {zs : List V} {St : Hp → Prop} {g : TG} {te : TE} {vs : List Nat} {σ : L2.St} {H1 : Hp} {Q : VK} {p : Option Addr}
theorem lc_overI {α : Type} {as : List α} {Rel : Hp → α → V → Prop} (Iv : Hp → Prop) (O : IterOf J zs St) (hz : as.length = zs.length) (hRel : ∀ c y H H', Pt H H' → Rel H c y → Rel H' c y) (hp : ∀ a, p = some a → ∃ o, H1 a = some o) (hlen : zs.length < sizeLine)
    (h0 : ∀ D, H1 D = none → Iv (upd H1 D (.lst []))) (hup : ∀ D H' o, H1 D = none → Iv H' → Iv (upd H' D o))
    (st : ∀ H', Kq p H1 H' → Pt H1 H' → Iv H' → St H')
    (step : ∀ (i : Nat) x c, zs[i]? = some x → as[i]? = some c → ∀ H', Kq p H1 H' → Pt H1 H' → Iv H' → ∀ R : VK, (∀ y H'', Kq p H' H'' → Pt H' H'' → Iv H'' → Rel H'' c y → R y H'') → g x (wipe σ vs) H' fun σ2 H2 => wipe σ2 vs = wipe σ vs ∧ te σ2 H2 R)
    (fin : ∀ D ys H', Kq p H1 H' → Pt H1 H' → Iv H' → H1 D = none → H' D = some (.lst ys) → All2 (Rel H') as ys → Q (.ref D) H') :
    tLcS (fun _ _ R => R J H1) g tYes te vs σ H1 Q := by
  rw [lcS]
  intro D hD
  refine ⟨fun i m H => m = zs.length - i ∧ i ≤ zs.length ∧ Kq p H1 H ∧ Pt H1 H ∧ Iv H ∧ ∃ ys, H D = some (.lst ys) ∧ All2 (Rel H) (as.take i) ys, ⟨zs.length, rfl, Nat.zero_le _, Kq.refl.new hD, Pt.new hD, h0 D hD, [], upd_same, by rw [List.take_zero]; exact .nil⟩, ?_⟩
  rintro i m H ⟨rfl, hi, kq, pt, iv, ys, hys, all⟩
  have hst := st H kq pt iv
  by_cases hlt : i < zs.length
  · refine .inr ⟨O.go i H hst hlt, fun H' => i + 1 ≤ zs.length ∧ Kq p H1 H' ∧ Pt H1 H' ∧ Iv H' ∧ ∃ ys, H' D = some (.lst ys) ∧ All2 (Rel H') (as.take (i + 1)) ys, fun H' h => ⟨zs.length - (i + 1), by omega, rfl, h⟩, fun x H' y => ?_⟩
    obtain ⟨rfl, hx⟩ := O.yld i H x H' hst hlt y
    have hia : i < as.length := by omega
    have hc : as[i]? = some as[i] := List.getElem?_eq_getElem hia
    have hDp : some D ≠ p := fun e => by
      obtain ⟨o, ho⟩ := hp D e.symm
      rw [hD] at ho
      cases ho
    show g x (wipe σ vs) H' fun σ2 H2 => wipe σ2 vs = wipe σ vs ∧ tYes σ2 H2 fun b H3 => if b = true then te σ2 H3 _ else _
    refine step i x as[i] hx hc H' kq pt iv _ fun y H'' k2 p2 iv2 r => ?_
    have hD2 := k2 D _ hDp hys
    have pD : Pt H'' (upd H'' D (.lst (ys ++ [y]))) := Pt.lst hD2
    have ptk : as.take (i + 1) = as.take i ++ [as[i]] := by
      rw [List.take_succ, hc]
      rfl
    have hl2 : ys.length < sizeLine := by
      rw [← all.len, List.length_take]
      omega
    refine ⟨ys, hD2, hl2, hlt, (kq.trans k2).new hD, (pt.trans p2).trans pD, hup D _ _ hD iv2, ys ++ [y], upd_same, ?_⟩
    rw [ptk]
    exact All2.snoc (hRel _ _ _ _ pD r) (all.imp fun a b q => hRel _ _ _ _ (p2.trans pD) q)
  · have e : i = zs.length := by omega
    subst e
    rw [← hz, List.take_length] at all
    exact .inl ⟨O.stop H hst, fin D ys H kq pt iv hD hys all⟩
end
end PM
set_option Elab.async false
set_option linter.all false
set_option maxRecDepth 100000
set_option maxHeartbeats 4000000
namespace K13
open PySem PySem.Spec PyProof.Rows L2 ZX PM ZR
def top (i : Nat) : Stmt := PySem.Challenge.pw_putoffpiles_k13_whole_each_note_once_and.main.body.getD i (.Pass ⟨0, 0, 0, 0⟩)
/-- a def with one default behind its other parameters -/
abbrev FnPD (K : PySem.W.Frag) (x : Str) (st : Stmt) (dvs : List V) (f : Addr) (fd : FuncData) : Prop := FunD K x x (defArgs st) (defBody st) (defScope st) dvs [] f fd
abbrev FnP (K : PySem.W.Frag) (x : Str) (st : Stmt) (f : Addr) (fd : FuncData) : Prop := FunD K x x (defArgs st) (defBody st) (defScope st) [] [] f fd
/-- the built-ins' names, the numbers -/
structure Bi (mg : Str → Option Value) : Prop where
  b_abs : mg "abs" = none
  b_all : mg "all" = none
  b_bool : mg "bool" = none
  b_enumerate : mg "enumerate" = none
  b_int : mg "int" = none
  b_isinstance : mg "isinstance" = none
  b_len : mg "len" = none
  b_list : mg "list" = none
  b_range : mg "range" = none
  b_set : mg "set" = none
  b_sorted : mg "sorted" = none
  b_str : mg "str" = none
  b_sum : mg "sum" = none
  b_tuple : mg "tuple" = none
  b_zip : mg "zip" = none
  m_MOST_ROWS_IN_BLOCK : ∃ t, mg "MOST_ROWS_IN_BLOCK" = some (.int 12 t)
  m_MOST_ROWS : ∃ t, mg "MOST_ROWS" = some (.int 30 t)
  m_MOST_DEEP : ∃ t, mg "MOST_DEEP" = some (.int 4 t)
  m_MOST_NAMES : ∃ t, mg "MOST_NAMES" = some (.int 8 t)
  m_MOST_PARTS : ∃ t, mg "MOST_PARTS" = some (.int 3 t)
  m_MOST_LETTERS : ∃ t, mg "MOST_LETTERS" = some (.int 8 t)
/-- the words that ask, a tuple of the top -/
def Asking (K : PySem.W.Frag) (mg : Str → Option Value) : Prop := ∃ a, mg "ASKING" = some (.ref a) ∧ ∀ H, SqT K H a [V.str "ask", V.str "print"]
abbrev sIs_integer : Stmt := top 20
abbrev sIs_number_below : Stmt := top 21
abbrev sIs_name : Stmt := top 22
abbrev sIs_parts : Stmt := top 23
abbrev sIs_block : Stmt := top 24
abbrev sIs_row : Stmt := top 25
abbrev sBlocks_of : Stmt := top 26
abbrev sNames_of : Stmt := top 27
abbrev sFormless_place : Stmt := top 28
abbrev sRows_of : Stmt := top 29
abbrev sAll_names : Stmt := top 30
abbrev sBad_place : Stmt := top 31
abbrev sBlock_leads : Stmt := top 32
abbrev sRow_leads : Stmt := top 33
abbrev sProgramInit : Stmt := inClass (top 34) 0
abbrev sProgramEq : Stmt := inClass (top 34) 1
abbrev sNames : Stmt := top 35
abbrev sRow_at : Stmt := top 37
abbrev sNexts : Stmt := top 38
/-! ### promises -/
inductive NumV (K : PySem.W.Frag) (H : Hp) : V → Bool → Prop
  | int (i : Int) : NumV K H (.int i) true
  | bl (b : Bool) : NumV K H (.bl b) false
  | oth {v : V} {t : Value} (h : TyX K H v t) (e : PySem.W.kitOne K t (.type "int") = some false) : NumV K H v false
def spIsInt (K : PySem.W.Frag) : Sp := fun vs H Q _ => ∃ v b, vs = [v] ∧ NumV K H v b ∧ Q (.bl b) H
def spBelow (K : PySem.W.Frag) : Sp := fun vs H Q _ => ∃ m v, vs = [.int m, v] ∧ ((∃ i, v = .int i ∧ Q (.bl (decide (0 ≤ i) && decide (i < m))) H) ∨ (NumV K H v false ∧ Q (.bl false) H))
def spIsName : Sp := fun vs H Q _ => ∃ x, vs = [.str x] ∧ NameOk x ∧ ∀ H', Same H H' → Q (.bl true) H'
def spIsParts (K : PySem.W.Frag) : Sp := fun vs H Q _ => ∃ (v : V) (ps : List Str), vs = [v] ∧ Tv K H v (.tuple (ps.map .str)) ∧ ps.length ≤ 3 ∧ (∀ y ∈ ps, NameOk y) ∧ ∀ H', Same H H' → Q (.bl true) H'
def spIsBlock (K : PySem.W.Frag) : Sp := fun vs H Q _ => ∃ (d : Int) (v : V) (ds : List PyData), vs = [.int d, v] ∧ Tv K H v (.tuple ds) ∧ ds.length ≤ 12 ∧ d ≤ 4 ∧ Q (.bl true) H
section
variable {P : Program} {w : World} {K : PySem.W.Frag} {mg : Str → Option Value} {base : Heap}
theorem scIs_integer : FnScope ["thing"] ["thing"] (defScope sIs_integer) := ⟨rfl, rfl, rfl, by decide +kernel, rfl, by decide +kernel, by decide +kernel⟩
theorem ok_is_integer {f : Addr} {fd : FuncData} (F : FnP K "is_integer" sIs_integer f fd) (T : Bi mg) : FnOk P w K mg base CX0 1 f fd ["thing"] (spIsInt K) := by
  refine F.ok scIs_integer (fun vs H Q E h => ?_) (fun cdv A outer s H vs Q E hr h => ?_)
  · obtain ⟨v, b, rfl, _⟩ := h
    rfl
  · obtain ⟨v, b, rfl, hn, k⟩ := h
    refine ⟨_, PSs.nox (pss_one (ps_ret (pe_and (pe_callB call_isi (by rfl) T.b_isinstance (by decide +kernel) (pa_cons (pv 0) (pa_cons (pe_bltn (v := .ty "int") (by rfl) T.b_int (by decide +kernel) rfl) pa_nil))) (pe_one (pe_not (pe_callB call_isi (by rfl) T.b_isinstance (by decide +kernel) (pa_cons (pv 0) (pa_cons (pe_bltn (v := .ty "bool") (by rfl) T.b_bool (by decide +kernel) rfl) pa_nil)))))))), ?_⟩
    cases hn with
    | int i => exact ⟨_, rfl, _, _, _, _, true, rfl, .ty "int", .base (.int i), rfl, _, rfl, _, rfl, _, _, _, _, false, rfl, .ty "bool", .base (.int i), rfl, _, rfl, k⟩
    | bl c => exact ⟨_, rfl, _, _, _, _, true, rfl, .ty "int", .base (.bl c), rfl, _, rfl, _, rfl, _, _, _, _, true, rfl, .ty "bool", .base (.bl c), rfl, _, rfl, k⟩
    | oth ht e => exact ⟨_, rfl, _, _, _, _, false, rfl, .ty "int", ht, e, _, rfl, k⟩
theorem scIs_number_below : FnScope ["limit", "thing"] ["limit", "thing"] (defScope sIs_number_below) := ⟨rfl, rfl, rfl, by decide +kernel, rfl, by decide +kernel, by decide +kernel⟩
theorem ok_below {f : Addr} {fd : FuncData} (F : FnP K "is_number_below" sIs_number_below f fd) (T : Bi mg) (C1 : Cal P w K mg base "is_integer" 1 ["thing"] (spIsInt K)) : FnOk P w K mg base CX0 2 f fd ["limit", "thing"] (spBelow K) := by
  refine F.ok scIs_number_below (fun vs H Q E h => ?_) (fun cdv A outer s H vs Q E hr h => ?_)
  · obtain ⟨m, v, rfl, _⟩ := h
    rfl
  · obtain ⟨m, v, rfl, h⟩ := h
    refine ⟨_, PSs.nox (pss_one (ps_ret (pe_and (pcal C1 hr rfl (pa_cons (pv 1) pa_nil)) (pe_one (pe_chain op_le op_lt pe_int (pv 1) (pv 0)))))), ?_⟩
    rcases h with ⟨i, rfl, k⟩ | ⟨hn, k⟩
    · refine ⟨_, rfl, _, true, rfl, .int i, true, rfl, _, rfl, _, _, rfl, rfl, _, rfl, ?_⟩
      refine ite2 (fun e => ?_) (fun e => ?_)
      · rw [e] at k
        exact ⟨_, rfl, _, _, rfl, rfl, k⟩
      · rw [Bool.eq_false_iff.mpr e] at k
        exact k
    · exact ⟨_, rfl, _, false, rfl, hn, false, rfl, k⟩
theorem le_a {c : Nat} (h : 97 ≤ c) : ¬ (⟨#[c]⟩ : Str).cps.toList < (Str.ofString "a").cps.toList := by
  intro z
  have z' : [c] < [97] := z
  cases z' with
  | rel h2 => exact absurd h (by have : c < 97 := h2; omega)
  | cons h2 => cases h2
theorem le_z {c : Nat} (h : c ≤ 122) : ¬ (Str.ofString "z").cps.toList < (⟨#[c]⟩ : Str).cps.toList := by
  intro z
  have z' : [122] < [c] := z
  cases z' with
  | rel h2 => exact absurd h (by have : 122 < c := h2; omega)
  | cons h2 => cases h2
theorem scIs_name : FnScope ["thing", "sign"] ["thing"] (defScope sIs_name) := ⟨rfl, rfl, rfl, by decide +kernel, rfl, by decide +kernel, by decide +kernel⟩
theorem ok_is_name {f : Addr} {fd : FuncData} (F : FnP K "is_name" sIs_name f fd) (T : Bi mg) : FnOk P w K mg base CX0 1 f fd ["thing"] spIsName := by
  refine F.ok scIs_name (fun vs H Q E h => ?_) (fun cdv A outer s H vs Q E hr h => ?_)
  · obtain ⟨x, rfl, _⟩ := h
    rfl
  · obtain ⟨x, rfl, ⟨n1, n8, nc⟩, k⟩ := h
    obtain ⟨t8, m8⟩ := T.m_MOST_LETTERS
    refine ⟨_, PSs.nox (pss_cons (ps_if (PW.pt (pw_or (pt_not (pt_val (pe_callB call_isi (by rfl) T.b_isinstance (by decide +kernel) (pa_cons (pv 0) (pa_cons (pe_bltn (v := .ty "str") (by rfl) T.b_str (by decide +kernel) rfl) pa_nil))))) (pw_or1 (pt_not (pt_chain op_le op_le pe_int (pe_callB call_len_str (by rfl) T.b_len (by decide +kernel) (pa_cons (pv 0) pa_nil)) (pe_glob (v := .int 8) rfl m8 ⟨_, rfl⟩)))))) (pss_one (ps_ret pe_bl)) pss_nil)
    (pss_one (ps_ret (pe_callB (cr_all rfl) (by rfl) T.b_all (by decide +kernel) (pa_cons (pe_lcS (own := [("sign", 1)]) (g := gName 1) (tt := tYes) (by rfl) scIs_name.nd (pi_str (pv 0)) (blkOk_by (N := ["thing", "sign"]) (sc := defScope sIs_name) (by decide +kernel)) (fun _ _ _ _ _ => (pg_name (i := 1) scIs_name.nd rfl (Or.inl rfl))) (fun _ _ _ _ _ => pts_nil) (fun _ _ _ _ _ => (pe_chain op_le_str op_le_str pe_str (pv 1) pe_str))) pa_nil))))), ?_⟩
    have hz : x.length ≤ sizeLine := Nat.le_trans n8 (by decide)
    refine ⟨_, rfl, _, _, _, _, true, rfl, .ty "str", .base (.str x), rfl, true, rfl, _, rfl, _, rfl, hz, _, _, rfl, rfl, _, rfl, ifD (by omega) ⟨_, _, rfl, rfl, _, rfl, ?_⟩⟩
    rw [decide_eq_true (show (x.length : Int) ≤ 8 by omega)]
    refine lc_into ?_
    refine ⟨_, rfl, _, rfl, ?_⟩
    refine lc_over (p := none) (Rel := fun _ _ y => y = .bl true) it_str (fun _ _ _ _ _ h => h) (fun _ h => nomatch h) ?_ (fun _ _ _ => trivial) ?_ ?_
    · rw [letters_len]
      exact Nat.lt_of_le_of_lt n8 (by decide)
    · intro z hz H' _ _ R k
      obtain ⟨c, hc, rfl⟩ := List.mem_map.mp hz
      obtain ⟨c1, c2⟩ := nc c hc
      have ha : ¬ (⟨#[c]⟩ : Str).cps.toList < (Str.ofString "a").cps.toList := le_a c1
      have hb : ¬ (Str.ofString "z").cps.toList < (⟨#[c]⟩ : Str).cps.toList := le_z c2
      have e1 : (!decide ((⟨#[c]⟩ : Str).cps.toList < (Str.ofString "a").cps.toList)) = true := by rw [decide_eq_false ha]; rfl
      have e2 : (!decide ((Str.ofString "z").cps.toList < (⟨#[c]⟩ : Str).cps.toList)) = true := by rw [decide_eq_false hb]; rfl
      refine ⟨rfl, _, rfl, _, _, rfl, rfl, _, rfl, ifB e1 ⟨_, _, rfl, rfl, ?_⟩⟩
      rw [e2]
      exact k _ _ Kq.refl (Pt.refl _) rfl
    · intro D ys H' kq _ _ hD all
      have e := All2.map all
      subst e
      refine ⟨D, (letters x).map fun _ => true, rfl, SqL.of (by rw [hD, List.map_map]; rfl), ?_⟩
      have ha : ((letters x).map fun _ => true).all id = true := by simp
      rw [ha]
      exact k _ kq.same
end
end K13
set_option Elab.async false
set_option linter.all false
set_option maxRecDepth 100000
set_option maxHeartbeats 4000000
namespace K13
open PySem PySem.Spec PyProof.Rows L2 ZX PM ZR
def spIsRow (K : PySem.W.Frag) : Sp := fun vs H Q _ => ∃ (d : Nat) (v : V) (r : Rw) (m : Int), vs = [.int d, v, .int m] ∧ RV K H v r ∧ okR d r ∧ ∀ H', Same H H' → Q (.bl true) H'
def spBlocksOf (K : PySem.W.Frag) : Sp := fun vs H Q _ => ∃ (v : V) (r : Rw), vs = [v] ∧ RV K H v r ∧ ∀ a ys H', Same H H' → SqT K H' a ys → Tvs K H' ys ((inner r).map fun b => .tuple (dB b)) → Q (.ref a) H'
section
variable {P : Program} {w : World} {K : PySem.W.Frag} {mg : Str → Option Value} {base : Heap}
theorem scIs_parts : FnScope ["thing", "part"] ["thing"] (defScope sIs_parts) := ⟨rfl, rfl, rfl, by decide +kernel, rfl, by decide +kernel, by decide +kernel⟩
theorem ok_is_parts {f : Addr} {fd : FuncData} (F : FnP K "is_parts" sIs_parts f fd) (T : Bi mg) (C1 : Cal P w K mg base "is_name" 1 ["thing"] spIsName) : FnOk P w K mg base CX0 2 f fd ["thing"] (spIsParts K) := by
  refine F.ok scIs_parts (fun vs H Q E h => ?_) (fun cdv A outer s H vs Q E hr h => ?_)
  · obtain ⟨v, ps, rfl, _⟩ := h
    rfl
  · obtain ⟨v, ps, rfl, tv, hl, hn, k⟩ := h
    obtain ⟨a, xs, rfl, hS, ht⟩ := tv.tupI
    have hx := Tvs.strs ht
    subst hx
    obtain ⟨t3, m3⟩ := T.m_MOST_PARTS
    refine ⟨_, PSs.nox (pss_one (ps_ret (pe_and (pe_callB call_isi (by rfl) T.b_isinstance (by decide +kernel) (pa_cons (pv 0) (pa_cons (pe_bltn (v := .ty "tuple") (by rfl) T.b_tuple (by decide +kernel) rfl) pa_nil))) (pe_and (pe_cmpR op_le (pe_callB call_len_seq (by rfl) T.b_len (by decide +kernel) (pa_cons (pv 0) pa_nil)) (pe_glob (v := .int 3) rfl m3 ⟨_, rfl⟩) (nomark _)) (pe_one (pe_callB (cr_all rfl) (by rfl) T.b_all (by decide +kernel) (pa_cons (pe_lcS (own := [("part", 1)]) (g := gName 1) (tt := tYes) (by rfl) scIs_parts.nd (pi_tup (pv 0)) (blkOk_by (N := ["thing", "part"]) (sc := defScope sIs_parts) (by decide +kernel)) (fun _ _ _ _ _ => (pg_name (i := 1) scIs_parts.nd rfl (Or.inl rfl))) (fun _ _ _ _ _ => pts_nil) (fun _ _ _ _ _ => (pcal C1 hr rfl (pa_cons (pv 1) pa_nil)))) pa_nil))))))), ?_⟩
    refine ⟨_, rfl, _, _, _, _, true, rfl, .ty "tuple", tyT hS, rfl, _, rfl, _, rfl, a, _, rfl, .inr hS, _, _, rfl, rfl, _, rfl, ?_⟩
    refine ifD (by rw [List.length_map]; omega) ?_
    refine lc_into ?_
    refine ⟨_, rfl, _, rfl, ⟨_, hS⟩, ?_⟩
    refine lc_over (p := none) (Rel := fun _ _ y => y = .bl true) it_tup (fun _ _ _ _ _ h => h) (fun _ h => nomatch h) ?_ (fun H' _ pt => pt.sq hS) ?_ ?_
    · rw [List.length_map]
      exact Nat.lt_of_le_of_lt hl (by decide)
    · intro z hz H' _ _ R k
      obtain ⟨y, hy, rfl⟩ := List.mem_map.mp hz
      exact ⟨rfl, _, rfl, y, rfl, hn y hy, fun H'' sm => k _ _ (Same.kq sm) (Same.pt sm) rfl⟩
    · intro D ys H' kq _ _ hD all
      have e := All2.map all
      subst e
      refine ⟨D, ps.map fun _ => true, rfl, SqL.of (by rw [hD, List.map_map, List.map_map]; rfl), ?_⟩
      have ha : (ps.map fun _ => true).all id = true := by simp
      rw [ha]
      exact k _ kq.same
theorem scIs_block : FnScope ["deep", "thing"] ["deep", "thing"] (defScope sIs_block) := ⟨rfl, rfl, rfl, by decide +kernel, rfl, by decide +kernel, by decide +kernel⟩
theorem ok_is_block {f : Addr} {fd : FuncData} (F : FnP K "is_block" sIs_block f fd) (T : Bi mg) : FnOk P w K mg base CX0 1 f fd ["deep", "thing"] (spIsBlock K) := by
  refine F.ok scIs_block (fun vs H Q E h => ?_) (fun cdv A outer s H vs Q E hr h => ?_)
  · obtain ⟨d, v, ds, rfl, _⟩ := h
    rfl
  · obtain ⟨d, v, ds, rfl, tv, hl, hd, k⟩ := h
    obtain ⟨a, xs, rfl, hS, ht⟩ := tv.tupI
    obtain ⟨t12, m12⟩ := T.m_MOST_ROWS_IN_BLOCK
    obtain ⟨t4, m4⟩ := T.m_MOST_DEEP
    refine ⟨_, PSs.nox (pss_one (ps_ret (pe_and (pe_callB call_isi (by rfl) T.b_isinstance (by decide +kernel) (pa_cons (pv 1) (pa_cons (pe_bltn (v := .ty "tuple") (by rfl) T.b_tuple (by decide +kernel) rfl) pa_nil))) (pe_and (pe_cmpR op_le (pe_callB call_len_seq (by rfl) T.b_len (by decide +kernel) (pa_cons (pv 1) pa_nil)) (pe_glob (v := .int 12) rfl m12 ⟨_, rfl⟩) (nomark _)) (pe_one (pe_cmpR op_le (pv 0) (pe_glob (v := .int 4) rfl m4 ⟨_, rfl⟩) (nomark _))))))), ?_⟩
    refine ⟨_, rfl, _, _, _, _, true, rfl, .ty "tuple", tyT hS, rfl, _, rfl, _, rfl, a, _, rfl, .inr hS, _, _, rfl, rfl, _, rfl, ?_⟩
    refine ifD (by rw [ht.len]; omega) ⟨_, rfl, _, _, rfl, rfl, ?_⟩
    show Q (.bl (decide (d ≤ 4))) H
    rw [decide_eq_true hd]
    exact k
end
end K13
set_option Elab.async false
set_option linter.all false
set_option maxRecDepth 100000
set_option maxHeartbeats 4000000
namespace K13
open PySem PySem.Spec PyProof.Rows L2 ZX PM ZR
section
variable {P : Program} {w : World} {K : PySem.W.Frag} {mg : Str → Option Value} {base : Heap}
theorem dB_le {b : List Rw} {n : Nat} (h : b.length ≤ n) : (dB b).length ≤ n := by
  rw [dB_eq, List.length_map]
  exact h
theorem scIs_row : FnScope ["deep", "thing", "many", "word", "rest"] ["deep", "thing", "many"] (defScope sIs_row) := ⟨rfl, rfl, rfl, by decide +kernel, rfl, by decide +kernel, by decide +kernel⟩
theorem ok_is_row {f : Addr} {fd : FuncData} (F : FnPD K "is_row" sIs_row [.int 0] f fd) (T : Bi mg) (hA : Asking K mg) (C_is_integer : Cal P w K mg base "is_integer" 1 ["thing"] (spIsInt K)) (C_is_number_below : Cal P w K mg base "is_number_below" 2 ["limit", "thing"] (spBelow K)) (C_is_name : Cal P w K mg base "is_name" 1 ["thing"] spIsName)
    (C_is_parts : Cal P w K mg base "is_parts" 2 ["thing"] (spIsParts K)) (C_is_block : Cal P w K mg base "is_block" 1 ["deep", "thing"] (spIsBlock K)) : FnOk P w K mg base CX0 3 f fd ["deep", "thing", "many"] (spIsRow K) := by
  refine F.ok scIs_row (fun vs H Q E h => ?_) (fun cdv A outer s H vs Q E hr h => ?_)
  · obtain ⟨d, v, r, m, rfl, _⟩ := h
    rfl
  · obtain ⟨d, v, r, m, rfl, tv, ok, k⟩ := h
    have hr_is_integer := hr.mono (show 1 ≤ 2 by decide)
    have hr_is_name := hr_is_integer
    have hr_is_block := hr_is_integer
    have hr_is_parts := hr
    have hr_is_number_below := hr
    obtain ⟨aA, mA, hAs⟩ := hA
    obtain ⟨a, tl, rfl, hS, ht⟩ := tv.rowI
    refine ⟨_, PSs.nox (pss_cons (ps_if (PW.pt (pw_or (pt_not (pt_val (pe_callB call_isi (by rfl) T.b_isinstance (by decide +kernel) (pa_cons (pv 1) (pa_cons (pe_bltn (v := .ty "tuple") (by rfl) T.b_tuple (by decide +kernel) rfl) pa_nil))))) (pw_or (pt_not (pt_truth (pv 1) (by intro _; rfl))) (pw_or1 (pt_not (pt_val (pe_callB call_isi (by rfl) T.b_isinstance (by decide +kernel) (pa_cons (pe_ix ix_tup (pv 1) pe_int (fun _ _ => rfl)) (pa_cons (pe_bltn (v := .ty "str") (by rfl) T.b_str (by decide +kernel) rfl) pa_nil))))))))) (pss_one (ps_ret pe_bl)) pss_nil)
    (pss_cut (ps_par (by rfl) scIs_row.nd (i := 3) (j := 4) rfl rfl (by decide) rfl rfl (pa_cons (pe_ix ix_tup (pv 1) pe_int (fun _ _ => rfl)) (pa_cons (pe_slice sl_tup (pv 1) (po_some pe_int) po_none) pa_nil)) (by rfl))
    (pss_cons (ps_if (pt_cmpR op_eq (pv 3) pe_str (nomark _)) (pss_one (ps_ret (pe_and (pe_cmpR op_eq (pe_callB call_len_seq (by rfl) T.b_len (by decide +kernel) (pa_cons (pv 4) pa_nil)) pe_int (nomark _)) (pe_and (pcal C_is_name hr_is_name rfl (pa_cons (pe_ix ix_tup (pv 4) pe_int (fun _ _ => rfl)) pa_nil)) (pe_and (pcal C_is_name hr_is_name rfl (pa_cons (pe_ix ix_tup (pv 4) pe_int (fun _ _ => rfl)) pa_nil)) (pe_one (pcal C_is_parts hr_is_parts rfl (pa_cons (pe_ix ix_tup (pv 4) pe_int (fun _ _ => rfl)) pa_nil)))))))) pss_nil)
    (pss_cons (ps_if (pt_cmpR op_eq (pv 3) pe_str (nomark _)) (pss_one (ps_ret (pe_and (pe_cmpR op_eq (pe_callB call_len_seq (by rfl) T.b_len (by decide +kernel) (pa_cons (pv 4) pa_nil)) pe_int (nomark _)) (pe_and (pcal C_is_name hr_is_name rfl (pa_cons (pe_ix ix_tup (pv 4) pe_int (fun _ _ => rfl)) pa_nil)) (pe_one (pcal C_is_name hr_is_name rfl (pa_cons (pe_ix ix_tup (pv 4) pe_int (fun _ _ => rfl)) pa_nil))))))) pss_nil)
    (pss_cons (ps_if (pt_cmpR op_eq (pv 3) pe_str (nomark _)) (pss_one (ps_ret (pe_and (pe_cmpR op_eq (pe_callB call_len_seq (by rfl) T.b_len (by decide +kernel) (pa_cons (pv 4) pa_nil)) pe_int (nomark _)) (pe_and (pcal C_is_name hr_is_name rfl (pa_cons (pe_ix ix_tup (pv 4) pe_int (fun _ _ => rfl)) pa_nil)) (pe_one (pcal C_is_integer hr_is_integer rfl (pa_cons (pe_ix ix_tup (pv 4) pe_int (fun _ _ => rfl)) pa_nil))))))) pss_nil)
    (pss_cons (ps_if (pt_cmpR op_in_seq (pv 3) (pe_glob (v := .ref _) rfl mA rfl) (by with_unfolding_all rfl)) (pss_one (ps_ret (pe_and (pe_cmpR op_eq (pe_callB call_len_seq (by rfl) T.b_len (by decide +kernel) (pa_cons (pv 4) pa_nil)) pe_int (nomark _)) (pe_one (pcal C_is_name hr_is_name rfl (pa_cons (pe_ix ix_tup (pv 4) pe_int (fun _ _ => rfl)) pa_nil)))))) pss_nil)
    (pss_cons (ps_if (pt_cmpR op_eq (pv 3) pe_str (nomark _)) (pss_one (ps_ret (pe_and (pe_cmpR op_eq (pe_callB call_len_seq (by rfl) T.b_len (by decide +kernel) (pa_cons (pv 4) pa_nil)) pe_int (nomark _)) (pe_one (pcal C_is_number_below hr_is_number_below rfl (pa_cons (pv 2) (pa_cons (pe_ix ix_tup (pv 4) pe_int (fun _ _ => rfl)) pa_nil))))))) pss_nil)
    (pss_cons (ps_if (pt_cmpR op_eq (pv 3) pe_str (nomark _)) (pss_one (ps_ret (pe_and (pe_cmpR op_eq (pe_callB call_len_seq (by rfl) T.b_len (by decide +kernel) (pa_cons (pv 4) pa_nil)) pe_int (nomark _)) (pe_and (pcal C_is_block hr_is_block rfl (pa_cons (pe_op op_add (pv 0) pe_int) (pa_cons (pe_ix ix_tup (pv 4) pe_int (fun _ _ => rfl)) pa_nil))) (pe_one (pcal C_is_block hr_is_block rfl (pa_cons (pe_op op_add (pv 0) pe_int) (pa_cons (pe_ix ix_tup (pv 4) pe_int (fun _ _ => rfl)) pa_nil)))))))) pss_nil)
    (pss_one (ps_ret (pe_and (pe_cmpR op_eq (pv 3) pe_str (nomark _)) (pe_and (pe_cmpR op_eq (pe_callB call_len_seq (by rfl) T.b_len (by decide +kernel) (pa_cons (pv 4) pa_nil)) pe_int (nomark _)) (pe_one (pcal C_is_block hr_is_block rfl (pa_cons (pe_op op_add (pv 0) pe_int) (pa_cons (pe_ix ix_tup (pv 4) pe_int (fun _ _ => rfl)) pa_nil)))))))))))))))), ?_⟩
    refine ⟨_, rfl, _, _, _, _, true, rfl, .ty "tuple", tyT hS, rfl, true, rfl, _, rfl, true, .inr (.inl ⟨_, hS, rfl⟩), _, rfl, _, _, _, _, rfl, rfl, hS, at0, _, _, _, _, true, rfl, .ty "str", .base (.str _), rfl, true, rfl, ?_⟩
    refine ⟨fun σ' H' => ∃ p, σ' = [some (.int d), some (.ref a), some (.int m), some (.str (wordR r)), some (.ref p)] ∧ Same H H' ∧ SqT K H' p tl ∧ Tvs K H' tl (argsR r), ?_, ?_⟩
    · refine ⟨_, rfl, _, _, _, _, rfl, rfl, hS, at0, _, rfl, 1, rfl, a, _, rfl, hS, cut1_ne, fun p np => ⟨_, _, rfl, p, rfl, same_new np, ?_, ht.pt (Pt.new np)⟩⟩
      rw [cut1]
      exact .inl (.inl upd_same)
    · rintro σ' H' ⟨p, rfl, sm, hp, ht⟩
      cases r with
      | note x o ps =>
        obtain ⟨n1, n2, l3, n3⟩ := ok
        obtain ⟨v1, v2, v3, rfl, t1, t2, t3⟩ := ht.three
        cases t1.strI
        cases t2.strI
        exact ⟨_, rfl, rfl, _, rfl, ifD rfl ⟨_, rfl, p, _, rfl, .inr hp, rfl, _, rfl, ifD rfl ⟨_, rfl, _, _, _, _, rfl, rfl, hp, rfl, x, rfl, n1, fun H1 s1 => ⟨_, rfl, _, rfl, _, _, _, _, rfl, rfl, (Same.pt s1).sq hp, rfl, o, rfl, n2, fun H2 s2 => ⟨_, rfl, _, rfl, _, _, _, _, rfl, rfl, ((Same.pt s1).trans (Same.pt s2)).sq hp, rfl, _, ps, rfl, t3.pt ((Same.pt s1).trans (Same.pt s2)), l3, n3, fun H3 s3 => k H3 (((sm.trans s1).trans s2).trans s3)⟩⟩⟩⟩⟩
      | copy x y =>
        obtain ⟨n1, n2⟩ := ok
        obtain ⟨v1, v2, rfl, t1, t2⟩ := ht.two
        cases t1.strI
        cases t2.strI
        refine ⟨_, rfl, rfl, _, rfl, ifDF (neS (a := "copy") (b := "note") (by decide +kernel)) ?_⟩
        exact ⟨_, rfl, rfl, _, rfl, ifD rfl ⟨_, rfl, p, _, rfl, .inr hp, rfl, _, rfl, ifD rfl ⟨_, rfl, _, _, _, _, rfl, rfl, hp, rfl, x, rfl, n1, fun H1 s1 => ⟨_, rfl, _, rfl, _, _, _, _, rfl, rfl, (Same.pt s1).sq hp, rfl, y, rfl, n2, fun H2 s2 => k H2 ((sm.trans s1).trans s2)⟩⟩⟩⟩
      | give x i =>
        have n1 : NameOk x := ok
        obtain ⟨v1, v2, rfl, t1, t2⟩ := ht.two
        cases t1.strI
        cases t2.intI
        refine ⟨_, rfl, rfl, _, rfl, ifDF (neS (a := "give") (b := "note") (by decide +kernel)) ?_⟩
        refine ⟨_, rfl, rfl, _, rfl, ifDF (neS (a := "give") (b := "copy") (by decide +kernel)) ?_⟩
        exact ⟨_, rfl, rfl, _, rfl, ifD rfl ⟨_, rfl, p, _, rfl, .inr hp, rfl, _, rfl, ifD rfl ⟨_, rfl, _, _, _, _, rfl, rfl, hp, rfl, x, rfl, n1, fun H1 s1 => ⟨_, rfl, _, rfl, _, _, _, _, rfl, rfl, (Same.pt s1).sq hp, rfl, _, _, rfl, .int i, k H1 (sm.trans s1)⟩⟩⟩⟩
      | ask x =>
        have n1 : NameOk x := ok
        obtain ⟨v1, rfl, t1⟩ := ht.one
        cases t1.strI
        refine ⟨_, rfl, rfl, _, rfl, ifDF (neS (a := "ask") (b := "note") (by decide +kernel)) ?_⟩
        refine ⟨_, rfl, rfl, _, rfl, ifDF (neS (a := "ask") (b := "copy") (by decide +kernel)) ?_⟩
        refine ⟨_, rfl, rfl, _, rfl, ifDF (neS (a := "ask") (b := "give") (by decide +kernel)) ?_⟩
        exact ⟨_, rfl, aA, _, rfl, .inr (hAs _), rfl, rfl, _, rfl, ifB (show inV (V.str (Str.ofString "ask")) [V.str (Str.ofString "ask"), V.str (Str.ofString "print")] = true by decide +kernel) ⟨_, rfl, p, _, rfl, .inr hp, rfl, _, rfl, ifD rfl ⟨_, rfl, _, _, _, _, rfl, rfl, hp, rfl, x, rfl, n1, fun H1 s1 => k H1 (sm.trans s1)⟩⟩⟩
      | prt x =>
        have n1 : NameOk x := ok
        obtain ⟨v1, rfl, t1⟩ := ht.one
        cases t1.strI
        refine ⟨_, rfl, rfl, _, rfl, ifDF (neS (a := "print") (b := "note") (by decide +kernel)) ?_⟩
        refine ⟨_, rfl, rfl, _, rfl, ifDF (neS (a := "print") (b := "copy") (by decide +kernel)) ?_⟩
        refine ⟨_, rfl, rfl, _, rfl, ifDF (neS (a := "print") (b := "give") (by decide +kernel)) ?_⟩
        exact ⟨_, rfl, aA, _, rfl, .inr (hAs _), rfl, rfl, _, rfl, ifB (show inV (V.str (Str.ofString "print")) [V.str (Str.ofString "ask"), V.str (Str.ofString "print")] = true by decide +kernel) ⟨_, rfl, p, _, rfl, .inr hp, rfl, _, rfl, ifD rfl ⟨_, rfl, _, _, _, _, rfl, rfl, hp, rfl, x, rfl, n1, fun H1 s1 => k H1 (sm.trans s1)⟩⟩⟩
      | either b1 b2 =>
        obtain ⟨d4, l1, l2, _, _⟩ := ok
        obtain ⟨v1, v2, rfl, t1, t2⟩ := ht.two
        refine ⟨_, rfl, rfl, _, rfl, ifDF (neS (a := "either") (b := "note") (by decide +kernel)) ?_⟩
        refine ⟨_, rfl, rfl, _, rfl, ifDF (neS (a := "either") (b := "copy") (by decide +kernel)) ?_⟩
        refine ⟨_, rfl, rfl, _, rfl, ifDF (neS (a := "either") (b := "give") (by decide +kernel)) ?_⟩
        refine ⟨_, rfl, aA, _, rfl, .inr (hAs _), rfl, rfl, _, rfl, ifBF (show inV (V.str (Str.ofString "either")) [V.str (Str.ofString "ask"), V.str (Str.ofString "print")] = false by decide +kernel) ?_⟩
        refine ⟨_, rfl, rfl, _, rfl, ifDF (neS (a := "either") (b := "call") (by decide +kernel)) ?_⟩
        exact ⟨_, rfl, rfl, _, rfl, ifD rfl ⟨_, rfl, p, _, rfl, .inr hp, rfl, _, rfl, ifD rfl ⟨_, rfl, _, _, rfl, rfl, _, rfl, _, _, _, _, rfl, rfl, hp, rfl, _, _, _, rfl, t1, dB_le l1, by omega, ⟨_, rfl, _, rfl, _, _, rfl, rfl, _, rfl, _, _, _, _, rfl, rfl, hp, rfl, _, _, _, rfl, t2, dB_le l2, by omega, k H' sm⟩⟩⟩⟩
      | again b1 =>
        obtain ⟨d4, l1, _⟩ := ok
        obtain ⟨v1, rfl, t1⟩ := ht.one
        refine ⟨_, rfl, rfl, _, rfl, ifDF (neS (a := "again") (b := "note") (by decide +kernel)) ?_⟩
        refine ⟨_, rfl, rfl, _, rfl, ifDF (neS (a := "again") (b := "copy") (by decide +kernel)) ?_⟩
        refine ⟨_, rfl, rfl, _, rfl, ifDF (neS (a := "again") (b := "give") (by decide +kernel)) ?_⟩
        refine ⟨_, rfl, aA, _, rfl, .inr (hAs _), rfl, rfl, _, rfl, ifBF (show inV (V.str (Str.ofString "again")) [V.str (Str.ofString "ask"), V.str (Str.ofString "print")] = false by decide +kernel) ?_⟩
        refine ⟨_, rfl, rfl, _, rfl, ifDF (neS (a := "again") (b := "call") (by decide +kernel)) ?_⟩
        refine ⟨_, rfl, rfl, _, rfl, ifDF (neS (a := "again") (b := "either") (by decide +kernel)) ?_⟩
        exact ⟨_, rfl, rfl, _, rfl, ifD rfl ⟨_, rfl, p, _, rfl, .inr hp, rfl, _, rfl, ifD rfl ⟨_, rfl, _, _, rfl, rfl, _, rfl, _, _, _, _, rfl, rfl, hp, rfl, _, _, _, rfl, t1, dB_le l1, by omega, k H' sm⟩⟩⟩
end
end K13
set_option Elab.async false
set_option linter.all false
set_option maxRecDepth 100000
set_option maxHeartbeats 4000000
namespace PM
open PySem PySem.Spec PyProof.Rows L2 ZX
theorem _root_.L2.Same.put {H H' : Hp} {l : Addr} {o : HO} (s : Same H H') (n : H l = none) : Same H (upd H' l o) := fun b u e => by
  rw [upd_ne (ne_of_none e n)]
  exact s b u e
theorem fm_take {α β : Type} {f : α → List β} {l : List α} {i : Nat} {x : α} (h : l[i]? = some x) : (l.take (i + 1)).flatMap f = (l.take i).flatMap f ++ f x := by
  rw [List.take_succ, h, List.flatMap_append]
  simp
theorem fm_le {α β : Type} {f : α → List β} (l : List α) (i : Nat) : ((l.take i).flatMap f).length ≤ (l.flatMap f).length := by
  have e : (l.take i ++ l.drop i).flatMap f = l.flatMap f := by rw [List.take_append_drop]
  rw [← e, List.flatMap_append, List.length_append]
  exact Nat.le_add_right _ _
theorem fm_le1 {α β : Type} {f : α → List β} {l : List α} {i : Nat} {x : α} (h : l[i]? = some x) : ((l.take i).flatMap f ++ f x).length ≤ (l.flatMap f).length := by
  rw [← fm_take h]
  exact fm_le l (i + 1)
theorem depB_mem {r : Rw} : ∀ {b : List Rw}, r ∈ b → depR r ≤ depB b
  | _ :: b, h => by
    rcases List.mem_cons.mp h with h | h
    · subst h
      exact Nat.le_max_left _ _
    · exact Nat.le_trans (depB_mem h) (Nat.le_max_right _ _)
theorem dep_inner {r : Rw} {c : List Rw} (h : c ∈ inner r) : depB c < depR r := by
  cases r with
  | either a b =>
    simp [inner] at h
    rcases h with rfl | rfl
    · exact Nat.lt_succ_of_le (Nat.le_max_left _ _)
    · exact Nat.lt_succ_of_le (Nat.le_max_right _ _)
  | again a =>
    simp [inner] at h
    subst h
    exact Nat.lt_succ_self _
  | _ => simp [inner] at h
theorem inner_args (r : Rw) (h : inner r ≠ []) : argsR r = (inner r).map fun b => .tuple (dB b) := by
  cases r <;> simp [inner] at h <;> rfl
theorem word_inner (r : Rw) : (inner r).isEmpty = !((wordR r == Str.ofString "either") || (wordR r == Str.ofString "again")) := by
  cases r with
  | note _ _ _ => exact (by decide +kernel : true = !(Str.ofString "note" == Str.ofString "either" || Str.ofString "note" == Str.ofString "again"))
  | copy _ _ => exact (by decide +kernel : true = !(Str.ofString "copy" == Str.ofString "either" || Str.ofString "copy" == Str.ofString "again"))
  | give _ _ => exact (by decide +kernel : true = !(Str.ofString "give" == Str.ofString "either" || Str.ofString "give" == Str.ofString "again"))
  | ask _ => exact (by decide +kernel : true = !(Str.ofString "ask" == Str.ofString "either" || Str.ofString "ask" == Str.ofString "again"))
  | prt _ => exact (by decide +kernel : true = !(Str.ofString "print" == Str.ofString "either" || Str.ofString "print" == Str.ofString "again"))
  | either _ _ => exact (by decide +kernel : false = !(Str.ofString "either" == Str.ofString "either" || Str.ofString "either" == Str.ofString "again"))
  | again _ => exact (by decide +kernel : false = !(Str.ofString "again" == Str.ofString "either" || Str.ofString "again" == Str.ofString "again"))
section
variable {K : PySem.W.Frag} {H : Hp}
theorem Tvs.nthR {vs : List V} {b : List Rw} {i : Nat} {x : V} (t : Tvs K H vs (dB b)) (h : vs[i]? = some x) : ∃ r, b[i]? = some r ∧ RV K H x r := by
  have hl : i < vs.length := (List.getElem?_eq_some_iff.mp h).1
  rw [t.len, dB_eq, List.length_map] at hl
  obtain ⟨v, hv, tv⟩ := Tvs.get (i := i) (d := dR b[i]) t (by rw [dB_eq, List.getElem?_map, List.getElem?_eq_getElem hl]; rfl)
  rw [h] at hv
  cases hv
  exact ⟨_, List.getElem?_eq_getElem hl, tv⟩
theorem Tvs.nthB {vs : List V} {bs : List (List Rw)} {i : Nat} {x : V} (t : Tvs K H vs (bs.map fun b => .tuple (dB b))) (h : vs[i]? = some x) : ∃ c, bs[i]? = some c ∧ BV K H x c := by
  have hl : i < vs.length := (List.getElem?_eq_some_iff.mp h).1
  rw [t.len, List.length_map] at hl
  obtain ⟨v, hv, tv⟩ := Tvs.get (i := i) (d := .tuple (dB bs[i])) t (by rw [List.getElem?_map, List.getElem?_eq_getElem hl]; rfl)
  rw [h] at hv
  cases hv
  exact ⟨_, List.getElem?_eq_getElem hl, tv⟩
end
end PM
namespace K13
open PySem PySem.Spec PyProof.Rows L2 ZX PM ZR
def spRowsOf (K : PySem.W.Frag) (n : Nat) : Sp := fun vs H Q _ => ∃ (v : V) (b : List Rw), vs = [v] ∧ BV K H v b ∧ depB b < n ∧ (rowsB b).length ≤ 1000 ∧ ∀ l us H', Same H H' → H l = none → H' l = some (.lst us) → Tvs K H' us ((rowsB b).map dR) → Q (.ref l) H'
def spNamesOf (K : PySem.W.Frag) : Sp := fun vs H Q _ => ∃ (v : V) (r : Rw), vs = [v] ∧ RV K H v r ∧ (namesR r).length ≤ 4 ∧ ∀ l H', Same H H' → H l = none → H' l = some (.lst ((namesR r).map V.str)) → Q (.ref l) H'
section
variable {P : Program} {w : World} {K : PySem.W.Frag} {mg : Str → Option Value} {base : Heap}
theorem scBlocks_of : FnScope ["row"] ["row"] (defScope sBlocks_of) := ⟨rfl, rfl, rfl, by decide +kernel, rfl, by decide +kernel, by decide +kernel⟩
theorem ok_blocks_of {f : Addr} {fd : FuncData} (F : FnP K "blocks_of" sBlocks_of f fd) (T : Bi mg) : FnOk P w K mg base CX0 1 f fd ["row"] (spBlocksOf K) := by
  refine F.ok scBlocks_of (fun vs H Q E h => ?_) (fun cdv A outer s H vs Q E hr h => ?_)
  · obtain ⟨v, r, rfl, _⟩ := h
    rfl
  · obtain ⟨v, r, rfl, tv, k⟩ := h
    obtain ⟨a, tl, rfl, hS, ht⟩ := tv.rowI
    refine ⟨_, PSs.nox (pss_one (ps_ret (pe_ifExp (pt_cmpR op_in_seq (pe_ix ix_tup (pv 0) pe_int (fun _ _ => rfl)) (pe_tup (pa_cons pe_str (pa_cons pe_str pa_nil))) (by with_unfolding_all rfl)) (pe_slice sl_tup (pv 0) (po_some pe_int) po_none) (pe_tup pa_nil)))), ?_⟩
    refine ⟨_, rfl, _, _, _, _, rfl, rfl, hS, at0, by decide, fun t nt => ?_⟩
    have pt := Pt.new (o := .tup [V.str "either", V.str "again"]) nt
    have ei : inV (V.str (wordR r)) [V.str "either", V.str "again"] = !(inner r).isEmpty := by
      rw [word_inner, Bool.not_not]
      show (Str.ofString "either" == wordR r || (Str.ofString "again" == wordR r || false)) = _
      rw [Bool.or_false, BEq.comm, BEq.comm (a := Str.ofString "again")]
    refine ⟨_, _, rfl, .inr (.inl (.inl upd_same)), rfl, rfl, _, rfl, ?_⟩
    show if inV (V.str (wordR r)) [V.str "either", V.str "again"] = true then _ else _
    cases hi : (inner r).isEmpty with
    | true =>
      refine ifBF (by rw [ei, hi]; rfl) ⟨by decide, fun p np => k p [] _ ((same_new nt).trans (same_new np)) (.inl (.inl upd_same)) ?_⟩
      rw [List.isEmpty_iff.mp hi]
      exact .nil
    | false =>
      refine ifB (by rw [ei, hi]; rfl) ⟨_, rfl, 1, rfl, a, _, rfl, pt.sq hS, cut1_ne, fun p np => ?_⟩
      refine k p tl _ ((same_new nt).trans (same_new np)) ?_ ?_
      · rw [cut1]
        exact .inl (.inl upd_same)
      · rw [← inner_args r (fun e => by rw [e] at hi; cases hi)]
        exact ht.pt (pt.trans (Pt.new np))
theorem scNames_of : FnScope ["row"] ["row"] (defScope sNames_of) := ⟨rfl, rfl, rfl, by decide +kernel, rfl, by decide +kernel, by decide +kernel⟩
theorem ok_names_of {f : Addr} {fd : FuncData} (F : FnP K "names_of" sNames_of f fd) (T : Bi mg) (hA : Asking K mg) : FnOk P w K mg base CX0 2 f fd ["row"] (spNamesOf K) := by
  refine F.ok scNames_of (fun vs H Q E h => ?_) (fun cdv A outer s H vs Q E hr h => ?_)
  · obtain ⟨v, r, rfl, _⟩ := h
    rfl
  · obtain ⟨v, r, rfl, tv, hl, k⟩ := h
    obtain ⟨a, tl, rfl, hS, ht⟩ := tv.rowI
    obtain ⟨aA, mA, hAs⟩ := hA
    refine ⟨_, PSs.nox (pss_cons (ps_if (pt_cmpR op_eq (pe_ix ix_tup (pv 0) pe_int (fun _ _ => rfl)) pe_str (nomark _)) (pss_one (ps_ret (pe_lst (pa_cons (pe_ix ix_tup (pv 0) pe_int (fun _ _ => rfl)) (StX.pa_star (pe_ix ix_tup (pv 0) pe_int (fun _ _ => rfl)) pa_nil))))) pss_nil)
    (pss_cons (ps_if (pt_cmpR op_eq (pe_ix ix_tup (pv 0) pe_int (fun _ _ => rfl)) pe_str (nomark _)) (pss_one (ps_ret (pe_lst (pa_cons (pe_ix ix_tup (pv 0) pe_int (fun _ _ => rfl)) (pa_cons (pe_ix ix_tup (pv 0) pe_int (fun _ _ => rfl)) pa_nil))))) pss_nil)
    (pss_one (ps_ret (pe_ifExp (PW.pt (pw_or (pt_cmpR op_eq (pe_ix ix_tup (pv 0) pe_int (fun _ _ => rfl)) pe_str (nomark _)) (pw_or1 (pt_cmpR op_in_seq (pe_ix ix_tup (pv 0) pe_int (fun _ _ => rfl)) (pe_glob (v := .ref _) rfl mA rfl) (by with_unfolding_all rfl))))) (pe_lst (pa_cons (pe_ix ix_tup (pv 0) pe_int (fun _ _ => rfl)) pa_nil)) (pe_lst pa_nil)))))), ?_⟩
    have go : ∀ (xs : List V) (H' : Hp), Same H H' → xs = (namesR r).map V.str → xs.length ≤ sizeLine ∧ ∀ l, H' l = none → Q (.ref l) (upd H' l (.lst xs)) := fun xs H' sm e => ⟨by
      rw [e, List.length_map]
      exact Nat.le_trans hl (by decide), fun l nl => k l _ (sm.trans (same_new nl)) (sm.free nl) (by rw [e]; exact upd_same)⟩
    refine ⟨_, rfl, _, _, _, _, rfl, rfl, hS, at0, rfl, _, rfl, ?_⟩
    cases r with
    | note x o ps =>
      obtain ⟨v1, v2, v3, rfl, t1, t2, t3⟩ := ht.three
      cases t1.strI
      cases t2.strI
      obtain ⟨a3, xs3, rfl, hS3, ht3⟩ := t3.tupI
      have e3 := Tvs.strs ht3
      subst e3
      exact ifD rfl ⟨_, rfl, _, _, _, _, rfl, rfl, hS, rfl, _, rfl, _, _, _, _, rfl, rfl, hS, rfl, _, _, rfl, .inl hS3, go _ _ (fun _ _ h => h) (by show _ :: (_ ++ []) = _; rw [List.append_nil]; rfl)⟩
    | copy x y =>
      obtain ⟨v1, v2, rfl, t1, t2⟩ := ht.two
      cases t1.strI
      cases t2.strI
      exact ifDF (neS (a := "copy") (b := "note") (by decide +kernel)) ⟨_, rfl, _, _, _, _, rfl, rfl, hS, rfl, rfl, _, rfl, ifD rfl ⟨_, rfl, _, _, _, _, rfl, rfl, hS, rfl, _, rfl, _, _, _, _, rfl, rfl, hS, rfl, go _ _ (fun _ _ h => h) rfl⟩⟩
    | give x i =>
      obtain ⟨v1, v2, rfl, t1, t2⟩ := ht.two
      cases t1.strI
      exact ifDF (neS (a := "give") (b := "note") (by decide +kernel)) ⟨_, rfl, _, _, _, _, rfl, rfl, hS, rfl, rfl, _, rfl, ifDF (neS (a := "give") (b := "copy") (by decide +kernel)) ⟨_, rfl, _, _, _, _, rfl, rfl, hS, rfl, rfl, _, rfl, ifD rfl ⟨_, rfl, _, _, _, _, rfl, rfl, hS, rfl, go _ _ (fun _ _ h => h) rfl⟩⟩⟩
    | ask x =>
      obtain ⟨v1, rfl, t1⟩ := ht.one
      cases t1.strI
      exact ifDF (neS (a := "ask") (b := "note") (by decide +kernel)) ⟨_, rfl, _, _, _, _, rfl, rfl, hS, rfl, rfl, _, rfl, ifDF (neS (a := "ask") (b := "copy") (by decide +kernel)) ⟨_, rfl, _, _, _, _, rfl, rfl, hS, rfl, rfl, _, rfl, ifDF (neS (a := "ask") (b := "give") (by decide +kernel)) ⟨_, rfl, _, _, _, _, rfl, rfl, hS, rfl, aA, _, rfl, .inr (hAs _), rfl, rfl, _, rfl, ifB (show inV (V.str (Str.ofString "ask")) [V.str (Str.ofString "ask"), V.str (Str.ofString "print")] = true by decide +kernel) ⟨_, rfl, _, _, _, _, rfl, rfl, hS, rfl, go _ _ (fun _ _ h => h) rfl⟩⟩⟩⟩
    | prt x =>
      obtain ⟨v1, rfl, t1⟩ := ht.one
      cases t1.strI
      exact ifDF (neS (a := "print") (b := "note") (by decide +kernel)) ⟨_, rfl, _, _, _, _, rfl, rfl, hS, rfl, rfl, _, rfl, ifDF (neS (a := "print") (b := "copy") (by decide +kernel)) ⟨_, rfl, _, _, _, _, rfl, rfl, hS, rfl, rfl, _, rfl, ifDF (neS (a := "print") (b := "give") (by decide +kernel)) ⟨_, rfl, _, _, _, _, rfl, rfl, hS, rfl, aA, _, rfl, .inr (hAs _), rfl, rfl, _, rfl, ifB (show inV (V.str (Str.ofString "print")) [V.str (Str.ofString "ask"), V.str (Str.ofString "print")] = true by decide +kernel) ⟨_, rfl, _, _, _, _, rfl, rfl, hS, rfl, go _ _ (fun _ _ h => h) rfl⟩⟩⟩⟩
    | either b1 b2 =>
      obtain ⟨v1, v2, rfl, t1, t2⟩ := ht.two
      exact ifDF (neS (a := "either") (b := "note") (by decide +kernel)) ⟨_, rfl, _, _, _, _, rfl, rfl, hS, rfl, rfl, _, rfl, ifDF (neS (a := "either") (b := "copy") (by decide +kernel)) ⟨_, rfl, _, _, _, _, rfl, rfl, hS, rfl, rfl, _, rfl, ifDF (neS (a := "either") (b := "give") (by decide +kernel)) ⟨_, rfl, _, _, _, _, rfl, rfl, hS, rfl, aA, _, rfl, .inr (hAs _), rfl, rfl, _, rfl, ifBF (show inV (V.str (Str.ofString "either")) [V.str (Str.ofString "ask"), V.str (Str.ofString "print")] = false by decide +kernel) (go _ _ (fun _ _ h => h) rfl)⟩⟩⟩
    | again b1 =>
      obtain ⟨v1, rfl, t1⟩ := ht.one
      exact ifDF (neS (a := "again") (b := "note") (by decide +kernel)) ⟨_, rfl, _, _, _, _, rfl, rfl, hS, rfl, rfl, _, rfl, ifDF (neS (a := "again") (b := "copy") (by decide +kernel)) ⟨_, rfl, _, _, _, _, rfl, rfl, hS, rfl, rfl, _, rfl, ifDF (neS (a := "again") (b := "give") (by decide +kernel)) ⟨_, rfl, _, _, _, _, rfl, rfl, hS, rfl, aA, _, rfl, .inr (hAs _), rfl, rfl, _, rfl, ifBF (show inV (V.str (Str.ofString "again")) [V.str (Str.ofString "ask"), V.str (Str.ofString "print")] = false by decide +kernel) (go _ _ (fun _ _ h => h) rfl)⟩⟩⟩
theorem scRows_of : FnScope ["block", "found", "row", "inner"] ["block"] (defScope sRows_of) := ⟨rfl, rfl, rfl, by decide +kernel, rfl, by decide +kernel, by decide +kernel⟩
theorem ok_rows_of0 {f : Addr} {fd : FuncData} (k : Nat) : FnOk P w K mg base CX0 k f fd ["block"] (spRowsOf K 0) :=
  ⟨fun vs H Q E h => by
    obtain ⟨_, _, _, _, h, _⟩ := h
    exact absurd h (Nat.not_lt_zero _), fun A outer s H args us vs Q E hr e0 hb r h => by
    obtain ⟨_, _, _, _, h, _⟩ := h
    exact absurd h (Nat.not_lt_zero _)⟩
/-- between two turns of rows_of -/
def RowsMid (K : PySem.W.Frag) (v : V) (l : Addr) (H0 : Hp) (rs : List Rw) (y : Option V) (σ : L2.St) (H : Hp) : Prop := ∃ (us : List V) (z : Option V), σ = [some v, some (.ref l), y, z] ∧ Same H0 H ∧ H l = some (.lst us) ∧ Tvs K H us (rs.map dR)
theorem ok_rows_of1 {n : Nat} {f : Addr} {fd : FuncData} (F : FnP K "rows_of" sRows_of f fd) (T : Bi mg) (C_blocks_of : Cal P w K mg base "blocks_of" 1 ["row"] (spBlocksOf K)) (C_rows_of : Cal P w K mg base "rows_of" (n + 1) ["block"] (spRowsOf K n)) : FnOk P w K mg base CX0 (n + 2) f fd ["block"] (spRowsOf K (n + 1)) := by
  refine F.ok scRows_of (fun vs H Q E h => ?_) (fun cdv A outer s H vs Q E hr h => ?_)
  · obtain ⟨v, r, rfl, _⟩ := h
    rfl
  · obtain ⟨v, b, rfl, tv, hd, hn, k⟩ := h
    obtain ⟨a, xs, rfl, hS, ht⟩ := tv.tupI
    have hr_blocks_of := hr.mono (show 1 ≤ n + 1 by omega)
    have hr_rows_of := hr
    refine ⟨_, PSs.nox (pss_cons (ps_set (i := 1) scRows_of.nd rfl (Or.inl rfl) (pe_lst pa_nil))
    (pss_cons (ps_for PassesOwn.never rfl (pi_tup (pv 0)) (pg_name (i := 2) scRows_of.nd rfl (Or.inl rfl)) (pss_cut (ps_expr (pe_bm PySem.F.plainAttrs_list PySem.F.slot_list_append PySem.F.type_list_append mt_append (pv 1) (pa_cons (pv 2) pa_nil)))
      (pss_one (ps_for PassesOwn.never rfl (pi_tup (pcal C_blocks_of hr_blocks_of rfl (pa_cons (pv 2) pa_nil))) (pg_name (i := 3) scRows_of.nd rfl (Or.inl rfl)) (pss_one (ps_expr (pe_bm PySem.F.plainAttrs_list PySem.F.slot_list_extend PySem.F.type_list_extend mt_extend (pv 1) (pa_cons (pcal C_rows_of hr_rows_of rfl (pa_cons (pv 3) pa_nil)) pa_nil))))))))
    (pss_one (ps_ret (pv 1))))), ?_⟩
    refine ⟨by decide, fun l nl => ?_⟩
    refine ⟨_, rfl, a, rfl, ⟨xs, (Pt.new nl).sq hS⟩, ?_⟩
    refine for_tup (xs := xs) (fun i σ' H' => ∃ y, RowsMid K (.ref a) l H ((b.take i).flatMap rowsR) y σ' H') ⟨_, [], _, rfl, same_new nl, upd_same, .nil⟩ ?_ ?_ ?_
    · rintro i σ' H' _ ⟨y, us, z, rfl, sm, hl, hu⟩
      exact sm.pt.sq hS
    · rintro i x σ' H' hx ⟨y, us, z, rfl, sm, hl, hu⟩
      obtain ⟨r, hr, tr⟩ := (ht.pt sm.pt).nthR hx
      have hle : ((b.take i).flatMap rowsR ++ rowsR r).length ≤ 1000 := Nat.le_trans (fm_le1 hr) (by rw [← rowsB_eq]; exact hn)
      have hrm : r ∈ b := List.mem_of_getElem? hr
      rw [rowsR_eq, List.length_append, List.length_cons] at hle
      have hul := hu.len
      rw [List.length_map] at hul
      refine ⟨fun σ2 H2 => RowsMid K (.ref a) l H ((b.take i).flatMap rowsR ++ [r]) (some x) σ2 H2 ∧ RV K H2 x r, ?_, ?_⟩
      · refine ⟨_, rfl, .inl ⟨rfl, _, SqL.of hl⟩, _, rfl, l, us, x, rfl, rfl, hl, Nat.lt_of_le_of_lt (by omega : us.length ≤ 1000) (by decide), ?_⟩
        have pt := Pt.lst (o := .lst (us ++ [x])) hl
        refine ⟨⟨us ++ [x], _, rfl, sm.put nl, upd_same, ?_⟩, tr.pt pt⟩
        rw [List.map_append]
        exact Tvs.app (hu.pt pt) (.cons (tr.pt pt) .nil)
      · rintro σ2 H2 ⟨⟨us, z, rfl, sm, hl, hu⟩, tr⟩
        refine ⟨_, rfl, x, r, rfl, tr, fun c ys H3 s3 hc hys => ⟨c, rfl, ⟨ys, hc⟩, ?_⟩⟩
        refine for_tup (xs := ys) (fun j σ' H' => RowsMid K (.ref a) l H ((b.take i).flatMap rowsR ++ r :: ((inner r).take j).flatMap rowsB) (some x) σ' H' ∧ Pt H3 H') ⟨⟨us, _, rfl, sm.trans s3, s3 _ _ hl, hu.pt s3.pt⟩, Pt.refl _⟩ ?_ ?_ ?_
        · rintro j σ' H' _ ⟨_, p3⟩
          exact p3.sq hc
        · rintro j y σ' H' hy ⟨⟨us, z, rfl, sm, hl, hu⟩, p3⟩
          obtain ⟨cb, hcb, tc⟩ := (hys.pt p3).nthB hy
          have hle2 := fm_le1 (f := rowsB) hcb
          rw [List.length_append] at hle2
          have hcm : cb ∈ inner r := List.mem_of_getElem? hcb
          have hdp : depB cb < n := by
            have := dep_inner hcm
            have := depB_mem hrm
            omega
          have hul := hu.len
          rw [List.length_map, List.length_append, List.length_cons] at hul
          refine ⟨_, rfl, .inl ⟨rfl, _, SqL.of hl⟩, _, rfl, y, cb, rfl, tc, hdp, by omega, fun l2 zs H4 s4 n4 h4 t4 => ?_⟩
          have hzl := t4.len
          rw [List.length_map] at hzl
          refine ⟨l, l2, us, zs, rfl, rfl, s4 _ _ hl, h4, Nat.le_trans (by omega : us.length + zs.length ≤ 1000) (by decide), ?_⟩
          have pt := Pt.lst (o := .lst (us ++ zs)) (s4 _ _ hl)
          refine ⟨⟨us ++ zs, _, rfl, (sm.trans s4).put nl, upd_same, ?_⟩, (p3.trans s4.pt).trans pt⟩
          rw [fm_take hcb, ← List.cons_append, ← List.append_assoc, List.map_append]
          exact Tvs.app ((hu.pt s4.pt).pt pt) (t4.pt pt)
        · rintro σ' H' ⟨⟨us, z, rfl, sm, hl, hu⟩, _⟩
          have e : ys.length = (inner r).length := by rw [hys.len, List.length_map]
          refine ⟨_, us, z, rfl, sm, hl, ?_⟩
          rw [fm_take hr, rowsR_eq]
          rw [e, List.take_length] at hu
          exact hu
    · rintro σ' H' ⟨y, us, z, rfl, sm, hl, hu⟩
      have e : xs.length = b.length := by rw [ht.len, dB_eq, List.length_map]
      rw [e, List.take_length, ← rowsB_eq] at hu
      exact ⟨_, rfl, k l us H' sm nl hl hu⟩
end
end K13
set_option Elab.async false
set_option linter.all false
set_option maxRecDepth 100000
set_option maxHeartbeats 4000000
namespace PM
open PySem PySem.Spec PyProof.Rows L2 ZX
/-! ### rows ahead, with their depth -/
def dP (e : Nat × Rw) : PyData := .tuple [.int e.1, dR e.2]
def tot (st : List (Nat × Rw)) : Nat := (st.map fun e => (rowsR e.2).length).sum
def push (d : Nat) (b : List Rw) : List (Nat × Rw) := b.reverse.map fun r => (d, r)
theorem tot_app (a b : List (Nat × Rw)) : tot (a ++ b) = tot a + tot b := by simp [tot]
theorem tot_push (d : Nat) : ∀ b : List Rw, tot (push d b) = (rowsB b).length
  | [] => rfl
  | r :: b => by
    have h := tot_push d b
    have e : push d (r :: b) = push d b ++ [(d, r)] := by simp [push]
    rw [e, tot_app, h, rowsB, List.length_append]
    show _ + ((rowsR r).length + 0) = _
    omega
theorem len_tot : ∀ st : List (Nat × Rw), st.length ≤ tot st
  | [] => Nat.le_refl _
  | e :: st => by
    have h := len_tot st
    have p := rowsR_pos e.2
    show st.length + 1 ≤ (rowsR e.2).length + tot st
    omega
theorem tot_fm (d : Nat) (L : List (List Rw)) : tot (L.flatMap (push d)) = (L.flatMap rowsB).length := by
  induction L with
  | nil => rfl
  | cons c L ih => rw [List.flatMap_cons, tot_app, tot_push, ih, List.flatMap_cons, List.length_append]
theorem tot_rev (d : Nat) (r : Rw) : tot ((inner r).reverse.flatMap (push d)) + 1 = (rowsR r).length := by
  rw [tot_fm, rowsR_eq, List.length_cons]
  cases r <;> simp [inner]
  omega
def okS (st : List (Nat × Rw)) : Prop := ∀ e ∈ st, okR e.1 e.2
theorem okB_mem {d : Nat} {r : Rw} : ∀ {b : List Rw}, okB d b → r ∈ b → okR d r
  | _ :: _, h, hm => by
    rcases List.mem_cons.mp hm with e | hm
    · exact e ▸ h.1
    · exact okB_mem h.2 hm
theorem ok_inner {d : Nat} {r : Rw} {c : List Rw} (h : okR d r) (hc : c ∈ inner r) : okB (d + 1) c := by
  cases r with
  | either a b =>
    obtain ⟨_, _, _, h1, h2⟩ := h
    simp [inner] at hc
    rcases hc with rfl | rfl
    · exact h1
    · exact h2
  | again a =>
    obtain ⟨_, _, h1⟩ := h
    simp [inner] at hc
    subst hc
    exact h1
  | _ => simp [inner] at hc
theorem okS_push {d : Nat} {b : List Rw} (h : okB d b) : okS (push d b) := fun e he => by
  obtain ⟨r, hr, rfl⟩ := List.mem_map.mp he
  exact okB_mem h (List.mem_reverse.mp hr)
theorem okS_app {a b : List (Nat × Rw)} (h : okS a) (k : okS b) : okS (a ++ b) := fun e he => (List.mem_append.mp he).elim (h e) (k e)
theorem snoc_or {α : Type} (l : List α) : l = [] ∨ ∃ m x, l = m ++ [x] := by
  rcases h : l.reverse with _ | ⟨x, m⟩
  · exact .inl (List.reverse_eq_nil_iff.mp h)
  · refine .inr ⟨m.reverse, x, ?_⟩
    rw [← List.reverse_cons, ← h, List.reverse_reverse]
end PM
namespace K13
open PySem PySem.Spec PyProof.Rows L2 ZX PM ZR
def spFormless (K : PySem.W.Frag) : Sp := fun vs H Q _ => ∃ (v : V) (b : List Rw) (mn : Int), vs = [v, .int mn] ∧ BV K H v b ∧ okB 1 b ∧ (rowsB b).length ≤ 1000 ∧ ∀ H', Same H H' → Q .non H'
/-- between two turns -/
def ForMid (K : PySem.W.Frag) (mn : Int) (v : V) (l : Addr) (H0 : Hp) (m : Nat) (σ : L2.St) (H : Hp) : Prop := ∃ (us : List V) (st : List (Nat × Rw)) (n : Int) (y1 y4 y5 : Option V), σ = [some v, some (.int mn), y1, some (.ref l), some (.int n), y4, y5, none] ∧
  Same H0 H ∧ H l = some (.lst us) ∧ Tvs K H us (st.map dP) ∧ okS st ∧ tot st = m ∧ m ≤ 1000
section
variable {P : Program} {w : World} {K : PySem.W.Frag} {mg : Str → Option Value} {base : Heap}
theorem scFormless_place : FnScope ["block", "many", "row", "ahead", "place", "deep", "inner", "each"] ["block", "many"] (defScope sFormless_place) := ⟨rfl, rfl, rfl, by decide +kernel, rfl, by decide +kernel, by decide +kernel⟩
theorem ok_formless {f : Addr} {fd : FuncData} (F : FnP K "formless_place" sFormless_place f fd) (T : Bi mg) (C_is_row : Cal P w K mg base "is_row" 3 ["deep", "thing", "many"] (spIsRow K)) (C_blocks_of : Cal P w K mg base "blocks_of" 1 ["row"] (spBlocksOf K)) : FnOk P w K mg base CX0 4 f fd ["block", "many"] (spFormless K) := by
  refine F.ok scFormless_place (fun vs H Q E h => ?_) (fun cdv A outer s H vs Q E hr h => ?_)
  · obtain ⟨v, r, mn, rfl, _⟩ := h
    rfl
  · obtain ⟨v, b, mn, rfl, tv, ok, hn, k⟩ := h
    obtain ⟨a, xs, rfl, hS, ht⟩ := tv.tupI
    have hr_blocks_of := hr.mono (show 1 ≤ 3 by decide)
    have hr_is_row := hr
    refine ⟨_, PSs.nox (pss_cons (ps_setLcS (i := 3) (own := [("row", 2)]) (g := gName 2) (tt := tYes) rfl scFormless_place.nd rfl rfl (sw_true rfl rfl rfl (by decide +kernel)) (pi_tup (ZR.pe_revT (pv 0))) (blkOk_by (N := ["block", "many", "row", "ahead", "place", "deep", "inner", "each"]) (sc := defScope sFormless_place) (by decide +kernel)) (fun _ _ _ _ _ => (pg_name (i := 2) scFormless_place.nd rfl (Or.inl rfl))) (fun _ _ _ _ _ => pts_nil) (fun _ _ _ _ _ => (pe_tup (pa_cons pe_int (pa_cons (pv 2) pa_nil)))))
    (pss_cons (ps_set (i := 4) scFormless_place.nd rfl (Or.inl rfl) pe_int)
    (pss_cons (ps_while PassesOwn.never (pt_truth (pv 3) (by intro _; rfl)) (pss_cut (ps_asg (pe_bm0 PySem.F.plainAttrs_list PySem.F.slot_list_pop PySem.F.type_list_pop mt_pop (pv 3)) (pg_tup rfl (pgs_cons (pg_name (i := 5) scFormless_place.nd rfl (Or.inr rfl)) (pgs_cons (pg_name (i := 2) scFormless_place.nd rfl (Or.inl rfl)) pgs_nil))))
      (pss_cons (ps_if (pt_not (pt_val (pcal C_is_row hr_is_row rfl (pa_cons (pv 5) (pa_cons (pv 2) (pa_cons (pv 1) pa_nil)))))) (pss_one (ps_ret (pv 4))) pss_nil)
      (pss_cons (ps_for PassesOwn.never rfl (pi_tup (ZR.pe_revT (pcal C_blocks_of hr_blocks_of rfl (pa_cons (pv 2) pa_nil)))) (pg_name (i := 6) scFormless_place.nd rfl (Or.inl rfl)) (pss_one (ps_expr (pe_bm PySem.F.plainAttrs_list PySem.F.slot_list_extend PySem.F.type_list_extend mt_extend (pv 3) (pa_cons (pe_lcS (own := [("each", 7)]) (g := gName 7) (tt := tYes) (by rfl) scFormless_place.nd (pi_tup (ZR.pe_revT (pv 6))) (blkOk_by (N := ["block", "many", "row", "ahead", "place", "deep", "inner", "each"]) (sc := defScope sFormless_place) (by decide +kernel)) (fun _ _ _ _ _ => (pg_name (i := 7) scFormless_place.nd rfl (Or.inl rfl))) (fun _ _ _ _ _ => pts_nil) (fun _ _ _ _ _ => (pe_tup (pa_cons (pe_op op_add (pv 5) pe_int) (pa_cons (pv 7) pa_nil))))) pa_nil)))))
      (pss_one (ps_aug (i := 4) scFormless_place.nd rfl (Or.inl rfl) pe_int ip_add))))))
    (pss_one (ps_ret pe_non))))), ?_⟩
    refine lc_into ?_
    refine ⟨_, rfl, a, xs, rfl, hS, fun q nq => ⟨q, rfl, ⟨_, .inl (.inl upd_same)⟩, ?_⟩⟩
    have hx : xs.reverse.length = b.length := by rw [List.length_reverse, ht.len, dB_eq, List.length_map]
    have hbl : b.length ≤ 1000 := by
      have := len_tot (push 1 b)
      rw [tot_push] at this
      have e : (push 1 b).length = b.length := by simp [push]
      omega
    refine lc_overA (p := none) (as := push 1 b) (Rel := fun H e y => Tv K H y (dP e)) it_tup ?_ (fun c y H H' pt h => h.pt pt) (fun _ h => nomatch h) ?_ (fun H' _ pt => pt.sq (.inl (.inl upd_same))) ?_ ?_
    · rw [hx]
      simp [push]
    · rw [hx]
      exact Nat.lt_of_le_of_lt hbl (by decide)
    · intro i x c hx hc H' kq pt R k
      have hrv := (ht.pt ((Pt.new (o := .tup xs.reverse) nq).trans pt)).rev
      rw [dB_eq, ← List.map_reverse, ← dB_eq] at hrv
      obtain ⟨r, hr, tr⟩ := hrv.nthR hx
      have ec : c = (1, r) := by
        have := hc
        rw [push, List.getElem?_map, hr] at this
        exact (Option.some.inj this).symm
      subst ec
      refine ⟨rfl, _, rfl, (by show 2 ≤ sizeLine; decide), fun t nt => k _ _ (Same.kq (same_new nt)) (Pt.new nt) (.tup (.inl (.inl upd_same)) (.cons (.int _) (.cons (tr.pt (Pt.new nt)) .nil)))⟩
    · intro l us H' kq _ nl hl all
      have hl0 : H l = none := (same_new nq).free nl
      refine ⟨fun m σ' H' => ForMid K mn (.ref a) l H m σ' H', ⟨_, us, push 1 b, 0, none, none, none, rfl, (same_new nq).trans kq.same, hl, Tvs.ofAll2 all, okS_push ok, rfl, by rw [tot_push]; exact hn⟩, ?_⟩
      rintro m σ' H' ⟨us, st, n, y1, y4, y5, rfl, sm, hl, hu, hok, rfl, hm⟩
      have hul := hu.len
      rw [List.length_map] at hul
      rcases snoc_or st with rfl | ⟨st', ⟨d, r⟩, rfl⟩
      · cases hu
        exact ⟨_, rfl, false, .inl ⟨_, SqL.of hl, rfl⟩, k H' sm⟩
      · rw [List.map_append] at hu
        obtain ⟨us', u, rfl, hu', tu⟩ := hu.snocI
        refine ⟨_, rfl, true, .inl ⟨_, SqL.of hl, by simp⟩, fun σ2 H2 => ∃ m', m' < tot (st' ++ [(d, r)]) ∧ ForMid K mn (.ref a) l H m' σ2 H2, fun _ _ h => h, ?_⟩
        obtain ⟨ta, tx, rfl, htS, htt⟩ := tu.tupI
        obtain ⟨v1, v2, rfl, t1, t2⟩ := htt.two
        cases t1.intI
        have okr : okR d r := hok (d, r) (List.mem_append_right _ List.mem_cons_self)
        have okst : okS st' := fun e he => hok e (List.mem_append_left _ he)
        have htot : tot (st' ++ [(d, r)]) = tot st' + (rowsR r).length := by
          rw [tot_app]
          show _ + ((rowsR r).length + 0) = _
          omega
        have hrev := tot_rev (d + 1) r
        have hat : (us' ++ [V.ref ta])[(us' ++ [V.ref ta]).length - 1]? = some (V.ref ta) := by simp
        have hdl : (us' ++ [V.ref ta]).dropLast = us' := by simp
        have pt0 := Pt.lst (o := .lst us') hl
        refine ⟨fun σ2 H2 => ∃ y5, σ2 = [some (.ref a), some (.int mn), some v2, some (.ref l), some (.int n), some (.int d), y5, none] ∧ Same H H2 ∧ H2 l = some (.lst us') ∧ Tvs K H2 us' (st'.map dP) ∧ RV K H2 v2 r, ?_, ?_⟩
        · refine ⟨_, rfl, .inl ⟨rfl, _, SqL.of hl⟩, l, _, _, rfl, rfl, hl, hat, ?_⟩
          rw [hdl]
          refine ⟨ta, _, rfl, pt0.sq htS, rfl, _, _, rfl, _, _, rfl, ?_⟩
          exact ⟨rfl, _, rfl, sm.put hl0, upd_same, hu'.pt pt0, t2.pt pt0⟩
        · rintro σ2 H2 ⟨y5, rfl, sm, hl, hu, t2⟩
          refine ⟨_, rfl, _, rfl, _, rfl, d, v2, r, mn, rfl, t2, okr, fun H3 s3 => ⟨_, rfl, _, rfl, v2, r, rfl, t2.pt s3.pt, fun c ys H4 s4 hc hys => ⟨c, ys, rfl, hc, fun q2 nq2 => ⟨q2, rfl, ⟨_, .inl (.inl upd_same)⟩, ?_⟩⟩⟩⟩
          have pt4 : Pt H2 (upd H4 q2 (.tup ys.reverse)) := (s3.pt.trans s4.pt).trans (Pt.new nq2)
          have sm4 : Same H (upd H4 q2 (.tup ys.reverse)) := ((sm.trans s3).trans s4).trans (same_new nq2)
          refine for_tup (xs := ys.reverse) (fun j σ' H' => ∃ us y5, σ' = [some (.ref a), some (.int mn), some v2, some (.ref l), some (.int n), some (.int d), y5, none] ∧ Same H H' ∧ H' l = some (.lst us) ∧ Tvs K H' us ((st' ++ ((inner r).reverse.take j).flatMap (push (d + 1))).map dP) ∧ Pt (upd H4 q2 (.tup ys.reverse)) H')
            ⟨us', y5, rfl, sm4, same_new nq2 _ _ (s4 _ _ (s3 _ _ hl)), ?_, Pt.refl _⟩ ?_ ?_ ?_
          · rw [List.take_zero, List.flatMap_nil, List.append_nil]
            exact hu.pt pt4
          · rintro j σ' H' _ ⟨_, _, _, _, _, _, p5⟩
            exact p5.sq (.inl (.inl upd_same))
          · rintro j y σ' H' hy ⟨us, y5, rfl, sm5, hl5, hu5, p5⟩
            have hys5 := (hys.pt ((Pt.new (o := .tup ys.reverse) nq2).trans p5)).rev
            rw [← List.map_reverse] at hys5
            obtain ⟨cb, hcb, tc⟩ := hys5.nthB hy
            have hcm : cb ∈ inner r := List.mem_reverse.mp (List.mem_of_getElem? hcb)
            have hle := fm_le1 (f := push (d + 1)) hcb
            have hlt := len_tot ((inner r).reverse.flatMap (push (d + 1)))
            have hls := len_tot st'
            rw [List.length_append] at hle
            have hpl : (push (d + 1) cb).length = cb.length := by simp [push]
            have hul := hu5.len
            rw [List.length_map, List.length_append] at hul
            obtain ⟨ca, cx, rfl, hcS, hct⟩ := tc.tupI
            have hcl : cx.reverse.length = cb.length := by rw [List.length_reverse, hct.len, dB_eq, List.length_map]
            refine ⟨_, rfl, .inl ⟨rfl, _, SqL.of hl5⟩, ?_⟩
            refine lc_into ?_
            refine ⟨_, rfl, ca, cx, rfl, hcS, fun q3 nq3 => ⟨q3, rfl, ⟨_, .inl (.inl upd_same)⟩, ?_⟩⟩
            refine lc_overA (p := none) (as := push (d + 1) cb) (Rel := fun H e y => Tv K H y (dP e)) it_tup ?_ (fun c y H H' pt h => h.pt pt) (fun _ h => nomatch h) ?_ (fun H' _ pt => pt.sq (.inl (.inl upd_same))) ?_ ?_
            · rw [hcl, hpl]
            · rw [hcl]
              exact Nat.lt_of_le_of_lt (by omega : cb.length ≤ 1000) (by decide)
            · intro i x c hx hc H6 kq pt R k
              have hrv := (hct.pt ((Pt.new (o := .tup cx.reverse) nq3).trans pt)).rev
              rw [dB_eq, ← List.map_reverse, ← dB_eq] at hrv
              obtain ⟨r6, hr6, tr6⟩ := hrv.nthR hx
              have ec : c = (d + 1, r6) := by
                have := hc
                rw [push, List.getElem?_map, hr6] at this
                exact (Option.some.inj this).symm
              subst ec
              refine ⟨rfl, _, rfl, _, _, rfl, rfl, _, rfl, (by show 2 ≤ sizeLine; decide), fun t nt => k _ _ (Same.kq (same_new nt)) (Pt.new nt) (.tup (.inl (.inl upd_same)) (.cons (.int _) (.cons (tr6.pt (Pt.new nt)) .nil)))⟩
            · intro l6 zs H6 kq pt6 nl6 hl6 all6
              have hzl := all6.len
              rw [hpl] at hzl
              have sm6 : Same H' H6 := (same_new nq3).trans kq.same
              refine ⟨l, l6, us, zs, rfl, rfl, sm6 _ _ hl5, hl6, Nat.le_trans (by omega : us.length + zs.length ≤ 1000) (by decide), ?_⟩
              have ptl := Pt.lst (o := .lst (us ++ zs)) (sm6 _ _ hl5)
              refine ⟨us ++ zs, _, rfl, (sm5.trans sm6).put hl0, upd_same, ?_, (p5.trans sm6.pt).trans ptl⟩
              rw [fm_take hcb, ← List.append_assoc, List.map_append]
              exact Tvs.app ((hu5.pt sm6.pt).pt ptl) ((Tvs.ofAll2 all6).pt ptl)
          · rintro σ' H' ⟨us, y5, rfl, sm5, hl5, hu5, p5⟩
            have e : ys.reverse.length = (inner r).reverse.length := by rw [List.length_reverse, hys.len, List.length_map, List.length_reverse]
            rw [e, List.take_length] at hu5
            refine ⟨_, rfl, ?_⟩
            have hin : okS ((inner r).reverse.flatMap (push (d + 1))) := fun e he => by
              obtain ⟨c, hc, he⟩ := List.mem_flatMap.mp he
              exact okS_push (ok_inner okr (List.mem_reverse.mp hc)) e he
            have := tot_app st' ((inner r).reverse.flatMap (push (d + 1)))
            refine ⟨_, _, rfl, rfl, tot (st' ++ (inner r).reverse.flatMap (push (d + 1))), by omega, us, _, _, _, _, _, rfl, sm5, hl5, hu5, okS_app okst hin, rfl, by omega⟩
end
end K13
set_option Elab.async false
set_option linter.all false
set_option maxRecDepth 100000
set_option maxHeartbeats 4000000
/-! Rules of my own: sorted(..) of a set of texts. -/
namespace ZR
open PySem PySem.Spec PyProof.Rows L2
section
variable {P : Program} {w : World} {A : Around} {E : Value → Shared → Prop} {s : Shared} {a : Addr} {ks : List Str}
theorem sort_setS {Q : Value → Shared → Prop} (R : SetS w s.heap a ks) (hh : A.handled = none)
    (q : ∀ s' p (out : Array Value) (c : Nat) (ys : List Str), (∀ b o, s.heap.get? b = some o → s'.heap.get? b = some o) → s'.gens = s.gens ∧ s'.os = s.os → s.heap.objs.size ≤ p ∧ s'.heap.get? p = some (seqObj "list" out c) →
      StrsAre out.toList ys → ys.Perm ks ∧ sortedS ys = true → Q (.ref p) s') :
    wpAny (model P w) A (call (.builtin "sorted") [.ref a]) Q E s := by
  obtain ⟨o, es, ep, t, ho, hex, hd, T⟩ := R
  have few := T.sm
  refine Calls.call_function_entry kind_sorted plain_sorted entry_sorted (args_sorted1 _) ?_; unfold Builtin.«sorted»
  refine wpAny_bind (m := checkCount "sorted" 1 1 _) (wpAny_pure (wpAny_bind (collect_set (A := A.in1) hh ⟨o, ho, hex.1, hd⟩ T.ft few T.ri T.ld fun s1 vs old hz g1 o1 pm => ?_)))
  have hvs : ∀ v ∈ vs, ∃ x u, v = Value.str x u := fun v hv => by
    obtain ⟨e, he, rfl⟩ := List.mem_map.mp (pm.mem_iff.mp hv)
    obtain ⟨x, u, rfl⟩ := T.gd e he
    exact ⟨x, u, rfl⟩
  have hS := strsAre_map vs hvs
  have hk : (vs.map strOf).Perm ks := by
    refine List.Perm.trans ((pm.map strOf).trans ?_) T.pm
    rw [List.map_map]
    refine List.Perm.of_eq (List.map_congr_left fun e he => ?_)
    obtain ⟨x, u, rfl⟩ := T.gd e he
    rfl
  have hL : vs.length ≤ sizeLine := by
    rw [pm.length_eq, List.length_map, Array.length_toList]
    exact Nat.le_of_lt (Nat.lt_trans few (by decide))
  refine wpAny_bind (wpAny_newList ?_ hL)
  have hl : (s1.heap.push (seqObj "list" vs.toArray 0)).get? s1.heap.objs.size = some (seqObj "list" vs.toArray 0) := Heap.get?_push_size _ rfl
  refine wpAny_bind (wpAny_holding (wpAny_call_entry slot_list_sort ⟨_, hl, rfl⟩ entry_list_sort (list_sort_treeKAny strKind_oneLt hl hS.keysOf (fun u v rest e => keyKind_strs (by rw [← e]; exact hS)) hL fun st' hp hs => ⟨_, rfl, ?_⟩) (args_list_sort _)))
  obtain ⟨ys, y1, y2, y3⟩ := sorted_out_str hS hp hs
  obtain ⟨c, hc⟩ := sortedHeap_at (vs := vs) (out := (arrOf st').map (·.2)) hl
  refine wpAny_pure ⟨_, rfl, q _ s1.heap.objs.size _ c ys (fun b u e => ?_) ⟨g1, o1⟩ ⟨hz, hc⟩ y1 ⟨y2.trans hk, y3⟩⟩
  have e1 := old b u e
  have lt := Heap.lt_size e1
  refine (sortedHeap_old (Nat.ne_of_lt lt) ?_).trans (Heap.get?_push_of_some _ e1)
  exact (size_push' s1.heap (seqObj "list" vs.toArray 0)).symm ▸ Nat.lt_succ_of_lt lt
end
/-- sorted(s), s a set of texts -/
def rSortTx (w : World) : List V → Hp → VK → Prop := fun vs H Q => ∃ (a : Addr) (ks : List Str), vs = [V.ref a] ∧ H a = some (SetTO w a ks) ∧ ks.length ≤ 4096 ∧ ∀ (ys : List Str) (p : Addr), ys.Perm ks → sortedS ys = true → H p = none → Q (.ref p) (upd H p (.lst (ys.map V.str)))
theorem call_sortTx {X : Cx} (hc : X.calm = true) : CallR X (.builtin "sorted") (rSortTx X.w) := by
  intro pins s σ H vs us Q I r h
  obtain ⟨a, ks, rfl, ha, few, q⟩ := h
  rw [Vals.ref1 r]
  refine sort_setS (setTO_get I ha) (I.ok.hd hc) fun s' p out c ys old go hp hs hy => ?_
  obtain ⟨g, o⟩ := go
  have hn : H p = none := I.hok.fresh hp.1
  have hl : (ys.map V.str).length ≤ sizeLine := by
    rw [List.length_map, hy.1.length_eq]
    exact Nat.le_trans few (by decide)
  have J : Inv X pins σ (upd H p (.lst (ys.map V.str))) { s with heap := s'.heap, gens := s'.gens, drawn := s'.drawn, toks := s'.toks } :=
    I.call (ch := []) (Un.laid old hp.1 hn) (I.hok.laid old hp.1 ⟨hl, out.toList, c, vals_of_strs hs, hp.2⟩) (by rw [g]; exact I.bare) fun _ z => nomatch z
  obtain ⟨h2, g2, d2, t2, o2⟩ := s'
  obtain ⟨h1, g1, d1, t1, o1⟩ := s
  dsimp only at g o
  subst g o
  exact ⟨.ref p, _, J, rfl, q ys p hy.1 hy.2 hn⟩
end ZR
set_option Elab.async false
set_option linter.all false
set_option maxRecDepth 100000
set_option maxHeartbeats 4000000
/-! Lots: ascending tuples of unlike texts. Sets of texts, by what was put in. -/
namespace PM
open PySem PySem.Spec PyProof.Rows L2 ZX ZR
def leS (a b : Str) : Prop := a.cps.toList ≤ b.cps.toList
theorem leS_of {a b : Str} (h : (!ltCps b.cps.toList a.cps.toList) = true) : leS a b := by
  rw [ltCps_eq, Bool.not_eq_true', decide_eq_false_iff_not] at h
  exact List.not_lt.mp h
theorem leS_trans {a b c : Str} (h : leS a b) (k : leS b c) : leS a c := List.le_trans h k
theorem leS_anti {a b : Str} (h : leS a b) (k : leS b a) : a = b := by
  have e := List.le_antisymm h k
  obtain ⟨⟨x⟩⟩ := a
  obtain ⟨⟨y⟩⟩ := b
  simp only at e
  rw [e]
theorem rising_pw : ∀ (ss : List Str) (p : Str), risingS p ss = true → (p :: ss).Pairwise leS
  | [], p, _ => List.pairwise_singleton _ _
  | x :: r, p, h => by
    obtain ⟨h1, h2⟩ := Bool.and_eq_true_iff.mp (show (!ltCps x.cps.toList p.cps.toList && risingS x r) = true from h)
    have ih := rising_pw r x h2
    refine List.pairwise_cons.mpr ⟨fun z hz => ?_, ih⟩
    rcases List.mem_cons.mp hz with e | hz
    · rw [e]
      exact leS_of h1
    · exact leS_trans (leS_of h1) ((List.pairwise_cons.mp ih).1 z hz)
theorem sorted_pw {ss : List Str} (h : sortedS ss = true) : ss.Pairwise leS := by
  cases ss with
  | nil => exact List.Pairwise.nil
  | cons x r => exact rising_pw r x h
/-- ys: the texts of L, ascending, each once -/
structure IsLot (ys L : List Str) : Prop where
  so : sortedS ys = true
  nd : ys.Nodup
  me : ∀ x, x ∈ ys ↔ x ∈ L
theorem IsLot.uniq {ys zs L M : List Str} (h : IsLot ys L) (k : IsLot zs M) (e : ∀ x, x ∈ L ↔ x ∈ M) : ys = zs :=
  List.Perm.eq_of_pairwise (fun _ _ _ _ => leS_anti) (sorted_pw h.so) (sorted_pw k.so) ((List.perm_ext_iff_of_nodup h.nd k.nd).mpr fun x => (h.me x).trans ((e x).trans (k.me x).symm))
theorem IsLot.le {ys L W : List Str} (h : IsLot ys L) (s : ∀ x ∈ L, x ∈ W) : ys.length ≤ W.length := List.Nodup.length_le_of_subset h.nd fun x hx => s x ((h.me x).mp hx)
/-- texts put into a set, one behind another -/
def insAll (L : List Str) : List Str := L.foldl (fun ks x => ins x ks) []
theorem ins_mem {x y : Str} {ks : List Str} : y ∈ ins x ks ↔ y ∈ ks ∨ y = x := by
  unfold ins
  split
  · rename_i h
    exact ⟨.inl, fun q => q.elim id fun e => e ▸ h⟩
  · rw [List.mem_append, List.mem_singleton]
theorem ins_nodup {x : Str} {ks : List Str} (h : ks.Nodup) : (ins x ks).Nodup := by
  unfold ins
  split
  · exact h
  · rename_i hn
    refine List.nodup_append.mpr ⟨h, List.nodup_cons.mpr ⟨(fun z => nomatch z), List.nodup_nil⟩, fun a ha b hb e => ?_⟩
    rw [List.mem_singleton] at hb
    subst hb e
    exact hn ha
theorem ins_len {x : Str} {ks : List Str} : (ins x ks).length ≤ ks.length + 1 := by
  unfold ins
  split
  · exact Nat.le_succ _
  · simp
theorem insAll_snoc (L : List Str) (x : Str) : insAll (L ++ [x]) = ins x (insAll L) := by simp [insAll]
theorem insAll_ok (L : List Str) : (insAll L).Nodup ∧ (∀ x, x ∈ insAll L ↔ x ∈ L) ∧ (insAll L).length ≤ L.length := by
  suffices h : ∀ (n : Nat) (L : List Str), L.length = n → (insAll L).Nodup ∧ (∀ x, x ∈ insAll L ↔ x ∈ L) ∧ (insAll L).length ≤ L.length from h _ L rfl
  intro n
  induction n with
  | zero =>
    intro L hL
    rw [List.length_eq_zero_iff.mp hL]
    exact ⟨List.nodup_nil, fun _ => Iff.rfl, Nat.le_refl _⟩
  | succ n ih =>
    intro L hL
    rcases snoc_or L with rfl | ⟨M, y, rfl⟩
    · cases hL
    · rw [List.length_append] at hL
      obtain ⟨h1, h2, h3⟩ := ih M (by simpa using hL)
      rw [insAll_snoc]
      refine ⟨ins_nodup h1, fun x => ?_, ?_⟩
      · rw [ins_mem, h2, List.mem_append, List.mem_singleton]
      · have := ins_len (x := y) (ks := insAll M)
        rw [List.length_append]
        show _ ≤ M.length + 1
        omega
theorem lot_of {L ys : List Str} (p : ys.Perm (insAll L)) (h : sortedS ys = true) : IsLot ys L :=
  ⟨h, p.nodup_iff.mpr (insAll_ok L).1, fun x => p.mem_iff.trans ((insAll_ok L).2.1 x)⟩
theorem Pt.ext {H : Hp} {w : World} {D : Addr} {ks : List Str} {o : HO} (h : H D = some (SetTO w D ks)) : Pt H (upd H D o) := fun b ys hb => by
  have ne : b ≠ D := fun e => by
    subst e
    rcases hb with hb | ⟨o, hb⟩ <;> rw [h] at hb <;> cases hb
  exact hb.elim (fun h => .inl (by rw [upd_ne ne]; exact h)) fun ⟨o, h⟩ => .inr ⟨o, by rw [upd_ne ne]; exact h⟩
section
variable {w : World} {α : Type} {as : List α} {fs : α → List Str} {J : It} {zs : List V} {St : Hp → Prop} {g g1 : TG} {te : TE} {wi1 : TI} {vs vs1 : List Nat} {σ : L2.St} {H1 : Hp} {Q : VK}
theorem sc2_into {wi : TI} {H : Hp} (h : wi σ H fun J H1 => tSc2S w (fun _ _ R => R J H1) g wi1 g1 te vs vs1 σ H1 Q) : tSc2S w wi g wi1 g1 te vs vs1 σ H Q := by
  rw [sc2S] at *
  exact h
/-- {x for t in i for t1 in i1}: each thing gives a list of texts -/
theorem sc2_over {K : PySem.W.Frag} {i i1 : Nat} (O : IterOf J zs St) (hz : as.length = zs.length) (hlen : (as.flatMap fs).length + 1 < scanBound) (st : ∀ H', Same H1 H' → Pt H1 H' → St H')
    (hw : ∀ x, wipe ((wipe σ vs).set i (some x)) vs = wipe σ vs) (hw1 : ∀ x z, wipe ((wipe ((wipe σ vs).set i (some x)) vs1).set i1 (some z)) vs1 = wipe ((wipe σ vs).set i (some x)) vs1)
    (step : ∀ (k : Nat) x c, zs[k]? = some x → as[k]? = some c → ∀ H', Same H1 H' → Pt H1 H' → ∀ R : It → Hp → Prop, (∀ a H4, Same H' H4 → H4 a = some (.lst ((fs c).map V.str)) → R (Itl K a) H4) → wi1 ((wipe σ vs).set i (some x)) H' R)
    (elt : ∀ x z H (R : VK), R (.str z) H → te ((wipe ((wipe σ vs).set i (some x)) vs1).set i1 (some (.str z))) H R)
    (fin : ∀ D H', Same H1 H' → Pt H1 H' → H1 D = none → H' D = some (SetTO w D (insAll (as.flatMap fs))) → Q (.ref D) H') :
    tSc2S w (fun _ _ R => R J H1) (gName i) wi1 (gName i1) te vs vs1 σ H1 Q := by
  rw [sc2S]
  intro D hD
  refine ⟨fun k m H => m = zs.length - k ∧ k ≤ zs.length ∧ Same H1 H ∧ Pt H1 H ∧ H D = some (SetTO w D (insAll ((as.take k).flatMap fs))), ⟨zs.length, rfl, Nat.zero_le _, same_new hD, Pt.new hD, by rw [List.take_zero]; exact upd_same⟩, ?_⟩
  rintro k m H ⟨rfl, hk, sm, pt, hks⟩
  have hst := st H sm pt
  by_cases hlt : k < zs.length
  · refine .inr ⟨O.go k H hst hlt, fun H' => k + 1 ≤ zs.length ∧ Same H1 H' ∧ Pt H1 H' ∧ H' D = some (SetTO w D (insAll ((as.take (k + 1)).flatMap fs))), fun H' h => ⟨zs.length - (k + 1), by omega, rfl, h⟩, fun x H' y => ?_⟩
    obtain ⟨rfl, hx⟩ := O.yld k H x H' hst hlt y
    have hka : k < as.length := by omega
    have hc : as[k]? = some as[k] := List.getElem?_eq_getElem hka
    have hle := fm_le1 (f := fs) hc
    refine ⟨hw x, step k x as[k] hx hc H' sm pt _ fun a H4 s4 h4 => ?_⟩
    have ptk : (as.take (k + 1)).flatMap fs = (as.take k).flatMap fs ++ fs as[k] := fm_take hc
    have hDa : a ≠ D := fun e => by
      subst e
      rw [s4 _ _ hks] at h4
      cases h4
    refine ⟨fun j m H => m = (fs as[k]).length - j ∧ j ≤ (fs as[k]).length ∧ Same H1 H ∧ Pt H1 H ∧ H a = some (.lst ((fs as[k]).map V.str)) ∧ H D = some (SetTO w D (insAll ((as.take k).flatMap fs ++ (fs as[k]).take j))),
      ⟨_, rfl, Nat.zero_le _, sm.trans s4, pt.trans s4.pt, h4, by rw [List.take_zero, List.append_nil]; exact s4 _ _ hks⟩, ?_⟩
    rintro j m H ⟨rfl, hj, sm, pt, ha, hks⟩
    have I1 := it_list (K := K) (a := a) (xs := (fs as[k]).map V.str)
    have hl1 : ((fs as[k]).map V.str).length = (fs as[k]).length := List.length_map ..
    by_cases hjl : j < (fs as[k]).length
    · refine .inr ⟨I1.go j H (SqL.of ha) (by omega), fun H' => j + 1 ≤ (fs as[k]).length ∧ Same H1 H' ∧ Pt H1 H' ∧ H' a = some (.lst ((fs as[k]).map V.str)) ∧ H' D = some (SetTO w D (insAll ((as.take k).flatMap fs ++ (fs as[k]).take (j + 1)))), fun H' h => ⟨_, by omega, rfl, h⟩, fun y H' yy => ?_⟩
      obtain ⟨rfl, hy⟩ := I1.yld j H y H' (SqL.of ha) (by omega) yy
      have hz1 : (fs as[k])[j]? = some (fs as[k])[j] := List.getElem?_eq_getElem hjl
      rw [List.getElem?_map, hz1] at hy
      cases hy
      have tk : (fs as[k]).take (j + 1) = (fs as[k]).take j ++ [(fs as[k])[j]] := by
        rw [List.take_succ, hz1]
        rfl
      have hin := (insAll_ok ((as.take k).flatMap fs ++ (fs as[k]).take j)).2.2
      have htl : ((fs as[k]).take j).length ≤ (fs as[k]).length := by
        rw [List.length_take]
        exact Nat.min_le_right _ _
      rw [List.length_append] at hin hle
      refine ⟨hw1 x _, elt x _ _ _ ⟨_, _, rfl, hks, by omega, hjl, fun b o e => ?_, pt.trans (Pt.ext hks), ?_, ?_⟩⟩
      · rw [upd_ne (ne_of_none e hD)]
        exact sm b o e
      · rw [upd_ne hDa]
        exact ha
      · rw [tk, ← List.append_assoc, insAll_snoc]
        exact upd_same
    · have e : j = (fs as[k]).length := by omega
      subst e
      rw [List.take_length, ← ptk] at hks
      refine .inl ⟨?_, hlt, sm, pt, hks⟩
      rw [← hl1]
      exact I1.stop H (SqL.of ha)
  · have e : k = zs.length := by omega
    subst e
    rw [← hz, List.take_length] at hks
    exact .inl ⟨O.stop H hst, fin D H sm pt hD hks⟩
end
end PM
set_option Elab.async false
set_option linter.all false
set_option maxRecDepth 100000
set_option maxHeartbeats 4000000
namespace K13
open PySem PySem.Spec PyProof.Rows L2 ZX PM ZR
def spAllNames (K : PySem.W.Frag) : Sp := fun vs H Q _ => ∃ (a : Addr) (us : List V) (rs : List Rw), vs = [.ref a] ∧ (SqL K H a us ∨ SqT K H a us) ∧ Tvs K H us (rs.map dR) ∧ (∀ r ∈ rs, (namesR r).length ≤ 4) ∧ rs.length ≤ 1000 ∧
  ∀ t ys H', Same H H' → H t = none → IsLot ys (rs.flatMap namesR) → H' t = some (.tup (ys.map V.str)) → Q (.ref t) H'
theorem fm_bound {α β : Type} {f : α → List β} {n : Nat} : ∀ (l : List α), (∀ x ∈ l, (f x).length ≤ n) → (l.flatMap f).length ≤ n * l.length
  | [], _ => Nat.zero_le _
  | x :: l, h => by
    have h1 := h x List.mem_cons_self
    have h2 := fm_bound l fun y hy => h y (List.mem_cons_of_mem _ hy)
    rw [List.flatMap_cons, List.length_append, List.length_cons, Nat.mul_succ]
    omega
section
variable {P : Program} {w : World} {K : PySem.W.Frag} {mg : Str → Option Value} {base : Heap}
theorem scAll_names : FnScope ["rows", "row", "name"] ["rows"] (defScope sAll_names) := ⟨rfl, rfl, rfl, by decide +kernel, rfl, by decide +kernel, by decide +kernel⟩
theorem ok_all_names {f : Addr} {fd : FuncData} (F : FnP K "all_names" sAll_names f fd) (T : Bi mg) (C_names_of : Cal P w K mg base "names_of" 2 ["row"] (spNamesOf K)) : FnOk P w K mg base CX0 3 f fd ["rows"] (spAllNames K) := by
  refine F.ok scAll_names (fun vs H Q E h => ?_) (fun cdv A outer s H vs Q E hr h => ?_)
  · obtain ⟨v, us, rs, rfl, _⟩ := h
    rfl
  · obtain ⟨a, us, rs, rfl, hS, hu, h4, hn, k⟩ := h
    have hlen := fm_bound rs h4
    have hz : rs.length = us.length := by rw [hu.len, List.length_map]
    have fin : ∀ D H', Same H H' → H D = none → H' D = some (SetTO w D (insAll (rs.flatMap namesR))) → (rSortTx w) [.ref D] H' fun v H2 => ∃ p ys, [v] = [V.ref p] ∧ ((SqL K H2 p ys ∧ ∀ l, H2 l = none → Q (.ref l) (upd H2 l (.tup ys))) ∨ (SqT K H2 p ys ∧ Q (.ref p) H2)) := fun D H' sm nD hD =>
      ⟨D, _, rfl, hD, by have := (insAll_ok (rs.flatMap namesR)).2.2; omega, fun ys p pm so np => ⟨p, _, rfl, .inl ⟨SqL.of upd_same, fun l nl => k l ys _ ((sm.trans (same_new np)).trans (same_new nl)) ((sm.trans (same_new np)).free nl) (lot_of pm so) upd_same⟩⟩⟩
    have step : ∀ (kk : Nat) x c, us[kk]? = some x → rs[kk]? = some c → ∀ H', Same H H' → Pt H H' → ∀ R : It → Hp → Prop, (∀ a H4, Same H' H4 → H4 a = some (.lst ((namesR c).map V.str)) → R (Itl K a) H4) → spNamesOf K [x] H' (fun v H1 => ∃ a, v = .ref a ∧ (∃ xs, SqL K H1 a xs) ∧ R (Itl K a) H1) E0 := fun kk x c hx hc H' sm pt R hR => by
      obtain ⟨v, hv, tv⟩ := Tvs.get (i := kk) (d := dR c) hu (by rw [List.getElem?_map, hc]; rfl)
      rw [hx] at hv
      cases hv
      exact ⟨x, c, rfl, tv.pt pt, h4 c (List.mem_of_getElem? hc), fun l H4 s4 _ hl => ⟨l, rfl, ⟨_, SqL.of hl⟩, hR l H4 s4 hl⟩⟩
    rcases hS with hS | hS
    · refine ⟨_, PSs.nox (pss_one (ps_ret (pe_callTy call_tuple_of (by rfl) T.b_tuple (by decide +kernel) (pa_cons (pe_callB (call_sortTx rfl) (by rfl) T.b_sorted (by decide +kernel) (pa_cons (pe_sc2S (own := [("row", 1), ("name", 2)]) (vs1 := [2]) (g := gName 1) (g1 := gName 2) (wi1 := iList K (tCall (spNamesOf K) [] E0 (tCons (tVar 1) tNil))) (by rfl) scAll_names.nd (pi_list (pv 0)) (blkOk_by (N := ["rows", "row", "name"]) (sc := defScope sAll_names) (by decide +kernel)) (by decide) (fun _ _ _ _ _ => (pg_name (i := 1) scAll_names.nd rfl (Or.inl rfl))) (fun _ _ _ _ _ => (pi_list (pcal C_names_of hr rfl (pa_cons (pv 1) pa_nil)))) (fun _ _ _ _ _ => (pg_name (i := 2) scAll_names.nd rfl (Or.inl rfl))) (fun _ _ _ _ _ => (pv 2))) pa_nil)) pa_nil)))), ?_⟩
      refine sc2_into ?_
      refine ⟨_, rfl, a, rfl, ⟨us, hS⟩, ?_⟩
      refine sc2_over (K := K) (as := rs) (fs := namesR) it_list hz (by show _ < 4096; omega) (fun H' sm pt => ?_) (fun _ => rfl) (fun _ _ => rfl) ?_ (fun x z H R h => ⟨_, rfl, h⟩) ?_
      · exact hS.imp (fun h => h.elim (fun h => .inl (sm _ _ h)) fun ⟨o, h⟩ => .inr ⟨o, sm _ _ h⟩) id
      · intro kk x c hx hc H' sm pt R hR
        exact ⟨_, rfl, step kk x c hx hc H' sm pt R hR⟩
      · intro D H' sm pt nD hD
        exact fin D H' sm nD hD
    · refine ⟨_, PSs.nox (pss_one (ps_ret (pe_callTy call_tuple_of (by rfl) T.b_tuple (by decide +kernel) (pa_cons (pe_callB (call_sortTx rfl) (by rfl) T.b_sorted (by decide +kernel) (pa_cons (pe_sc2S (own := [("row", 1), ("name", 2)]) (vs1 := [2]) (g := gName 1) (g1 := gName 2) (wi1 := iList K (tCall (spNamesOf K) [] E0 (tCons (tVar 1) tNil))) (by rfl) scAll_names.nd (pi_tup (pv 0)) (blkOk_by (N := ["rows", "row", "name"]) (sc := defScope sAll_names) (by decide +kernel)) (by decide) (fun _ _ _ _ _ => (pg_name (i := 1) scAll_names.nd rfl (Or.inl rfl))) (fun _ _ _ _ _ => (pi_list (pcal C_names_of hr rfl (pa_cons (pv 1) pa_nil)))) (fun _ _ _ _ _ => (pg_name (i := 2) scAll_names.nd rfl (Or.inl rfl))) (fun _ _ _ _ _ => (pv 2))) pa_nil)) pa_nil)))), ?_⟩
      refine sc2_into ?_
      refine ⟨_, rfl, a, rfl, ⟨us, hS⟩, ?_⟩
      refine sc2_over (K := K) (as := rs) (fs := namesR) it_tup hz (by show _ < 4096; omega) (fun H' sm pt => pt.sq hS) (fun _ => rfl) (fun _ _ => rfl) ?_ (fun x z H R h => ⟨_, rfl, h⟩) ?_
      · intro kk x c hx hc H' sm pt R hR
        exact ⟨_, rfl, step kk x c hx hc H' sm pt R hR⟩
      · intro D H' sm pt nD hD
        exact fin D H' sm nD hD
end
end K13
set_option Elab.async false
set_option linter.all false
set_option maxRecDepth 100000
set_option maxHeartbeats 4000000
/-! Rules of my own: a tuple that is known to its object; its method index. -/
namespace ZR
open PySem PySem.Spec PyProof.Rows L2
/-- a tuple of which one knows that it has no dict -/
def Df (H : Hp) (v : V) : Prop := ∃ a o xs, v = .ref a ∧ H a = some (.frz o (.tup xs)) ∧ o.dict = none
theorem Df.same {H H' : Hp} {v : V} (s : Same H H') (d : Df H v) : Df H' v := by
  obtain ⟨a, o, xs, e, h, n⟩ := d
  exact ⟨a, o, xs, e, s _ _ h, n⟩
theorem Df.keep {H H' : Hp} {v : V} (s : ∀ a o xs, H a = some (.frz o (.tup xs)) → H' a = some (.frz o (.tup xs))) (d : Df H v) : Df H' v := by
  obtain ⟨a, o, xs, e, h, n⟩ := d
  exact ⟨a, o, xs, e, s _ _ _ h, n⟩
theorem Df.put {H : Hp} {v : V} {b : Addr} {zs : List V} {u : HO} (hb : H b = some (.lst zs)) (d : Df H v) : Df (upd H b u) v := by
  obtain ⟨a, o, xs, e, h, n⟩ := d
  refine ⟨a, o, xs, e, ?_, n⟩
  rw [upd_ne (fun z => by rw [z, hb] at h; cases h)]
  exact h
def tTupF (t : TA) : TE := fun σ H Q => t σ H fun xs H1 => xs.length ≤ sizeLine ∧ ∀ p o, o.dict = none → H1 p = none → Q (.ref p) (upd H1 p (.frz o (.tup xs)))
section
variable {X : Cx} {es : List Expr} {pos : Pos} {t : TA}
theorem pe_tupF {x1} (h : PA X es t) : PE X (.Tuple es x1 pos) (tTupF t) := by
  refine ⟨fun pins s σ H Q I hq => ?_⟩
  refine wpAny_Tuple_spliced (thn (h.run pos pins s σ H _ I hq) fun us s1 w => ?_)
  obtain ⟨xs, H1, I1, r, z, q⟩ := w
  refine ⟨by rw [← r.length]; exact z, ?_⟩
  have hf := I1.hok.fresh (Nat.le_refl _)
  have hg := Heap.get?_push_size s1.heap (o := { cls := .type "tuple", data := .seq us.toArray }) rfl
  refine ⟨.ref s1.heap.objs.size, _, I1.laid (t' := s1.toks) (o := .frz { cls := .type "tuple", data := .seq us.toArray } (.tup xs)) (fun b u e => Heap.get?_push_of_some _ e) (Nat.le_refl _) ⟨hg, z, us, r, ⟨_, hg, rfl, _, rfl⟩⟩, rfl, q _ _ rfl hf⟩
/-- what the run knows of tuples -/
def tInj (K : PySem.W.Frag) (te : TE) : TE := fun σ H Q => te σ H fun v H1 => (∀ a xs ys, SqT K H1 a xs → SqT K H1 a ys → xs = ys) → Q v H1
theorem pe_inj {e : Expr} {te : TE} (h : PE X e te) : PE X e (tInj X.K te) := by
  refine ⟨fun pins s σ H Q I hq => ?_⟩
  refine thn (h.run pins s σ H _ I hq) fun u s1 w => ?_
  obtain ⟨v, H1, I1, r, q⟩ := w
  exact ⟨v, H1, I1, r, q fun a xs ys h1 h2 => I1.tuple_inj h1 h2⟩
/-- t.index(e) -/
def tTIdx (K : PySem.W.Frag) (to : TE) (t : TA) : TE := fun σ H Q => to σ H fun v H1 => Df H1 v ∧ t σ H1 fun vs H2 => rTIdx K v vs H2 Q
theorem pe_tidx {o e : Expr} {es : List Expr} {apos cpos : Pos} {to : TE} (ho : PE X o to) (ha : PA X (e :: es) t)
    (hbase : attributeBase o "index" X.env (eval o X.env) = eval o X.env := by rfl)
    (hfew : ((backTo cpos (starEach (e :: es) X.env)).all (fun x => !x.1) && (backToKw cpos (keywordEach [] X.env)).all (fun x => x.1.isSome) && decide ((e :: es).length + ([] : List Keyword).length + (if ([] : List Keyword).isEmpty then 0 else 1) < 30)) = true := by rfl)
    (hline : (apos.endLine == cpos.line) = true := by rfl) (hs : starEach (e :: es) X.env = (false, eval e X.env) :: starEach es X.env := by rfl) (hplain : (backTo cpos (starEach es X.env)).any (·.1) = false := by rfl) :
    PE X (.Call (.Attribute o "index" apos) (e :: es) [] cpos) (tTIdx X.K to t) := by
  refine ⟨fun pins s σ H Q I h => ?_⟩
  refine wpAny_Call_method_late hbase hfew hline rfl (thn (ho.run pins s σ H _ I h) fun v s1 w => ?_)
  obtain ⟨x, H1, I1, r1, d, q1⟩ := w
  obtain ⟨a, ob, xs, ex, hx, dn⟩ := d
  subst ex
  cases r1
  obtain ⟨g1, _, its, rv, ob2, g2, g3, _⟩ := (show ObjOk X.prog X.w H1 s1.heap a (.frz ob (.tup xs)) from I1.hok a _ hx)
  rw [g1] at g2
  cases g2
  refine ⟨"tuple", "tuple.index", PySem.F.plainAttrs_tuple, PySem.F.slot_tuple_index, PySem.F.type_tuple_index, ⟨_, g1, g3⟩, fun b eb => by cases eb; exact ⟨_, g1, dn⟩, ?_⟩
  have hA := ha.run cpos pins s1 σ H1 _ I1 q1
  rw [hs] at hA ⊢
  refine Calls.callWith_builtin (by show (false || (backTo cpos (starEach es X.env)).any (·.1)) = false; rw [hplain] <;> rfl) (Calls.evalArgs_plain ?_)
  exact thn hA fun us s2 w2 => by
    obtain ⟨vs, H2, I2, r2, q2⟩ := w2
    exact mt_tidx pins s2 σ H2 (.ref a) vs (.ref a) us Q I2 rfl r2 q2
end
end ZR
set_option Elab.async false
set_option linter.all false
set_option maxRecDepth 100000
set_option maxHeartbeats 4000000
namespace PM
open PySem PySem.Spec PyProof.Rows L2 ZX ZR
theorem ifI {c : Bool} {x y : V} {A B : Prop} (R : V → Prop) (hA : R x → A) (hB : R y → B) (h : R (if c then x else y)) : if c = true then A else B := by
  cases c with
  | true => exact hA h
  | false => exact hB h
theorem rd_ifE {c : Bool} {x y : V} {ta tb : TE} {σ : L2.St} {H : Hp} {R : VK} (ha : ∀ R : VK, R x H → ta σ H R) (hb : ∀ R : VK, R y H → tb σ H R) (h : R (if c then x else y) H) : if c = true then ta σ H R else tb σ H R := by
  cases c with
  | true => exact ha R h
  | false => exact hb R h
/-- next places as a tuple -/
def encL (l : List Nat) : PyData := .tuple (l.map fun (n : Nat) => PyData.int (n : Int))
mutual
theorem ok_depR : ∀ {d : Nat} {r : Rw}, okR d r → d ≤ 4 → depR r + d ≤ 4
  | d, .either a b, h, hd => by
    obtain ⟨h1, _, _, h2, h3⟩ := h
    have := ok_depB h2 (by omega)
    have := ok_depB h3 (by omega)
    show max (depB a) (depB b) + 1 + d ≤ 4
    omega
  | d, .again a, h, hd => by
    obtain ⟨h1, _, h2⟩ := h
    have := ok_depB h2 (by omega)
    show depB a + 1 + d ≤ 4
    omega
  | d, .note _ _ _, _, hd => by show 0 + d ≤ 4; omega
  | d, .copy _ _, _, hd => by show 0 + d ≤ 4; omega
  | d, .give _ _, _, hd => by show 0 + d ≤ 4; omega
  | d, .ask _, _, hd => by show 0 + d ≤ 4; omega
  | d, .prt _, _, hd => by show 0 + d ≤ 4; omega
theorem ok_depB : ∀ {d : Nat} {b : List Rw}, okB d b → d ≤ 4 → depB b + d ≤ 4
  | d, [], _, hd => by show 0 + d ≤ 4; omega
  | d, r :: b, h, hd => by
    have := ok_depR h.1 hd
    have := ok_depB h.2 hd
    show max (depR r) (depB b) + d ≤ 4
    omega
end
mutual
theorem ok_names_R : ∀ {d : Nat} {r : Rw}, okR d r → ∀ x ∈ rowsR r, (namesR x).length ≤ 4
  | d, .either a b, h, x, hx => by
    rcases List.mem_cons.mp hx with rfl | hx
    · exact Nat.zero_le _
    · rcases List.mem_append.mp hx with hx | hx
      · exact ok_names_B h.2.2.2.1 x hx
      · exact ok_names_B h.2.2.2.2 x hx
  | d, .again a, h, x, hx => by
    rcases List.mem_cons.mp hx with rfl | hx
    · exact Nat.zero_le _
    · exact ok_names_B h.2.2 x hx
  | d, .note y o ps, h, x, hx => by
    rw [List.mem_singleton.mp hx]
    show ps.length + 1 ≤ 4
    have := h.2.2.1
    omega
  | d, .copy _ _, h, x, hx => by
    rw [List.mem_singleton.mp hx]
    show 2 ≤ 4
    omega
  | d, .give _ _, h, x, hx => by
    rw [List.mem_singleton.mp hx]
    show 1 ≤ 4
    omega
  | d, .ask _, h, x, hx => by
    rw [List.mem_singleton.mp hx]
    show 1 ≤ 4
    omega
  | d, .prt _, h, x, hx => by
    rw [List.mem_singleton.mp hx]
    show 1 ≤ 4
    omega
theorem ok_names_B : ∀ {d : Nat} {b : List Rw}, okB d b → ∀ x ∈ rowsB b, (namesR x).length ≤ 4
  | d, [], _, x, hx => nomatch hx
  | d, r :: b, h, x, hx => by
    rcases List.mem_append.mp hx with hx | hx
    · exact ok_names_R h.1 x hx
    · exact ok_names_B h.2 x hx
end
/-- a program's block -/
structure Good (b : List Rw) : Prop where
  ok : okB 1 b
  l12 : b.length ≤ 12
  l30 : (rowsB b).length ≤ 30
  n8 : ∀ ys, IsLot ys ((rowsB b).flatMap namesR) → ys.length ≤ 8
end PM
namespace K13
open PySem PySem.Spec PyProof.Rows L2 ZX PM ZR
def spBad (K : PySem.W.Frag) : Sp := fun vs H Q _ => ∃ (v : V) (b : List Rw) (mn : Int), vs = [v, .int mn] ∧ BV K H v b ∧ Good b ∧ ∀ H', Same H H' → Q .non H'
def spRowLeads (K : PySem.W.Frag) (n : Nat) : Sp := fun vs H Q _ => ∃ (v : V) (r : Rw) (p e : Nat), vs = [v, .int p, .int e] ∧ RV K H v r ∧ depR r < n ∧ depR r ≤ 3 ∧ (rowsR r).length ≤ 1000 ∧
  ∀ l us H', Same H H' → H l = none → H' l = some (.lst us) → Tvs K H' us ((leadsR r p e).map encL) → (∀ u ∈ us, Df H' u) → Q (.ref l) H'
def spBlockLeads (K : PySem.W.Frag) (n : Nat) : Sp := fun vs H Q _ => ∃ (v : V) (b : List Rw) (p e : Nat), vs = [v, .int p, .int e] ∧ BV K H v b ∧ depB b < n ∧ depB b ≤ 3 ∧ (rowsB b).length ≤ 1000 ∧
  ∀ l us H', Same H H' → H l = none → H' l = some (.lst us) → Tvs K H' us ((leadsB b p e).map encL) → (∀ u ∈ us, Df H' u) → Q (.ref l) H'
section
variable {P : Program} {w : World} {K : PySem.W.Frag} {mg : Str → Option Value} {base : Heap}
theorem scBad_place : FnScope ["block", "many", "place", "rows"] ["block", "many"] (defScope sBad_place) := ⟨rfl, rfl, rfl, by decide +kernel, rfl, by decide +kernel, by decide +kernel⟩
theorem ok_bad_place {f : Addr} {fd : FuncData} (F : FnP K "bad_place" sBad_place f fd) (T : Bi mg) (C_formless_place : Cal P w K mg base "formless_place" 4 ["block", "many"] (spFormless K)) (C_rows_of : Cal P w K mg base "rows_of" 5 ["block"] (spRowsOf K 4)) (C_all_names : Cal P w K mg base "all_names" 3 ["rows"] (spAllNames K)) : FnOk P w K mg base CX0 6 f fd ["block", "many"] (spBad K) := by
  refine F.ok scBad_place (fun vs H Q E h => ?_) (fun cdv A outer s H vs Q E hr h => ?_)
  · obtain ⟨v, r, mn, rfl, _⟩ := h
    rfl
  · obtain ⟨v, b, mn, rfl, tv, G, k⟩ := h
    obtain ⟨a, xs, rfl, hS, ht⟩ := tv.tupI
    have hr_formless_place := hr.mono (show 4 ≤ 5 by decide)
    have hr_all_names := hr.mono (show 3 ≤ 5 by decide)
    have hr_rows_of := hr
    obtain ⟨t12, m_MOST_ROWS_IN_BLOCK⟩ := T.m_MOST_ROWS_IN_BLOCK
    obtain ⟨t30, m_MOST_ROWS⟩ := T.m_MOST_ROWS
    obtain ⟨t8, m_MOST_NAMES⟩ := T.m_MOST_NAMES
    refine ⟨_, PSs.nox (pss_cons (ps_if (pt_not (pt_val (pe_callB call_isi (by rfl) T.b_isinstance (by decide +kernel) (pa_cons (pv 0) (pa_cons (pe_bltn (v := .ty "tuple") (by rfl) T.b_tuple (by decide +kernel) rfl) pa_nil))))) (pss_one (ps_ret (pe_un un_neg pe_int))) pss_nil)
    (pss_cons (ps_set (i := 2) scBad_place.nd rfl (Or.inl rfl) (pcal C_formless_place hr_formless_place rfl (pa_cons (pv 0) (pa_cons (pv 1) pa_nil))))
    (pss_cons (ps_if (pt_cmpR op_notN (pv 2) pe_non (nomark _)) (pss_one (ps_ret (pv 2))) pss_nil)
    (pss_cons (ps_set (i := 3) scBad_place.nd rfl (Or.inl rfl) (pcal C_rows_of hr_rows_of rfl (pa_cons (pv 0) pa_nil)))
    (pss_cons (ps_if (PW.pt (pw_or (pt_cmpR op_gt (pe_callB call_len_seq (by rfl) T.b_len (by decide +kernel) (pa_cons (pv 0) pa_nil)) (pe_glob (v := .int _) rfl m_MOST_ROWS_IN_BLOCK ⟨_, rfl⟩) (nomark _)) (pw_or (pt_cmpR op_gt (pe_callB call_len_seq (by rfl) T.b_len (by decide +kernel) (pa_cons (pv 3) pa_nil)) (pe_glob (v := .int _) rfl m_MOST_ROWS ⟨_, rfl⟩) (nomark _)) (pw_or1 (pt_cmpR op_gt (pe_callB call_len_seq (by rfl) T.b_len (by decide +kernel) (pa_cons (pcal C_all_names hr_all_names rfl (pa_cons (pv 3) pa_nil)) pa_nil)) (pe_glob (v := .int _) rfl m_MOST_NAMES ⟨_, rfl⟩) (nomark _)))))) (pss_one (ps_ret (pe_un un_neg pe_int))) pss_nil)
    (pss_one (ps_ret pe_non))))))), ?_⟩
    have l30 := G.l30
    have hdep := ok_depB G.ok (by decide)
    have hxl : xs.length = b.length := by rw [ht.len, dB_eq, List.length_map]
    refine ⟨_, rfl, _, _, _, _, true, rfl, .ty "tuple", tyT hS, rfl, true, rfl, ?_⟩
    refine ⟨_, rfl, _, rfl, _, b, mn, rfl, tv, G.ok, by omega, fun H1 s1 => ?_⟩
    refine ⟨_, rfl, rfl, false, rfl, ?_⟩
    refine ⟨_, rfl, _, b, rfl, tv.pt s1.pt, by omega, by omega, fun l us H2 s2 nl hl hu => ?_⟩
    have hul := hu.len
    rw [List.length_map] at hul
    refine ⟨_, rfl, a, _, rfl, .inr ((s1.trans s2).pt.sq hS), _, _, rfl, rfl, _, rfl, ifDF (by have := G.l12; omega) ?_⟩
    refine ⟨_, rfl, l, _, rfl, .inl (SqL.of hl), _, _, rfl, rfl, _, rfl, ifDF (by omega) ?_⟩
    refine ⟨_, rfl, l, us, rowsB b, rfl, .inl (SqL.of hl), hu, ok_names_B G.ok, by omega, fun t ys H3 s3 nt ly ht3 => ?_⟩
    have := G.n8 ys ly
    refine ⟨t, _, rfl, .inr (.inl (.inl ht3)), _, _, rfl, rfl, _, rfl, ?_⟩
    rw [decide_eq_false (by rw [List.length_map]; omega)]
    exact k H3 ((s1.trans s2).trans s3)
end
end K13
set_option Elab.async false
set_option linter.all false
set_option maxRecDepth 100000
set_option maxHeartbeats 4000000
namespace K13
open PySem PySem.Spec PyProof.Rows L2 ZX PM ZR
section
variable {P : Program} {w : World} {K : PySem.W.Frag} {mg : Str → Option Value} {base : Heap}
theorem scBlock_leads : FnScope ["block", "place", "behind", "found", "k", "row", "end"] ["block", "place", "behind"] (defScope sBlock_leads) := ⟨rfl, rfl, rfl, by decide +kernel, rfl, by decide +kernel, by decide +kernel⟩
theorem ok_block_leads1 {n m : Nat} {f : Addr} {fd : FuncData} (F : FnP K "block_leads" sBlock_leads f fd) (T : Bi mg) (hm : 5 ≤ m) (C_rows_of : Cal P w K mg base "rows_of" 5 ["block"] (spRowsOf K 4)) (C_row_leads : Cal P w K mg base "row_leads" m ["row", "place", "behind"] (spRowLeads K n)) : FnOk P w K mg base CX0 (m + 1) f fd ["block", "place", "behind"] (spBlockLeads K n) := by
  refine F.ok scBlock_leads (fun vs H Q E h => ?_) (fun cdv A outer s H vs Q E hr h => ?_)
  · obtain ⟨v, b, p, e, rfl, _⟩ := h
    rfl
  · obtain ⟨v, b, p, e, rfl, tv, hd, hd3, hn, k⟩ := h
    obtain ⟨a, xs, rfl, hS, ht⟩ := tv.tupI
    have hxl : xs.length = b.length := by rw [ht.len, dB_eq, List.length_map]
    have hr_rows_of := hr.mono hm
    have hr_row_leads := hr
    refine ⟨_, PSs.nox (pss_cons (ps_set (i := 3) scBlock_leads.nd rfl (Or.inl rfl) (pe_lst pa_nil))
    (pss_cons (ps_for PassesOwn.never rfl (pi_enumT rfl T.b_enumerate (pa_cons (pv 0) pa_nil)) (pg_tup rfl (pgs_cons (pg_name (i := 4) scBlock_leads.nd rfl (Or.inl rfl)) (pgs_cons (pg_name (i := 5) scBlock_leads.nd rfl (Or.inl rfl)) pgs_nil))) (pss_cons (ps_set (i := 6) scBlock_leads.nd rfl (Or.inl rfl) (pe_op op_add (pv 1) (pe_callB call_len_seq (by rfl) T.b_len (by decide +kernel) (pa_cons (pcal C_rows_of hr_rows_of rfl (pa_cons (pe_tup (pa_cons (pv 5) pa_nil)) pa_nil)) pa_nil))))
      (pss_cons (ps_expr (pe_bm PySem.F.plainAttrs_list PySem.F.slot_list_extend PySem.F.type_list_extend mt_extend (pv 3) (pa_cons (pcal C_row_leads hr_row_leads rfl (pa_cons (pv 5) (pa_cons (pv 1) (pa_cons (pe_ifExp (pt_cmpR op_lt (pe_op op_add (pv 4) pe_int) (pe_callB call_len_seq (by rfl) T.b_len (by decide +kernel) (pa_cons (pv 0) pa_nil)) (nomark _)) (pv 6) (pv 2)) pa_nil)))) pa_nil)))
      (pss_one (ps_set (i := 1) scBlock_leads.nd rfl (Or.inl rfl) (pv 6))))))
    (pss_one (ps_ret (pv 3))))), ?_⟩
    refine ⟨by decide, fun l nl => ?_⟩
    refine ⟨_, rfl, a, xs, rfl, (Pt.new nl).sq hS, ?_⟩
    refine for_it (walk_enumT (xs := xs)) (fun i σ' H' => ∃ us don pl y4 y5 y6, σ' = [some (.ref a), some (.int (pl : Nat)), some (.int e), some (.ref l), y4, y5, y6] ∧ Same H H' ∧ H' l = some (.lst us) ∧ Tvs K H' us (List.map encL don) ∧ (∀ u ∈ us, Df H' u) ∧ don ++ leadsB (b.drop i) pl e = leadsB b p e)
      ⟨[], [], p, _, _, _, rfl, same_new nl, upd_same, .nil, fun _ h => (nomatch h), rfl⟩ ?_ ?_ ?_
    · rintro i σ' H' _ ⟨_, _, _, _, _, _, _, sm, _⟩
      exact sm.pt.sq hS
    · rintro i x σ' H' H2 hi ⟨us, don, pl, y4, y5, y6, rfl, sm, hl, hu, hdf, he⟩ ⟨t, x1, x2, rfl, nt, rfl, e1, e2⟩
      cases e1
      have s2 := same_new (o := .tup [.int (i : Nat), x2]) nt
      obtain ⟨r, hr, tr⟩ := (ht.pt (sm.trans s2).pt).nthR e2
      have hil : i < b.length := by omega
      have hdr : b.drop i = r :: b.drop (i + 1) := by
        rw [List.drop_eq_getElem_cons hil]
        rw [List.getElem?_eq_getElem hil] at hr
        cases hr
        rfl
      have hrm : r ∈ b := List.mem_of_getElem? hr
      have hdR := depB_mem hrm
      have hrl : (rowsR r).length ≤ (rowsB b).length := by
        have := fm_le1 (f := rowsR) hr
        rw [List.length_append, ← rowsB_eq b] at this
        omega
      rw [hdr, leadsB] at he
      have hlen := congrArg List.length he
      rw [leadsB_len, List.length_append, List.length_append, leadsR_len] at hlen
      have hul := hu.len
      rw [List.length_map] at hul
      refine ⟨t, _, rfl, .inl (.inl upd_same), rfl, _, _, rfl, _, _, rfl, rfl, ?_⟩
      have hdep1 : depB [r] < 4 := by
        show max (depR r) 0 < 4
        omega
      have hrow1 : rowsB [r] = rowsR r := List.append_nil _
      refine ⟨_, rfl, _, rfl, by show 1 ≤ sizeLine; decide, fun t3 nt3 => ⟨_, [r], rfl, .tup (.inl (.inl upd_same)) (.cons (tr.pt (Pt.new nt3)) .nil), hdep1, by rw [hrow1]; omega, fun l4 zs H4 s4 n4 h4 t4 => ?_⟩⟩
      have s24 : Same H' H4 := (s2.trans (same_new nt3)).trans s4
      have hzl := t4.len
      rw [List.length_map, hrow1] at hzl
      refine ⟨l4, _, rfl, .inl (SqL.of h4), _, _, rfl, rfl, ?_⟩
      refine ⟨_, rfl, .inl ⟨rfl, _, SqL.of (s24 _ _ hl)⟩, _, rfl, _, rfl, _, rfl, _, _, rfl, rfl, _, rfl, a, _, rfl, .inr ((sm.trans s24).pt.sq hS), _, _, rfl, rfl, _, rfl, ?_⟩
      refine rd_ifE (fun R h => ⟨_, rfl, h⟩) (fun R h => ⟨_, rfl, h⟩) ?_
      have hv : (if decide (((i : Nat) : Int) + 1 < (xs.length : Int)) then V.int ((pl : Int) + (zs.length : Int)) else V.int (e : Int)) = V.int ((if (b.drop (i + 1)).isEmpty then e else pl + (rowsR r).length : Nat) : Int) := by
        rw [hzl]
        by_cases hlt : i + 1 < b.length
        · rw [decide_eq_true (by omega), if_pos rfl]
          have : (b.drop (i + 1)).isEmpty = false := by
            cases hb : b.drop (i + 1) with
            | nil =>
              have := congrArg List.length hb
              rw [List.length_drop] at this
              simp at this
              omega
            | cons _ _ => rfl
          rw [this]
          simp
        · rw [decide_eq_false (by omega), List.drop_eq_nil_of_le (by omega)]
          rfl
      refine ⟨x2, r, pl, _, by rw [← hv]; rfl, (tr.pt (Pt.new nt3)).pt s4.pt, by omega, by omega, by omega, fun l5 ws H5 s5 n5 h5 t5 df5 => ?_⟩
      have hwl := t5.len
      rw [List.length_map, leadsR_len] at hwl
      refine ⟨l, l5, us, ws, rfl, rfl, s5 _ _ (s24 _ _ hl), h5, Nat.le_trans (by omega : us.length + ws.length ≤ 1000) (by decide), ?_⟩
      have pt := Pt.lst (o := .lst (us ++ ws)) (s5 _ _ (s24 _ _ hl))
      refine ⟨_, rfl, us ++ ws, don ++ leadsR r pl (if (b.drop (i + 1)).isEmpty then e else pl + (rowsR r).length), pl + (rowsR r).length, some (.int (i : Nat)), some x2, some (.int ((pl : Int) + (zs.length : Int))), ?_, ((sm.trans s24).trans s5).put nl, upd_same, ?_, ?_, ?_⟩
      · show [_, some (V.int ((pl : Int) + (zs.length : Int))), _, _, _, _, _] = _
        rw [hzl]
        rfl
      · rw [List.map_append]
        exact Tvs.app ((hu.pt (s24.trans s5).pt).pt pt) (t5.pt pt)
      · intro u hu2
        rcases List.mem_append.mp hu2 with h | h
        · exact ((hdf u h).same (s24.trans s5)).put (s5 _ _ (s24 _ _ hl))
        · exact (df5 u h).put (s5 _ _ (s24 _ _ hl))
      · rw [List.append_assoc]
        exact he
    · rintro σ' H' ⟨us, don, pl, y4, y5, y6, rfl, sm, hl, hu, hdf, he⟩
      rw [hxl, List.drop_length, leadsB, List.append_nil] at he
      subst he
      exact ⟨_, rfl, k l us H' sm nl hl hu hdf⟩
theorem scRow_leads : FnScope ["row", "place", "behind", "first", "second", "begins"] ["row", "place", "behind"] (defScope sRow_leads) := ⟨rfl, rfl, rfl, by decide +kernel, rfl, by decide +kernel, by decide +kernel⟩
theorem isE_of {x1 : List V} {H : Hp} {b1 : List Rw} (h : Tvs K H x1 (dB b1)) : (!x1.isEmpty) = !b1.isEmpty := by
  cases b1 with
  | nil => cases h; rfl
  | cons r b => cases h; rfl
theorem pick_eq {c : Bool} {x y : Nat} : (if !c then V.int (x : Int) else V.int (y : Int)) = V.int ((if c then y else x : Nat) : Int) := by
  cases c <;> rfl
theorem ok_row_leads0 {f : Addr} {fd : FuncData} (k : Nat) : FnOk P w K mg base CX0 k f fd ["row", "place", "behind"] (spRowLeads K 0) :=
  ⟨fun vs H Q E h => by
    obtain ⟨_, _, _, _, _, _, h, _⟩ := h
    exact absurd h (Nat.not_lt_zero _), fun A outer s H args us vs Q E hr e0 hb r h => by
    obtain ⟨_, _, _, _, _, _, h, _⟩ := h
    exact absurd h (Nat.not_lt_zero _)⟩
theorem ok_row_leads1 {n m : Nat} {f : Addr} {fd : FuncData} (F : FnP K "row_leads" sRow_leads f fd) (T : Bi mg) (hm : 5 ≤ m) (C_rows_of : Cal P w K mg base "rows_of" 5 ["block"] (spRowsOf K 4)) (C_block_leads : Cal P w K mg base "block_leads" m ["block", "place", "behind"] (spBlockLeads K n)) : FnOk P w K mg base CX0 (m + 1) f fd ["row", "place", "behind"] (spRowLeads K (n + 1)) := by
  refine F.ok scRow_leads (fun vs H Q E h => ?_) (fun cdv A outer s H vs Q E hr h => ?_)
  · obtain ⟨v, r, p, e, rfl, _⟩ := h
    rfl
  · obtain ⟨v, r, p, e, rfl, tv, hd, hd3, hn, k⟩ := h
    obtain ⟨a, tl, rfl, hS, ht⟩ := tv.rowI
    have hr_rows_of := hr.mono hm
    have hr_block_leads := hr
    refine ⟨_, PSs.nox (pss_cons (ps_if (pt_cmpR op_eq (pe_ix ix_tup (pv 0) pe_int (fun _ _ => rfl)) pe_str (nomark _)) (pss_cons (ps_set (i := 3) scRow_leads.nd rfl (Or.inl rfl) (pe_op op_add (pv 1) pe_int))
      (pss_cons (ps_set (i := 4) scRow_leads.nd rfl (Or.inl rfl) (pe_op op_add (pv 3) (pe_callB call_len_seq (by rfl) T.b_len (by decide +kernel) (pa_cons (pcal C_rows_of hr_rows_of rfl (pa_cons (pe_ix ix_tup (pv 0) pe_int (fun _ _ => rfl)) pa_nil)) pa_nil))))
      (pss_cons (ps_set (i := 5) scRow_leads.nd rfl (Or.inl rfl) (pe_tupF (pa_cons (pe_ifExp (pt_truth (pe_ix ix_tup (pv 0) pe_int (fun _ _ => rfl)) (by intro _; rfl)) (pv 3) (pv 2)) (pa_cons (pe_ifExp (pt_truth (pe_ix ix_tup (pv 0) pe_int (fun _ _ => rfl)) (by intro _; rfl)) (pv 4) (pv 2)) pa_nil))))
      (pss_one (ps_ret (pe_op op_cat (pe_op op_cat (pe_lst (pa_cons (pv 5) pa_nil)) (pcal C_block_leads hr_block_leads rfl (pa_cons (pe_ix ix_tup (pv 0) pe_int (fun _ _ => rfl)) (pa_cons (pv 3) (pa_cons (pv 2) pa_nil))))) (pcal C_block_leads hr_block_leads rfl (pa_cons (pe_ix ix_tup (pv 0) pe_int (fun _ _ => rfl)) (pa_cons (pv 4) (pa_cons (pv 2) pa_nil)))))))))) pss_nil)
    (pss_cons (ps_if (pt_cmpR op_eq (pe_ix ix_tup (pv 0) pe_int (fun _ _ => rfl)) pe_str (nomark _)) (pss_cons (ps_set (i := 5) scRow_leads.nd rfl (Or.inl rfl) (pe_tupF (pa_cons (pe_ifExp (pt_truth (pe_ix ix_tup (pv 0) pe_int (fun _ _ => rfl)) (by intro _; rfl)) (pe_op op_add (pv 1) pe_int) (pv 1)) (pa_cons (pv 2) pa_nil))))
      (pss_one (ps_ret (pe_op op_cat (pe_lst (pa_cons (pv 5) pa_nil)) (pcal C_block_leads hr_block_leads rfl (pa_cons (pe_ix ix_tup (pv 0) pe_int (fun _ _ => rfl)) (pa_cons (pe_op op_add (pv 1) pe_int) (pa_cons (pv 1) pa_nil)))))))) pss_nil)
    (pss_one (ps_ret (pe_lst (pa_cons (pe_tupF (pa_cons (pv 2) pa_nil)) pa_nil)))))), ?_⟩
    have one : leadsR r p e = [[e]] → tRet (tLst (tCons (tTupF (tCons (tVar 2) tNil)) tNil)) { nx := fun _ H' => Q .non H', rt := Q } (L2.start ["row", "place", "behind", "first", "second", "begins"] [.ref a, .int p, .int e]) H := fun he => by
      refine ⟨_, rfl, by show 1 ≤ sizeLine; decide, fun t o no nt => ⟨by show 1 ≤ sizeLine; decide, fun l nl => k l [.ref t] _ ((same_new nt).trans (same_new nl)) ((same_new nt).free nl) upd_same ?_ ?_⟩⟩
      · rw [he]
        exact .cons (.tup (.inl (.inr ⟨o, by rw [upd_ne (ne_of_none upd_same nl)]; exact upd_same⟩)) (.cons (.int _) .nil)) .nil
      · intro u hu
        rw [List.mem_singleton.mp hu]
        exact ⟨t, o, _, rfl, by rw [upd_ne (ne_of_none upd_same nl)]; exact upd_same, no⟩
    refine ⟨_, rfl, _, _, _, _, rfl, rfl, hS, at0, rfl, _, rfl, ?_⟩
    cases r with
    | note x o ps => exact ifDF (neS (a := "note") (b := "either") (by decide +kernel)) ⟨_, rfl, _, _, _, _, rfl, rfl, hS, at0, rfl, _, rfl, ifDF (neS (a := "note") (b := "again") (by decide +kernel)) (one rfl)⟩
    | copy x y => exact ifDF (neS (a := "copy") (b := "either") (by decide +kernel)) ⟨_, rfl, _, _, _, _, rfl, rfl, hS, at0, rfl, _, rfl, ifDF (neS (a := "copy") (b := "again") (by decide +kernel)) (one rfl)⟩
    | give x i => exact ifDF (neS (a := "give") (b := "either") (by decide +kernel)) ⟨_, rfl, _, _, _, _, rfl, rfl, hS, at0, rfl, _, rfl, ifDF (neS (a := "give") (b := "again") (by decide +kernel)) (one rfl)⟩
    | ask x => exact ifDF (neS (a := "ask") (b := "either") (by decide +kernel)) ⟨_, rfl, _, _, _, _, rfl, rfl, hS, at0, rfl, _, rfl, ifDF (neS (a := "ask") (b := "again") (by decide +kernel)) (one rfl)⟩
    | prt x => exact ifDF (neS (a := "print") (b := "either") (by decide +kernel)) ⟨_, rfl, _, _, _, _, rfl, rfl, hS, at0, rfl, _, rfl, ifDF (neS (a := "print") (b := "again") (by decide +kernel)) (one rfl)⟩
    | either b1 b2 =>
      obtain ⟨v1, v2, rfl, t1, t2⟩ := ht.two
      obtain ⟨a1, x1, rfl, hS1, ht1⟩ := t1.tupI
      obtain ⟨a2, x2, rfl, hS2, ht2⟩ := t2.tupI
      have hdd : depB b1 < n ∧ depB b2 < n ∧ depB b1 ≤ 2 ∧ depB b2 ≤ 2 := by
        have hd : max (depB b1) (depB b2) + 1 < n + 1 := hd
        have hd3 : max (depB b1) (depB b2) + 1 ≤ 3 := hd3
        omega
      have hnn : (rowsB b1).length + (rowsB b2).length + 1 ≤ 1000 := by
        have hn : ((rowsB b1 ++ rowsB b2).length + 1) ≤ 1000 := hn
        rw [List.length_append] at hn
        omega
      refine ifD rfl ⟨_, rfl, _, _, rfl, rfl, ?_⟩
      refine ⟨_, rfl, _, rfl, _, _, _, _, rfl, rfl, hS, rfl, _, b1, rfl, t1, by omega, by omega, fun l us H1 s1 nl hl hu => ⟨l, _, rfl, .inl (SqL.of hl), _, _, rfl, rfl, ?_⟩⟩
      have hul := hu.len
      rw [List.length_map] at hul
      refine ⟨_, rfl, _, _, _, _, rfl, rfl, s1.pt.sq hS, rfl, _, .inr (.inl ⟨_, s1.pt.sq hS1, rfl⟩), rd_ifE (fun R h => ⟨_, rfl, h⟩) (fun R h => ⟨_, rfl, h⟩) ?_⟩
      refine ⟨_, rfl, _, _, _, _, rfl, rfl, s1.pt.sq hS, rfl, _, .inr (.inl ⟨_, s1.pt.sq hS2, rfl⟩), rd_ifE (fun R h => ⟨_, rfl, h⟩) (fun R h => ⟨_, rfl, h⟩) ?_⟩
      refine ⟨by show 2 ≤ sizeLine; decide, fun t ot not_ nt => ?_⟩
      have e1 : (if (!x1.isEmpty) then V.int ((p : Int) + 1) else V.int (e : Int)) = V.int ((if b1.isEmpty then e else p + 1 : Nat) : Int) := by
        rw [isE_of ht1]
        exact pick_eq
      have e2 : (if (!x2.isEmpty) then V.int ((p : Int) + 1 + (us.length : Int)) else V.int (e : Int)) = V.int ((if b2.isEmpty then e else p + 1 + (rowsB b1).length : Nat) : Int) := by
        rw [isE_of ht2, ← hul]
        exact pick_eq
      have ht1t : ∀ H', Pt (upd H1 t (.frz ot (.tup [if (!x1.isEmpty) then V.int ((p : Int) + 1) else V.int (e : Int), if (!x2.isEmpty) then V.int ((p : Int) + 1 + (us.length : Int)) else V.int (e : Int)]))) H' → Tv K H' (.ref t) (encL [if b1.isEmpty then e else p + 1, if b2.isEmpty then e else p + 1 + (rowsB b1).length]) := fun H' pt => by
        refine .tup (pt.sq (.inl (.inr ⟨ot, upd_same⟩))) ?_
        rw [e1, e2]
        exact .cons (.int _) (.cons (.int _) .nil)
      generalize hT : (HO.frz ot (HO.tup [if (!x1.isEmpty) then V.int ((p : Int) + 1) else V.int (e : Int), if (!x2.isEmpty) then V.int ((p : Int) + 1 + (us.length : Int)) else V.int (e : Int)])) = T1 at ht1t
      have sT : Same H (upd H1 t T1) := s1.trans (same_new nt)
      subst hT
      refine ⟨_, rfl, by show 1 ≤ sizeLine; decide, fun l0 nl0 => ?_⟩
      have s0 := sT.trans (same_new (o := .lst [.ref t]) nl0)
      refine ⟨_, rfl, _, _, _, _, rfl, rfl, s0.pt.sq hS, rfl, _, rfl, _, rfl, _, b1, p + 1, e, rfl, t1.pt s0.pt, by omega, by omega, by omega, fun l1 us1 H2 s2 n2 hl1 hu1 df1 => ?_⟩
      have hl1n := hu1.len
      rw [List.length_map, leadsB_len] at hl1n
      refine ⟨l0, l1, _, us1, rfl, rfl, s2 _ _ upd_same, hl1, Nat.le_trans (show 1 + us1.length ≤ 1000 by omega) (by decide), fun l2 nl2 => ?_⟩
      have s02 := (s0.trans s2).trans (same_new (o := .lst ([.ref t] ++ us1)) nl2)
      refine ⟨_, rfl, _, _, _, _, rfl, rfl, s02.pt.sq hS, rfl, _, rfl, _, rfl, _, b2, p + 1 + (rowsB b1).length, e, by rw [← hul]; rfl, t2.pt s02.pt, by omega, by omega, by omega, fun l3 us3 H3 s3 n3 hl3 hu3 df3 => ?_⟩
      have hl3n := hu3.len
      rw [List.length_map, leadsB_len] at hl3n
      refine ⟨l2, l3, _, us3, rfl, rfl, s3 _ _ upd_same, hl3, Nat.le_trans (m := 1000) (by rw [List.length_append]; show 1 + us1.length + us3.length ≤ 1000; omega) (by decide), fun l4 nl4 => ?_⟩
      have pA := (same_new (o := .lst [.ref t]) nl0).pt
      have pB := (s2.trans (same_new (o := .lst ([.ref t] ++ us1)) nl2)).pt
      have pC := (s3.trans (same_new (o := .lst (([.ref t] ++ us1) ++ us3)) nl4)).pt
      refine k l4 _ _ ((s02.trans s3).trans (same_new nl4)) ((s02.trans s3).free nl4) upd_same ?_ ?_
      rotate_left
      · intro u hu
        rcases List.mem_append.mp hu with h | h
        · rcases List.mem_append.mp h with h | h
          · rw [List.mem_singleton.mp h]
            exact Df.same (s3.trans (same_new nl4)) (Df.same ((same_new nl0).trans (s2.trans (same_new nl2))) ⟨t, ot, _, rfl, upd_same, not_⟩)
          · exact (df1 u h).same ((same_new nl2).trans (s3.trans (same_new nl4)))
        · exact (df3 u h).same (same_new nl4)
      rw [leadsR, List.map_cons, List.map_append]
      exact .cons (ht1t _ ((pA.trans pB).trans pC)) (Tvs.app (hu1.pt ((same_new (o := .lst ([.ref t] ++ us1)) nl2).pt.trans pC)) (hu3.pt (same_new nl4).pt))
    | again b1 =>
      obtain ⟨v1, rfl, t1⟩ := ht.one
      obtain ⟨a1, x1, rfl, hS1, ht1⟩ := t1.tupI
      have hdd : depB b1 < n ∧ depB b1 ≤ 2 := by
        have hd : depB b1 + 1 < n + 1 := hd
        have hd3 : depB b1 + 1 ≤ 3 := hd3
        omega
      have hnn : (rowsB b1).length + 1 ≤ 1000 := hn
      refine ifDF (neS (a := "again") (b := "either") (by decide +kernel)) ⟨_, rfl, _, _, _, _, rfl, rfl, hS, at0, rfl, _, rfl, ifD rfl ?_⟩
      refine ⟨_, rfl, _, _, _, _, rfl, rfl, hS, rfl, _, .inr (.inl ⟨_, hS1, rfl⟩), rd_ifE (fun R h => ⟨_, rfl, _, _, rfl, rfl, h⟩) (fun R h => ⟨_, rfl, h⟩) ?_⟩
      refine ⟨_, rfl, by show 2 ≤ sizeLine; decide, fun t ot not_ nt => ?_⟩
      have e1 : (if (!x1.isEmpty) then V.int ((p : Int) + 1) else V.int (p : Int)) = V.int ((if b1.isEmpty then p else p + 1 : Nat) : Int) := by
        rw [isE_of ht1]
        exact pick_eq
      have ht1t : ∀ H', Pt (upd H t (.frz ot (.tup [if (!x1.isEmpty) then V.int ((p : Int) + 1) else V.int (p : Int), V.int (e : Int)]))) H' → Tv K H' (.ref t) (encL [if b1.isEmpty then p else p + 1, e]) := fun H' pt => by
        refine .tup (pt.sq (.inl (.inr ⟨ot, upd_same⟩))) ?_
        rw [e1]
        exact .cons (.int _) (.cons (.int _) .nil)
      have sT := same_new (o := .frz ot (.tup [if (!x1.isEmpty) then V.int ((p : Int) + 1) else V.int (p : Int), V.int (e : Int)])) nt
      refine ⟨_, rfl, by show 1 ≤ sizeLine; decide, fun l0 nl0 => ?_⟩
      have s0 := sT.trans (same_new (o := .lst [.ref t]) nl0)
      refine ⟨_, rfl, _, _, _, _, rfl, rfl, s0.pt.sq hS, rfl, _, rfl, _, _, rfl, rfl, _, rfl, _, b1, p + 1, p, rfl, t1.pt s0.pt, by omega, by omega, by omega, fun l1 us1 H2 s2 n2 hl1 hu1 df1 => ?_⟩
      have hl1n := hu1.len
      rw [List.length_map, leadsB_len] at hl1n
      refine ⟨l0, l1, _, us1, rfl, rfl, s2 _ _ upd_same, hl1, Nat.le_trans (show 1 + us1.length ≤ 1000 by omega) (by decide), fun l2 nl2 => ?_⟩
      have pA := ((same_new (o := .lst [.ref t]) nl0).trans (s2.trans (same_new (o := .lst ([.ref t] ++ us1)) nl2))).pt
      refine k l2 _ _ ((s0.trans s2).trans (same_new nl2)) ((s0.trans s2).free nl2) upd_same ?_ ?_
      rotate_left
      · intro u hu
        rcases List.mem_append.mp hu with h | h
        · rw [List.mem_singleton.mp h]
          exact Df.same ((same_new nl0).trans (s2.trans (same_new nl2))) ⟨t, ot, _, rfl, upd_same, not_⟩
        · exact (df1 u h).same (same_new nl2)
      rw [leadsR, List.map_cons]
      exact .cons (ht1t _ pA) (hu1.pt (same_new nl2).pt)
end
end K13
set_option Elab.async false
set_option linter.all false
set_option maxRecDepth 100000
set_option maxHeartbeats 4000000
namespace PM
open PySem PySem.Spec PyProof.Rows L2 ZX ZR
theorem Pt.ins {H : Hp} {a C dx : Addr} {fs : List (Str × V)} {o : HO} (h : H a = some (.ins C dx fs)) : Pt H (upd H a o) := fun b ys hb => by
  have ne : b ≠ a := fun e => by
    subst e
    rcases hb with hb | ⟨o, hb⟩ <;> rw [h] at hb <;> cases hb
  exact hb.elim (fun h => .inl (by rw [upd_ne ne]; exact h)) fun ⟨o, h⟩ => .inr ⟨o, by rw [upd_ne ne]; exact h⟩
theorem _root_.L2.Same.kp {p : Addr} {H H' : Hp} (s : Same H H') : Kp p H H' := fun b u _ e => s b u e
theorem _root_.ZX.Kp.put {p : Addr} {H H' : Hp} {o : HO} (k : Kp p H H') : Kp p H (upd H' p o) := fun b u n e => by
  rw [upd_ne n]
  exact k b u n e
theorem _root_.ZX.Kp.same {p : Addr} {H H1 H2 : Hp} (k : Kp p H H1) (s : Same H1 H2) : Kp p H H2 := fun b u n e => s _ _ (k b u n e)
/-- what the class of programs must be -/
structure PrC (K : PySem.W.Frag) (C : Addr) : Prop where
  c : Cls K C
  n1 : NoAttr K C "block"
  n2 : NoAttr K C "_rows"
  n3 : NoAttr K C "_leads"
  n4 : NoAttr K C "_names"
/-- all next places, the end's too -/
def leadsP (b : List Rw) : List (List Nat) := leadsB b 0 (rowsB b).length ++ [[]]
theorem leadsP_len (b : List Rw) : (leadsP b).length = (rowsB b).length + 1 := by
  rw [leadsP, List.length_append, leadsB_len]
  rfl
/-- of its next places' tuples one knows that they have no dict -/
def PrD (C : Addr) (H : Hp) (x : Addr) : Prop := ∃ (dx : Addr) (v : V) (ra na la : Addr) (ls : List V), H x = some (.ins C dx [("block", v), ("_rows", .ref ra), ("_names", .ref na), ("_leads", .ref la)]) ∧ H la = some (.tup ls) ∧ ∀ u ∈ ls, Df H u
theorem PrD.same {C : Addr} {H H' : Hp} {x : Addr} (s : Same H H') (h : PrD C H x) : PrD C H' x := by
  obtain ⟨dx, v, ra, na, la, ls, h1, h2, h3⟩ := h
  exact ⟨dx, v, ra, na, la, ls, s _ _ h1, s _ _ h2, fun u hu => (h3 u hu).same s⟩
/-- y: the next places of the place i -/
def NxAt (K : PySem.W.Frag) (C : Addr) (H : Hp) (x : Addr) (i : Nat) (y : V) : Prop := ∃ (dx : Addr) (v : V) (ra na la : Addr) (ls : List V), H x = some (.ins C dx [("block", v), ("_rows", .ref ra), ("_names", .ref na), ("_leads", .ref la)]) ∧ SqT K H la ls ∧ ls[i]? = some y
theorem NxAt.df {K : PySem.W.Frag} {C : Addr} {H : Hp} {x : Addr} {i : Nat} {y : V} (h : NxAt K C H x i y) (d : PrD C H x) (inj : ∀ a xs ys, SqT K H a xs → SqT K H a ys → xs = ys) : Df H y := by
  obtain ⟨dx, v, ra, na, la, ls, h1, h2, h3⟩ := h
  obtain ⟨dx', v', ra', na', la', ls', g1, g2, g3⟩ := d
  rw [h1] at g1
  have e : la' = la := by
    injection g1 with g
    injection g with _ _ g
    simp only [List.cons.injEq, Prod.mk.injEq, V.ref.injEq, true_and, and_true] at g
    exact g.2.2.2.symm
  subst e
  rw [inj _ _ _ h2 (.inl (.inl g2))] at h3
  exact g3 y (List.mem_of_getElem? h3)
/-- a program of the block b at x -/
def PrAt (K : PySem.W.Frag) (C : Addr) (H : Hp) (x : Addr) (b : List Rw) : Prop := ∃ (dx : Addr) (v : V) (ra na la : Addr) (rs ls : List V) (ys : List Str), H x = some (.ins C dx [("block", v), ("_rows", .ref ra), ("_names", .ref na), ("_leads", .ref la)]) ∧ BV K H v b ∧ Good b ∧
  SqT K H ra rs ∧ Tvs K H rs ((rowsB b).map dR) ∧ SqT K H la ls ∧ Tvs K H ls ((leadsP b).map encL) ∧ SqT K H na (ys.map V.str) ∧ IsLot ys ((rowsB b).flatMap namesR)
theorem PrAt.up {K : PySem.W.Frag} {C : Addr} {H H' : Hp} {x : Addr} {b : List Rw} (h : PrAt K C H x b) (e : ∀ o, H x = some o → H' x = some o) (pt : Pt H H') : PrAt K C H' x b := by
  obtain ⟨dx, v, ra, na, la, rs, ls, ys, h1, h2, g, h3, h4, h5, h6, h7, h8⟩ := h
  exact ⟨dx, v, ra, na, la, rs, ls, ys, e _ h1, h2.pt pt, g, pt.sq h3, h4.pt pt, pt.sq h5, h6.pt pt, pt.sq h7, h8⟩
theorem PrAt.same {K : PySem.W.Frag} {C : Addr} {H H' : Hp} {x : Addr} {b : List Rw} (h : PrAt K C H x b) (s : Same H H') : PrAt K C H' x b := h.up (fun o e => s _ _ e) s.pt
end PM
namespace K13
open PySem PySem.Spec PyProof.Rows L2 ZX PM ZR
def spInit (K : PySem.W.Frag) (C : Addr) : Sp := fun vs H Q _ => ∃ (x dx : Addr) (v : V) (b : List Rw), vs = [.ref x, v] ∧ H x = some (.ins C dx []) ∧ BV K H v b ∧ Good b ∧ ∀ H', Kp x H H' → Pt H H' → PrAt K C H' x b → PrD C H' x → Q .non H'
section
variable {P : Program} {w : World} {K : PySem.W.Frag} {mg : Str → Option Value} {base : Heap}
theorem scProgramInit : FnScope ["self", "block", "place"] ["self", "block"] (defScope sProgramInit) := ⟨rfl, rfl, rfl, by decide +kernel, rfl, by decide +kernel, by decide +kernel⟩
theorem ok_init {C f : Addr} {fd : FuncData} (F : FunD K "__init__" "Program.__init__" (defArgs sProgramInit) (defBody sProgramInit) (defScope sProgramInit) [] [] f fd) (T : Bi mg) (c : PrC K C) (C_bad_place : Cal P w K mg base "bad_place" 6 ["block", "many"] (spBad K)) (C_rows_of : Cal P w K mg base "rows_of" 5 ["block"] (spRowsOf K 4)) (C_all_names : Cal P w K mg base "all_names" 3 ["rows"] (spAllNames K)) (C_block_leads : Cal P w K mg base "block_leads" 15 ["block", "place", "behind"] (spBlockLeads K 4)) : FnOk P w K mg base CX0 16 f fd ["self", "block"] (spInit K C) := by
  refine F.ok scProgramInit (fun vs H Q E h => ?_) (fun cdv A outer s H vs Q E hr h => ?_)
  · obtain ⟨x, dx, v, b, rfl, _⟩ := h
    rfl
  · obtain ⟨x, dx, v, b, rfl, hx, tv, G, k⟩ := h
    have hr_bad_place := hr.mono (show 6 ≤ 15 by decide)
    have hr_rows_of := hr.mono (show 5 ≤ 15 by decide)
    have hr_all_names := hr.mono (show 3 ≤ 15 by decide)
    have hr_block_leads := hr
    refine ⟨_, PSs.nox (pss_cons (ps_set (i := 2) scProgramInit.nd rfl (Or.inl rfl) (pcal C_bad_place hr_bad_place rfl (pa_cons (pv 1) (pa_cons pe_int pa_nil))))
    (pss_cons (ps_if (pt_cmpR op_notN (pv 2) pe_non (nomark _)) (pss_one ps_never) pss_nil)
    (pss_cut (ps_fld (pv 0) (pv 1) rfl)
    (pss_cut (ps_fld (pv 0) (pe_callTy call_tuple_of (by rfl) T.b_tuple (by decide +kernel) (pa_cons (pcal C_rows_of hr_rows_of rfl (pa_cons (pv 1) pa_nil)) pa_nil)) rfl)
    (pss_cut (ps_fld (pv 0) (pcal C_all_names hr_all_names rfl (pa_cons (pe_fld (pv 0) rfl) pa_nil)) rfl)
    (pss_one (ps_fld (pv 0) (pe_callTy call_tuple_of (by rfl) T.b_tuple (by decide +kernel) (pa_cons (pe_op op_cat (pcal C_block_leads hr_block_leads rfl (pa_cons (pv 1) (pa_cons pe_int (pa_cons (pe_callB call_len_seq (by rfl) T.b_len (by decide +kernel) (pa_cons (pe_fld (pv 0) rfl) pa_nil)) pa_nil)))) (pe_lst (pa_cons (pe_tupF pa_nil) pa_nil))) pa_nil)) rfl))))))), ?_⟩
    have hdep := ok_depB G.ok (by decide)
    have l30 := G.l30
    refine ⟨_, rfl, v, b, 0, rfl, tv, G, fun H1 s1 => ⟨_, rfl, rfl, false, rfl, ?_⟩⟩
    have hx1 := s1 _ _ hx
    refine ⟨fun σ' H' => σ' = [some (.ref x), some v, some .non] ∧ Kp x H H' ∧ Pt H H' ∧ H' x = some (.ins C dx [("block", v)]), ?_, ?_⟩
    · refine ⟨_, rfl, _, rfl, x, C, dx, _, rfl, hx1, c.c, c.n1, (by decide), ?_⟩
      exact ⟨rfl, (Same.kp s1).put, s1.pt.trans (Pt.ins hx1), upd_same⟩
    rintro σ2 H2 ⟨rfl, kp2, p2, hx2⟩
    refine ⟨fun σ' H' => ∃ ra rs, σ' = [some (.ref x), some v, some .non] ∧ Kp x H H' ∧ Pt H H' ∧ H' x = some (.ins C dx [("block", v), ("_rows", .ref ra)]) ∧ SqT K H' ra rs ∧ Tvs K H' rs ((rowsB b).map dR), ?_, ?_⟩
    · refine ⟨_, rfl, v, b, rfl, tv.pt p2, by omega, by omega, fun l us H3 s3 nl hl hu => ?_⟩
      refine ⟨l, us, rfl, .inl ⟨SqL.of hl, fun t nt => ?_⟩⟩
      have s4 := s3.trans (same_new (o := .tup us) nt)
      have hx4 := s4 _ _ hx2
      refine ⟨_, rfl, x, C, dx, _, rfl, hx4, c.c, c.n2, (by show 1 < 1000; decide), ?_⟩
      have p5 := Pt.ins (o := .ins C dx (putF "_rows" (.ref t) [("block", v)])) hx4
      exact ⟨t, us, rfl, (kp2.same s4).put, (p2.trans s4.pt).trans p5, upd_same, p5.sq (.inl (.inl upd_same)), (hu.pt (same_new (o := .tup us) nt).pt).pt p5⟩
    rintro σ3 H3 ⟨ra, rs, rfl, kp3, p3, hx3, hra, hrs⟩
    have hrl := hrs.len
    rw [List.length_map] at hrl
    refine ⟨fun σ' H' => ∃ na ys, σ' = [some (.ref x), some v, some .non] ∧ Kp x H H' ∧ Pt H H' ∧ H' x = some (.ins C dx [("block", v), ("_rows", .ref ra), ("_names", .ref na)]) ∧ SqT K H' ra rs ∧ Tvs K H' rs ((rowsB b).map dR) ∧ SqT K H' na (ys.map V.str) ∧ IsLot ys ((rowsB b).flatMap namesR), ?_, ?_⟩
    · refine ⟨_, rfl, x, C, dx, _, _, rfl, hx3, c.c, c.n2, rfl, ra, rs, rowsB b, rfl, .inr hra, hrs, ok_names_B G.ok, by omega, fun na ys H4 s4 nn ly hn => ?_⟩
      have hx4 := s4 _ _ hx3
      refine ⟨_, rfl, x, C, dx, _, rfl, hx4, c.c, c.n4, (by show 2 < 1000; decide), ?_⟩
      have p5 := Pt.ins (o := .ins C dx (putF "_names" (.ref na) [("block", v), ("_rows", .ref ra)])) hx4
      exact ⟨na, ys, rfl, (kp3.same s4).put, (p3.trans s4.pt).trans p5, upd_same, (s4.pt.trans p5).sq hra, hrs.pt (s4.pt.trans p5), p5.sq (.inl (.inl hn)), ly⟩
    rintro σ4 H4 ⟨na, ys, rfl, kp4, p4, hx4, hra, hrs, hna, ly⟩
    refine ⟨_, rfl, _, rfl, x, C, dx, _, _, rfl, hx4, c.c, c.n2, rfl, ra, rs, rfl, .inr hra, v, b, 0, (rowsB b).length, by rw [← hrl]; rfl, tv.pt p4, by omega, by omega, by omega, fun l6 ls H6 s6 n6 h6 t6 df6 => ?_⟩
    have hll := t6.len
    rw [List.length_map, leadsB_len] at hll
    refine ⟨by decide, fun t0 o0 no0 nt0 => ⟨by show 1 ≤ sizeLine; decide, fun l7 nl7 => ?_⟩⟩
    have s7 := (s6.trans (same_new (o := .frz o0 (.tup [])) nt0)).trans (same_new (o := .lst [.ref t0]) nl7)
    refine ⟨l6, l7, ls, _, rfl, rfl, ((same_new (o := .frz o0 (.tup [])) nt0).trans (same_new (o := .lst [.ref t0]) nl7)) _ _ h6, upd_same, Nat.le_trans (show ls.length + 1 ≤ 1000 by omega) (by decide), fun l8 nl8 => ?_⟩
    refine ⟨l8, _, rfl, .inl ⟨SqL.of upd_same, fun t9 nt9 => ?_⟩⟩
    have s9 := (s7.trans (same_new (o := .lst (ls ++ [.ref t0])) nl8)).trans (same_new (o := .tup (ls ++ [.ref t0])) nt9)
    have hx9 := s9 _ _ hx4
    refine ⟨_, rfl, x, C, dx, _, rfl, hx9, c.c, c.n3, (by show 3 < 1000; decide), ?_⟩
    have p10 := Pt.ins (o := .ins C dx (putF "_leads" (.ref t9) [("block", v), ("_rows", .ref ra), ("_names", .ref na)])) hx9
    have pz := s9.pt.trans p10
    refine k _ ((kp4.same s9).put) (p4.trans pz) ⟨dx, v, ra, na, t9, rs, ls ++ [.ref t0], ys, ?_, tv.pt (p4.trans pz), G, pz.sq hra, hrs.pt pz, p10.sq (.inl (.inl upd_same)), ?_, pz.sq hna, ly⟩ ?_
    · rw [upd_same]
      rfl
    · rw [leadsP, List.map_append]
      have py := (((same_new (o := .frz o0 (.tup [])) nt0).trans (same_new (o := .lst [.ref t0]) nl7)).trans ((same_new (o := .lst (ls ++ [.ref t0])) nl8).trans (same_new (o := .tup (ls ++ [.ref t0])) nt9))).pt.trans p10
      refine Tvs.app (t6.pt py) (.cons (.tup ?_ .nil) .nil)
      exact (((same_new (o := .lst [.ref t0]) nl7).trans ((same_new (o := .lst (ls ++ [.ref t0])) nl8).trans (same_new (o := .tup (ls ++ [.ref t0])) nt9))).pt.trans p10).sq (.inl (.inr ⟨o0, upd_same⟩))
    · have nx9 : t9 ≠ x := fun e => by
        rw [e] at nt9
        have := ((s7.trans (same_new (o := .lst (ls ++ [.ref t0])) nl8)) _ _ hx4)
        rw [nt9] at this
        cases this
      refine ⟨dx, v, ra, na, t9, ls ++ [.ref t0], upd_same, ?_, fun u hu => ?_⟩
      · rw [upd_ne nx9]
        exact upd_same
      · have kx : ∀ {H5 : Hp} {y : V} {fs : List (Str × V)}, H5 x = some (.ins C dx fs) → Df H5 y → Df (upd H5 x (.ins C dx (putF "_leads" (.ref t9) [("block", v), ("_rows", .ref ra), ("_names", .ref na)]))) y := fun hx5 d => d.keep fun a o xs e => by
          rw [upd_ne (fun z => by rw [z, hx5] at e; cases e)]
          exact e
        refine kx hx9 ?_
        rcases List.mem_append.mp hu with h | h
        · exact (df6 u h).same (((same_new nt0).trans (same_new nl7)).trans ((same_new nl8).trans (same_new nt9)))
        · rw [List.mem_singleton.mp h]
          exact Df.same ((same_new nl7).trans ((same_new nl8).trans (same_new nt9))) ⟨t0, o0, _, rfl, upd_same, no0⟩
end
end K13
set_option Elab.async false
set_option linter.all false
set_option maxRecDepth 100000
set_option maxHeartbeats 4000000
/-! Rules of my own: raise C(), C an own class with an own __init__ that keeps nothing; functions that may let something out. -/
namespace ZR
open PySem PySem.Spec PyProof.Rows L2 ZX
section
variable {X : Cx} {x : Str} {p pos : Pos} {C fI : Addr} {k : Nat} {fd : FuncData} {ps : List Str} {sp : Sp}
def tMkN (C : Addr) (sp : Sp) : TE := fun _ H Q => ∀ a, H a = none → sp [.ref a] (upd H a (exo a C none)) (fun v H2 => v = .non ∧ H2 a = some (exo a C none) ∧ Q (.ref a) (upd H2 a (ExO (.ref C) a))) fun _ _ _ => False
theorem pe_oexN (T : OexC X.K C) (iC : PySem.W.findIn X.K (.ref C) "__init__" = some (some (.ref fI))) (tI : PySem.W.typeIn X.K (.ref fI) = some (.type "function"))
    (F1 : FnOk X.prog X.w X.K X.mg X.base CX0 k fI fd ps sp) (hi : ∀ vs H Q Q' E, (∀ v H', Q v H' → Q' v H') → sp vs H Q E → sp vs H Q' E) (hr : Room (k + 1) X.A) (hb : Binds X.K fd ps []) (hg : Gl X x) (hm : X.mg x = some (.ref C)) (hdb : (x == ("__debug__" : Str)) = false := by decide) :
    PE X (.Call (.Name x p) [] [] pos) (tMkN C sp) := by
  refine ⟨fun pins s σ H Q I h => ?_⟩
  refine wpAny_mono ((pe_oex0 T iC tI F1 hr hb hg hm hdb).run pins s σ H (fun v H2 => ∃ a, v = .ref a ∧ H2 a = some (exo a C none) ∧ Q (.ref a) (upd H2 a (ExO (.ref C) a))) I ⟨Nat.zero_le _, fun a n => ?_⟩) (fun u s' hu => ?_) fun _ _ z => z
  · exact hi _ _ _ _ _ (fun v H' q => ⟨q.1, a, rfl, q.2.1, q.2.2⟩) (h a n)
  · obtain ⟨v, H2, I2, r, a, rfl, ha, q⟩ := hu
    obtain ⟨t1, hg⟩ := exo_at I2.hok ha
    refine ⟨.ref a, upd H2 a (ExO (.ref C) a), I2.write (x := a) (e := a) (h' := s'.heap) (t' := s'.toks) (by rw [ha]; trivial) (.inl rfl) (fun _ _ _ z => z) ⟨_, hg⟩ ?_, r, q⟩
    exact exO_ok hg ⟨rfl, rfl⟩ rfl rfl rfl (show 4 < 6 by decide)
end
end ZR
set_option Elab.async false
set_option linter.all false
set_option maxRecDepth 100000
set_option maxHeartbeats 4000000
/-! Calls of defs that may let something out. -/
namespace PM
open PySem PySem.Spec PyProof.Rows L2 ZX ZR
/-- a def that may be called by its name and may let something out -/
structure CalX (P : Program) (w : World) (K : PySem.W.Frag) (mg : Str → Option Value) (base : Heap) (x : Str) (k : Nat) (ps : List Str) (sp : Sp) : Prop where
  ex : ∃ (f : Addr) (fd : FuncData), FnOk P w K mg base (L2.CX P w) k f fd ps sp ∧ mg x = some (.ref f) ∧ PySem.W.keepIn K (.ref f) = true ∧ Binds K fd ps []
section
variable {X : Cx} {e : Expr} {es : List Expr} {t : TA} {x : Str} {p pos : Pos} {k : Nat} {ps : List Str} {sp : Sp}
theorem pcalS {W : WX} (C : CalX X.prog X.w X.K X.mg X.base x k ps sp) (hr : Room k X.A) (tk : Takes X W) (hg : Gl X x) (ha : PA X (e :: es) t)
    (hdb : (x == ("__debug__" : Str)) = false := by decide) (he : starEach (e :: es) X.env = (false, eval e X.env) :: starEach es X.env := by rfl) (hpl : (backTo pos (starEach es X.env)).any (·.1) = false := by rfl) :
    PE X (.Call (.Name x p) (e :: es) [] pos) (tCallS sp (WE W) t) := by
  obtain ⟨f, fd, G, g, kp, b⟩ := C.ex
  exact pe_callS G hr hg g kp b (fun σ => passAt tk σ) ha hdb he hpl
/-- a call that lets nothing out -/
theorem pcalN (C : CalX X.prog X.w X.K X.mg X.base x k ps sp) (hr : Room k X.A) (hg : Gl X x) (ha : PA X (e :: es) t)
    (hdb : (x == ("__debug__" : Str)) = false := by decide) (he : starEach (e :: es) X.env = (false, eval e X.env) :: starEach es X.env := by rfl) (hpl : (backTo pos (starEach es X.env)).any (·.1) = false := by rfl) :
    PE X (.Call (.Name x p) (e :: es) [] pos) (tCall sp [] E0 t) := by
  obtain ⟨f, fd, G, g, kp, b⟩ := C.ex
  refine pe_call G hr hg g kp b .nil (fun pins σ H s e s' I c => ?_) ha hdb he hpl
  obtain ⟨_, _, _, _, _, _, _, _, _, _, _, h⟩ := c
  exact h.2.elim
end
end PM
set_option Elab.async false
set_option linter.all false
set_option maxRecDepth 100000
set_option maxHeartbeats 4000000
/-! Calls that leave defaults out; methods that let nothing out. -/
namespace PM
open PySem PySem.Spec PyProof.Rows L2 ZX ZR
/-- a def that may be called by its name, its last parameters left to their defaults -/
structure CalV (P : Program) (w : World) (K : PySem.W.Frag) (mg : Str → Option Value) (base : Heap) (x : Str) (k : Nat) (ps : List Str) (dvs : List V) (sp : Sp) : Prop where
  ex : ∃ (f : Addr) (fd : FuncData) (ds : List Value), FnOk P w K mg base CX0 k f fd ps sp ∧ mg x = some (.ref f) ∧ PySem.W.keepIn K (.ref f) = true ∧ Binds K fd ps ds ∧ Vals dvs ds
/-- a method of the class at C that lets nothing out -/
structure MCal (P : Program) (w : World) (K : PySem.W.Frag) (mg : Str → Option Value) (base : Heap) (C : Addr) (m : Str) (k : Nat) (ps : List Str) (sp : Sp) : Prop where
  c : Cls K C
  ex : ∃ (f : Addr) (fd : FuncData), FnOk P w K mg base CX0 k f fd ps sp ∧ Meth K C m f ∧ Binds K fd ps []
section
variable {X : Cx} {e o : Expr} {es : List Expr} {t : TA} {ta : TE} {x m : Str} {p pos apos : Pos} {k : Nat} {C : Addr} {ps : List Str} {dvs : List V} {sp : Sp} {pl : Sem Bool}
theorem pcalV (C : CalV X.prog X.w X.K X.mg X.base x k ps dvs sp) (hr : Room k X.A) (hg : Gl X x) (ha : PA X (e :: es) t)
    (hdb : (x == ("__debug__" : Str)) = false := by decide) (he : starEach (e :: es) X.env = (false, eval e X.env) :: starEach es X.env := by rfl) (hpl : (backTo pos (starEach es X.env)).any (·.1) = false := by rfl) :
    PE X (.Call (.Name x p) (e :: es) [] pos) (tCall sp dvs E0 t) := by
  obtain ⟨f, fd, ds, G, g, kp, b, r⟩ := C.ex
  exact pe_call G hr hg g kp b r pass0 ha hdb he hpl
theorem pmc (c : MCal X.prog X.w X.K X.mg X.base C m k ps sp) (hr : Room k X.A) (ho : PE X o ta) (ha : PA X (e :: es) t)
    (hst : starEach (e :: es) X.env = (false, eval e X.env) :: starEach es X.env := by rfl) (hpl : (backTo pos (starEach es X.env)).any (·.1) = false := by rfl)
    (ht : eval (.Call (.Attribute o m apos) (e :: es) [] pos) X.env = (do let ov ← eval o X.env; standAt apos.atName; let (f, first) ← holding [ov] (getMethod ov m pl); callWith pos f first (backTo pos (starEach (e :: es) X.env)) (backToKw pos (keywordEach [] X.env))) := by rfl) : PE X (.Call (.Attribute o m apos) (e :: es) [] pos) (tMeth C m sp [] E0 ta t) := by
  obtain ⟨f, fd, G, mt, b⟩ := c.ex
  exact pe_meth ho c.c mt G hr b .nil pass0 ha hst hpl ht
theorem pmc0 (c : MCal X.prog X.w X.K X.mg X.base C m k ps sp) (hr : Room k X.A) (ho : PE X o ta)
    (ht : eval (.Call (.Attribute o m apos) [] [] pos) X.env = (do let ov ← eval o X.env; standAt apos.atName; let (f, first) ← holding [ov] (getMethod ov m pl); callWith pos f first (backTo pos (starEach [] X.env)) (backToKw pos (keywordEach [] X.env))) := by rfl) : PE X (.Call (.Attribute o m apos) [] [] pos) (tMeth C m sp [] E0 ta tNil) := by
  obtain ⟨f, fd, G, mt, b⟩ := c.ex
  exact pe_meth0 ho c.c mt G hr b .nil pass0 ht
end
end PM
set_option Elab.async false
set_option linter.all false
set_option maxRecDepth 100000
set_option maxHeartbeats 4000000
/-! List comprehensions with a test. -/
namespace PM
open PySem PySem.Spec PyProof.Rows L2 ZX ZR
section
variable {J : It} {zs : List V} {St : Hp → Prop} {g : TG} {te : TE} {tt : TT} {vs : List Nat} {σ : L2.St} {H1 : Hp} {Q : VK}
theorem lc_overF {α : Type} {as : List α} {Rel : Hp → α → V → Prop} (f : α → Bool) (O : IterOf J zs St) (hz : as.length = zs.length) (hRel : ∀ c y H H', Pt H H' → Rel H c y → Rel H' c y) (hlen : zs.length < sizeLine)
    (st : ∀ H', Same H1 H' → Pt H1 H' → St H')
    (step : ∀ (i : Nat) x c, zs[i]? = some x → as[i]? = some c → ∀ H', Same H1 H' → Pt H1 H' → ∀ (R : VK) (N : Hp → Prop), (f c = true → ∀ y H'', Same H' H'' → Rel H'' c y → R y H'') → (f c = false → ∀ H'', Same H' H'' → N H'') →
      g x (wipe σ vs) H' fun σ2 H2 => wipe σ2 vs = wipe σ vs ∧ tt σ2 H2 fun b H3 => if b = true then te σ2 H3 R else N H3)
    (fin : ∀ D ys H', Same H1 H' → Pt H1 H' → H1 D = none → H' D = some (.lst ys) → All2 (Rel H') (as.filter f) ys → Q (.ref D) H') :
    tLcS (fun _ _ R => R J H1) g tt te vs σ H1 Q := by
  rw [lcS]
  intro D hD
  refine ⟨fun i m H => m = zs.length - i ∧ i ≤ zs.length ∧ Same H1 H ∧ Pt H1 H ∧ ∃ ys, H D = some (.lst ys) ∧ All2 (Rel H) ((as.take i).filter f) ys, ⟨zs.length, rfl, Nat.zero_le _, same_new hD, Pt.new hD, [], upd_same, by rw [List.take_zero]; exact .nil⟩, ?_⟩
  rintro i m H ⟨rfl, hi, sm, pt, ys, hys, all⟩
  have hst := st H sm pt
  by_cases hlt : i < zs.length
  · refine .inr ⟨O.go i H hst hlt, fun H' => i + 1 ≤ zs.length ∧ Same H1 H' ∧ Pt H1 H' ∧ ∃ ys, H' D = some (.lst ys) ∧ All2 (Rel H') ((as.take (i + 1)).filter f) ys, fun H' h => ⟨zs.length - (i + 1), by omega, rfl, h⟩, fun x H' y => ?_⟩
    obtain ⟨rfl, hx⟩ := O.yld i H x H' hst hlt y
    have hia : i < as.length := by omega
    have hc : as[i]? = some as[i] := List.getElem?_eq_getElem hia
    have ptk : as.take (i + 1) = as.take i ++ [as[i]] := by
      rw [List.take_succ, hc]
      rfl
    refine step i x as[i] hx hc H' sm pt _ _ (fun ef y H'' s2 r => ?_) (fun ef H'' s2 => ?_)
    · have hD2 := s2 _ _ hys
      have pD : Pt H'' (upd H'' D (.lst (ys ++ [y]))) := Pt.lst hD2
      have hl2 : ys.length < sizeLine := by
        have := all.len
        have := List.length_filter_le f (as.take i)
        rw [List.length_take] at this
        omega
      refine ⟨ys, hD2, hl2, hlt, fun b o e => by rw [upd_ne (ne_of_none e hD)]; exact s2 _ _ (sm _ _ e), (pt.trans s2.pt).trans pD, ys ++ [y], upd_same, ?_⟩
      rw [ptk, List.filter_append, List.filter_cons, if_pos ef, List.filter_nil]
      exact All2.snoc (hRel _ _ _ _ pD r) (all.imp fun a b q => hRel _ _ _ _ (s2.pt.trans pD) q)
    · refine ⟨hlt, sm.trans s2, pt.trans s2.pt, ys, s2 _ _ hys, ?_⟩
      rw [ptk, List.filter_append, List.filter_cons, if_neg (by rw [ef]; exact Bool.false_ne_true), List.filter_nil, List.append_nil]
      exact all.imp fun a b q => hRel _ _ _ _ s2.pt q
  · have e : i = zs.length := by omega
    subst e
    rw [← hz, List.take_length] at all
    exact .inl ⟨O.stop H hst, fin D ys H sm pt hD hys all⟩
end
end PM
set_option Elab.async false
set_option linter.all false
set_option maxRecDepth 100000
set_option maxHeartbeats 4000000
/-! A run's notes: things, frames, functions, what stands in the heap. -/
namespace PM
open PySem PySem.Spec PyProof.Rows L2 ZX ZR
/-- what a name holds: a note's number, or a worth -/
inductive Th where
  | note (n : Nat)
  | worth (v : V)
  deriving DecidableEq
def thV : Th → List V
  | .note n => [.str "note", .int (n : Nat)]
  | .worth v => [.str "worth", v]
def ThAt (K : PySem.W.Frag) (H : Hp) (v : V) (t : Th) : Prop := ∃ a, v = .ref a ∧ SqT K H a (thV t)
theorem ThAt.pt {K : PySem.W.Frag} {H H' : Hp} {v : V} {t : Th} (p : Pt H H') (h : ThAt K H v t) : ThAt K H' v t := by
  obtain ⟨a, e, h⟩ := h
  exact ⟨a, e, p.sq h⟩
/-! ### frames -/
/-- a list or a dict -/
def IsM (o : Option HO) : Prop := (∃ xs, o = some (.lst xs)) ∨ ∃ kvs, o = some (.dK kvs)
def Mks (M : List Addr) (H : Hp) : Prop := ∀ b ∈ M, IsM (H b)
/-- all but M stands, and M's are lists and dicts -/
structure Fz (M : List Addr) (H H' : Hp) : Prop where
  keep : ∀ b o, b ∉ M → H b = some o → H' b = some o
  mks : Mks M H'
section
variable {M M' : List Addr} {H H1 H2 H' : Hp}
theorem Fz.refl (m : Mks M H) : Fz M H H := ⟨fun _ _ _ h => h, m⟩
theorem Fz.trans (a : Fz M H H1) (b : Fz M H1 H2) : Fz M H H2 := ⟨fun c o n h => b.keep c o n (a.keep c o n h), b.mks⟩
theorem Mks.same (m : Mks M H) (s : Same H H1) : Mks M H1 := fun b hb => by
  rcases m b hb with ⟨xs, e⟩ | ⟨kvs, e⟩
  · exact .inl ⟨xs, s _ _ e⟩
  · exact .inr ⟨kvs, s _ _ e⟩
theorem _root_.L2.Same.fz (s : Same H H1) (m : Mks M H) : Fz M H H1 := ⟨fun b o _ h => s b o h, m.same s⟩
theorem Mks.put {a : Addr} {o : HO} (m : Mks M H) (i : IsM (some o)) : Mks M (upd H a o) := fun b hb => by
  by_cases e : b = a
  · subst e
    rw [upd_same]
    exact i
  · rw [upd_ne e]
    exact m b hb
theorem Fz.put {a : Addr} {o : HO} (m : Mks M H) (ha : a ∈ M) (i : IsM (some o)) : Fz M H (upd H a o) := ⟨fun b u n e => by
  rw [upd_ne (fun z => n (by rw [z]; exact ha))]
  exact e, m.put i⟩
/-- a new thing is changed -/
theorem Fz.putN {a : Addr} {o : HO} (f : Fz M H H1) (n : H a = none) (i : IsM (some o)) : Fz M H (upd H1 a o) := ⟨fun b u nb e => by
  rw [upd_ne (ne_of_none e n)]
  exact f.keep b u nb e, f.mks.put i⟩
theorem Fz.pt (f : Fz M H H1) (m : Mks M H) : Pt H H1 := fun b ys hb => by
  have nm : b ∉ M := fun hm => by
    rcases m b hm with ⟨xs, e⟩ | ⟨xs, e⟩ <;> rcases hb with hb | ⟨o, hb⟩ <;> rw [e] at hb <;> cases hb
  exact hb.elim (fun h => .inl (f.keep b _ nm h)) fun ⟨o, h⟩ => .inr ⟨o, f.keep b _ nm h⟩
theorem Fz.free (f : Fz M H H1) {b : Addr} (h : H1 b = none) : H b = none := by
  by_cases m : b ∈ M
  · rcases f.mks b m with ⟨xs, e⟩ | ⟨xs, e⟩ <;> rw [h] at e <;> cases e
  · cases e : H b with
    | none => rfl
    | some u =>
      rw [f.keep b u m e] at h
      cases h
theorem Fz.mono (f : Fz M H H1) (hs : ∀ b ∈ M, b ∈ M') (m' : Mks M' H) : Fz M' H H1 := ⟨fun b o n h => f.keep b o (fun z => n (hs b z)) h, fun b hb => by
  by_cases e : b ∈ M
  · exact f.mks b e
  · rcases m' b hb with ⟨xs, h⟩ | ⟨xs, h⟩
    · exact .inl ⟨xs, f.keep b _ e h⟩
    · exact .inr ⟨xs, f.keep b _ e h⟩⟩
theorem Mks.left {N : List Addr} (m : Mks (M ++ N) H) : Mks M H := fun b hb => m b (List.mem_append_left _ hb)
theorem Mks.right {N : List Addr} (m : Mks (M ++ N) H) : Mks N H := fun b hb => m b (List.mem_append_right _ hb)
theorem Mks.app {N : List Addr} (m : Mks M H) (n : Mks N H) : Mks (M ++ N) H := fun b hb => (List.mem_append.mp hb).elim (m b) (n b)
/-- a thing that is neither a list nor a dict does not stand in M -/
theorem Mks.no (m : Mks M H) {b : Addr} {o : HO} (h : H b = some o) (n : ¬ IsM (some o)) : b ∉ M := fun hb => by
  have := m b hb
  rw [h] at this
  exact n this
end
/-! ### what is called -/
/-- what may be called at f, as long as R stands in the heap -/
structure Callee (P : Program) (w : World) (K : PySem.W.Frag) (mg : Str → Option Value) (base : Heap) (k : Nat) (f : Addr) (R : Hp → Prop) (sp : Sp) : Prop where
  at_ : ∀ {X : Cx} {pins : List (Addr × Obj)} {σ : L2.St} {H : Hp} {s : Shared}, X.K = K → Inv X pins σ H s → R H → PySem.W.FnAt f s.heap
  run : ∀ {X : Cx} {pins : List (Addr × Obj)} {σ : L2.St} {H : Hp} {s : Shared} {us : List Value} {vs : List V} {Q : VK}, X.prog = P → X.w = w → X.K = K → X.mg = mg → X.base = base → Inv X pins σ H s → R H → Room k X.A → Vals vs us → sp vs H Q E0 →
    wpAny (model X.prog X.w) X.A (call (.ref f) us) (EP X pins σ Q) X.xe s
/-- f(e, ..), f a local name -/
def tCallV (i : Nat) (S : Addr → (Hp → Prop) → Sp → Prop) (t : TA) : TE := fun σ H Q => ∃ f R sp, σ[i]? = some (some (.ref f)) ∧ S f R sp ∧ t σ H fun vs H1 => R H1 ∧ sp vs H1 Q E0
theorem pe_callV {X : Cx} {S : Addr → (Hp → Prop) → Sp → Prop} {k i : Nat} {x : Str} {p pos : Pos} {e : Expr} {es : List Expr} {t : TA} (C : ∀ f R sp, S f R sp → Callee X.prog X.w X.K X.mg X.base k f R sp) (hr : Room k X.A) (hN : X.N[i]? = some x) (hv : Vis X.env.scope x) (ha : PA X (e :: es) t)
    (hd : (x == ("__debug__" : Str)) = false := by decide) (hcd : (x == ("__classdict__" : Str)) = false := by decide)
    (he : starEach (e :: es) X.env = (false, eval e X.env) :: starEach es X.env := by rfl) (hpl : (backTo pos (starEach es X.env)).any (·.1) = false := by rfl) : PE X (.Call (.Name x p) (e :: es) [] pos) (tCallV i S t) := by
  refine ⟨fun pins s σ H Q I h => ?_⟩
  obtain ⟨f, R, sp, hs, hS, ht⟩ := h
  refine wpAny_Call_Name_kw (thn ((pe_var (pos := p) hN hv hd hcd).run pins s σ H (fun v H1 => v = .ref f ∧ H1 = H) I ⟨.ref f, hs, rfl, rfl⟩) fun u s1 ⟨v, H1, I1, r1, ev, eH⟩ => ?_)
  subst ev
  subst eH
  obtain rfl : u = Value.ref f := r1
  rw [he]
  refine PySem.W.callWith_of (P := PySem.W.FnAt f) (by show ((false || (backTo pos (starEach es X.env)).any (·.1)) || false) = false; rw [hpl]; rfl) (fun h hf => ?_) (PySem.Calls.evalArgs_plain ?_)
  · obtain ⟨c, od, fd, sl, ho⟩ := hf
    exact ⟨.frame, .inl rfl, (PySem.W.Looks.ld (part := none) ho).andThen .now⟩
  · have q := ha.run pos pins s1 σ _ _ I1 ht
    rw [he] at q
    exact thn q fun us s2 ⟨vs, H2, I2, r2, hR, hsp⟩ => ⟨(C f R sp hS).at_ rfl I2 hR, (C f R sp hS).run rfl rfl rfl rfl rfl I2 hR hr r2 hsp⟩
/-- a def of the text -/
theorem callee_def {P : Program} {w : World} {K : PySem.W.Frag} {mg : Str → Option Value} {base : Heap} {k : Nat} {f : Addr} {fd : FuncData} {ps : List Str} {sp : Sp} (F : FnOk P w K mg base CX0 k f fd ps sp) (hb : Binds K fd ps []) (hf : PySem.W.fnIn K f = true) : Callee P w K mg base k f (fun _ => True) sp := by
  refine ⟨fun {X pins σ H s} eK I _ => ?_, fun {X pins σ H s us vs Q} e1 e2 e3 e4 e5 I _ hr r h => ?_⟩
  · subst eK
    unfold PySem.W.fnIn at hf
    split at hf
    · rename_i oc od fd' sl ho
      exact ⟨oc, od, fd', sl, I.kIn _ _ ho⟩
    · cases hf
  · subst e1 e2 e3 e4 e5
    refine run_fn (dvs := []) F hr hb .nil pass0 I r ?_
    rw [List.append_nil]
    exact h
end PM
set_option Elab.async false
set_option linter.all false
set_option maxRecDepth 100000
set_option maxHeartbeats 4000000
/-! A run's notes in the heap; Holding._now, held. -/
namespace PM
open PySem PySem.Spec PyProof.Rows L2 ZX ZR
/-- a family of strangers' functions, by their ops: what they keep account of (L), the lists and dicts that are theirs (out), what worths they take and give (Ok), what a call does -/
structure Fam (P : Program) (w : World) (K : PySem.W.Frag) (mg : Str → Option Value) (base : Heap) where
  L : Type
  At : L → Hp → Prop
  out : List Addr
  lev : Nat
  Ok : V → Prop
  call : Str → List V → L → V → L → Prop
  sz : L → Nat
  szC : ∀ {o ws l v l'}, call o ws l v l' → sz l' ≤ sz l + 1
  Fn : Str → Addr → Hp → Prop
  ok0 : Ok (.int 0)
  okI : ∀ i, Ok (.int i)
  atK : ∀ {l M H H'}, At l H → Mks M H → Fz M H H' → (∀ b ∈ out, b ∉ M) → At l H'
  fnK : ∀ {o f M H H'}, Fn o f H → Mks M H → Fz M H H' → Fn o f H'
  callee : ∀ o f, Callee P w K mg base lev f (Fn o f) (fun vs H Q _ => ∃ t ws l, vs = [.ref t] ∧ SqT K H t ws ∧ ws.length ≤ 3 ∧ (∀ v ∈ ws, Ok v) ∧ Mks out H ∧ At l H ∧ sz l < 100000 ∧ ∀ v l' H', call o ws l v l' → Ok v → Fz out H H' → At l' H' → Q v H')
/-- the addresses of a run's notes -/
structure Ad where
  x : Addr
  dx : Addr
  fa : Addr
  ha : Addr
  ma : Addr
  wa : Addr
  oa : Addr
  pa : Addr
  ta : Addr
def Ad.own (A : Ad) : List Addr := [A.ha, A.ma, A.wa, A.oa, A.pa, A.ta]
def fsN (A : Ad) : List (Str × V) := [("functions", .ref A.fa), ("heads", .ref A.ha), ("made", .ref A.ma), ("worths", .ref A.wa), ("order", .ref A.oa), ("printed", .ref A.pa), ("trail", .ref A.ta)]
/-- what stood before a step: the name written, what it held, the numbers of notes made, worked, said -/
structure Mark where
  name : Option Str
  head : Option Th
  made : Nat
  worked : Nat
  said : Nat
/-- what a run's notes are -/
structure NS where
  heads : Str → Option Th
  made : List (Str × List Th)
  worths : List (Nat × V)
  printed : List V
  trail : List Mark
def wKV (ws : List (Nat × V)) : List (Key × V) := ws.map fun p => (.inl (p.1 : Int), p.2)
theorem valV_w (n : Nat) : ∀ ws : List (Nat × V), valV (wKV ws) (.inl (n : Int)) = ws.lookup n
  | [] => rfl
  | (k, v) :: ws => by
    by_cases e : k = n
    · subst e
      show valV ((.inl ((k : Nat) : Int), v) :: wKV ws) _ = _
      rw [valV_pos rfl, List.lookup_cons_self]
    · show valV ((.inl ((k : Nat) : Int), v) :: wKV ws) _ = _
      rw [valV_neg (fun z => e (by injection z with z; omega)), valV_w n ws, List.lookup_cons]
      have : (n == k) = false := by
        rw [beq_eq_false_iff_ne]
        exact fun z => e z.symm
      rw [this]
theorem look_mem {n : Nat} {v : V} : ∀ {ws : List (Nat × V)}, ws.lookup n = some v → (n, v) ∈ ws
  | (k, u) :: ws, h => by
    rw [List.lookup_cons] at h
    by_cases e : (n == k) = true
    · rw [e] at h
      cases h
      rw [eq_of_beq e]
      exact List.mem_cons_self
    · rw [Bool.eq_false_iff.mpr e] at h
      exact List.mem_cons_of_mem _ (look_mem h)
/-- what of a thing is known now -/
def nowS (S : NS) : Th → Th
  | .note n => match S.worths.lookup n with
    | some v => .worth v
    | none => .note n
  | .worth v => .worth v
theorem nowS_none {S : NS} {n : Nat} (e : S.worths.lookup n = none) : nowS S (.note n) = .note n := by
  show (match S.worths.lookup n with
    | some v => Th.worth v
    | none => Th.note n) = _
  rw [e]
theorem nowS_some {S : NS} {n : Nat} {v : V} (e : S.worths.lookup n = some v) : nowS S (.note n) = .worth v := by
  show (match S.worths.lookup n with
    | some v => Th.worth v
    | none => Th.note n) = _
  rw [e]
def heldS (S : NS) (x : Str) : Th := nowS S ((S.heads x).getD (.worth (.int 0)))
def HdR (K : PySem.W.Frag) (H : Hp) : Option V → Option Th → Prop
  | some v, some t => ThAt K H v t
  | none, none => True
  | _, _ => False
/-- a thing, or None -/
def HdV (K : PySem.W.Frag) (H : Hp) (v : V) : Option Th → Prop
  | some t => ThAt K H v t
  | none => v = .non
def nmV : Option Str → V
  | some x => .str x
  | none => .non
def MkAt (K : PySem.W.Frag) (H : Hp) (u : V) (m : Mark) : Prop := ∃ a v, u = .ref a ∧ SqT K H a [nmV m.name, v, .int (m.made : Nat), .int (m.worked : Nat), .int (m.said : Nat)] ∧ HdV K H v m.head
/-- a note in the heap: its op, its parts -/
def MdAt (K : PySem.W.Frag) (H : Hp) (u : V) (m : Str × List Th) : Prop := ∃ a b us, u = .ref a ∧ SqT K H a [.str m.1, .ref b] ∧ SqT K H b us ∧ All2 (ThAt K H) us m.2
section
variable {P : Program} {w : World} {K : PySem.W.Frag} {mg : Str → Option Value} {base : Heap}
/-- it hangs together -/
structure WfS (fm : Fam P w K mg base) (F : List (Str × Addr)) (ns : List Str) (S : NS) : Prop where
  ops : ∀ m ∈ S.made, m.1 ∈ F.map (·.1)
  low : ∀ k m, S.made[k]? = some m → m.2.length ≤ 3 ∧ ∀ n, Th.note n ∈ m.2 → n < k
  hlow : ∀ x n, S.heads x = some (.note n) → n < S.made.length
  hin : ∀ x t, S.heads x = some t → x ∈ ns
  wn : (S.worths.map (·.1)).Nodup
  wlow : ∀ k ∈ S.worths.map (·.1), k < S.made.length
  okh : ∀ x v, S.heads x = some (.worth v) → fm.Ok v
  okm : ∀ m ∈ S.made, ∀ v, Th.worth v ∈ m.2 → fm.Ok v
  okw : ∀ p ∈ S.worths, fm.Ok p.2
  szm : S.made.length ≤ 50000
  szp : S.printed.length ≤ 50000
  szt : S.trail.length ≤ 50000
/-- the notes S stand at A -/
structure NtAt (fm : Fam P w K mg base) (C : Addr) (F : List (Str × Addr)) (ns : List Str) (H : Hp) (A : Ad) (S : NS) (l : fm.L) : Prop where
  hx : H A.x = some (.ins C A.dx (fsN A))
  hf : H A.fa = some (.dK (F.map fun p => (.inr p.1, .ref p.2)))
  fns : ∀ p ∈ F, fm.Fn p.1 p.2 H
  hh : ∃ (kvs : List (Key × V)) (ks : List Str), H A.ha = some (.dK kvs) ∧ kvs.map (·.1) = ks.map Sum.inr ∧ ks.Nodup ∧ (∀ x ∈ ks, x ∈ ns) ∧ ∀ x, HdR K H (valV kvs (.inr x)) (S.heads x)
  hm : ∃ us : List V, H A.ma = some (.lst us) ∧ All2 (MdAt K H) us S.made
  hw : H A.wa = some (.dK (wKV S.worths))
  ho : H A.oa = some (.lst (S.worths.map fun p => .int (p.1 : Nat)))
  hp : H A.pa = some (.lst S.printed)
  ht : ∃ us : List V, H A.ta = some (.lst us) ∧ All2 (MkAt K H) us S.trail
  nd : (A.fa :: (A.own ++ fm.out)).Nodup
  mo : Mks fm.out H
  at_ : fm.At l H
  wf : WfS fm F ns S
variable {fm : Fam P w K mg base} {C : Addr} {F : List (Str × Addr)} {ns : List Str} {H H' : Hp} {A : Ad} {S : NS} {l : fm.L}
theorem HdR.pt {o : Option V} {t : Option Th} (p : Pt H H') (h : HdR K H o t) : HdR K H' o t := by
  cases o <;> cases t <;> first | exact h | exact ThAt.pt p h
theorem MdAt.pt {u : V} {m : Str × List Th} (p : Pt H H') (h : MdAt K H u m) : MdAt K H' u m := by
  obtain ⟨a, b, us, e, h1, h2, h3⟩ := h
  exact ⟨a, b, us, e, p.sq h1, p.sq h2, h3.imp fun _ _ q => q.pt p⟩
theorem HdV.pt {v : V} {t : Option Th} (p : Pt H H') (h : HdV K H v t) : HdV K H' v t := by
  cases t <;> first | exact h | exact ThAt.pt p h
theorem MkAt.pt {u : V} {m : Mark} (p : Pt H H') (h : MkAt K H u m) : MkAt K H' u m := by
  obtain ⟨a, v, e, h1, h2⟩ := h
  exact ⟨a, v, e, p.sq h1, h2.pt p⟩
theorem mks_nil : Mks [] H := fun b h => nomatch h
/-- all that is not written stands -/
theorem NtAt.same (s : Same H H') (h : NtAt fm C F ns H A S l) : NtAt fm C F ns H' A S l := by
  have z := s.fz (M := []) mks_nil
  obtain ⟨kvs, ks, h1, h2, h3, h4, h5⟩ := h.hh
  obtain ⟨us, g1, g2⟩ := h.hm
  obtain ⟨ts, t1, t2⟩ := h.ht
  exact ⟨s _ _ h.hx, s _ _ h.hf, fun p hp => fm.fnK (h.fns p hp) mks_nil z, ⟨kvs, ks, s _ _ h1, h2, h3, h4, fun x => (h5 x).pt s.pt⟩, ⟨us, s _ _ g1, g2.imp fun _ _ q => q.pt s.pt⟩, s _ _ h.hw, s _ _ h.ho, s _ _ h.hp, ⟨ts, s _ _ t1, t2.imp fun _ _ q => q.pt s.pt⟩, h.nd, h.mo.same s, fm.atK h.at_ mks_nil z (fun _ _ m => nomatch m), h.wf⟩
theorem NtAt.mks (h : NtAt fm C F ns H A S l) : Mks A.own H := fun b hb => by
  obtain ⟨kvs, ks, h1, _⟩ := h.hh
  obtain ⟨us, g1, _⟩ := h.hm
  obtain ⟨ts, t1, _⟩ := h.ht
  simp only [Ad.own, List.mem_cons, List.not_mem_nil, or_false] at hb
  rcases hb with rfl | rfl | rfl | rfl | rfl | rfl
  · exact .inr ⟨_, h1⟩
  · exact .inl ⟨_, g1⟩
  · exact .inr ⟨_, h.hw⟩
  · exact .inl ⟨_, h.ho⟩
  · exact .inl ⟨_, h.hp⟩
  · exact .inl ⟨_, t1⟩
theorem NtAt.mksO (h : NtAt fm C F ns H A S l) : Mks (A.own ++ fm.out) H := h.mks.app h.mo
theorem WfS.hd {x : Str} {t : Th} (wf : WfS fm F ns S) (h : S.heads x = some t) : (∀ n, t = .note n → n < S.made.length) ∧ ∀ v, t = .worth v → fm.Ok v :=
  ⟨fun n e => wf.hlow x n (by rw [h, e]), fun v e => wf.okh x v (by rw [h, e])⟩
/-- a thing that may stand there -/
def OkT (fm : Fam P w K mg base) (S : NS) (t : Th) : Prop := (∀ n, t = .note n → n < S.made.length) ∧ ∀ v, t = .worth v → fm.Ok v
theorem WfS.now {t : Th} (wf : WfS fm F ns S) (h : OkT fm S t) : OkT fm S (nowS S t) := by
  cases t with
  | worth v => exact h
  | note n =>
    cases e : S.worths.lookup n with
    | none =>
      rw [nowS_none e]
      exact h
    | some v =>
      rw [nowS_some e]
      exact ⟨fun m z => (by cases z), fun u z => by
        cases z
        exact wf.okw (n, v) (look_mem e)⟩
theorem WfS.held {x : Str} (wf : WfS fm F ns S) : OkT fm S (heldS S x) := by
  refine wf.now ?_
  cases e : S.heads x with
  | none => exact ⟨fun n z => (by cases z), fun v z => by cases z; exact fm.ok0⟩
  | some t => exact wf.hd e
end
/-- what the class of a run's notes is told of -/
structure NtC (K : PySem.W.Frag) (C : Addr) : Prop where
  c : Cls K C
  n_functions : NoAttr K C "functions"
  n_heads : NoAttr K C "heads"
  n_made : NoAttr K C "made"
  n_worths : NoAttr K C "worths"
  n_order : NoAttr K C "order"
  n_printed : NoAttr K C "printed"
  n_trail : NoAttr K C "trail"
/-- a module's name that is a tuple -/
def TupC (K : PySem.W.Frag) (mg : Str → Option Value) (x : Str) (vs : List V) : Prop := ∃ a, mg x = some (.ref a) ∧ ∀ H, SqT K H a vs
end PM
namespace K13
open PySem PySem.Spec PyProof.Rows L2 ZX PM ZR
abbrev sHNow : Stmt := inClass (top 44) 8
abbrev sHHeld : Stmt := inClass (top 44) 2
section
variable {P : Program} {w : World} {K : PySem.W.Frag} {mg : Str → Option Value} {base : Heap} {C : Addr} {F : List (Str × Addr)} {ns : List Str}
def spNow (fm : Fam P w K mg base) (C : Addr) (F : List (Str × Addr)) (ns : List Str) : Sp := fun vs H Q _ => ∃ (A : Ad) (S : NS) (l : fm.L) (v : V) (t : Th), vs = [.ref A.x, v] ∧ NtAt fm C F ns H A S l ∧ ThAt K H v t ∧ ∀ u H', Same H H' → ThAt K H' u (nowS S t) → Q u H'
theorem scHNow : FnScope ["self", "thing", "kind", "what"] ["self", "thing"] (defScope sHNow) := ⟨rfl, rfl, rfl, by decide +kernel, rfl, by decide +kernel, by decide +kernel⟩
theorem ok_now {fm : Fam P w K mg base} {f : Addr} {fd : FuncData} (FD : FunD K "_now" "Holding._now" (defArgs sHNow) (defBody sHNow) (defScope sHNow) [] [] f fd) (c : NtC K C) : FnOk P w K mg base CX0 1 f fd ["self", "thing"] (spNow fm C F ns) := by
  refine FD.ok scHNow (fun vs H Q E h => ?_) (fun cdv A0 outer s H vs Q E hr h => ?_)
  · obtain ⟨A, S, l, v, t, rfl, _⟩ := h
    rfl
  · obtain ⟨A, S, l, v, t, rfl, hN, ⟨ta, rfl, hT⟩, k⟩ := h
    have hu := hu_of hr
    refine ⟨_, PSs.nox (pss_cons (ps_asg (pv 1) (pg_tup rfl (pgs_cons (pg_name (i := 2) scHNow.nd rfl (Or.inl rfl)) (pgs_cons (pg_name (i := 3) scHNow.nd rfl (Or.inl rfl)) pgs_nil))))
    (pss_cons (ps_if (PW.pt (pw_and (pt_cmpR op_eq (pv 2) pe_str (nomark _)) (pw_and1 (pt_cmp (pc_din hu (pv 3) (pe_fld (pv 0) rfl)))))) (pss_one (ps_ret (pe_tup (pa_cons pe_str (pa_cons (pe_dget hu (pe_fld (pv 0) rfl) (pv 3) (fun _ _ => rfl)) pa_nil))))) pss_nil)
    (pss_one (ps_ret (pv 1))))), ?_⟩
    cases t with
    | worth v =>
      refine ⟨_, rfl, ta, _, rfl, hT, rfl, _, _, rfl, _, _, rfl, rfl, ?_⟩
      refine ⟨_, rfl, rfl, _, rfl, ifBF (by decide +kernel) ?_⟩
      exact ⟨_, rfl, k _ H (fun _ _ h => h) ⟨ta, rfl, hT⟩⟩
    | note n =>
      refine ⟨_, rfl, ta, _, rfl, hT, rfl, _, _, rfl, _, _, rfl, rfl, ?_⟩
      refine ⟨_, rfl, rfl, _, rfl, ifB (by decide +kernel) ?_⟩
      have hg := DGet.k (k := .inl (n : Int)) hN.hw
      rw [valV_w] at hg
      refine ⟨_, rfl, _, rfl, A.x, C, A.dx, _, _, rfl, hN.hx, c.c, c.n_worths, rfl, A.wa, _, rfl, hg, _, rfl, ?_⟩
      cases e : S.worths.lookup n with
      | none =>
        rw [nowS_none e] at k
        exact ifBF rfl ⟨_, rfl, k _ H (fun _ _ h => h) ⟨ta, rfl, hT⟩⟩
      | some v =>
        rw [nowS_some e] at k
        rw [e] at hg
        exact ifB rfl ⟨_, rfl, A.x, C, A.dx, _, _, rfl, hN.hx, c.c, c.n_worths, rfl, _, rfl, A.wa, _, rfl, hg, by show 2 ≤ sizeLine; decide, fun q nq => k _ _ (same_new nq) ⟨q, rfl, .inl (.inl upd_same)⟩⟩
def spHeld (fm : Fam P w K mg base) (C : Addr) (F : List (Str × Addr)) (ns : List Str) : Sp := fun vs H Q _ => ∃ (A : Ad) (S : NS) (l : fm.L) (x : Str), vs = [.ref A.x, .str x] ∧ NtAt fm C F ns H A S l ∧ ∀ u H', Same H H' → ThAt K H' u (heldS S x) → Q u H'
theorem scHHeld : FnScope ["self", "name"] ["self", "name"] (defScope sHHeld) := ⟨rfl, rfl, rfl, by decide +kernel, rfl, by decide +kernel, by decide +kernel⟩
theorem ok_held {fm : Fam P w K mg base} {f : Addr} {fd : FuncData} (FD : FunD K "held" "Holding.held" (defArgs sHHeld) (defBody sHHeld) (defScope sHHeld) [] [] f fd) (c : NtC K C) (hNo : TupC K mg "NOTHING" [.str "worth", .int 0]) (M_now : MCal P w K mg base C "_now" 1 ["self", "thing"] (spNow fm C F ns)) : FnOk P w K mg base CX0 2 f fd ["self", "name"] (spHeld fm C F ns) := by
  refine FD.ok scHHeld (fun vs H Q E h => ?_) (fun cdv A0 outer s H vs Q E hr h => ?_)
  · obtain ⟨A, S, l, x, rfl, _⟩ := h
    rfl
  · obtain ⟨A, S, l, x, rfl, hN, k⟩ := h
    obtain ⟨no, mNo, hNo⟩ := hNo
    have hu := hu_of hr
    refine ⟨_, PSs.nox (pss_one (ps_ret (pmc M_now hr (pv 0) (pa_cons (pe_dget2 hu (pe_fld (pv 0) rfl) (pv 1) (pe_glob (v := .ref no) (by rfl) mNo rfl) ⟨rfl, rfl, rfl, rfl⟩) pa_nil)))), ?_⟩
    obtain ⟨kvs, ks, h1, h2, h3, h4, h5⟩ := hN.hh
    refine ⟨_, rfl, A.x, A.dx, _, rfl, hN.hx, rfl, ?_⟩
    refine ⟨_, rfl, A.x, C, A.dx, _, _, rfl, hN.hx, c.c, c.n_heads, rfl, A.ha, rfl, .inl ⟨_, .inl h1⟩, _, rfl, _, DGet.k (k := .inr x) h1, ?_⟩
    have hx := h5 x
    refine ⟨A, S, l, _, (S.heads x).getD (.worth (.int 0)), rfl, hN, ?_, k⟩
    cases e1 : valV kvs (.inr x) with
    | none =>
      rw [e1] at hx
      cases e2 : S.heads x with
      | none => exact ⟨no, rfl, hNo H⟩
      | some t => rw [e2] at hx; exact hx.elim
    | some v =>
      rw [e1] at hx
      cases e2 : S.heads x with
      | none => rw [e2] at hx; exact hx.elim
      | some t => rw [e2] at hx; exact hx
end
end K13
set_option Elab.async false
set_option linter.all false
set_option maxRecDepth 100000
set_option maxHeartbeats 4000000
/-! Holding._open, _worth. -/
namespace PM
open PySem PySem.Spec PyProof.Rows L2 ZX ZR
/-- either of two walks -/
def iOr (a b : TI) : TI := fun σ H R => a σ H R ∨ b σ H R
theorem pi_or {X : Cx} {tg e : Expr} {a b : TI} (h1 : PI X tg e a) (h2 : PI X tg e b) : PI X tg e (iOr a b) := ⟨fun pins s σ H R I h => h.elim (h1.run pins s σ H R I) (h2.run pins s σ H R I)⟩
def isOpen (S : NS) (fr : List (Nat × V)) : Th → Bool
  | .note n => (S.worths.lookup n).isNone && (fr.lookup n).isNone
  | .worth _ => false
def numT : Th → Nat
  | .note n => n
  | .worth _ => 0
/-- the numbers of those that wait -/
def openS (S : NS) (fr : List (Nat × V)) (ts : List Th) : List Nat := (ts.filter (isOpen S fr)).map numT
def natV (ns : List Nat) : List V := ns.map fun (n : Nat) => V.int n
def worthS (S : NS) (fr : List (Nat × V)) : Th → V
  | .worth v => v
  | .note n => match fr.lookup n with
    | some v => v
    | none => match S.worths.lookup n with
      | some v => v
      | none => .int n
theorem All2.getR {α β : Type} {R : α → β → Prop} {b : β} : ∀ {as : List α} {bs : List β} {i : Nat}, All2 R as bs → bs[i]? = some b → ∃ a, as[i]? = some a ∧ R a b
  | _, _, i, .nil, h => by simp at h
  | _, _, 0, .cons r _, h => by cases h; exact ⟨_, rfl, r⟩
  | _, _, i + 1, .cons _ t, h => All2.getR (i := i) t (by simpa using h)
theorem All2.getL {α β : Type} {R : α → β → Prop} {a : α} : ∀ {as : List α} {bs : List β} {i : Nat}, All2 R as bs → as[i]? = some a → ∃ b, bs[i]? = some b ∧ R a b
  | _, _, i, .nil, h => by simp at h
  | _, _, 0, .cons r _, h => by cases h; exact ⟨_, rfl, r⟩
  | _, _, i + 1, .cons _ t, h => All2.getL (i := i) t (by simpa using h)
end PM
namespace K13
open PySem PySem.Spec PyProof.Rows L2 ZX PM ZR
abbrev sHOpen : Stmt := inClass (top 44) 9
abbrev sHWorth : Stmt := inClass (top 44) 10
section
variable {P : Program} {w : World} {K : PySem.W.Frag} {mg : Str → Option Value} {base : Heap} {C : Addr} {F : List (Str × Addr)} {ns : List Str}
def spOpen (fm : Fam P w K mg base) (C : Addr) (F : List (Str × Addr)) (ns : List Str) : Sp := fun vs H Q _ => ∃ (A : Ad) (S : NS) (l : fm.L) (ta fa : Addr) (us : List V) (ts : List Th) (fr : List (Nat × V)), vs = [.ref A.x, .ref ta, .ref fa] ∧ NtAt fm C F ns H A S l ∧
  (SqL K H ta us ∨ SqT K H ta us) ∧ All2 (ThAt K H) us ts ∧ us.length ≤ 100 ∧ H fa = some (.dK (wKV fr)) ∧ ∀ q H', Same H H' → H q = none → H' q = some (.lst (natV (openS S fr ts))) → Q (.ref q) H'
theorem scHOpen : FnScope ["self", "things", "fresh", "kind", "what"] ["self", "things", "fresh"] (defScope sHOpen) := ⟨rfl, rfl, rfl, by decide +kernel, rfl, by decide +kernel, by decide +kernel⟩
theorem ok_open {fm : Fam P w K mg base} {f : Addr} {fd : FuncData} (FD : FunD K "_open" "Holding._open" (defArgs sHOpen) (defBody sHOpen) (defScope sHOpen) [] [] f fd) (c : NtC K C) : FnOk P w K mg base CX0 1 f fd ["self", "things", "fresh"] (spOpen fm C F ns) := by
  refine FD.ok scHOpen (fun vs H Q E h => ?_) (fun cdv A0 outer s H vs Q E hr h => ?_)
  · obtain ⟨A, S, l, ta, fa, us, ts, fr, rfl, _⟩ := h
    rfl
  · obtain ⟨A, S, l, ta, fa, us, ts, fr, rfl, hN, hS, hT, hlen, hF, k⟩ := h
    have hu := hu_of hr
    refine ⟨_, PSs.nox (pss_one (ps_ret (pe_lcS (own := [("kind", 3), ("what", 4)]) (g := gTup K 2 (gCons (gName 3) (gCons (gName 4) gNil))) (tt := tAnd (tTest (tOp rEq (tVar 3) (tC (.str "note")))) (tAnd (tB (tDNotIn (tVar 4) (tFld K (tVar 0) "worths"))) (tB (tDNotIn (tVar 4) (tVar 2))))) (te := tVar 4) (by rfl) scHOpen.nd (pi_or (pi_list (pv 1)) (pi_tup (pv 1))) (blkOk_by (N := ["self", "things", "fresh", "kind", "what"]) (sc := defScope sHOpen) (by decide +kernel))
      (fun _ _ _ _ _ => (pg_tup rfl (pgs_cons (pg_name (i := 3) scHOpen.nd rfl (Or.inl rfl)) (pgs_cons (pg_name (i := 4) scHOpen.nd rfl (Or.inl rfl)) pgs_nil))))
      (fun _ _ _ _ _ => (pts_one (PW.pt (pw_and (pt_cmpR op_eq (pv 3) pe_str (nomark _)) (pw_and (pt_cmp (pc_dnotin hu (pv 4) (pe_fld (pv 0) rfl))) (pw_and1 (pt_cmp (pc_dnotin hu (pv 4) (pv 2)))))))))
      (fun _ _ _ _ _ => (pv 4))))), ?_⟩
    have go : ∀ {J : It} {St : Hp → Prop}, IterOf J us St → (∀ H', Same H H' → Pt H H' → St H') → tLcS (fun _ _ R => R J H) (gTup K 2 (gCons (gName 3) (gCons (gName 4) gNil))) (tAnd (tTest (tOp rEq (tVar 3) (tC (.str "note")))) (tAnd (tB (tDNotIn (tVar 4) (tFld K (tVar 0) "worths"))) (tB (tDNotIn (tVar 4) (tVar 2))))) (tVar 4) [3, 4] (L2.start ["self", "things", "fresh", "kind", "what"] [.ref A.x, .ref ta, .ref fa]) H (fun v H' => Q v H') := by
      intro J St O st
      refine lc_overF (as := ts) (Rel := fun _ t y => y = .int (numT t : Nat)) (isOpen S fr) O hT.len.symm (fun _ _ _ _ _ h => h) (Nat.lt_of_le_of_lt hlen (by decide)) st ?_ ?_
      · intro i x t hx ht H' sm pt R N kR kN
        obtain ⟨b, hb, hbt⟩ := hT.getL hx
        rw [ht] at hb
        cases hb
        obtain ⟨xa, rfl, hxS⟩ := hbt.pt pt
        have hN' := hN.same sm
        cases t with
        | worth v =>
          refine ⟨xa, _, rfl, hxS, rfl, _, _, rfl, _, _, rfl, rfl, rfl, ?_⟩
          exact ⟨_, rfl, rfl, _, rfl, ifBF (by decide +kernel) (ifBF rfl (kN rfl _ fun _ _ h => h))⟩
        | note n =>
          refine ⟨xa, _, rfl, hxS, rfl, _, _, rfl, _, _, rfl, rfl, rfl, ?_⟩
          have hg := DGet.k (k := .inl (n : Int)) hN'.hw
          have hg2 := DGet.k (k := .inl (n : Int)) (sm _ _ hF)
          rw [valV_w] at hg hg2
          refine ⟨_, rfl, rfl, _, rfl, ifB (by decide +kernel) ?_⟩
          refine ⟨_, rfl, _, rfl, A.x, C, A.dx, _, _, rfl, hN'.hx, c.c, c.n_worths, rfl, A.wa, _, rfl, hg, _, rfl, ?_⟩
          cases e1 : S.worths.lookup n with
          | some v => exact ifBF rfl (ifBF rfl (kN (by simp [isOpen, e1]) _ fun _ _ h => h))
          | none =>
            refine ifB rfl ⟨_, rfl, _, rfl, fa, _, rfl, hg2, _, rfl, ?_⟩
            cases e2 : fr.lookup n with
            | some v => exact ifBF rfl (kN (by simp [isOpen, e2]) _ fun _ _ h => h)
            | none => exact ifB rfl ⟨_, rfl, kR (by simp [isOpen, e1, e2]) _ _ (fun _ _ h => h) rfl⟩
      · intro D ys H' sm pt nD hD all
        refine k D H' sm nD ?_
        have e := All2.map all
        rw [hD, e]
        unfold openS natV
        rw [List.map_map]
        rfl
    refine lc_into ?_
    rcases hS with hS | hS
    · exact .inl ⟨_, rfl, ta, rfl, ⟨_, hS⟩, go it_list fun H' s _ => s.seq hS⟩
    · exact .inr ⟨_, rfl, ta, rfl, ⟨_, hS⟩, go it_tup fun H' _ p => p.sq hS⟩
def spWorth (fm : Fam P w K mg base) (C : Addr) (F : List (Str × Addr)) (ns : List Str) : Sp := fun vs H Q _ => ∃ (A : Ad) (S : NS) (l : fm.L) (v : V) (t : Th) (fa : Addr) (fr : List (Nat × V)), vs = [.ref A.x, v, .ref fa] ∧ NtAt fm C F ns H A S l ∧ ThAt K H v t ∧ H fa = some (.dK (wKV fr)) ∧ ∀ H', Same H H' → Q (worthS S fr t) H'
theorem scHWorth : FnScope ["self", "thing", "fresh", "kind", "what"] ["self", "thing", "fresh"] (defScope sHWorth) := ⟨rfl, rfl, rfl, by decide +kernel, rfl, by decide +kernel, by decide +kernel⟩
theorem ok_worth {fm : Fam P w K mg base} {f : Addr} {fd : FuncData} (FD : FunD K "_worth" "Holding._worth" (defArgs sHWorth) (defBody sHWorth) (defScope sHWorth) [] [] f fd) (c : NtC K C) (M_now : MCal P w K mg base C "_now" 1 ["self", "thing"] (spNow fm C F ns)) : FnOk P w K mg base CX0 2 f fd ["self", "thing", "fresh"] (spWorth fm C F ns) := by
  refine FD.ok scHWorth (fun vs H Q E h => ?_) (fun cdv A0 outer s H vs Q E hr h => ?_)
  · obtain ⟨A, S, l, v, t, fa, fr, rfl, _⟩ := h
    rfl
  · obtain ⟨A, S, l, v, t, fa, fr, rfl, hN, ⟨ta, rfl, hT⟩, hF, k⟩ := h
    have hu := hu_of hr
    refine ⟨_, PSs.nox (pss_cons (ps_asg (pv 1) (pg_tup rfl (pgs_cons (pg_name (i := 3) scHWorth.nd rfl (Or.inl rfl)) (pgs_cons (pg_name (i := 4) scHWorth.nd rfl (Or.inl rfl)) pgs_nil))))
    (pss_cons (ps_if (PW.pt (pw_and (pt_cmpR op_eq (pv 3) pe_str (nomark _)) (pw_and1 (pt_cmp (pc_din hu (pv 4) (pv 2)))))) (pss_one (ps_ret (pe_dget hu (pv 2) (pv 4) (fun _ _ => rfl)))) pss_nil)
    (pss_one (ps_ret (pe_ix ix_tup (pmc M_now hr (pv 0) (pa_cons (pv 1) pa_nil)) pe_int (fun _ _ => rfl)))))), ?_⟩
    have hnow : ∀ {σ : L2.St}, σ[0]? = some (some (.ref A.x)) → σ[1]? = some (some (.ref ta)) → ∀ {D : VK}, (∀ u H', Same H H' → ThAt K H' u (nowS S t) → D u H') → tMeth C "_now" (spNow fm C F ns) [] E0 (tVar 0) (tCons (tVar 1) tNil) σ H D := fun {σ} h0 h1 {D} kk =>
      ⟨_, h0, A.x, A.dx, _, rfl, hN.hx, rfl, _, h1, A, S, l, _, t, rfl, hN, ⟨ta, rfl, hT⟩, kk⟩
    cases t with
    | worth v =>
      refine ⟨_, rfl, ta, _, rfl, hT, rfl, _, _, rfl, _, _, rfl, rfl, ?_⟩
      refine ⟨_, rfl, rfl, _, rfl, ifBF (by decide +kernel) ?_⟩
      refine hnow rfl rfl fun u H' sm hu' => ?_
      obtain ⟨ua, rfl, hU⟩ := hu'
      exact ⟨ua, _, 1, _, rfl, rfl, hU, rfl, k H' sm⟩
    | note n =>
      refine ⟨_, rfl, ta, _, rfl, hT, rfl, _, _, rfl, _, _, rfl, rfl, ?_⟩
      have hg := DGet.k (k := .inl (n : Int)) hF
      rw [valV_w] at hg
      refine ⟨_, rfl, rfl, _, rfl, ifB (by decide +kernel) ⟨_, rfl, _, rfl, fa, _, rfl, hg, _, rfl, ?_⟩⟩
      have ew : worthS S fr (.note n) = match fr.lookup n with
          | some v => v
          | none => match S.worths.lookup n with
            | some v => v
            | none => .int n := rfl
      rw [ew] at k
      cases e1 : fr.lookup n with
      | some v =>
        rw [e1] at hg k
        exact ifB rfl ⟨_, rfl, _, rfl, fa, _, rfl, hg, k H fun _ _ h => h⟩
      | none =>
        rw [e1] at k
        refine ifBF rfl ?_
        refine hnow rfl rfl fun u H' sm hu' => ?_
        obtain ⟨ua, rfl, hU⟩ := hu'
        cases e2 : S.worths.lookup n with
        | some v =>
          rw [e2] at k
          rw [nowS_some e2] at hU
          exact ⟨ua, _, 1, _, rfl, rfl, hU, rfl, k H' sm⟩
        | none =>
          rw [e2] at k
          rw [nowS_none e2] at hU
          exact ⟨ua, _, 1, _, rfl, rfl, hU, rfl, k H' sm⟩
end
end K13
set_option Elab.async false
set_option linter.all false
set_option maxRecDepth 100000
set_option maxHeartbeats 4000000
/-! Holding._worked_out. -/
namespace PM
open PySem PySem.Spec PyProof.Rows L2 ZX ZR
section
variable {P : Program} {w : World} {K : PySem.W.Frag} {mg : Str → Option Value} {base : Heap}
/-- what is worked out, note by note: the pile of numbers (its top first), what is worth freshly, the account -/
inductive Wo (fm : Fam P w K mg base) (S : NS) : List Nat → List (Nat × V) → fm.L → List (Nat × V) → fm.L → Prop
  | done {fr : List (Nat × V)} {l : fm.L} : Wo fm S [] fr l fr l
  | push {k b : Nat} {ah bs : List Nat} {fr fr' : List (Nat × V)} {l l' : fm.L} {m : Str × List Th} (hk : S.made[k]? = some m) (ho : openS S fr m.2 = b :: bs) (h : Wo fm S (b :: k :: ah) fr l fr' l') : Wo fm S (k :: ah) fr l fr' l'
  | call {k : Nat} {ah : List Nat} {fr fr' : List (Nat × V)} {l l1 l' : fm.L} {m : Str × List Th} {v : V} (hk : S.made[k]? = some m) (ho : openS S fr m.2 = []) (hc : fm.call m.1 (m.2.map (worthS S fr)) l v l1) (h : Wo fm S ah (fr ++ [(k, v)]) l1 fr' l') : Wo fm S (k :: ah) fr l fr' l'
/-- what is worth freshly -/
structure FrOk (fm : Fam P w K mg base) (S : NS) (fr : List (Nat × V)) : Prop where
  nd : (fr.map (·.1)).Nodup
  lt : ∀ p ∈ fr, p.1 < S.made.length
  un : ∀ p ∈ fr, S.worths.lookup p.1 = none
  ok : ∀ p ∈ fr, fm.Ok p.2
/-- the functions of the family, as a local name may hold them -/
def FamS (fm : Fam P w K mg base) (f : Addr) (R : Hp → Prop) (sp : Sp) : Prop := ∃ o, R = fm.Fn o f ∧ sp = (fun vs H Q _ => ∃ t ws l, vs = [.ref t] ∧ SqT K H t ws ∧ ws.length ≤ 3 ∧ (∀ v ∈ ws, fm.Ok v) ∧ Mks fm.out H ∧ fm.At l H ∧ fm.sz l < 100000 ∧ ∀ v l' H', fm.call o ws l v l' → fm.Ok v → Fz fm.out H H' → fm.At l' H' → Q v H')
theorem FamS.callee {fm : Fam P w K mg base} {f : Addr} {R : Hp → Prop} {sp : Sp} (h : FamS fm f R sp) : Callee P w K mg base fm.lev f R sp := by
  obtain ⟨o, rfl, rfl⟩ := h
  exact fm.callee o f
theorem Wo.sz {fm : Fam P w K mg base} {S : NS} {ah : List Nat} {fr fr' : List (Nat × V)} {l l' : fm.L} (h : Wo fm S ah fr l fr' l') : fm.sz l' + fr.length ≤ fm.sz l + fr'.length := by
  induction h with
  | done => exact Nat.le_refl _
  | push _ _ _ ih => exact ih
  | call _ _ hc _ ih =>
    have := fm.szC hc
    rw [List.length_append, List.length_singleton] at ih
    omega
variable {fm : Fam P w K mg base} {C : Addr} {F : List (Str × Addr)} {ns : List Str} {H H' : Hp} {A : Ad} {S : NS} {l l' : fm.L}
theorem NtAt.own_out (h : NtAt fm C F ns H A S l) : ∀ b ∈ A.own, b ∉ fm.out := fun b hb hm => (List.nodup_append.mp (List.nodup_cons.mp h.nd).2).2.2 b hb b hm rfl
theorem NtAt.fa_out (h : NtAt fm C F ns H A S l) : A.fa ∉ fm.out := fun hm => (List.nodup_cons.mp h.nd).1 (List.mem_append_right _ hm)
theorem NtAt.x_out (h : NtAt fm C F ns H A S l) : A.x ∉ fm.out := h.mo.no h.hx fun z => by
  rcases z with ⟨_, z⟩ | ⟨_, z⟩ <;> cases z
/-- behind a call of a function -/
theorem NtAt.call (h : NtAt fm C F ns H A S l) (z : Fz fm.out H H') (a : fm.At l' H') : NtAt fm C F ns H' A S l' := by
  obtain ⟨kvs, ks, h1, h2, h3, h4, h5⟩ := h.hh
  obtain ⟨us, g1, g2⟩ := h.hm
  obtain ⟨ts, t1, t2⟩ := h.ht
  have pt := z.pt h.mo
  have oo := h.own_out
  exact ⟨z.keep _ _ h.x_out h.hx, z.keep _ _ h.fa_out h.hf, fun p hp => fm.fnK (h.fns p hp) h.mo z, ⟨kvs, ks, z.keep _ _ (oo _ (by simp [Ad.own])) h1, h2, h3, h4, fun x => (h5 x).pt pt⟩, ⟨us, z.keep _ _ (oo _ (by simp [Ad.own])) g1, g2.imp fun _ _ q => q.pt pt⟩,
    z.keep _ _ (oo _ (by simp [Ad.own])) h.hw, z.keep _ _ (oo _ (by simp [Ad.own])) h.ho, z.keep _ _ (oo _ (by simp [Ad.own])) h.hp, ⟨ts, z.keep _ _ (oo _ (by simp [Ad.own])) t1, t2.imp fun _ _ q => q.pt pt⟩, h.nd, z.mks, a, h.wf⟩
/-- a new thing that is not the notes' is changed -/
theorem NtAt.put {b : Addr} {o : HO} (h : NtAt fm C F ns H A S l) (m : IsM (H b)) (i : IsM (some o)) (nf : b ≠ A.fa) (no : b ∉ A.own) (nu : b ∉ fm.out) : NtAt fm C F ns (upd H b o) A S l := by
  have mb : Mks [b] H := fun c hc => by
    rw [List.mem_singleton.mp hc]
    exact m
  have z : Fz [b] H (upd H b o) := Fz.put mb List.mem_cons_self i
  obtain ⟨kvs, ks, h1, h2, h3, h4, h5⟩ := h.hh
  obtain ⟨us, g1, g2⟩ := h.hm
  obtain ⟨ts, t1, t2⟩ := h.ht
  have pt := z.pt mb
  have kp : ∀ {c : Addr} {u : HO}, c ≠ b → H c = some u → upd H b o c = some u := fun n e => by
    rw [upd_ne n]
    exact e
  have ow : ∀ {c : Addr}, c ∈ A.own → c ≠ b := fun hc e => no (by rw [← e]; exact hc)
  have nx : A.x ≠ b := fun e => by
    rw [← e, h.hx] at m
    rcases m with ⟨_, q⟩ | ⟨_, q⟩ <;> cases q
  exact ⟨kp nx h.hx, kp (Ne.symm nf) h.hf, fun p hp => fm.fnK (h.fns p hp) mb z, ⟨kvs, ks, kp (ow (by simp [Ad.own])) h1, h2, h3, h4, fun x => (h5 x).pt pt⟩, ⟨us, kp (ow (by simp [Ad.own])) g1, g2.imp fun _ _ q => q.pt pt⟩,
    kp (ow (by simp [Ad.own])) h.hw, kp (ow (by simp [Ad.own])) h.ho, kp (ow (by simp [Ad.own])) h.hp, ⟨ts, kp (ow (by simp [Ad.own])) t1, t2.imp fun _ _ q => q.pt pt⟩, h.nd, h.mo.put i, fm.atK h.at_ mb z (fun c hc m => nu (by rw [← List.mem_singleton.mp m]; exact hc)), h.wf⟩
/-- where nothing stood, nothing of the notes stands -/
theorem NtAt.new_ne (h : NtAt fm C F ns H A S l) {b : Addr} (n : H b = none) : b ≠ A.fa ∧ b ∉ A.own ∧ b ∉ fm.out := by
  refine ⟨fun e => ?_, fun hb => ?_, fun hb => ?_⟩
  · rw [e, h.hf] at n
    cases n
  · rcases h.mks b hb with ⟨_, e⟩ | ⟨_, e⟩ <;> rw [n] at e <;> cases e
  · rcases h.mo b hb with ⟨_, e⟩ | ⟨_, e⟩ <;> rw [n] at e <;> cases e
theorem valF {o : Str} : ∀ {F : List (Str × Addr)}, o ∈ F.map (·.1) → ∃ f, valV (F.map fun p => ((.inr p.1 : Key), V.ref p.2)) (.inr o) = some (.ref f) ∧ (o, f) ∈ F
  | (x, f) :: F, h => by
    by_cases e : x = o
    · subst e
      exact ⟨f, by rw [List.map_cons, valV_pos rfl], List.mem_cons_self⟩
    · rcases List.mem_cons.mp h with rfl | h
      · exact absurd rfl e
      · obtain ⟨g, h1, h2⟩ := valF h
        exact ⟨g, by rw [List.map_cons, valV_neg (fun z => e (by injection z)), h1], List.mem_cons_of_mem _ h2⟩
end
theorem look_none {n : Nat} : ∀ {fr : List (Nat × V)}, fr.lookup n = none ↔ n ∉ fr.map (·.1)
  | [] => by simp
  | (k, v) :: fr => by
    rw [List.lookup_cons, List.map_cons, List.mem_cons, not_or, ← look_none (fr := fr)]
    by_cases e : n = k
    · subst e
      simp
    · have : (n == k) = false := beq_eq_false_iff_ne.mpr e
      rw [this]
      simp [e]
theorem wKV_put {fr : List (Nat × V)} {k : Nat} {v : V} (h : fr.lookup k = none) : putK (wKV fr) (.inl (k : Int)) v = wKV (fr ++ [(k, v)]) := by
  rw [putK_new v (by rw [valV_w]; exact h)]
  unfold wKV
  rw [List.map_append]
  rfl
theorem mem_open {S : NS} {fr : List (Nat × V)} {ts : List Th} {n : Nat} : n ∈ openS S fr ts ↔ Th.note n ∈ ts ∧ S.worths.lookup n = none ∧ fr.lookup n = none := by
  unfold openS
  rw [List.mem_map]
  constructor
  · rintro ⟨t, ht, e⟩
    obtain ⟨h1, h2⟩ := List.mem_filter.mp ht
    cases t with
    | worth v => cases h2
    | note m =>
      obtain rfl : m = n := e
      simp only [isOpen, Bool.and_eq_true, Option.isNone_iff_eq_none] at h2
      exact ⟨h1, h2⟩
  · rintro ⟨h1, h2, h3⟩
    exact ⟨.note n, List.mem_filter.mpr ⟨h1, by simp [isOpen, h2, h3]⟩, rfl⟩
end PM
namespace PM
open PySem PySem.Spec PyProof.Rows L2 ZX ZR
section
variable {P : Program} {w : World} {K : PySem.W.Frag} {mg : Str → Option Value} {base : Heap} {fm : Fam P w K mg base} {F : List (Str × Addr)} {ns : List Str} {S : NS} {fr : List (Nat × V)}
/-- the pile: its top the least, none worked out -/
structure PiOk (S : NS) (fr : List (Nat × V)) (ah : List Nat) : Prop where
  asc : ah.Pairwise (· < ·)
  lt : ∀ k ∈ ah, k < S.made.length
  un : ∀ k ∈ ah, S.worths.lookup k = none
  nf : ∀ k ∈ ah, fr.lookup k = none
def topN : List Nat → Nat
  | [] => 0
  | k :: _ => k + 1
def msW (S : NS) (fr : List (Nat × V)) (ah : List Nat) : Nat := (S.made.length - fr.length) * (S.made.length + 1) + topN ah
theorem msW_call {k : Nat} {ah : List Nat} {v : V} (hl : fr.length < S.made.length) (ha : ∀ k ∈ ah, k < S.made.length) : msW S (fr ++ [(k, v)]) ah < msW S fr (k :: ah) := by
  unfold msW
  rw [List.length_append, List.length_singleton]
  have h1 : topN ah ≤ S.made.length := by
    cases ah with
    | nil => exact Nat.zero_le _
    | cons b bs => exact ha b List.mem_cons_self
  have h2 : S.made.length - fr.length = (S.made.length - (fr.length + 1)) + 1 := by omega
  rw [h2, Nat.succ_mul]
  show _ + topN ah < _ + (k + 1)
  omega
theorem nodup_lt : ∀ {n : Nat} {l : List Nat}, l.Nodup → (∀ k ∈ l, k < n) → l.length ≤ n := fun {n l} nd h => by
  have hs : l ⊆ List.range n := fun k hk => List.mem_range.mpr (h k hk)
  have := List.Nodup.length_le_of_subset nd hs
  rwa [List.length_range] at this
theorem FrOk.len_lt {k : Nat} (h : FrOk fm S fr) (hk : k < S.made.length) (nf : fr.lookup k = none) : fr.length < S.made.length := by
  have nd : (k :: fr.map (·.1)).Nodup := List.nodup_cons.mpr ⟨look_none.mp nf, h.nd⟩
  have := nodup_lt nd (n := S.made.length) (fun j hj => by
    rcases List.mem_cons.mp hj with rfl | hj
    · exact hk
    · obtain ⟨p, hp, rfl⟩ := List.mem_map.mp hj
      exact h.lt p hp)
  rw [List.length_cons, List.length_map] at this
  omega
theorem FrOk.more {k : Nat} {v : V} (h : FrOk fm S fr) (hk : k < S.made.length) (nf : fr.lookup k = none) (hu : S.worths.lookup k = none) (hv : fm.Ok v) : FrOk fm S (fr ++ [(k, v)]) := by
  refine ⟨?_, fun p hp => ?_, fun p hp => ?_, fun p hp => ?_⟩
  · rw [List.map_append]
    exact List.nodup_append.mpr ⟨h.nd, by simp, fun a ha b hb e => look_none.mp nf (by
      have hb : b = k := by simpa using hb
      rw [← hb, ← e]
      exact ha)⟩
  all_goals
    rcases List.mem_append.mp hp with hp | hp
    · first | exact h.lt p hp | exact h.un p hp | exact h.ok p hp
    · rw [List.mem_singleton.mp hp]
      assumption
theorem look_snoc {k j : Nat} {v : V} (h : fr.lookup j = none) (n : j ≠ k) : (fr ++ [(k, v)]).lookup j = none := by
  rw [look_none, List.map_append, List.mem_append, not_or]
  exact ⟨look_none.mp h, by simpa using n⟩
/-- what a note's parts are worth when none of them waits -/
theorem worth_ok {k : Nat} {m : Str × List Th} (wf : WfS fm F ns S) (hf : FrOk fm S fr) (hk : S.made[k]? = some m) (ho : openS S fr m.2 = []) : ∀ v ∈ m.2.map (worthS S fr), fm.Ok v := fun v hv => by
  obtain ⟨t, ht, rfl⟩ := List.mem_map.mp hv
  cases t with
  | worth u => exact wf.okm m (List.mem_of_getElem? hk) u ht
  | note n =>
    show fm.Ok (match fr.lookup n with
      | some v => v
      | none => match S.worths.lookup n with
        | some v => v
        | none => .int n)
    cases e1 : fr.lookup n with
    | some v => exact hf.ok _ (look_mem e1)
    | none =>
      cases e2 : S.worths.lookup n with
      | some v => exact wf.okw _ (look_mem e2)
      | none => exact fm.okI _
end
end PM
namespace K13
open PySem PySem.Spec PyProof.Rows L2 ZX PM ZR
abbrev sHWorkedOut : Stmt := inClass (top 44) 12
section
variable {P : Program} {w : World} {K : PySem.W.Frag} {mg : Str → Option Value} {base : Heap} {C : Addr} {F : List (Str × Addr)} {ns : List Str}
def spWorkedOut (fm : Fam P w K mg base) (C : Addr) (F : List (Str × Addr)) (ns : List Str) : Sp := fun vs H Q _ => ∃ (A : Ad) (S : NS) (l : fm.L) (v : V) (t : Th), vs = [.ref A.x, v] ∧ NtAt fm C F ns H A S l ∧ ThAt K H v t ∧ OkT fm S t ∧ fm.sz l ≤ S.worths.length ∧
  ∀ q fr l' H', Fz fm.out H H' → NtAt fm C F ns H' A S l' → H q = none → H' q = some (.dK (wKV fr)) → Wo fm S (openS S [] [t]) [] l fr l' → FrOk fm S fr → Q (.ref q) H'
abbrev NWO : List Str := ["self", "thing", "fresh", "ahead", "op", "parts", "beneath", "work", "part"]
theorem scHWorkedOut : FnScope NWO ["self", "thing"] (defScope sHWorkedOut) := ⟨rfl, rfl, rfl, by decide +kernel, rfl, by decide +kernel, by decide +kernel⟩
theorem ok_worked_out {fm : Fam P w K mg base} {f : Addr} {fd : FuncData} (FD : FunD K "_worked_out" "Holding._worked_out" (defArgs sHWorkedOut) (defBody sHWorkedOut) (defScope sHWorkedOut) [] [] f fd) (T : Bi mg) (c : NtC K C) (M_open : MCal P w K mg base C "_open" 1 ["self", "things", "fresh"] (spOpen fm C F ns)) (M_worth : MCal P w K mg base C "_worth" 2 ["self", "thing", "fresh"] (spWorth fm C F ns)) : FnOk P w K mg base CX0 (fm.lev + 3) f fd ["self", "thing"] (spWorkedOut fm C F ns) := by
  refine FD.ok scHWorkedOut (fun vs H Q E h => ?_) (fun cdv A0 outer s H vs Q E hr h => ?_)
  · obtain ⟨A, S, l, v, t, rfl, _⟩ := h
    rfl
  · obtain ⟨A, S, l, v, t, rfl, hN, hT, hOk, hsz, k⟩ := h
    have hu := hu_of hr
    have hr1 := hr.mono (show 1 ≤ fm.lev + 2 by omega)
    have hr2 := hr.mono (show 2 ≤ fm.lev + 2 by omega)
    have hrF := hr.mono (show fm.lev ≤ fm.lev + 2 by omega)
    refine ⟨_, PSs.nox (pss_cut (ps_set (i := 2) scHWorkedOut.nd rfl (Or.inr rfl) pe_dnewK)
    (pss_cut (ps_set (i := 3) scHWorkedOut.nd rfl (Or.inl rfl) (pmc M_open hr1 (pv 0) (pa_cons (pe_lst (pa_cons (pv 1) pa_nil)) (pa_cons (pv 2) pa_nil))))
    (pss_cons (ps_while PassesOwn.never (pt_truth (pv 3) (by intro _; rfl)) (pss_cons (ps_asg (pe_ix ix_list (pe_fld (pv 0) rfl) (pe_ix ix_list (pv 3) (pe_un un_neg pe_int) (fun _ _ => rfl)) (fun _ _ => rfl)) (pg_tup rfl (pgs_cons (pg_name (i := 4) scHWorkedOut.nd rfl (Or.inl rfl)) (pgs_cons (pg_name (i := 5) scHWorkedOut.nd rfl (Or.inl rfl)) pgs_nil))))
      (pss_cons (ps_set (i := 6) scHWorkedOut.nd rfl (Or.inl rfl) (pmc M_open hr1 (pv 0) (pa_cons (pv 5) (pa_cons (pv 2) pa_nil))))
      (pss_one (ps_if (pt_truth (pv 6) (by intro _; rfl)) (pss_one (ps_expr (pe_bm PySem.F.plainAttrs_list PySem.F.slot_list_append PySem.F.type_list_append mt_append (pv 3) (pa_cons (pe_ix ix_list (pv 6) pe_int (fun _ _ => rfl)) pa_nil))))
        (pss_cons (ps_set (i := 7) scHWorkedOut.nd rfl (Or.inl rfl) (pe_dget hu (pe_fld (pv 0) rfl) (pv 4) (fun _ _ => rfl)))
        (pss_cons (ps_dput hu (pv 2) (pe_ix ix_list (pv 3) (pe_un un_neg pe_int) (fun _ _ => rfl)) (pe_callV (S := FamS fm) (k := fm.lev) (i := 7) (x := "work") (fun _ _ _ h => h.callee) hrF rfl (Or.inl rfl) (pa_cons (pe_callTy call_tuple_of (by rfl) T.b_tuple (by decide +kernel) (pa_cons (pe_lcS (own := [("part", 8)]) (g := gName 8) (tt := tYes) (te := tMeth C "_worth" (spWorth fm C F ns) [] E0 (tVar 0) (tCons (tVar 8) (tCons (tVar 2) tNil))) (by rfl) scHWorkedOut.nd (pi_tup (pv 5)) (blkOk_by (N := NWO) (sc := defScope sHWorkedOut) (by decide +kernel)) (fun _ _ _ _ _ => (pg_name (i := 8) scHWorkedOut.nd rfl (Or.inl rfl))) (fun _ _ _ _ _ => pts_nil) (fun _ _ _ _ _ => (pmc M_worth hr2 (pv 0) (pa_cons (pv 8) (pa_cons (pv 2) pa_nil))))) pa_nil)) pa_nil)) rfl)
        (pss_one (ps_expr (pe_bm0 PySem.F.plainAttrs_list PySem.F.slot_list_pop PySem.F.type_list_pop mt_pop (pv 3)))))))))))
    (pss_one (ps_ret (pv 2)))))), ?_⟩
    refine ⟨fun σ1 H1 => ∃ fa, σ1 = [some (.ref A.x), some v, some (.ref fa), none, none, none, none, none, none] ∧ H fa = none ∧ Same H H1 ∧ H1 fa = some (.dK (wKV [])), fun fa nf => ⟨fa, rfl, nf, same_new nf, upd_same⟩, ?_⟩
    rintro σ1 H1 ⟨fa, rfl, nfa, s1, hfa1⟩
    have hN1 := hN.same s1
    refine ⟨fun σ2 H2 => ∃ aa, σ2 = [some (.ref A.x), some v, some (.ref fa), some (.ref aa), none, none, none, none, none] ∧ H1 aa = none ∧ Same H1 H2 ∧ H2 aa = some (.lst (natV (openS S [] [t]))), ?_, ?_⟩
    · refine ⟨_, rfl, A.x, A.dx, _, rfl, hN1.hx, rfl, _, rfl, by show 1 ≤ sizeLine; decide, fun q nq => ⟨_, rfl, ?_⟩⟩
      have sq := same_new (o := .lst [v]) nq
      refine ⟨A, S, l, q, fa, [v], [t], [], rfl, hN1.same sq, .inl (SqL.of upd_same), .cons ((hT.pt s1.pt).pt sq.pt) .nil, by show 1 ≤ 100; decide, sq _ _ hfa1, fun u H2 s2 nu hu2 => ⟨u, rfl, sq.free nu, sq.trans s2, hu2⟩⟩
    rintro σ2 H2 ⟨aa, rfl, naa, s2, haa2⟩
    have hN2 := hN1.same s2
    have hfa2 := s2 _ _ hfa1
    have nfa2 : fa ≠ aa := ne_of_none hfa1 naa
    have hfresh : ∀ {b : Addr}, H b = none → b ≠ A.fa ∧ b ∉ A.own ∧ b ∉ fm.out := fun n => hN.new_ne n
    have naa0 : H aa = none := s1.free naa
    -- between two turns
    refine ⟨fun n σ' H' => ∃ (ah : List Nat) (fr : List (Nat × V)) (l' : fm.L) (y4 y5 y6 y7 : Option V), σ' = [some (.ref A.x), some v, some (.ref fa), some (.ref aa), y4, y5, y6, y7, none] ∧ Fz fm.out H H' ∧ NtAt fm C F ns H' A S l' ∧ H' aa = some (.lst (natV ah.reverse)) ∧ H' fa = some (.dK (wKV fr)) ∧
      PiOk S fr ah ∧ FrOk fm S fr ∧ (∀ fr' l'', Wo fm S ah fr l' fr' l'' → Wo fm S (openS S [] [t]) [] l fr' l'') ∧ fm.sz l' ≤ S.worths.length + fr.length ∧ n = msW S fr ah, ⟨_, openS S [] [t], [], l, none, none, none, none, rfl, (s1.trans s2).fz hN.mo, hN2, ?_, hfa2, ?_, ⟨List.nodup_nil, fun _ h => (nomatch h), fun _ h => (nomatch h), fun _ h => (nomatch h)⟩, fun _ _ h => h, hsz, rfl⟩, ?_⟩
    · have hlen : (openS S [] [t]).length ≤ 1 := by
        unfold openS
        rw [List.length_map]
        exact List.length_filter_le _ _
      rw [haa2]
      cases e : openS S [] [t] with
      | nil => rfl
      | cons a l1 =>
        rw [e] at hlen
        cases l1 with
        | nil => rfl
        | cons b l2 => simp at hlen
    · have hlen : (openS S [] [t]).length ≤ 1 := by
        unfold openS
        rw [List.length_map]
        exact List.length_filter_le _ _
      have hm : ∀ n ∈ openS S [] [t], t = .note n ∧ S.worths.lookup n = none := fun n hn => by
        obtain ⟨h1, h2, _⟩ := mem_open.mp hn
        exact ⟨(List.mem_singleton.mp h1).symm, h2⟩
      refine ⟨?_, fun n hn => hOk.1 n (hm n hn).1, fun n hn => (hm n hn).2, fun n hn => rfl⟩
      cases e : openS S [] [t] with
      | nil => exact .nil
      | cons a l1 =>
        rw [e] at hlen
        cases l1 with
        | nil => exact List.pairwise_singleton _ _
        | cons b l2 => simp at hlen
    rintro n σ' H' ⟨ah, fr, l', y4, y5, y6, y7, rfl, z, hN', haa, hfa, hp, hfr, kW, hsz', rfl⟩
    refine ⟨_, rfl, _, .inl ⟨_, SqL.of haa, rfl⟩, ?_⟩
    cases ah with
    | nil => exact ifBF rfl ⟨_, rfl, k fa fr l' H' z hN' nfa hfa (kW fr l' .done) hfr⟩
    | cons k0 ah =>
    have hrev : natV (k0 :: ah).reverse = natV ah.reverse ++ [.int (k0 : Nat)] := by
      unfold natV
      rw [List.reverse_cons, List.map_append]
      rfl
    rw [hrev] at haa ⊢
    have hne : (!(natV ah.reverse ++ [V.int (k0 : Nat)]).isEmpty) = true := by
      cases natV ah.reverse <;> rfl
    refine ifB hne ?_
    have hk0 : k0 < S.made.length := hp.lt k0 List.mem_cons_self
    obtain ⟨us, hma, hall⟩ := hN'.hm
    have hget : S.made[k0]? = some S.made[k0] := List.getElem?_eq_getElem hk0
    obtain ⟨u, hu0, ⟨a, b, ps, rfl, hSa, hSb, hps⟩⟩ := hall.getR hget
    refine ⟨fun σ3 H3 => ∃ m', m' < msW S fr (k0 :: ah) ∧ ∃ (ah : List Nat) (fr : List (Nat × V)) (l' : fm.L) (y4 y5 y6 y7 : Option V), σ3 = [some (.ref A.x), some v, some (.ref fa), some (.ref aa), y4, y5, y6, y7, none] ∧ Fz fm.out H H3 ∧ NtAt fm C F ns H3 A S l' ∧ H3 aa = some (.lst (natV ah.reverse)) ∧ H3 fa = some (.dK (wKV fr)) ∧
      PiOk S fr ah ∧ FrOk fm S fr ∧ (∀ fr' l'', Wo fm S ah fr l' fr' l'' → Wo fm S (openS S [] [t]) [] l fr' l'') ∧ fm.sz l' ≤ S.worths.length + fr.length ∧ m' = msW S fr ah, fun _ _ h => h, ?_⟩
    refine ⟨_, rfl, A.x, C, A.dx, _, _, rfl, hN'.hx, c.c, c.n_made, rfl, _, rfl, 1, rfl, aa, _, -1, _, rfl, rfl, SqL.of haa, atI_last _ _, A.ma, us, _, _, rfl, rfl, SqL.of hma, atI_nat hu0, a, _, rfl, hSa, rfl, _, _, rfl, _, _, rfl, rfl, ?_⟩
    have hlow := hN'.wf.low k0 _ hget
    refine ⟨_, rfl, A.x, A.dx, _, rfl, hN'.hx, rfl, _, rfl, _, rfl, A, S, l', b, fa, ps, S.made[k0].2, fr, rfl, hN', .inr hSb, hps, by rw [hps.len]; exact Nat.le_trans hlow.1 (by decide), hfa, fun q H4 s4 nq hq => ?_⟩
    have hN4 := hN'.same s4
    have haa4 := s4 _ _ haa
    have hfa4 := s4 _ _ hfa
    have z4 := z.trans (s4.fz z.mks)
    refine ⟨_, rfl, _, .inl ⟨_, SqL.of hq, rfl⟩, ?_⟩
    cases ho : openS S fr S.made[k0].2 with
    | cons b0 bs =>
      rw [ho] at hq
      refine ifB rfl ?_
      have hb0 := mem_open.mp (show b0 ∈ openS S fr S.made[k0].2 by rw [ho]; exact List.mem_cons_self)
      have hbk : b0 < k0 := hlow.2 b0 hb0.1
      obtain ⟨n1, n2, n3⟩ := hfresh naa0
      have hc2 : ∀ j ∈ ah, k0 < j := (List.pairwise_cons.mp hp.asc).1
      refine ⟨_, rfl, .inl ⟨rfl, _, SqL.of haa4⟩, _, rfl, q, _, 0, _, rfl, rfl, SqL.of hq, at0, aa, _, _, rfl, rfl, haa4, ?_, msW S fr (b0 :: k0 :: ah), ?_, b0 :: k0 :: ah, fr, l', _, _, _, _, rfl, z4.putN naa0 (.inl ⟨_, rfl⟩), hN4.put (.inl ⟨_, haa4⟩) (.inl ⟨_, rfl⟩) n1 n2 n3, ?_, by rw [upd_ne nfa2]; exact hfa4, ⟨?_, ?_, ?_, ?_⟩, hfr, fun fr' l'' hw => kW fr' l'' (.push hget ho hw), hsz', rfl⟩
      · have hn := nodup_lt (n := S.made.length) (l := k0 :: ah) (hp.asc.imp (fun h => Nat.ne_of_lt h)) hp.lt
        have : (natV ah.reverse ++ [V.int (k0 : Nat)]).length = (k0 :: ah).length := by
          unfold natV
          simp
        rw [this]
        exact Nat.lt_of_le_of_lt (Nat.le_trans hn hN.wf.szm) (by decide)
      · show _ + (b0 + 1) < _ + (k0 + 1)
        omega
      · rw [upd_same]
        unfold natV
        simp
      · refine List.pairwise_cons.mpr ⟨fun j hj => ?_, hp.asc⟩
        rcases List.mem_cons.mp hj with rfl | hj
        · exact hbk
        · exact Nat.lt_trans hbk (hc2 j hj)
      all_goals
        intro j hj
        rcases List.mem_cons.mp hj with rfl | hj
        · first | exact Nat.lt_trans hbk hk0 | exact hb0.2.1 | exact hb0.2.2
        · first | exact hp.lt j hj | exact hp.un j hj | exact hp.nf j hj
    | nil =>
      rw [ho] at hq
      refine ifBF rfl ?_
      obtain ⟨fx, hv, hFx⟩ := valF (hN4.wf.ops _ (List.mem_of_getElem? hget))
      have hg := DGet.k (k := .inr S.made[k0].1) hN4.hf
      rw [hv] at hg
      refine ⟨_, rfl, A.x, C, A.dx, _, _, rfl, hN4.hx, c.c, c.n_functions, rfl, _, rfl, A.fa, _, rfl, hg, ?_⟩
      have hSb4 := s4.pt.sq hSb
      refine ⟨fx, fm.Fn S.made[k0].1 fx, _, rfl, ⟨S.made[k0].1, rfl, rfl⟩, lc_into ⟨_, rfl, b, rfl, ⟨_, hSb4⟩, ?_⟩⟩
      refine lc_overA (p := none) (as := S.made[k0].2) (Rel := fun _ t y => y = worthS S fr t) it_tup hps.len.symm (fun _ _ _ _ _ h => h) (fun _ h => nomatch h) (by rw [hps.len]; exact Nat.lt_of_le_of_lt hlow.1 (by decide)) (fun H' kq pt => pt.sq hSb4) ?_ ?_
      · intro i x t0 hx ht H' kq pt R kR
        obtain ⟨t1, e1, hx1⟩ := hps.getL hx
        rw [ht] at e1
        cases e1
        have sm := kq.same
        exact ⟨rfl, _, rfl, A.x, A.dx, _, rfl, (hN4.same sm).hx, rfl, _, rfl, _, rfl, A, S, l', x, t0, fa, fr, rfl, hN4.same sm, (hx1.pt s4.pt).pt pt, sm _ _ hfa4, fun H'' s5 => kR _ _ s5.kq s5.pt rfl⟩
      intro D ys H5 kq pt nD hD all
      refine ⟨D, _, rfl, .inl ⟨SqL.of hD, fun q2 nq2 => ?_⟩⟩
      have sm := kq.same.trans (same_new (o := .tup ys) nq2)
      have hN5 := hN4.same sm
      have eys := All2.map all
      have z5 := z4.trans (sm.fz z4.mks)
      have haa5 := sm _ _ haa4
      have hfa5 := sm _ _ hfa4
      refine ⟨hN5.fns _ hFx, q2, ys, l', rfl, .inl (.inl upd_same), by rw [← all.len]; exact hlow.1, by rw [eys]; exact worth_ok hN5.wf hfr hget ho, hN5.mo, hN5.at_, ?szb, fun v1 l1 H6 hc hv1 z6 a6 => ?_⟩
      case szb =>
        have h1 := nodup_lt hN.wf.wn hN.wf.wlow
        rw [List.length_map] at h1
        have h2 := hfr.len_lt hk0 (hp.nf k0 List.mem_cons_self)
        have h3 := hN.wf.szm
        omega
      obtain ⟨n1, n2, n3⟩ := hfresh naa0
      obtain ⟨m1, m2, m3⟩ := hfresh nfa
      have haa6 := z6.keep _ _ n3 haa5
      have hfa6 := z6.keep _ _ m3 hfa5
      have hN6 := hN5.call z6 a6
      have hle := hfr.len_lt hk0 (hp.nf k0 List.mem_cons_self)
      have hnf := hp.nf k0 List.mem_cons_self
      refine ⟨_, rfl, _, rfl, 1, rfl, aa, _, -1, _, rfl, rfl, SqL.of haa6, atI_last _ _, fa, _, rfl, DPut.k (k := .inl (k0 : Int)) hfa6 ?_, ?_⟩
      · unfold wKV
        rw [List.length_map]
        exact Nat.lt_of_le_of_lt (Nat.le_trans (Nat.le_of_lt hle) hN.wf.szm) (by decide)
      rw [wKV_put hnf]
      have haa7 : upd H6 fa (.dK (wKV (fr ++ [(k0, v1)]))) aa = some (.lst (natV ah.reverse ++ [.int (k0 : Nat)])) := by
        rw [upd_ne (Ne.symm nfa2)]
        exact haa6
      have hN7 := hN6.put (o := .dK (wKV (fr ++ [(k0, v1)]))) (.inr ⟨_, hfa6⟩) (.inr ⟨_, rfl⟩) m1 m2 m3
      refine ⟨_, rfl, .inl ⟨rfl, _, SqL.of haa7⟩, aa, _, .int (k0 : Nat), rfl, rfl, haa7, by simp, msW S (fr ++ [(k0, v1)]) ah, msW_call hle (fun j hj => hp.lt j (List.mem_cons_of_mem _ hj)), ah, fr ++ [(k0, v1)], l1, _, _, _, _, rfl, ((z5.trans z6).putN nfa (.inr ⟨_, rfl⟩)).putN naa0 (.inl ⟨_, rfl⟩), hN7.put (.inl ⟨_, haa7⟩) (.inl ⟨_, rfl⟩) n1 n2 n3, ?_, ?_, ⟨(List.pairwise_cons.mp hp.asc).2, fun j hj => hp.lt j (List.mem_cons_of_mem _ hj), fun j hj => hp.un j (List.mem_cons_of_mem _ hj), fun j hj => look_snoc (hp.nf j (List.mem_cons_of_mem _ hj)) (Nat.ne_of_gt ((List.pairwise_cons.mp hp.asc).1 j hj))⟩, hfr.more hk0 hnf (hp.un k0 List.mem_cons_self) hv1, fun fr' l'' hw => kW fr' l'' (.call hget ho (by rw [← eys]; exact hc) hw), ?szn, rfl⟩
      case szn =>
        have := fm.szC hc
        rw [List.length_append, List.length_singleton]
        omega
      · rw [upd_same, List.dropLast_concat]
      · rw [upd_ne nfa2]
        exact upd_same
end
end K13
set_option Elab.async false
set_option linter.all false
set_option maxRecDepth 100000
set_option maxHeartbeats 4000000
/-! Holding._put_off, _numbers, _work_out. -/
namespace PM
open PySem PySem.Spec PyProof.Rows L2 ZX ZR
theorem All2.app {α β : Type} {R : α → β → Prop} : ∀ {as : List α} {bs : List β} {cs : List α} {ds : List β}, All2 R as bs → All2 R cs ds → All2 R (as ++ cs) (bs ++ ds)
  | _, _, _, _, .nil, h => h
  | _, _, _, _, .cons r t, h => .cons r (All2.app t h)
section
variable {P : Program} {w : World} {K : PySem.W.Frag} {mg : Str → Option Value} {base : Heap} {fm : Fam P w K mg base} {C : Addr} {F : List (Str × Addr)} {ns : List Str} {H H' : Hp} {A : Ad} {S S' : NS} {l l' : fm.L}
theorem NtAt.x_own (h : NtAt fm C F ns H A S l) : A.x ∉ A.own := h.mks.no h.hx fun z => by
  rcases z with ⟨_, z⟩ | ⟨_, z⟩ <;> cases z
theorem NtAt.fa_own (h : NtAt fm C F ns H A S l) : A.fa ∉ A.own := fun hm => (List.nodup_cons.mp h.nd).1 (List.mem_append_left _ hm)
theorem NtAt.ownN (h : NtAt fm C F ns H A S l) : A.own.Nodup := (List.nodup_append.mp (List.nodup_cons.mp h.nd).2).1
/-- only the notes' own are changed -/
theorem NtAt.chg (h : NtAt fm C F ns H A S l) (z : Fz A.own H H')
    (hh : ∃ (kvs : List (Key × V)) (ks : List Str), H' A.ha = some (.dK kvs) ∧ kvs.map (·.1) = ks.map Sum.inr ∧ ks.Nodup ∧ (∀ x ∈ ks, x ∈ ns) ∧ ∀ x, HdR K H' (valV kvs (.inr x)) (S'.heads x))
    (hm : ∃ us : List V, H' A.ma = some (.lst us) ∧ All2 (MdAt K H') us S'.made) (hw : H' A.wa = some (.dK (wKV S'.worths)))
    (ho : H' A.oa = some (.lst (S'.worths.map fun p => .int (p.1 : Nat)))) (hp : H' A.pa = some (.lst S'.printed)) (ht : ∃ us : List V, H' A.ta = some (.lst us) ∧ All2 (MkAt K H') us S'.trail) (wf : WfS fm F ns S') : NtAt fm C F ns H' A S' l :=
  ⟨z.keep _ _ h.x_own h.hx, z.keep _ _ h.fa_own h.hf, fun p hp => fm.fnK (h.fns p hp) h.mks z, hh, hm, hw, ho, hp, ht, h.nd, fun b hb => by
    have nb : b ∉ A.own := fun m => h.own_out b m hb
    rcases h.mo b hb with ⟨_, e⟩ | ⟨_, e⟩
    · exact .inl ⟨_, z.keep _ _ nb e⟩
    · exact .inr ⟨_, z.keep _ _ nb e⟩, fm.atK h.at_ h.mks z (fun b hb m => h.own_out b m hb), wf⟩
theorem NtAt.putZ (h : NtAt fm C F ns H A S l) {b : Addr} {o : HO} (hb : b ∈ A.own) (i : IsM (some o)) : Fz A.own H (upd H b o) := Fz.put h.mks hb i
theorem NtAt.heads (h : NtAt fm C F ns H A S l) (p : Pt H H') (e : H' A.ha = H A.ha) (es : S'.heads = S.heads) : ∃ (kvs : List (Key × V)) (ks : List Str), H' A.ha = some (.dK kvs) ∧ kvs.map (·.1) = ks.map Sum.inr ∧ ks.Nodup ∧ (∀ x ∈ ks, x ∈ ns) ∧ ∀ x, HdR K H' (valV kvs (.inr x)) (S'.heads x) := by
  obtain ⟨kvs, ks, h1, h2, h3, h4, h5⟩ := h.hh
  exact ⟨kvs, ks, e.trans h1, h2, h3, h4, fun x => by
    rw [es]
    exact (h5 x).pt p⟩
theorem NtAt.mades (h : NtAt fm C F ns H A S l) (p : Pt H H') (e : H' A.ma = H A.ma) (es : S'.made = S.made) : ∃ us : List V, H' A.ma = some (.lst us) ∧ All2 (MdAt K H') us S'.made := by
  obtain ⟨us, g1, g2⟩ := h.hm
  rw [es]
  exact ⟨us, e.trans g1, g2.imp fun _ _ q => q.pt p⟩
/-- the own ones are six -/
theorem NtAt.dis (h : NtAt fm C F ns H A S l) : A.ha ≠ A.ma ∧ A.ha ≠ A.wa ∧ A.ha ≠ A.oa ∧ A.ha ≠ A.pa ∧ A.ha ≠ A.ta ∧ A.ma ≠ A.wa ∧ A.ma ≠ A.oa ∧ A.ma ≠ A.pa ∧ A.ma ≠ A.ta ∧ A.wa ≠ A.oa ∧ A.wa ≠ A.pa ∧ A.wa ≠ A.ta ∧ A.oa ≠ A.pa ∧ A.oa ≠ A.ta ∧ A.pa ≠ A.ta := by
  have := h.ownN
  simp only [Ad.own, List.nodup_cons, List.mem_cons, List.not_mem_nil, or_false, not_or] at this
  obtain ⟨⟨a1, a2, a3, a4, a5⟩, ⟨b1, b2, b3, b4⟩, ⟨c1, c2, c3⟩, ⟨d1, d2⟩, e1, _⟩ := this
  exact ⟨a1, a2, a3, a4, a5, b1, b2, b3, b4, c1, c2, c3, d1, d2, e1⟩
theorem NtAt.putMade (h : NtAt fm C F ns H A S l) {u : V} {m : Str × List Th} (hu : MdAt K H u m) {us : List V} (e : H A.ma = some (.lst us)) (wf : WfS fm F ns { S with made := S.made ++ [m] }) : NtAt fm C F ns (upd H A.ma (.lst (us ++ [u]))) A { S with made := S.made ++ [m] } l := by
  have z := h.putZ (b := A.ma) (o := .lst (us ++ [u])) (by simp [Ad.own]) (.inl ⟨_, rfl⟩)
  have p := z.pt h.mks
  obtain ⟨us', g1, g2⟩ := h.hm
  rw [e] at g1
  cases g1
  obtain ⟨d1, d2, d3, d4, d5, d6, d7, d8, d9, _⟩ := h.dis
  obtain ⟨ts, t1, t2⟩ := h.ht
  exact h.chg z (h.heads p (upd_ne d1) rfl) ⟨_, upd_same, All2.app (g2.imp fun _ _ q => q.pt p) (.cons (hu.pt p) .nil)⟩ ((upd_ne (Ne.symm d6)).trans h.hw) ((upd_ne (Ne.symm d7)).trans h.ho) ((upd_ne (Ne.symm d8)).trans h.hp) ⟨ts, (upd_ne (Ne.symm d9)).trans t1, t2.imp fun _ _ q => q.pt p⟩ wf
/-- behind a working out -/
theorem WfS.work {fr : List (Nat × V)} (wf : WfS fm F ns S) (hf : FrOk fm S fr) : WfS fm F ns { S with worths := S.worths ++ fr } := ⟨wf.ops, wf.low, wf.hlow, wf.hin, by
    show ((S.worths ++ fr).map (·.1)).Nodup
    rw [List.map_append]
    exact List.nodup_append.mpr ⟨wf.wn, hf.nd, fun a ha b hb e => by
      obtain ⟨p, hp, rfl⟩ := List.mem_map.mp hb
      exact look_none.mp (hf.un p hp) (by rw [← e]; exact ha)⟩, fun k hk => by
    have hk : k ∈ (S.worths ++ fr).map (·.1) := hk
    rw [List.map_append] at hk
    rcases List.mem_append.mp hk with hk | hk
    · exact wf.wlow k hk
    · obtain ⟨p, hp, rfl⟩ := List.mem_map.mp hk
      exact hf.lt p hp, wf.okh, wf.okm, fun p hp => (List.mem_append.mp hp).elim (wf.okw p) (hf.ok p), wf.szm, wf.szp, wf.szt⟩
theorem WfS.wsz (wf : WfS fm F ns S) : S.worths.length ≤ 50000 := by
  have := nodup_lt wf.wn wf.wlow
  rw [List.length_map] at this
  exact Nat.le_trans this wf.szm
theorem WfS.made {m : Str × List Th} (wf : WfS fm F ns S) (ho : m.1 ∈ F.map (·.1)) (hl : m.2.length ≤ 3) (hk : ∀ t ∈ m.2, OkT fm S t) (hz : S.made.length < 50000) : WfS fm F ns { S with made := S.made ++ [m] } := by
  refine ⟨fun m' hm => ?_, fun k m' hm => ?_, fun x n e => ?_, wf.hin, wf.wn, fun k hk => ?_, wf.okh, fun m' hm => ?_, wf.okw, ?_, wf.szp, wf.szt⟩
  · rcases List.mem_append.mp hm with hm | hm
    · exact wf.ops m' hm
    · rw [List.mem_singleton.mp hm]
      exact ho
  · have hm : (S.made ++ [m])[k]? = some m' := hm
    by_cases e : k < S.made.length
    · rw [List.getElem?_append_left e] at hm
      exact wf.low k m' hm
    · rw [List.getElem?_append_right (Nat.le_of_not_lt e)] at hm
      cases ek : k - S.made.length with
      | zero =>
        rw [ek] at hm
        cases hm
        exact ⟨hl, fun n hn => Nat.lt_of_lt_of_le ((hk _ hn).1 n rfl) (Nat.le_of_not_lt e)⟩
      | succ j =>
        rw [ek] at hm
        cases hm
  · show n < (S.made ++ [m]).length
    rw [List.length_append]
    exact Nat.lt_of_lt_of_le (wf.hlow x n e) (Nat.le_add_right _ _)
  · show k < (S.made ++ [m]).length
    rw [List.length_append]
    exact Nat.lt_of_lt_of_le (wf.wlow k hk) (Nat.le_add_right _ _)
  · rcases List.mem_append.mp hm with hm | hm
    · exact wf.okm m' hm
    · rw [List.mem_singleton.mp hm]
      exact fun v hv => (hk _ hv).2 v rfl
  · show (S.made ++ [m]).length ≤ 50000
    rw [List.length_append]
    exact hz
theorem keys_w (ws : List (Nat × V)) : (wKV ws).map (fun kv => kV kv.1) = ws.map fun p => .int (p.1 : Nat) := by
  unfold wKV
  rw [List.map_map]
  rfl
theorem wKV_app (a b : List (Nat × V)) : wKV (a ++ b) = wKV a ++ wKV b := List.map_append
theorem wKV_nd {ws : List (Nat × V)} (h : (ws.map (·.1)).Nodup) : ((wKV ws).map (·.1)).Nodup := by
  have e : (wKV ws).map (·.1) = (ws.map (·.1) : List Nat).map fun (n : Nat) => (Sum.inl (n : Int) : Key) := by
    unfold wKV
    rw [List.map_map, List.map_map]
    rfl
  rw [e]
  exact List.pairwise_map.mpr (h.imp fun hab e => hab (by injection e with e; omega))
end
end PM
namespace K13
open PySem PySem.Spec PyProof.Rows L2 ZX PM ZR
abbrev sHPutOff : Stmt := inClass (top 44) 6
abbrev sHNumbers : Stmt := inClass (top 44) 7
abbrev sHWorkOut : Stmt := inClass (top 44) 11
section
variable {P : Program} {w : World} {K : PySem.W.Frag} {mg : Str → Option Value} {base : Heap} {C : Addr} {F : List (Str × Addr)} {ns : List Str}
def spPutOff (fm : Fam P w K mg base) (C : Addr) (F : List (Str × Addr)) (ns : List Str) : Sp := fun vs H Q _ => ∃ (A : Ad) (S : NS) (l : fm.L) (o : Str) (t : Addr) (us : List V) (ts : List Th), vs = [.ref A.x, .str o, .ref t] ∧ NtAt fm C F ns H A S l ∧ SqT K H t us ∧ All2 (ThAt K H) us ts ∧
  ts.length ≤ 3 ∧ o ∈ F.map (·.1) ∧ (∀ u ∈ ts, OkT fm S u) ∧ S.made.length < 50000 ∧ ∀ H', Fz A.own H H' → NtAt fm C F ns H' A { S with made := S.made ++ [(o, ts)] } l → Q (.int S.made.length) H'
theorem scHPutOff : FnScope ["self", "op", "parts"] ["self", "op", "parts"] (defScope sHPutOff) := ⟨rfl, rfl, rfl, by decide +kernel, rfl, by decide +kernel, by decide +kernel⟩
theorem ok_put_off {fm : Fam P w K mg base} {f : Addr} {fd : FuncData} (FD : FunD K "_put_off" "Holding._put_off" (defArgs sHPutOff) (defBody sHPutOff) (defScope sHPutOff) [] [] f fd) (T : Bi mg) (c : NtC K C) : FnOk P w K mg base CX0 1 f fd ["self", "op", "parts"] (spPutOff fm C F ns) := by
  refine FD.ok scHPutOff (fun vs H Q E h => ?_) (fun cdv A0 outer s H vs Q E hr h => ?_)
  · obtain ⟨A, S, l, o, t, us, ts, rfl, _⟩ := h
    rfl
  · obtain ⟨A, S, l, o, t, us, ts, rfl, hN, hT, hA, h3, hF, hO, hz, k⟩ := h
    refine ⟨_, PSs.nox (pss_cons (ps_expr (pe_bm PySem.F.plainAttrs_list PySem.F.slot_list_append PySem.F.type_list_append mt_append (pe_fld (pv 0) rfl) (pa_cons (pe_tup (pa_cons (pv 1) (pa_cons (pv 2) pa_nil))) pa_nil)))
    (pss_one (ps_ret (pe_op op_sub (pe_callB call_len_seq (by rfl) T.b_len (by decide +kernel) (pa_cons (pe_fld (pv 0) rfl) pa_nil)) pe_int)))), ?_⟩
    obtain ⟨us0, g1, g2⟩ := hN.hm
    refine ⟨_, rfl, A.x, C, A.dx, _, _, rfl, hN.hx, c.c, c.n_made, rfl, .inl ⟨rfl, _, SqL.of g1⟩, _, rfl, _, rfl, by show 2 ≤ sizeLine; decide, fun q nq => ?_⟩
    have sm := same_new (o := .tup [.str o, .ref t]) nq
    have hN1 := hN.same sm
    have hN2 := hN1.putMade (m := (o, ts)) ⟨q, t, us, rfl, .inl (.inl upd_same), sm.pt.sq hT, hA.imp fun _ _ h => h.pt sm.pt⟩ (sm _ _ g1) (hN.wf.made hF h3 hO hz)
    have el : us0.length = S.made.length := g2.len
    refine ⟨A.ma, us0, _, rfl, rfl, sm _ _ g1, by rw [el]; exact Nat.lt_of_lt_of_le hz (by decide), ?_⟩
    refine ⟨_, rfl, A.x, C, A.dx, _, _, rfl, hN2.hx, c.c, c.n_made, rfl, A.ma, _, rfl, .inl (SqL.of upd_same), _, _, rfl, rfl, ?_⟩
    rw [List.length_append, el]
    have e : ((S.made.length + [V.ref q].length : Nat) : Int) - 1 = (S.made.length : Int) := by
      simp
    show Q (.int (((S.made.length + [V.ref q].length : Nat) : Int) - 1)) _
    rw [e]
    exact k _ ((sm.fz hN.mks).trans (hN1.putZ (by simp [Ad.own]) (.inl ⟨_, rfl⟩))) hN2
def spNumbers : Sp := fun vs H Q _ => ∃ (x : V) (a : Addr) (kvs : List (Key × V)), vs = [x, .ref a] ∧ H a = some (.dK kvs) ∧ ∀ q H', Same H H' → H q = none → H' q = some (.lst (kvs.map fun kv => kV kv.1)) → Q (.ref q) H'
theorem scHNumbers : FnScope ["self", "kept"] ["self", "kept"] (defScope sHNumbers) := ⟨rfl, rfl, rfl, by decide +kernel, rfl, by decide +kernel, by decide +kernel⟩
theorem ok_numbers {f : Addr} {fd : FuncData} (FD : FunD K "_numbers" "Holding._numbers" (defArgs sHNumbers) (defBody sHNumbers) (defScope sHNumbers) [] [] f fd) (T : Bi mg) : FnOk P w K mg base CX0 1 f fd ["self", "kept"] spNumbers := by
  refine FD.ok scHNumbers (fun vs H Q E h => ?_) (fun cdv A0 outer s H vs Q E hr h => ?_)
  · obtain ⟨x, a, kvs, rfl, _⟩ := h
    rfl
  · obtain ⟨x, a, kvs, rfl, hd, k⟩ := h
    refine ⟨_, PSs.nox (pss_one (ps_ret (pe_callTy (call_listD rfl) (by rfl) T.b_list (by decide +kernel) (pa_cons (pv 1) pa_nil)))), ?_⟩
    exact ⟨_, rfl, a, kvs, rfl, .inl hd, fun p np => k p _ (same_new np) np upd_same⟩
def spWorkOut (fm : Fam P w K mg base) (C : Addr) (F : List (Str × Addr)) (ns : List Str) : Sp := fun vs H Q _ => ∃ (A : Ad) (S : NS) (l : fm.L) (v : V) (t : Th), vs = [.ref A.x, v] ∧ NtAt fm C F ns H A S l ∧ ThAt K H v t ∧ OkT fm S t ∧ fm.sz l ≤ S.worths.length ∧
  ∀ fr l' H', Fz (A.own ++ fm.out) H H' → NtAt fm C F ns H' A { S with worths := S.worths ++ fr } l' → Wo fm S (openS S [] [t]) [] l fr l' → FrOk fm S fr → Q (.int fr.length) H'
theorem scHWorkOut : FnScope ["self", "thing", "fresh"] ["self", "thing"] (defScope sHWorkOut) := ⟨rfl, rfl, rfl, by decide +kernel, rfl, by decide +kernel, by decide +kernel⟩
theorem ok_work_out {fm : Fam P w K mg base} {f : Addr} {fd : FuncData} (FD : FunD K "_work_out" "Holding._work_out" (defArgs sHWorkOut) (defBody sHWorkOut) (defScope sHWorkOut) [] [] f fd) (T : Bi mg) (c : NtC K C) (M_wo : MCal P w K mg base C "_worked_out" (fm.lev + 3) ["self", "thing"] (spWorkedOut fm C F ns)) (M_nu : MCal P w K mg base C "_numbers" 1 ["self", "kept"] spNumbers) : FnOk P w K mg base CX0 (fm.lev + 4) f fd ["self", "thing"] (spWorkOut fm C F ns) := by
  refine FD.ok scHWorkOut (fun vs H Q E h => ?_) (fun cdv A0 outer s H vs Q E hr h => ?_)
  · obtain ⟨A, S, l, v, t, rfl, _⟩ := h
    rfl
  · obtain ⟨A, S, l, v, t, rfl, hN, hT, hOk, hsz, k⟩ := h
    have hr1 := hr.mono (show 1 ≤ fm.lev + 3 by omega)
    refine ⟨_, PSs.nox (pss_cons (ps_set (i := 2) scHWorkOut.nd rfl (Or.inl rfl) (pmc M_wo hr (pv 0) (pa_cons (pv 1) pa_nil)))
    (pss_cons (ps_expr (pe_bm PySem.F.plainAttrs_dict PySem.F.slot_dict_update PySem.F.type_dict_update mtd_update (pe_fld (pv 0) rfl) (pa_cons (pv 2) pa_nil)))
    (pss_cons (ps_expr (pe_bm PySem.F.plainAttrs_list PySem.F.slot_list_extend PySem.F.type_list_extend mt_extend (pe_fld (pv 0) rfl) (pa_cons (pmc M_nu hr1 (pv 0) (pa_cons (pv 2) pa_nil)) pa_nil)))
    (pss_one (ps_ret (pe_callB call_lenD (by rfl) T.b_len (by decide +kernel) (pa_cons (pv 2) pa_nil))))))), ?_⟩
    refine ⟨_, rfl, A.x, A.dx, _, rfl, hN.hx, rfl, _, rfl, A, S, l, v, t, rfl, hN, hT, hOk, hsz, fun q fr l' H1 z1 hN1 nq hq hW hf => ?_⟩
    obtain ⟨n1, n2, n3⟩ := hN.new_ne nq
    have qw : q ≠ A.wa := fun e => n2 (by rw [e]; simp [Ad.own])
    have qo : q ≠ A.oa := fun e => n2 (by rw [e]; simp [Ad.own])
    have wf2 := hN1.wf.work hf
    have z0 := (z1.mono (M' := A.own ++ fm.out) (fun b hb => List.mem_append_right _ hb) hN.mksO)
    obtain ⟨_, d2, d3, _, _, d6, d7, _, _, dwo, dwp, dwt, dop, dot, _⟩ := hN.dis
    have ew : mergeK (wKV S.worths) (wKV fr) = wKV (S.worths ++ fr) := by
      rw [merge_fresh _ _ (by rw [← wKV_app]; exact wKV_nd wf2.wn), wKV_app]
    have sz := wf2.wsz
    have sz' : S.worths.length + fr.length ≤ 50000 := by
      have : (S.worths ++ fr).length ≤ 50000 := sz
      rwa [List.length_append] at this
    refine ⟨_, rfl, A.x, C, A.dx, _, _, rfl, hN1.hx, c.c, c.n_worths, rfl, .inr (.inr (.inl ⟨rfl, .inl ⟨_, hN1.hw⟩⟩)), _, rfl, A.wa, q, _, _, rfl, rfl, Ne.symm qw, hN1.hw, hq, ?_, ?_⟩
    · unfold wKV
      rw [List.length_map, List.length_map]
      exact Nat.le_trans sz' (by decide)
    rw [ew]
    have z2 : Fz A.own H1 (upd H1 A.wa (.dK (wKV (S.worths ++ fr)))) := hN1.putZ (by simp [Ad.own]) (.inr ⟨_, rfl⟩)
    have hx2 := z2.keep _ _ hN1.x_own hN1.hx
    have hq2 : upd H1 A.wa (.dK (wKV (S.worths ++ fr))) q = some (.dK (wKV fr)) := (upd_ne qw).trans hq
    refine ⟨_, rfl, A.x, C, A.dx, _, _, rfl, hx2, c.c, c.n_order, rfl, .inl ⟨rfl, _, SqL.of ((upd_ne (Ne.symm dwo)).trans hN1.ho)⟩, _, rfl, A.x, A.dx, _, rfl, hx2, rfl, _, rfl, _, q, _, rfl, hq2, fun p H3 s3 np hp => ?_⟩
    rw [keys_w] at hp
    have po : p ≠ A.oa := fun e => by
      rw [e, upd_ne (Ne.symm dwo), hN1.ho] at np
      cases np
    have ho3 := s3 _ _ ((upd_ne (Ne.symm dwo)).trans hN1.ho)
    have z3 := z2.trans (s3.fz z2.mks)
    have z4 : Fz A.own H1 (upd H3 A.oa (.lst (S.worths.map (fun p => V.int (p.1 : Nat)) ++ fr.map (fun p => V.int (p.1 : Nat))))) := z3.trans (Fz.put z3.mks (by simp [Ad.own]) (.inl ⟨_, rfl⟩))
    refine ⟨A.oa, p, _, _, rfl, rfl, ho3, hp, ?_, ?_⟩
    · rw [List.length_map, List.length_map]
      exact Nat.le_trans sz' (by decide)
    have hq4 : upd H3 A.oa (.lst (S.worths.map (fun p => V.int (p.1 : Nat)) ++ fr.map (fun p => V.int (p.1 : Nat)))) q = some (.dK (wKV fr)) := (upd_ne qo).trans (s3 _ _ hq2)
    refine ⟨_, rfl, q, _, rfl, hq4, ?_⟩
    have hl : (wKV fr).length = fr.length := by
      unfold wKV
      rw [List.length_map]
    rw [hl]
    have kp : ∀ {b : Addr} {o : HO}, b ≠ A.wa → b ≠ A.oa → H1 b = some o → upd H3 A.oa (.lst (S.worths.map (fun p => V.int (p.1 : Nat)) ++ fr.map (fun p => V.int (p.1 : Nat)))) b = some o := fun h1 h2 e => (upd_ne h2).trans (s3 _ _ ((upd_ne h1).trans e))
    obtain ⟨kvs, ks, h1, h2, h3, h4, h5⟩ := hN1.hh
    obtain ⟨us, g1, g2⟩ := hN1.hm
    obtain ⟨ts, t1, t2⟩ := hN1.ht
    have pt := z4.pt hN1.mks
    have hN4 : NtAt fm C F ns _ A { S with worths := S.worths ++ fr } l' := hN1.chg z4 ⟨kvs, ks, kp d2 d3 h1, h2, h3, h4, fun x => (h5 x).pt pt⟩ ⟨us, kp d6 d7 g1, g2.imp fun _ _ q => q.pt pt⟩ ((upd_ne dwo).trans (s3 _ _ upd_same)) (by rw [upd_same, List.map_append]) (kp (Ne.symm dwp) (Ne.symm dop) hN1.hp) ⟨ts, kp (Ne.symm dwt) (Ne.symm dot) t1, t2.imp fun _ _ q => q.pt pt⟩ wf2
    exact k fr l' _ (z0.trans (z4.mono (fun b hb => List.mem_append_left _ hb) hN1.mksO)) hN4 hW hf
end
end K13
set_option Elab.async false
set_option linter.all false
set_option maxRecDepth 100000
set_option maxHeartbeats 4000000
/-! Holding.do. -/
namespace PM
open PySem PySem.Spec PyProof.Rows L2 ZX ZR
def whatT : Th → V
  | .note n => .int (n : Nat)
  | .worth v => v
theorem thV_two (t : Th) : ∃ s : Str, thV t = [.str s, whatT t] := by
  cases t <;> exact ⟨_, rfl⟩
def setH (h : Str → Option Th) (x : Str) (t : Th) : Str → Option Th := fun y => if y = x then some t else h y
theorem All2.turn {α : Type} {R : V → Th → Prop} {f : α → Th} : ∀ {as : List α} {ys : List V}, All2 (fun c y => R y (f c)) as ys → All2 R ys (as.map f)
  | _, _, .nil => .nil
  | _, _, .cons r t => .cons r (All2.turn t)
theorem putK_keys {kvs : List (Key × V)} {k : Key} {v u : V} (h : valV kvs k = some u) : (putK kvs k v).map (·.1) = kvs.map (·.1) := by
  have ha : (kvs.any fun kv => decide (kv.1 = k)) = true := by
    rw [valV_any, h]
    rfl
  unfold putK
  rw [if_pos ha, List.map_map]
  refine List.map_congr_left fun p _ => ?_
  show (if p.1 = k then (p.1, v) else p).1 = p.1
  split <;> rfl
section
variable {P : Program} {w : World} {K : PySem.W.Frag} {mg : Str → Option Value} {base : Heap}
/-- what a row does with a run's notes -/
inductive DoS (fm : Fam P w K mg base) (S : NS) (l : fm.L) : Rw → NS → fm.L → Prop
  | note {x o : Str} {ps : List Str} : DoS fm S l (.note x o ps) { S with heads := setH S.heads x (.note S.made.length), made := S.made ++ [(o, ps.map (heldS S))] } l
  | copy {x y : Str} : DoS fm S l (.copy x y) { S with heads := setH S.heads x (heldS S y) } l
  | give {x : Str} {i : Int} : DoS fm S l (.give x i) { S with heads := setH S.heads x (.worth (.int i)) } l
  | ask {x : Str} {fr : List (Nat × V)} {l' : fm.L} (h : Wo fm S (openS S [] [heldS S x]) [] l fr l') (hf : FrOk fm S fr) : DoS fm S l (.ask x) { S with worths := S.worths ++ fr } l'
  | prt {x : Str} {fr : List (Nat × V)} {l' : fm.L} (h : Wo fm S (openS S [] [heldS S x]) [] l fr l') (hf : FrOk fm S fr) : DoS fm S l (.prt x) { S with worths := S.worths ++ fr, printed := S.printed ++ [whatT (heldS { S with worths := S.worths ++ fr } x)] } l'
  | either {a b : List Rw} : DoS fm S l (.either a b) S l
  | again {a : List Rw} : DoS fm S l (.again a) S l
theorem DoS.sz {fm : Fam P w K mg base} {S S' : NS} {l l' : fm.L} {r : Rw} (h : DoS fm S l r S' l') (hz : fm.sz l ≤ S.worths.length) : fm.sz l' ≤ S'.worths.length := by
  cases h with
  | ask hw _ =>
    have := hw.sz
    rw [List.length_nil] at this
    show _ ≤ (S.worths ++ _).length
    rw [List.length_append]
    omega
  | prt hw _ =>
    have := hw.sz
    rw [List.length_nil] at this
    show _ ≤ (S.worths ++ _).length
    rw [List.length_append]
    omega
  | _ => exact hz
variable {fm : Fam P w K mg base} {C : Addr} {F : List (Str × Addr)} {ns : List Str} {H H' : Hp} {A : Ad} {S S' : NS} {l l' : fm.L}
theorem WfS.setH {x : Str} {t : Th} (wf : WfS fm F ns S) (hx : x ∈ ns) (ht : OkT fm S t) : WfS fm F ns { S with heads := PM.setH S.heads x t } := by
  have key : ∀ y u, PM.setH S.heads x t y = some u → (y = x ∧ u = t) ∨ S.heads y = some u := fun y u e => by
    unfold PM.setH at e
    split at e
    · rename_i ey
      cases e
      exact .inl ⟨ey, rfl⟩
    · exact .inr e
  refine ⟨wf.ops, wf.low, fun y n e => ?_, fun y u e => ?_, wf.wn, wf.wlow, fun y v e => ?_, wf.okm, wf.okw, wf.szm, wf.szp, wf.szt⟩
  · rcases key y _ e with ⟨_, e2⟩ | e2
    · exact ht.1 n e2.symm
    · exact wf.hlow y n e2
  · rcases key y _ e with ⟨e1, _⟩ | e2
    · rw [e1]
      exact hx
    · exact wf.hin y u e2
  · rcases key y _ e with ⟨_, e2⟩ | e2
    · exact ht.2 v e2.symm
    · exact wf.okh y v e2
theorem WfS.print (wf : WfS fm F ns S) (v : V) (hz : S.printed.length < 50000) : WfS fm F ns { S with printed := S.printed ++ [v] } := ⟨wf.ops, wf.low, wf.hlow, wf.hin, wf.wn, wf.wlow, wf.okh, wf.okm, wf.okw, wf.szm, by
    show (S.printed ++ [v]).length ≤ 50000
    rw [List.length_append]
    exact hz, wf.szt⟩
theorem NtAt.putPrinted (h : NtAt fm C F ns H A S l) (v : V) (hz : S.printed.length < 50000) : NtAt fm C F ns (upd H A.pa (.lst (S.printed ++ [v]))) A { S with printed := S.printed ++ [v] } l := by
  have z := h.putZ (b := A.pa) (o := .lst (S.printed ++ [v])) (by simp [Ad.own]) (.inl ⟨_, rfl⟩)
  have p := z.pt h.mks
  obtain ⟨d1, d2, d3, d4, d5, d6, d7, d8, d9, e1, e2, e3, e4, e5, e6⟩ := h.dis
  obtain ⟨ts, t1, t2⟩ := h.ht
  exact h.chg z (h.heads p (upd_ne d4) rfl) (h.mades p (upd_ne d8) rfl) ((upd_ne e2).trans h.hw) ((upd_ne e4).trans h.ho) upd_same ⟨ts, (upd_ne (Ne.symm e6)).trans t1, t2.imp fun _ _ q => q.pt p⟩ (h.wf.print v hz)
/-- d[x] = v, where d's keys are the names -/
theorem NtAt.putHead (h : NtAt fm C F ns H A S l) {x : Str} {v : V} {t : Th} (hv : ThAt K H v t) (hx : x ∈ ns) (ok : OkT fm S t) (hns : ns.length ≤ 1000) :
    ∃ kvs, H A.ha = some (.dK kvs) ∧ kvs.length < sizeLine ∧ NtAt fm C F ns (upd H A.ha (.dK (putK kvs (.inr x) v))) A { S with heads := PM.setH S.heads x t } l := by
  obtain ⟨kvs, ks, h1, h2, h3, h4, h5⟩ := h.hh
  have z := h.putZ (b := A.ha) (o := .dK (putK kvs (.inr x) v)) (by simp [Ad.own]) (.inr ⟨_, rfl⟩)
  have p := z.pt h.mks
  have hl : kvs.length = ks.length := by
    have := congrArg List.length h2
    rwa [List.length_map, List.length_map] at this
  obtain ⟨d1, d2, d3, d4, d5, _⟩ := h.dis
  obtain ⟨ts, t1, t2⟩ := h.ht
  obtain ⟨us, g1, g2⟩ := h.hm
  refine ⟨kvs, h1, ?_, h.chg z ?_ ⟨us, (upd_ne (Ne.symm d1)).trans g1, g2.imp fun _ _ q => q.pt p⟩ ((upd_ne (Ne.symm d2)).trans h.hw) ((upd_ne (Ne.symm d3)).trans h.ho) ((upd_ne (Ne.symm d4)).trans h.hp) ⟨ts, (upd_ne (Ne.symm d5)).trans t1, t2.imp fun _ _ q => q.pt p⟩ (h.wf.setH hx ok)⟩
  · rw [hl]
    exact Nat.lt_of_le_of_lt (Nat.le_trans (h3.length_le_of_subset fun y hy => h4 y hy) hns) (by decide)
  · have hval : ∀ y, HdR K (upd H A.ha (.dK (putK kvs (.inr x) v))) (valV (putK kvs (.inr x) v) (.inr y)) (PM.setH S.heads x t y) := fun y => by
      rw [valV_put]
      unfold PM.setH
      by_cases e : y = x
      · subst e
        rw [if_pos rfl, if_pos rfl]
        exact hv.pt p
      · rw [if_neg e, if_neg (fun z => e (by injection z))]
        exact (h5 y).pt p
    cases hk : valV kvs (.inr x) with
    | some u => exact ⟨_, ks, upd_same, (putK_keys hk).trans h2, h3, h4, hval⟩
    | none =>
      have hn := valV_not hk
      rw [putK_new v hk]
      have hk' : x ∉ ks := fun m => hn (by rw [h2]; exact List.mem_map_of_mem m)
      refine ⟨_, ks ++ [x], upd_same, by rw [List.map_append, h2, List.map_append]; rfl, List.nodup_append.mpr ⟨h3, by simp, fun a ha b hb e => hk' (by rw [List.mem_singleton.mp hb] at e; rw [← e]; exact ha)⟩, fun y hy => (List.mem_append.mp hy).elim (h4 y) fun hy => by rw [List.mem_singleton.mp hy]; exact hx, ?_⟩
      rw [← putK_new v hk]
      exact hval
end
end PM
namespace K13
open PySem PySem.Spec PyProof.Rows L2 ZX PM ZR
abbrev sHDo : Stmt := inClass (top 44) 1
section
variable {P : Program} {w : World} {K : PySem.W.Frag} {mg : Str → Option Value} {base : Heap} {C : Addr} {F : List (Str × Addr)} {ns : List Str}
/-- a row that may be done: its op is known, its names are -/
structure RwOk (F : List (Str × Addr)) (ns : List Str) (r : Rw) : Prop where
  ops : ∀ x o ps, r = .note x o ps → o ∈ F.map (·.1) ∧ ps.length ≤ 3
  nms : ∀ x ∈ namesR r, x ∈ ns
def spHDo (fm : Fam P w K mg base) (C : Addr) (F : List (Str × Addr)) (ns : List Str) : Sp := fun vs H Q _ => ∃ (A : Ad) (S : NS) (l : fm.L) (v : V) (r : Rw), vs = [.ref A.x, v] ∧ NtAt fm C F ns H A S l ∧ RV K H v r ∧ RwOk F ns r ∧ fm.sz l ≤ S.worths.length ∧
  S.made.length < 50000 ∧ S.printed.length < 50000 ∧ ∀ S' l' H', Fz (A.own ++ fm.out) H H' → NtAt fm C F ns H' A S' l' → DoS fm S l r S' l' → Q .non H'
abbrev NHD : List Str := ["self", "row", "word", "parts", "name"]
theorem scHDo : FnScope NHD ["self", "row"] (defScope sHDo) := ⟨rfl, rfl, rfl, by decide +kernel, rfl, by decide +kernel, by decide +kernel⟩
theorem ok_hdo {fm : Fam P w K mg base} {f : Addr} {fd : FuncData} (FD : FunD K "do" "Holding.do" (defArgs sHDo) (defBody sHDo) (defScope sHDo) [] [] f fd) (T : Bi mg) (c : NtC K C) (hA : Asking K mg) (hns : ns.length ≤ 1000)
    (M_wo : MCal P w K mg base C "_work_out" (fm.lev + 4) ["self", "thing"] (spWorkOut fm C F ns)) (M_held : MCal P w K mg base C "held" 2 ["self", "name"] (spHeld fm C F ns)) (M_po : MCal P w K mg base C "_put_off" 1 ["self", "op", "parts"] (spPutOff fm C F ns)) : FnOk P w K mg base CX0 (fm.lev + 5) f fd ["self", "row"] (spHDo fm C F ns) := by
  refine FD.ok scHDo (fun vs H Q E h => ?_) (fun cdv A0 outer s H vs Q E hr h => ?_)
  · obtain ⟨A, S, l, v, r, rfl, _⟩ := h
    rfl
  · obtain ⟨A, S, l, v, r, rfl, hN, tr, hR, hsz, hzm, hzp, k⟩ := h
    obtain ⟨ask, m_ASKING, hask⟩ := hA
    have hu := hu_of hr
    have hr1 := hr.mono (show 1 ≤ fm.lev + 4 by omega)
    have hr2 := hr.mono (show 2 ≤ fm.lev + 4 by omega)
    refine ⟨_, PSs.nox (pss_cons (ps_set (i := 2) scHDo.nd rfl (Or.inl rfl) (pe_ix ix_tup (pv 1) pe_int (fun _ _ => rfl)))
    (pss_cons (ps_if (pt_cmpR op_in_seq (pv 2) (pe_glob (v := .ref _) rfl m_ASKING rfl) (by with_unfolding_all rfl)) (pss_one (ps_expr (pmc M_wo hr (pv 0) (pa_cons (pmc M_held hr2 (pv 0) (pa_cons (pe_ix ix_tup (pv 1) pe_int (fun _ _ => rfl)) pa_nil)) pa_nil)))) pss_nil)
    (pss_one (ps_if (pt_cmpR op_eq (pv 2) pe_str (nomark _)) (pss_one (ps_expr (pe_bm PySem.F.plainAttrs_list PySem.F.slot_list_append PySem.F.type_list_append mt_append (pe_fld (pv 0) rfl) (pa_cons (pe_ix ix_tup (pmc M_held hr2 (pv 0) (pa_cons (pe_ix ix_tup (pv 1) pe_int (fun _ _ => rfl)) pa_nil)) pe_int (fun _ _ => rfl)) pa_nil))))
    (pss_one (ps_if (pt_cmpR op_eq (pv 2) pe_str (nomark _)) (pss_cons (ps_set (i := 3) scHDo.nd rfl (Or.inl rfl) (pe_callTy call_tuple_of (by rfl) T.b_tuple (by decide +kernel) (pa_cons (pe_lcS (own := [("name", 4)]) (g := gName 4) (tt := tYes) (te := tMeth C "held" (spHeld fm C F ns) [] E0 (tVar 0) (tCons (tVar 4) tNil)) (by rfl) scHDo.nd (pi_tup (pe_ix ix_tup (pv 1) pe_int (fun _ _ => rfl))) (blkOk_by (N := NHD) (sc := defScope sHDo) (by decide +kernel)) (fun _ _ _ _ _ => (pg_name (i := 4) scHDo.nd rfl (Or.inl rfl))) (fun _ _ _ _ _ => pts_nil) (fun _ _ _ _ _ => (pmc M_held hr2 (pv 0) (pa_cons (pv 4) pa_nil)))) pa_nil)))
        (pss_one (ps_dput hu (pe_fld (pv 0) rfl) (pe_ix ix_tup (pv 1) pe_int (fun _ _ => rfl)) (pe_tup (pa_cons pe_str (pa_cons (pmc M_po hr1 (pv 0) (pa_cons (pe_ix ix_tup (pv 1) pe_int (fun _ _ => rfl)) (pa_cons (pv 3) pa_nil))) pa_nil))) rfl)))
    (pss_one (ps_if (pt_cmpR op_eq (pv 2) pe_str (nomark _)) (pss_one (ps_dput hu (pe_fld (pv 0) rfl) (pe_ix ix_tup (pv 1) pe_int (fun _ _ => rfl)) (pmc M_held hr2 (pv 0) (pa_cons (pe_ix ix_tup (pv 1) pe_int (fun _ _ => rfl)) pa_nil)) rfl))
    (pss_one (ps_if (pt_cmpR op_eq (pv 2) pe_str (nomark _)) (pss_one (ps_dput hu (pe_fld (pv 0) rfl) (pe_ix ix_tup (pv 1) pe_int (fun _ _ => rfl)) (pe_tup (pa_cons pe_str (pa_cons (pe_ix ix_tup (pv 1) pe_int (fun _ _ => rfl)) pa_nil))) rfl))
    (pss_one (ps_if (pt_cmpR op_eq (pv 2) pe_str (nomark _)) pss_never pss_nil)))))))))))), ?_⟩
    obtain ⟨ra, tl, rfl, hrS, hrt⟩ := tr.rowI
    refine ⟨_, rfl, _, _, _, _, rfl, rfl, hrS, at0, ?_⟩
    refine ⟨_, rfl, _, _, rfl, .inr (hask _), rfl, rfl, _, rfl, ?_⟩
    show if inV (V.str (wordR r)) [V.str "ask", V.str "print"] = true then _ else _
    have kp : ∀ {H1}, Fz A.own H H1 → Fz (A.own ++ fm.out) H H1 := fun z => z.mono (fun b hb => List.mem_append_left _ hb) hN.mksO
    cases r with
    | ask x =>
      obtain ⟨v1, rfl, t1⟩ := hrt.one
      cases t1.strI
      refine ifB (show inV (V.str (Str.ofString "ask")) [V.str (Str.ofString "ask"), V.str (Str.ofString "print")] = true by decide +kernel) ?_
      refine ⟨_, rfl, A.x, A.dx, _, rfl, hN.hx, rfl, _, rfl, A.x, A.dx, _, rfl, hN.hx, rfl, _, rfl, _, _, _, _, rfl, rfl, hrS, rfl, A, S, l, x, rfl, hN, fun u H1 s1 hu1 => ?_⟩
      refine ⟨A, S, l, u, heldS S x, rfl, hN.same s1, hu1, hN.wf.held, hsz, fun fr l' H2 z2 hN2 hW hf => ?_⟩
      refine ⟨_, rfl, rfl, _, rfl, ifDF (neS (a := "ask") (b := "print") (by decide +kernel)) ⟨_, rfl, rfl, _, rfl, ifDF (neS (a := "ask") (b := "note") (by decide +kernel)) ⟨_, rfl, rfl, _, rfl, ifDF (neS (a := "ask") (b := "copy") (by decide +kernel)) ⟨_, rfl, rfl, _, rfl, ifDF (neS (a := "ask") (b := "give") (by decide +kernel)) ⟨_, rfl, rfl, _, rfl, ifDF (neS (a := "ask") (b := "drop") (by decide +kernel)) ?_⟩⟩⟩⟩⟩
      exact k _ l' _ ((s1.fz hN.mksO).trans z2) hN2 (.ask hW hf)
    | prt x =>
      obtain ⟨v1, rfl, t1⟩ := hrt.one
      cases t1.strI
      refine ifB (show inV (V.str (Str.ofString "print")) [V.str (Str.ofString "ask"), V.str (Str.ofString "print")] = true by decide +kernel) ?_
      refine ⟨_, rfl, A.x, A.dx, _, rfl, hN.hx, rfl, _, rfl, A.x, A.dx, _, rfl, hN.hx, rfl, _, rfl, _, _, _, _, rfl, rfl, hrS, rfl, A, S, l, x, rfl, hN, fun u H1 s1 hu1 => ?_⟩
      refine ⟨A, S, l, u, heldS S x, rfl, hN.same s1, hu1, hN.wf.held, hsz, fun fr l' H2 z2 hN2 hW hf => ?_⟩
      have z02 := (s1.fz hN.mksO).trans z2
      have hrS2 := (z02.pt hN.mksO).sq hrS
      refine ⟨_, rfl, rfl, _, rfl, ifD rfl ?_⟩
      refine ⟨_, rfl, A.x, C, A.dx, _, _, rfl, hN2.hx, c.c, c.n_printed, rfl, .inl ⟨rfl, _, SqL.of hN2.hp⟩, _, rfl, A.x, A.dx, _, rfl, hN2.hx, rfl, _, rfl, _, _, _, _, rfl, rfl, hrS2, rfl, A, _, l', x, rfl, hN2, fun u3 H3 s3 hu3 => ?_⟩
      obtain ⟨ua, rfl, hU⟩ := hu3
      have hN3 := hN2.same s3
      have hN4 := hN3.putPrinted (whatT (heldS { S with worths := S.worths ++ fr } x)) hzp
      obtain ⟨sx, esx⟩ := thV_two (heldS { S with worths := S.worths ++ fr } x)
      rw [esx] at hU
      refine ⟨ua, _, 1, _, rfl, rfl, hU, rfl, A.pa, _, _, rfl, rfl, hN3.hp, Nat.lt_trans hzp (by decide), ?_⟩
      exact k _ l' _ ((z02.trans (s3.fz z02.mks)).trans ((hN3.putZ (by simp [Ad.own]) (.inl ⟨_, rfl⟩)).mono (fun b hb => List.mem_append_left _ hb) hN3.mksO)) hN4 (.prt hW hf)
    | note x o ps =>
      obtain ⟨v1, v2, v3, rfl, t1, t2, t3⟩ := hrt.three
      cases t1.strI
      cases t2.strI
      obtain ⟨a3, xs3, rfl, hS3, ht3⟩ := t3.tupI
      have e3 := Tvs.strs ht3
      subst e3
      obtain ⟨hop, hpl⟩ := hR.ops x o ps rfl
      refine ifBF (show inV (V.str (Str.ofString "note")) [V.str (Str.ofString "ask"), V.str (Str.ofString "print")] = false by decide +kernel) ⟨_, rfl, rfl, _, rfl, ifDF (neS (a := "note") (b := "print") (by decide +kernel)) ⟨_, rfl, rfl, _, rfl, ifD rfl ?_⟩⟩
      refine lc_into ?_
      refine ⟨_, rfl, _, _, _, _, rfl, rfl, hrS, rfl, a3, rfl, ⟨_, hS3⟩, ?_⟩
      refine lc_overA (p := none) (as := ps) (zs := ps.map V.str) (Rel := fun H' c y => ThAt K H' y (heldS S c)) it_tup ?_ (fun _ _ _ _ p h => h.pt p) (fun _ h => nomatch h) ?_ (fun H' _ pt => pt.sq hS3) ?_ ?_
      · rw [List.length_map]
      · rw [List.length_map]
        exact Nat.lt_of_le_of_lt hpl (by decide)
      · intro j z y hz hy H3 kq pt3 R kR
        rw [List.getElem?_map, hy] at hz
        cases hz
        have hN3 := hN.same kq.same
        exact ⟨rfl, _, rfl, A.x, A.dx, _, rfl, hN3.hx, rfl, _, rfl, A, S, l, y, rfl, hN3, fun u H4 s4 hu4 => kR _ _ s4.kq s4.pt hu4⟩
      · intro D zs H3 kq pt3 nD hD all
        refine ⟨D, _, rfl, .inl ⟨SqL.of hD, fun q nq => ?_⟩⟩
        have sq := same_new (o := .tup zs) nq
        have sm := kq.same.trans sq
        have hN4 := hN.same sm
        have hrS4 := sm.pt.sq hrS
        have all' : All2 (ThAt K (upd H3 q (.tup zs))) zs (ps.map (heldS S)) := (All2.turn all).imp fun _ _ h => h.pt sq.pt
        refine ⟨_, rfl, A.x, A.dx, _, rfl, hN4.hx, rfl, _, rfl, _, _, _, _, rfl, rfl, hrS4, rfl, _, rfl, A, S, l, o, q, zs, ps.map (heldS S), rfl, hN4, .inl (.inl upd_same), all', by rw [List.length_map]; exact hpl, hop, ?_, hzm, fun H5 z5 hN5 => ?_⟩
        · intro u hu
          obtain ⟨y, _, rfl⟩ := List.mem_map.mp hu
          exact hN.wf.held
        have z05 := (sm.fz hN.mks).trans z5
        refine ⟨by show 2 ≤ sizeLine; decide, fun q6 nq6 => ?_⟩
        have s6 := same_new (o := .tup [.str (Str.ofString "note"), .int (S.made.length : Nat)]) nq6
        have hN6 := hN5.same s6
        have z06 := z05.trans (s6.fz z05.mks)
        obtain ⟨kvs, hkv, hks, hN7⟩ := hN6.putHead (v := .ref q6) (t := .note S.made.length) ⟨q6, rfl, .inl (.inl upd_same)⟩ (hR.nms x List.mem_cons_self) ⟨fun n e => by cases e; show S.made.length < (S.made ++ [(o, ps.map (heldS S))]).length; simp, fun v e => (by cases e)⟩ hns
        refine ⟨_, rfl, A.x, C, A.dx, _, _, rfl, hN6.hx, c.c, c.n_heads, rfl, _, rfl, _, _, _, _, rfl, rfl, (z06.pt hN.mks).sq hrS, rfl, A.ha, _, rfl, DPut.k (k := .inr x) hkv hks, ?_⟩
        exact k _ l _ (kp (z06.trans (hN6.putZ (by simp [Ad.own]) (.inr ⟨_, rfl⟩)))) hN7 .note
    | copy x y =>
      obtain ⟨v1, v2, rfl, t1, t2⟩ := hrt.two
      cases t1.strI
      cases t2.strI
      refine ifBF (show inV (V.str (Str.ofString "copy")) [V.str (Str.ofString "ask"), V.str (Str.ofString "print")] = false by decide +kernel) ⟨_, rfl, rfl, _, rfl, ifDF (neS (a := "copy") (b := "print") (by decide +kernel)) ⟨_, rfl, rfl, _, rfl, ifDF (neS (a := "copy") (b := "note") (by decide +kernel)) ⟨_, rfl, rfl, _, rfl, ifD rfl ?_⟩⟩⟩
      refine ⟨_, rfl, A.x, A.dx, _, rfl, hN.hx, rfl, _, rfl, _, _, _, _, rfl, rfl, hrS, rfl, A, S, l, y, rfl, hN, fun u H1 s1 hu1 => ?_⟩
      have hN1 := hN.same s1
      obtain ⟨kvs, hkv, hks, hN7⟩ := hN1.putHead hu1 (hR.nms x List.mem_cons_self) hN.wf.held hns
      refine ⟨_, rfl, A.x, C, A.dx, _, _, rfl, hN1.hx, c.c, c.n_heads, rfl, _, rfl, _, _, _, _, rfl, rfl, s1.pt.sq hrS, rfl, A.ha, _, rfl, DPut.k (k := .inr x) hkv hks, ?_⟩
      exact k _ l _ (kp ((s1.fz hN.mks).trans (hN1.putZ (by simp [Ad.own]) (.inr ⟨_, rfl⟩)))) hN7 .copy
    | give x i =>
      obtain ⟨v1, v2, rfl, t1, t2⟩ := hrt.two
      cases t1.strI
      cases t2.intI
      refine ifBF (show inV (V.str (Str.ofString "give")) [V.str (Str.ofString "ask"), V.str (Str.ofString "print")] = false by decide +kernel) ⟨_, rfl, rfl, _, rfl, ifDF (neS (a := "give") (b := "print") (by decide +kernel)) ⟨_, rfl, rfl, _, rfl, ifDF (neS (a := "give") (b := "note") (by decide +kernel)) ⟨_, rfl, rfl, _, rfl, ifDF (neS (a := "give") (b := "copy") (by decide +kernel)) ⟨_, rfl, rfl, _, rfl, ifD rfl ?_⟩⟩⟩⟩
      refine ⟨_, rfl, _, _, _, _, rfl, rfl, hrS, rfl, by show 2 ≤ sizeLine; decide, fun q nq => ?_⟩
      have s1 := same_new (o := .tup [.str (Str.ofString "worth"), .int i]) nq
      have hN1 := hN.same s1
      obtain ⟨kvs, hkv, hks, hN7⟩ := hN1.putHead (v := .ref q) (t := .worth (.int i)) ⟨q, rfl, .inl (.inl upd_same)⟩ (hR.nms x List.mem_cons_self) ⟨fun n e => (by cases e), fun v e => by cases e; exact fm.okI i⟩ hns
      refine ⟨_, rfl, A.x, C, A.dx, _, _, rfl, hN1.hx, c.c, c.n_heads, rfl, _, rfl, _, _, _, _, rfl, rfl, s1.pt.sq hrS, rfl, A.ha, _, rfl, DPut.k (k := .inr x) hkv hks, ?_⟩
      exact k _ l _ (kp ((s1.fz hN.mks).trans (hN1.putZ (by simp [Ad.own]) (.inr ⟨_, rfl⟩)))) hN7 .give
    | either b1 b2 =>
      refine ifBF (show inV (V.str (Str.ofString "either")) [V.str (Str.ofString "ask"), V.str (Str.ofString "print")] = false by decide +kernel) ⟨_, rfl, rfl, _, rfl, ifDF (neS (a := "either") (b := "print") (by decide +kernel)) ⟨_, rfl, rfl, _, rfl, ifDF (neS (a := "either") (b := "note") (by decide +kernel)) ⟨_, rfl, rfl, _, rfl, ifDF (neS (a := "either") (b := "copy") (by decide +kernel)) ⟨_, rfl, rfl, _, rfl, ifDF (neS (a := "either") (b := "give") (by decide +kernel)) ⟨_, rfl, rfl, _, rfl, ifDF (neS (a := "either") (b := "drop") (by decide +kernel)) ?_⟩⟩⟩⟩⟩
      exact k S l _ ((Same.refl _).fz hN.mksO) hN .either
    | again b1 =>
      refine ifBF (show inV (V.str (Str.ofString "again")) [V.str (Str.ofString "ask"), V.str (Str.ofString "print")] = false by decide +kernel) ⟨_, rfl, rfl, _, rfl, ifDF (neS (a := "again") (b := "print") (by decide +kernel)) ⟨_, rfl, rfl, _, rfl, ifDF (neS (a := "again") (b := "note") (by decide +kernel)) ⟨_, rfl, rfl, _, rfl, ifDF (neS (a := "again") (b := "copy") (by decide +kernel)) ⟨_, rfl, rfl, _, rfl, ifDF (neS (a := "again") (b := "give") (by decide +kernel)) ⟨_, rfl, rfl, _, rfl, ifDF (neS (a := "again") (b := "drop") (by decide +kernel)) ?_⟩⟩⟩⟩⟩
      exact k S l _ ((Same.refl _).fz hN.mksO) hN .again
end
end K13
set_option Elab.async false
set_option linter.all false
set_option maxRecDepth 100000
set_option maxHeartbeats 4000000
/-! A rule of my own: d.get(y), where y may be None. -/
namespace ZR
open PySem PySem.Spec PyProof.Rows L2
/-- what d.get(y) gives -/
def GetN (H : Hp) (a : Addr) (y v : V) : Prop := (∃ o, DGet H a y o ∧ v = o.getD .non) ∨ (y = .non ∧ v = .non ∧ ∃ kvs, Rd H a (.dK kvs))
def tDGetN (td ty : TE) : TE := fun σ H Q => td σ H fun x H1 => ∃ a, x = .ref a ∧ IsD H1 a ∧ ty σ H1 fun y H2 => ∃ v, GetN H2 a y v ∧ Q v H2
section
variable {X : Cx} {o e : Expr} {apos cpos : Pos} {td ty : TE}
theorem d_getNone {pins : List (Addr × Obj)} {σ : L2.St} {H : Hp} {s : Shared} {a : Addr} {kvs : List (Key × V)} {A : Around} {E : Value → Shared → Prop} {Q : Value → Shared → Prop} (I : Inv X pins σ H s) (g : Rd H a (.dK kvs)) (h : ∀ s', Inv X pins σ H s' → Q .none s') :
    wpAny (model X.prog X.w) A (call (.builtin "dict.get") [.ref a, .none]) Q E s := by
  obtain ⟨z, hd, vs, rel, dd⟩ := dk_rd I.hok g
  obtain ⟨f, hm, hf⟩ := none_map dd
  refine call_meetsIn PySem.F.slot_dict_get dd.typeIs PySem.F.entry_dict_get (PySem.F.args_dict_get_2 _ _) (meets_dict_get (noneKind X.prog X.w) a (show (noneKind X.prog X.w).is none .none = true from rfl) hd) ⟨_, hm, ?_⟩
  rw [hf]
  exact h _ (I.tok _)
theorem pe_dgetN (hu : X.A.units + 1 < cLine) (ho : PE X o td) (he : PE X e ty) (m : M1 X o "get" apos e cpos) : PE X (.Call (.Attribute o "get" apos) [e] [] cpos) (tDGetN td ty) := by
  refine ⟨fun pins s σ H Q I h => ?_⟩
  refine wpAny_Call_method m.base m.few m.line PySem.F.plainAttrs_dict PySem.F.slot_dict_get PySem.F.type_dict_get (thn (ho.run pins s σ H _ I h) fun u s1 ⟨x, H1, I1, rx, q0⟩ => ?_)
  obtain ⟨a, ex, d, q1⟩ := q0
  subst ex
  obtain rfl : u = Value.ref a := rx
  obtain ⟨t1, t2, _⟩ := isD_at I1 d
  refine ⟨t1, t2, ?_⟩
  rw [m.trees]
  refine Calls.callWith_builtin rfl (Calls.evalArgs_plain (Calls.spliced_cons (thn (he.run pins s1 σ H1 _ I1 q1) fun iv s2 ⟨y, H2, I2, ry, q2⟩ => Calls.spliced_nil ?_)))
  obtain ⟨v, g, q2⟩ := q2
  rcases g with ⟨ov, g, ev⟩ | ⟨ey, ev, kvs, g⟩
  · subst ev
    exact d_get1 hu I2 g ry fun w s3 I3 rw' => ⟨_, H2, I3, rw', q2⟩
  · subst ey ev
    obtain rfl : iv = Value.none := ry
    exact d_getNone I2 g fun s3 I3 => ⟨.non, H2, I3, rfl, q2⟩
end
end ZR
set_option Elab.async false
set_option linter.all false
set_option maxRecDepth 100000
set_option maxHeartbeats 4000000
/-! Holding.__init__, Notes.__init__, Notes.do. -/
namespace PM
open PySem PySem.Spec PyProof.Rows L2 ZX ZR
/-- a method's text whose closure has its class -/
abbrev nfOf (n q : Str) (s : Stmt) (cc c : Addr) : NdefX.NF := { name := n, qual := q, params := defArgs s, body := defBody s, scope := defScope s, cl := [(("__class__" : Str), cc)], c := c }
section
variable {x q C dx : Addr} {H H1 : Hp} {fs fs' : List (Str × V)} {o : HO}
/-- a new thing is made, and a field of x set to it -/
theorem ini_step (kp : Kp x H H1) (hx : H1 x = some (.ins C dx fs)) (nq : H1 q = none) : Kp x H (upd (upd H1 q o) x (.ins C dx fs')) ∧ upd (upd H1 q o) x (.ins C dx fs') x = some (.ins C dx fs') ∧ upd (upd H1 q o) x (.ins C dx fs') q = some o ∧ q ≠ x ∧ H q = none ∧ ∀ b u, b ≠ x → H1 b = some u → upd (upd H1 q o) x (.ins C dx fs') b = some u := by
  have ne : q ≠ x := fun e => by
    rw [e, hx] at nq
    cases nq
  have mv : ∀ b u, b ≠ x → H1 b = some u → upd (upd H1 q o) x (.ins C dx fs') b = some u := fun b u n e => by
    rw [upd_ne n, upd_ne (ne_of_none e nq)]
    exact e
  refine ⟨fun b u n e => mv b u n (kp b u n e), upd_same, by rw [upd_ne ne, upd_same], ne, ?_, mv⟩
  cases e : H q with
  | none => rfl
  | some u =>
    rw [kp q u ne e] at nq
    cases nq
end
/-- a lot of six new lists and dicts -/
structure New6 (H H' : Hp) (ha ma wa oa pa : Addr) : Prop where
  h1 : H' ha = some (.dK [])
  h2 : H' ma = some (.lst [])
  h3 : H' wa = some (.dK [])
  h4 : H' oa = some (.lst [])
  h5 : H' pa = some (.lst [])
  n1 : H ha = none
  n2 : H ma = none
  n3 : H wa = none
  n4 : H oa = none
  n5 : H pa = none
  nd : [ha, ma, wa, oa, pa].Nodup
def fs6 (fa ha ma wa oa pa : Addr) : List (Str × V) := [("functions", .ref fa), ("heads", .ref ha), ("made", .ref ma), ("worths", .ref wa), ("order", .ref oa), ("printed", .ref pa)]
def fs7 (fa ha ma wa oa pa ta : Addr) : List (Str × V) := [("functions", .ref fa), ("heads", .ref ha), ("made", .ref ma), ("worths", .ref wa), ("order", .ref oa), ("printed", .ref pa), ("trail", .ref ta)]
end PM
namespace K13
open PySem PySem.Spec PyProof.Rows L2 ZX PM ZR
abbrev sHInit : Stmt := inClass (top 44) 0
section
variable {P : Program} {w : World} {K : PySem.W.Frag} {mg : Str → Option Value} {base : Heap} {C : Addr} {F : List (Str × Addr)} {ns : List Str}
def spHInit (C : Addr) : Sp := fun vs H Q _ => ∃ (x dx fa : Addr), vs = [.ref x, .ref fa] ∧ H x = some (.ins C dx []) ∧ ∀ ha ma wa oa pa H', Kp x H H' → H' x = some (.ins C dx (fs6 fa ha ma wa oa pa)) → New6 H H' ha ma wa oa pa → Q .non H'
theorem scHInit : FnScope ["self", "functions"] ["self", "functions"] (defScope sHInit) := ⟨rfl, rfl, rfl, by decide +kernel, rfl, by decide +kernel, by decide +kernel⟩
theorem ok_hinit {f : Addr} {fd : FuncData} (FD : FunD K "__init__" "Holding.__init__" (defArgs sHInit) (defBody sHInit) (defScope sHInit) [] [] f fd) (c : NtC K C) : FnOk P w K mg base CX0 1 f fd ["self", "functions"] (spHInit C) := by
  refine FD.ok scHInit (fun vs H Q E h => ?_) (fun cdv A0 outer s H vs Q E hr h => ?_)
  · obtain ⟨x, dx, fa, rfl, _⟩ := h
    rfl
  · obtain ⟨x, dx, fa, rfl, hx, k⟩ := h
    refine ⟨_, PSs.nox (pss_cons (ps_fld (pv 0) (pv 1) rfl)
    (pss_cons (ps_fld (pv 0) pe_dnewK rfl)
    (pss_cons (ps_fld (pv 0) (pe_lst pa_nil) rfl)
    (pss_cons (ps_fld (pv 0) pe_dnewK rfl)
    (pss_cons (ps_fld (pv 0) (pe_lst pa_nil) rfl)
    (pss_one (ps_fld (pv 0) (pe_lst pa_nil) rfl))))))), ?_⟩
    refine ⟨_, rfl, _, rfl, x, C, dx, _, rfl, hx, c.c, c.n_functions, (by show 0 < 1000; decide), ?_⟩
    have k1 : Kp x H (upd H x (.ins C dx [("functions", .ref fa)])) := fun b u n e => by
      rw [upd_ne n]
      exact e
    have x1 : upd H x (.ins C dx [("functions", V.ref fa)]) x = some (.ins C dx [("functions", .ref fa)]) := upd_same
    refine fun ha n1 => ?_
    obtain ⟨k2, x2, a2, e2, z2, m2⟩ := ini_step (o := .dK []) (fs' := [("functions", .ref fa), ("heads", .ref ha)]) k1 x1 n1
    refine ⟨_, rfl, x, C, dx, _, rfl, (upd_ne e2.symm).trans x1, c.c, c.n_heads, (by show 1 < 1000; decide), ?_⟩
    refine ⟨by decide, fun ma n2 => ?_⟩
    obtain ⟨k3, x3, a3, e3, z3, m3⟩ := ini_step (o := .lst []) (fs' := [("functions", .ref fa), ("heads", .ref ha), ("made", .ref ma)]) k2 x2 n2
    refine ⟨_, rfl, x, C, dx, _, rfl, (upd_ne e3.symm).trans x2, c.c, c.n_made, (by show 2 < 1000; decide), ?_⟩
    refine fun wa n3 => ?_
    obtain ⟨k4, x4, a4, e4, z4, m4⟩ := ini_step (o := .dK []) (fs' := [("functions", .ref fa), ("heads", .ref ha), ("made", .ref ma), ("worths", .ref wa)]) k3 x3 n3
    refine ⟨_, rfl, x, C, dx, _, rfl, (upd_ne e4.symm).trans x3, c.c, c.n_worths, (by show 3 < 1000; decide), ?_⟩
    refine ⟨by decide, fun oa n4 => ?_⟩
    obtain ⟨k5, x5, a5, e5, z5, m5⟩ := ini_step (o := .lst []) (fs' := [("functions", .ref fa), ("heads", .ref ha), ("made", .ref ma), ("worths", .ref wa), ("order", .ref oa)]) k4 x4 n4
    refine ⟨_, rfl, x, C, dx, _, rfl, (upd_ne e5.symm).trans x4, c.c, c.n_order, (by show 4 < 1000; decide), ?_⟩
    refine ⟨by decide, fun pa n5 => ?_⟩
    obtain ⟨k6, x6, a6, e6, z6, m6⟩ := ini_step (o := .lst []) (fs' := [("functions", .ref fa), ("heads", .ref ha), ("made", .ref ma), ("worths", .ref wa), ("order", .ref oa), ("printed", .ref pa)]) k5 x5 n5
    refine ⟨_, rfl, x, C, dx, _, rfl, (upd_ne e6.symm).trans x5, c.c, c.n_printed, (by show 5 < 1000; decide), ?_⟩
    refine k ha ma wa oa pa _ k6 x6 ⟨m6 _ _ e2 (m5 _ _ e2 (m4 _ _ e2 (m3 _ _ e2 a2))), m6 _ _ e3 (m5 _ _ e3 (m4 _ _ e3 a3)), m6 _ _ e4 (m5 _ _ e4 a4), m6 _ _ e5 a5, a6, z2, z3, z4, z5, z6, ?_⟩
    have d12 := ne_of_none a2 n2
    have d13 := ne_of_none (m3 _ _ e2 a2) n3
    have d14 := ne_of_none (m4 _ _ e2 (m3 _ _ e2 a2)) n4
    have d15 := ne_of_none (m5 _ _ e2 (m4 _ _ e2 (m3 _ _ e2 a2))) n5
    have d23 := ne_of_none a3 n3
    have d24 := ne_of_none (m4 _ _ e3 a3) n4
    have d25 := ne_of_none (m5 _ _ e3 (m4 _ _ e3 a3)) n5
    have d34 := ne_of_none a4 n4
    have d35 := ne_of_none (m5 _ _ e4 a4) n5
    have d45 := ne_of_none a5 n5
    simp only [List.nodup_cons, List.mem_cons, List.not_mem_nil, or_false, not_or]
    exact ⟨⟨d12, d13, d14, d15⟩, ⟨d23, d24, d25⟩, ⟨d34, d35⟩, d45, id, List.nodup_nil⟩
end
end K13
set_option Elab.async false
set_option linter.all false
set_option maxRecDepth 100000
set_option maxHeartbeats 4000000
/-! Notes.__init__, Notes.do. -/
namespace PM
open PySem PySem.Spec PyProof.Rows L2 ZX ZR
/-- nothing is put off -/
def NS0 : NS := ⟨fun _ => none, [], [], [], []⟩
def nameW : Rw → Option Str
  | .note x _ _ => some x
  | .copy x _ => some x
  | .give x _ => some x
  | _ => none
def markS (S : NS) (r : Rw) : Mark := ⟨nameW r, (nameW r).bind S.heads, S.made.length, S.worths.length, S.printed.length⟩
section
variable {P : Program} {w : World} {K : PySem.W.Frag} {mg : Str → Option Value} {base : Heap} {fm : Fam P w K mg base} {C : Addr} {F : List (Str × Addr)} {ns : List Str} {H H' : Hp} {A : Ad} {S S' : NS} {l l' : fm.L}
theorem wf0 : WfS fm F ns NS0 := ⟨fun m h => (nomatch h), fun k m h => (by cases h), fun x n h => (by cases h), fun x t h => (by cases h), List.nodup_nil, fun k h => (nomatch h), fun x v h => (by cases h), fun m h => (nomatch h), fun p h => (nomatch h), Nat.zero_le _, Nat.zero_le _, Nat.zero_le _⟩
/-- new notes -/
theorem NtAt.init {x dx fa ha ma wa oa pa ta : Addr} (hx : H' x = some (.ins C dx (fs7 fa ha ma wa oa pa ta))) (n6 : New6 H H' ha ma wa oa pa) (ht : H' ta = some (.lst [])) (nt : H ta = none) (dt : ta ∉ [ha, ma, wa, oa, pa])
    (hf0 : ∃ o, H fa = some o) (hf : H' fa = some (.dK (F.map fun p => (.inr p.1, .ref p.2)))) (fns : ∀ p ∈ F, fm.Fn p.1 p.2 H') (mo0 : Mks fm.out H) (mo : Mks fm.out H') (nf : fa ∉ fm.out) (on : fm.out.Nodup) (at_ : fm.At l H') : NtAt fm C F ns H' ⟨x, dx, fa, ha, ma, wa, oa, pa, ta⟩ NS0 l := by
  have ho : ∀ {b : Addr}, H b = none → b ≠ fa ∧ b ∉ fm.out := fun {b} n => by
    refine ⟨fun z => ?_, fun m => ?_⟩
    · obtain ⟨o, hf0⟩ := hf0
      rw [z, hf0] at n
      cases n
    · rcases mo0 b m with ⟨_, e⟩ | ⟨_, e⟩ <;> rw [n] at e <;> cases e
  refine ⟨hx, hf, fns, ⟨[], [], n6.h1, rfl, List.nodup_nil, fun _ h => (nomatch h), fun y => (trivial : HdR K H' none none)⟩, ⟨[], n6.h2, .nil⟩, n6.h3, n6.h4, n6.h5, ⟨[], ht, .nil⟩, ?_, mo, at_, wf0⟩
  · have nd := n6.nd
    have a1 := ho n6.n1
    have a2 := ho n6.n2
    have a3 := ho n6.n3
    have a4 := ho n6.n4
    have a5 := ho n6.n5
    have a6 := ho nt
    simp only [List.nodup_cons, List.mem_cons, List.not_mem_nil, or_false, not_or] at nd dt
    obtain ⟨⟨d12, d13, d14, d15⟩, ⟨d23, d24, d25⟩, ⟨d34, d35⟩, d45, _⟩ := nd
    obtain ⟨t1, t2, t3, t4, t5⟩ := dt
    show (fa :: ha :: ma :: wa :: oa :: pa :: ta :: fm.out).Nodup
    simp only [List.nodup_cons, List.mem_cons, not_or]
    exact ⟨⟨a1.1.symm, a2.1.symm, a3.1.symm, a4.1.symm, a5.1.symm, a6.1.symm, nf⟩, ⟨d12, d13, d14, d15, Ne.symm t1, a1.2⟩, ⟨d23, d24, d25, Ne.symm t2, a2.2⟩, ⟨d34, d35, Ne.symm t3, a3.2⟩, ⟨d45, Ne.symm t4, a4.2⟩, ⟨Ne.symm t5, a5.2⟩, a6.2, on⟩
theorem DoS.trail {r : Rw} (h : DoS fm S l r S' l') : S'.trail = S.trail := by cases h <;> rfl
theorem WfS.mark (wf : WfS fm F ns S) (m : Mark) (hz : S.trail.length < 50000) : WfS fm F ns { S with trail := S.trail ++ [m] } := ⟨wf.ops, wf.low, wf.hlow, wf.hin, wf.wn, wf.wlow, wf.okh, wf.okm, wf.okw, wf.szm, wf.szp, by
    show (S.trail ++ [m]).length ≤ 50000
    rw [List.length_append]
    exact hz⟩
theorem NtAt.putTrail (h : NtAt fm C F ns H A S l) {u : V} {m : Mark} (hu : MkAt K H u m) (hz : S.trail.length < 50000) : ∃ us, H A.ta = some (.lst us) ∧ us.length < sizeLine ∧ NtAt fm C F ns (upd H A.ta (.lst (us ++ [u]))) A { S with trail := S.trail ++ [m] } l := by
  obtain ⟨ts, t1, t2⟩ := h.ht
  have z := h.putZ (b := A.ta) (o := .lst (ts ++ [u])) (by simp [Ad.own]) (.inl ⟨_, rfl⟩)
  have p := z.pt h.mks
  obtain ⟨d1, d2, d3, d4, d5, d6, d7, d8, d9, e1, e2, e3, e4, e5, e6⟩ := h.dis
  exact ⟨ts, t1, by rw [t2.len]; exact Nat.lt_trans hz (by decide), h.chg z (h.heads p (upd_ne d5) rfl) (h.mades p (upd_ne d9) rfl) ((upd_ne e3).trans h.hw) ((upd_ne e5).trans h.ho) ((upd_ne e6).trans h.hp) ⟨_, upd_same, All2.app (t2.imp fun _ _ q => q.pt p) (.cons (hu.pt p) .nil)⟩ (h.wf.mark m hz)⟩
theorem NtAt.getHead (h : NtAt fm C F ns H A S l) (n : Option Str) : ∃ v, GetN H A.ha (nmV n) v ∧ HdV K H v (n.bind S.heads) := by
  obtain ⟨kvs, ks, h1, h2, h3, h4, h5⟩ := h.hh
  cases n with
  | none => exact ⟨.non, .inr ⟨rfl, rfl, kvs, .inl h1⟩, rfl⟩
  | some x =>
    refine ⟨_, .inl ⟨_, DGet.k (k := .inr x) h1, rfl⟩, ?_⟩
    have hx := h5 x
    show HdV K H ((valV kvs (.inr x)).getD .non) (S.heads x)
    cases e1 : valV kvs (.inr x) with
    | none =>
      rw [e1] at hx
      cases e2 : S.heads x with
      | none => rfl
      | some t => rw [e2] at hx; exact hx.elim
    | some v =>
      rw [e1] at hx
      cases e2 : S.heads x with
      | none => rw [e2] at hx; exact hx.elim
      | some t => rw [e2] at hx; exact hx
end
end PM
namespace K13
open PySem PySem.Spec PyProof.Rows L2 ZX PM ZR NdefX
abbrev sNInit : Stmt := inClass (top 45) 0
abbrev sNDo : Stmt := inClass (top 45) 1
section
variable {P : Program} {w : World} {K : PySem.W.Frag} {mg : Str → Option Value} {base : Heap} {C : Addr} {F : List (Str × Addr)} {ns : List Str}
def spNInit (C : Addr) : Sp := fun vs H Q _ => ∃ (x dx fa : Addr), vs = [.ref x, .ref fa] ∧ H x = some (.ins C dx []) ∧ ∀ ha ma wa oa pa ta H', Kp x H H' → H' x = some (.ins C dx (fs7 fa ha ma wa oa pa ta)) → New6 H H' ha ma wa oa pa → H' ta = some (.lst []) → H ta = none → ta ∉ [ha, ma, wa, oa, pa] → Q .non H'
theorem scNInit : NScope ["self", "functions", "__class__"] ["self", "functions"] ["__class__"] (defScope sNInit) := nscope_by (by decide +kernel)
theorem ok_ninit {f f2 cc ca : Addr} {fd fd2 : FuncData} (FC : FunC K (nfOf "__init__" "Notes.__init__" sNInit cc ca) C f fd) (c : NtC K C) (S : SupC P K f ca C C f2 "__init__") (hms : mg "super" = none) (G : FnOk P w K mg base CX0 1 f2 fd2 ["self", "functions"] (spHInit C)) (hb : Binds K fd2 ["self", "functions"] []) : FnOk P w K mg base CX0 2 f fd ["self", "functions"] (spNInit C) := by
  refine FC.ok scNInit (fun vs H Q E h => ?_) (fun A0 outer s H vs Q E hr h => ?_)
  · obtain ⟨x, dx, fa, rfl, _⟩ := h
    rfl
  · obtain ⟨x, dx, fa, rfl, hx, k⟩ := h
    refine ⟨_, psc_super (j := 2) (k := 1) S rfl rfl rfl (show (defScope sNInit).names.lookup ("self" : Str) = some .local by decide +kernel) rfl (show (defScope sNInit).names.lookup ("__class__" : Str) = some .free by decide +kernel) (show (defScope sNInit).names.lookup ("super" : Str) = some .globalImplicit by decide +kernel) hms G hr hb pass0 (pa_cons (pv 1) pa_nil) (psc_of (pss_one (ps_fld (pv 0) (pe_lst pa_nil) rfl))), ?_⟩
    refine ⟨x, dx, _, rfl, rfl, hx, _, rfl, x, dx, fa, rfl, hx, fun ha ma wa oa pa H1 kp hx1 n6 => ?_⟩
    refine ⟨by decide, fun ta nt => ?_⟩
    obtain ⟨k2, x2, a2, e2, z2, m2⟩ := ini_step (o := .lst []) (fs' := fs7 fa ha ma wa oa pa ta) kp hx1 nt
    refine ⟨_, rfl, x, C, dx, _, rfl, (upd_ne e2.symm).trans hx1, c.c, c.n_trail, (by show 6 < 1000; decide), ?_⟩
    have nx : ∀ {b : Addr}, H b = none → b ≠ x := fun n z => by
      rw [z, hx] at n
      cases n
    refine k ha ma wa oa pa ta _ k2 x2 ⟨m2 _ _ (nx n6.n1) n6.h1, m2 _ _ (nx n6.n2) n6.h2, m2 _ _ (nx n6.n3) n6.h3, m2 _ _ (nx n6.n4) n6.h4, m2 _ _ (nx n6.n5) n6.h5, n6.n1, n6.n2, n6.n3, n6.n4, n6.n5, n6.nd⟩ a2 z2 ?_
    simp only [List.mem_cons, List.not_mem_nil, or_false, not_or]
    exact ⟨(ne_of_none n6.h1 nt).symm, (ne_of_none n6.h2 nt).symm, (ne_of_none n6.h3 nt).symm, (ne_of_none n6.h4 nt).symm, (ne_of_none n6.h5 nt).symm⟩
def spNDo (fm : Fam P w K mg base) (C : Addr) (F : List (Str × Addr)) (ns : List Str) : Sp := fun vs H Q _ => ∃ (A : Ad) (S : NS) (l : fm.L) (v : V) (r : Rw), vs = [.ref A.x, v] ∧ NtAt fm C F ns H A S l ∧ RV K H v r ∧ RwOk F ns r ∧ fm.sz l ≤ S.worths.length ∧
  S.made.length < 50000 ∧ S.printed.length < 50000 ∧ S.trail.length < 50000 ∧ ∀ S' l' H', Fz (A.own ++ fm.out) H H' → NtAt fm C F ns H' A { S' with trail := S.trail ++ [markS S r] } l' → DoS fm S l r S' l' → Q .non H'
theorem scNDo : NScope ["self", "row", "__class__", "name", "mark"] ["self", "row"] ["__class__"] (defScope sNDo) := nscope_by (by decide +kernel)
theorem ok_ndo {fm : Fam P w K mg base} {f f2 cc ca : Addr} {fd fd2 : FuncData} (FC : FunC K (nfOf "do" "Notes.do" sNDo cc ca) C f fd) (T : Bi mg) (c : NtC K C) (hW : TupC K mg "WRITING" [.str "note", .str "copy", .str "give", .str "drop"]) (S0 : SupC P K f ca C C f2 "do") (hms : mg "super" = none) (G : FnOk P w K mg base CX0 (fm.lev + 5) f2 fd2 ["self", "row"] (spHDo fm C F ns)) (hb : Binds K fd2 ["self", "row"] []) : FnOk P w K mg base CX0 (fm.lev + 6) f fd ["self", "row"] (spNDo fm C F ns) := by
  refine FC.ok scNDo (fun vs H Q E h => ?_) (fun A0 outer s H vs Q E hr h => ?_)
  · obtain ⟨A, S, l, v, r, rfl, _⟩ := h
    rfl
  · obtain ⟨A, S, l, v, r, rfl, hN, tr, hR, hsz, hzm, hzp, hzt, k⟩ := h
    obtain ⟨wr, m_WR, hWR⟩ := hW
    have hu := hu_of hr
    refine ⟨_, psc_cons (ps_set (i := 3) scNDo.nd rfl (Or.inl rfl) (pe_ifExp (pt_cmpR op_in_seq (pe_ix ix_tup (pv 1) pe_int (fun _ _ => rfl)) (pe_glob (v := .ref _) rfl m_WR rfl) (by with_unfolding_all rfl)) (pe_ix ix_tup (pv 1) pe_int (fun _ _ => rfl)) pe_non))
    (psc_cons (ps_set (i := 4) scNDo.nd rfl (Or.inl rfl) (pe_tup (pa_cons (pv 3) (pa_cons (pe_dgetN hu (pe_fld (pv 0) rfl) (pv 3) ⟨rfl, rfl, rfl, rfl⟩) (pa_cons (pe_callB call_len_seq (by rfl) T.b_len (by decide +kernel) (pa_cons (pe_fld (pv 0) rfl) pa_nil)) (pa_cons (pe_callB call_len_seq (by rfl) T.b_len (by decide +kernel) (pa_cons (pe_fld (pv 0) rfl) pa_nil)) (pa_cons (pe_callB call_len_seq (by rfl) T.b_len (by decide +kernel) (pa_cons (pe_fld (pv 0) rfl) pa_nil)) pa_nil)))))))
    (psc_super (j := 2) (k := fm.lev + 5) S0 rfl rfl rfl (show (defScope sNDo).names.lookup ("self" : Str) = some .local by decide +kernel) rfl (show (defScope sNDo).names.lookup ("__class__" : Str) = some .free by decide +kernel) (show (defScope sNDo).names.lookup ("super" : Str) = some .globalImplicit by decide +kernel) hms G hr hb pass0 (pa_cons (pv 1) pa_nil)
    (psc_of (pss_one (ps_expr (pe_bm PySem.F.plainAttrs_list PySem.F.slot_list_append PySem.F.type_list_append mt_append (pe_fld (pv 0) rfl) (pa_cons (pv 4) pa_nil))))))), ?_⟩
    obtain ⟨ra, tl, rfl, hrS, hrt⟩ := tr.rowI
    refine ⟨_, rfl, _, _, _, _, rfl, rfl, hrS, at0, _, _, rfl, .inr (hWR _), rfl, rfl, _, rfl, ?_⟩
    show if inV (V.str (wordR r)) [V.str "note", V.str "copy", V.str "give", V.str "drop"] = true then _ else _
    have htl : ∀ x, nameW r = some x → ∃ tl', tl = .str x :: tl' := fun x e => by
      cases r with
      | note y o ps =>
        cases e
        obtain ⟨v1, v2, v3, rfl, t1, _⟩ := hrt.three
        cases t1.strI
        exact ⟨_, rfl⟩
      | copy y z =>
        cases e
        obtain ⟨v1, v2, rfl, t1, _⟩ := hrt.two
        cases t1.strI
        exact ⟨_, rfl⟩
      | give y z =>
        cases e
        obtain ⟨v1, v2, rfl, t1, _⟩ := hrt.two
        cases t1.strI
        exact ⟨_, rfl⟩
      | _ => cases e
    have pick : ∀ {te : TE} {σ : L2.St} {D : VK}, (∀ x, nameW r = some x → D (.str x) H → te σ H D) → D (nmV (nameW r)) H → if inV (V.str (wordR r)) [V.str "note", V.str "copy", V.str "give", V.str "drop"] = true then te σ H D else D .non H := fun {te σ D} h1 h2 => by
      cases r with
      | note y o ps => exact ifB (show inV (V.str (Str.ofString "note")) [V.str (Str.ofString "note"), V.str (Str.ofString "copy"), V.str (Str.ofString "give"), V.str (Str.ofString "drop")] = true by decide +kernel) (h1 y rfl h2)
      | copy y z => exact ifB (show inV (V.str (Str.ofString "copy")) [V.str (Str.ofString "note"), V.str (Str.ofString "copy"), V.str (Str.ofString "give"), V.str (Str.ofString "drop")] = true by decide +kernel) (h1 y rfl h2)
      | give y z => exact ifB (show inV (V.str (Str.ofString "give")) [V.str (Str.ofString "note"), V.str (Str.ofString "copy"), V.str (Str.ofString "give"), V.str (Str.ofString "drop")] = true by decide +kernel) (h1 y rfl h2)
      | ask y => exact ifBF (show inV (V.str (Str.ofString "ask")) [V.str (Str.ofString "note"), V.str (Str.ofString "copy"), V.str (Str.ofString "give"), V.str (Str.ofString "drop")] = false by decide +kernel) h2
      | prt y => exact ifBF (show inV (V.str (Str.ofString "print")) [V.str (Str.ofString "note"), V.str (Str.ofString "copy"), V.str (Str.ofString "give"), V.str (Str.ofString "drop")] = false by decide +kernel) h2
      | either a b => exact ifBF (show inV (V.str (Str.ofString "either")) [V.str (Str.ofString "note"), V.str (Str.ofString "copy"), V.str (Str.ofString "give"), V.str (Str.ofString "drop")] = false by decide +kernel) h2
      | again a => exact ifBF (show inV (V.str (Str.ofString "again")) [V.str (Str.ofString "note"), V.str (Str.ofString "copy"), V.str (Str.ofString "give"), V.str (Str.ofString "drop")] = false by decide +kernel) h2
    refine pick (fun x e d => ?_) ?_
    · obtain ⟨tl', rfl⟩ := htl x e
      exact ⟨_, rfl, _, _, _, _, rfl, rfl, hrS, atI_nat (j := 1) rfl, d⟩
    obtain ⟨us, g1, g2⟩ := hN.hm
    obtain ⟨hv, hget, hhv⟩ := hN.getHead (nameW r)
    refine ⟨_, rfl, _, rfl, A.x, C, A.dx, _, _, rfl, hN.hx, c.c, c.n_heads, rfl, A.ha, rfl, ?_, _, rfl, hv, hget, ?_⟩
    · obtain ⟨kvs, ks, h1, _⟩ := hN.hh
      exact .inl ⟨_, .inl h1⟩
    refine ⟨_, rfl, A.x, C, A.dx, _, _, rfl, hN.hx, c.c, c.n_made, rfl, A.ma, _, rfl, .inl (SqL.of g1), _, rfl, A.x, C, A.dx, _, _, rfl, hN.hx, c.c, c.n_order, rfl, A.oa, _, rfl, .inl (SqL.of hN.ho), _, rfl, A.x, C, A.dx, _, _, rfl, hN.hx, c.c, c.n_printed, rfl, A.pa, _, rfl, .inl (SqL.of hN.hp), by show 5 ≤ sizeLine; decide, fun q nq => ?_⟩
    have s1 := same_new (o := .tup [nmV (nameW r), hv, .int (us.length : Nat), .int ((S.worths.map fun p => V.int (p.1 : Nat)).length : Nat), .int (S.printed.length : Nat)]) nq
    have hN1 := hN.same s1
    refine ⟨A.x, A.dx, _, rfl, rfl, hN1.hx, _, rfl, A, S, l, _, r, rfl, hN1, tr.pt s1.pt, hR, hsz, hzm, hzp, fun S' l' H2 z2 hN2 hD => ?_⟩
    have p2 := z2.pt hN1.mksO
    have hmk : MkAt K H2 (.ref q) (markS S r) := by
      refine ⟨q, hv, rfl, p2.sq (.inl (.inl ?_)), (hhv.pt s1.pt).pt p2⟩
      rw [upd_same]
      show some (HO.tup [_, _, .int (us.length : Nat), .int (_ : Nat), _]) = _
      rw [g2.len, List.length_map]
      rfl
    obtain ⟨ts, t1, tz, hN3⟩ := hN2.putTrail hmk (by rw [hD.trail]; exact hzt)
    refine ⟨_, rfl, A.x, C, A.dx, _, _, rfl, hN2.hx, c.c, c.n_trail, rfl, .inl ⟨rfl, _, SqL.of t1⟩, _, rfl, A.ta, ts, _, rfl, rfl, t1, tz, ?_⟩
    rw [hD.trail] at hN3
    exact k S' l' _ (((s1.fz hN.mksO).trans z2).trans ((hN2.putZ (by simp [Ad.own]) (.inl ⟨_, rfl⟩)).mono (fun b hb => List.mem_append_left _ hb) hN2.mksO)) hN3 hD
end
end K13
set_option Elab.async false
set_option linter.all false
set_option maxRecDepth 100000
set_option maxHeartbeats 4000000
/-! A rule of my own: xs.extend(t), t a tuple. -/
namespace ZR
open PySem PySem.Spec PyProof.Rows L2
theorem ext_tup (l : Addr) (as : Array Value) (k : Nat) (t : Addr) (bs : Array Value) (j : Nat) (od : Option Addr) (os : Array (Option Value)) (ok : (!as.isEmpty && Builtin.List.listTooLong (as.size + bs.size)) = false) (z1 : as.size ≤ sizeLine) (z2 : as.size + bs.size ≤ sizeLine + 1) :
    Meets (Builtin.«list.extend» ⟨[.ref l, .ref t], []⟩) fun _ R s => (s.heap.get? l = some { cls := .type "list", data := .seq as k }) ∧ (s.heap.get? t = some ⟨.type "tuple", od, .seq bs j, os⟩) ∧ R (.ok (.ret Value.none)) { s with heap := s.heap.update l (Obj.mapSeq (· ++ bs)) } :=
  .of_wp fun prog w A R s h => by
    obtain ⟨hh, g, d, tk, o2⟩ := s
    obtain ⟨h1, h2, h3⟩ := h
    have e1 := AutoSeq1.idx_int
    have e2 := AutoSeq1.sub_tuple_tuple
    have e3 := AutoSeq1.sub_list_list
    have e4 := AutoSeq1.sub_tuple_list
    have e5 := AutoSeq1.sub_list_tuple
    have ok' : ¬ (!as.isEmpty && Builtin.List.listTooLong (as.size + bs.size)) = true := by rw [ok]; exact Bool.false_ne_true
    have z3 : (as ++ bs).size ≤ sizeLine + 1 := by
      rw [Array.size_append]
      exact z2
    wp_walk using (wpAny_updateSeq h1 rfl (hz := z1) (_hz' := z3)), wpAny_loadPart' h1, wpAny_loadPart' h2
    exact ⟨_, rfl, h3⟩
def rExtT (K : PySem.W.Frag) : V → List V → Hp → VK → Prop := fun x vs H Q => ∃ (l b : Addr) (xs zs : List V), x = .ref l ∧ vs = [.ref b] ∧ H l = some (.lst xs) ∧ SqT K H b zs ∧ xs.length + zs.length ≤ sizeLine ∧ Q .non (upd H l (.lst (xs ++ zs)))
theorem mt_extT {X : Cx} : MtR X "list.extend" (rExtT X.K) := by
  intro pins s σ H x vs v us Q I rx rv h
  obtain ⟨l, b, xs, zs, ex, ev, hH, hB, hz, q⟩ := h
  subst ex
  subst ev
  cases rx
  obtain ⟨u, eu, ru⟩ := rv.one
  subst eu
  cases ru
  obtain ⟨z, its, n, r, hl, e⟩ := I.lstM hH
  obtain ⟨its2, r2, ⟨⟨oc, od, odt, osl⟩, ho, hc, n2, hd⟩, _⟩ := I.tuple hB
  dsimp only at hc hd
  subst hc
  subst hd
  have l1 := r.length
  have l2 := r2.length
  have hsz : its.toArray.size + its2.toArray.size ≤ sizeLine := by
    rw [List.size_toArray, List.size_toArray]
    omega
  refine call_meets PySem.F.slot_list_extend ⟨_, e, rfl⟩ PySem.F.entry_list_extend (PySem.F.args_list_extend_2 _ _) (ext_tup l its.toArray n b its2.toArray n2 od osl (by rw [notLongL hsz, Bool.and_false]) (by omega) (by omega)) ⟨e, ho, ?_⟩
  refine ⟨.non, _, I.lset (its' := its ++ its2) (t' := s.toks) hH e (by simp) (r.append r2) ?_, rfl, q⟩
  rw [List.length_append]
  omega
end ZR
set_option Elab.async false
set_option linter.all false
set_option maxRecDepth 100000
set_option maxHeartbeats 4000000
/-! Holding._met, waiting, worked, said. -/
namespace PM
open PySem PySem.Spec PyProof.Rows L2 ZX ZR
/-- what is met, from a pile of things (its top first), those met already -/
inductive Me (S : NS) : List Th → List Nat → List Nat → Prop
  | done {ms : List Nat} : Me S [] ms ms
  | skip {t : Th} {st : List Th} {ms r : List Nat} (hn : ∀ n, nowS S t = .note n → n ∈ ms) (h : Me S st ms r) : Me S (t :: st) ms r
  | meet {t : Th} {st : List Th} {ms r : List Nat} {n : Nat} {m : Str × List Th} (hn : nowS S t = .note n) (hm : n ∉ ms) (hk : S.made[n]? = some m) (h : Me S (m.2 ++ st) (ms ++ [n]) r) : Me S (t :: st) ms r
/-- all that is met -/
def MetS (S : NS) (ms : List Nat) : Prop := ∃ (ys : List Str) (ts : List Th), sortedS ys = true ∧ ys.Nodup ∧ (∀ x, x ∈ ys ↔ S.heads x ≠ none) ∧ All2 (fun y t => S.heads y = some t) ys ts ∧ Me S ts [] ms
def mtKV (ms : List Nat) : List (Key × V) := ms.zipIdx.map fun p => (.inl (p.1 : Int), .int (p.2 : Nat))
theorem mt_keys (ms : List Nat) : (mtKV ms).map (·.1) = ms.map fun (n : Nat) => (Sum.inl (n : Int) : Key) := by
  unfold mtKV
  rw [List.map_map]
  have : ∀ (k : Nat) (l : List Nat), (l.zipIdx k).map ((fun x : Key × V => x.1) ∘ fun p : Nat × Nat => ((Sum.inl (p.1 : Int) : Key), V.int (p.2 : Nat))) = l.map fun (n : Nat) => (Sum.inl (n : Int) : Key) := fun k l => by
    induction l generalizing k with
    | nil => rfl
    | cons a l ih =>
      rw [List.zipIdx_cons, List.map_cons, List.map_cons, ih]
      rfl
  exact this 0 ms
theorem mt_len (ms : List Nat) : (mtKV ms).length = ms.length := by
  have := congrArg List.length (mt_keys ms)
  rwa [List.length_map, List.length_map] at this
theorem mt_none {n : Nat} {ms : List Nat} (h : n ∉ ms) : valV (mtKV ms) (.inl (n : Int)) = none := by
  cases e : valV (mtKV ms) (.inl (n : Int)) with
  | none => rfl
  | some v =>
    have := valV_in e
    rw [mt_keys] at this
    obtain ⟨m, hm, e2⟩ := List.mem_map.mp this
    exact absurd (by have : m = n := by injection e2 with e3; omega
                     rw [← this]; exact hm) h
theorem mt_some {n : Nat} {ms : List Nat} (h : n ∈ ms) : ∃ v, valV (mtKV ms) (.inl (n : Int)) = some v := by
  cases e : valV (mtKV ms) (.inl (n : Int)) with
  | some v => exact ⟨v, rfl⟩
  | none =>
    have := valV_not e
    rw [mt_keys] at this
    exact absurd (List.mem_map_of_mem h) this
theorem mt_snoc {n : Nat} {ms : List Nat} (h : n ∉ ms) : putK (mtKV ms) (.inl (n : Int)) (.int (ms.length : Nat)) = mtKV (ms ++ [n]) := by
  rw [putK_new _ (mt_none h)]
  unfold mtKV
  rw [List.zipIdx_append, List.map_append]
  simp
theorem same_putN {H H1 : Hp} {a : Addr} {o : HO} (s : Same H H1) (n : H a = none) : Same H (upd H1 a o) := fun b u e => by
  rw [upd_ne (ne_of_none e n)]
  exact s b u e
theorem All2.rev {α β : Type} {R : α → β → Prop} : ∀ {as : List α} {bs : List β}, All2 R as bs → All2 R as.reverse bs.reverse
  | _, _, .nil => .nil
  | _, _, .cons (as := as) (bs := bs) r t => by
    rw [List.reverse_cons, List.reverse_cons]
    exact All2.app (All2.rev t) (.cons r .nil)
theorem all2_split {R : V → Th → Prop} {h : Str → Option Th} : ∀ {ys : List Str} {us : List V}, All2 (fun y u => ∃ t, h y = some t ∧ R u t) ys us → ∃ ts, All2 R us ts ∧ All2 (fun y t => h y = some t) ys ts
  | _, _, .nil => ⟨[], .nil, .nil⟩
  | _, _, .cons r t => by
    obtain ⟨x, e, r⟩ := r
    obtain ⟨ts, h1, h2⟩ := all2_split t
    exact ⟨x :: ts, .cons r h1, .cons e h2⟩
theorem All2.mem2 {α β : Type} {R : α → β → Prop} {b : β} : ∀ {as : List α} {bs : List β}, All2 R as bs → b ∈ bs → ∃ a ∈ as, R a b
  | _, _, .nil, h => nomatch h
  | _, _, .cons r t, h => by
    rcases List.mem_cons.mp h with rfl | h
    · exact ⟨_, List.mem_cons_self, r⟩
    · obtain ⟨a, ha, hr⟩ := All2.mem2 t h
      exact ⟨a, List.mem_cons_of_mem _ ha, hr⟩
theorem heads_iff {K : PySem.W.Frag} {H : Hp} {kvs : List (Key × V)} {ks : List Str} {hd : Str → Option Th} (h2 : kvs.map (·.1) = ks.map Sum.inr) (h5 : ∀ x, HdR K H (valV kvs (.inr x)) (hd x)) (x : Str) : x ∈ ks ↔ hd x ≠ none := by
  have hx := h5 x
  constructor
  · intro hm e
    have hin : (.inr x : Key) ∈ kvs.map (·.1) := by
      rw [h2]
      exact List.mem_map_of_mem hm
    cases e1 : valV kvs (.inr x) with
    | none => exact valV_not e1 hin
    | some v =>
      rw [e1, e] at hx
      exact hx
  · intro hn
    cases e1 : valV kvs (.inr x) with
    | none =>
      rw [e1] at hx
      cases e2 : hd x with
      | none => exact absurd e2 hn
      | some t => rw [e2] at hx; exact hx.elim
    | some v =>
      have := valV_in e1
      rw [h2] at this
      obtain ⟨y, hy, e⟩ := List.mem_map.mp this
      cases e
      exact hy
def msM (S : NS) (ms : List Nat) (st : List Th) : Nat := (S.made.length - ms.length) * 4 + st.length
end PM
namespace K13
open PySem PySem.Spec PyProof.Rows L2 ZX PM ZR
abbrev sHMet : Stmt := inClass (top 44) 13
abbrev sHWaiting : Stmt := inClass (top 44) 3
abbrev sHWorked : Stmt := inClass (top 44) 4
abbrev sHSaid : Stmt := inClass (top 44) 5
section
variable {P : Program} {w : World} {K : PySem.W.Frag} {mg : Str → Option Value} {base : Heap} {C : Addr} {F : List (Str × Addr)} {ns : List Str}
def spMet (fm : Fam P w K mg base) (C : Addr) (F : List (Str × Addr)) (ns : List Str) : Sp := fun vs H Q _ => ∃ (A : Ad) (S : NS) (l : fm.L), vs = [.ref A.x] ∧ NtAt fm C F ns H A S l ∧
  ∀ q ms H', Same H H' → H q = none → H' q = some (.dK (mtKV ms)) → MetS S ms → ms.Nodup → (∀ n ∈ ms, n < S.made.length) → Q (.ref q) H'
abbrev NMet : List Str := ["self", "met", "ahead", "kind", "what", "name"]
theorem scHMet : FnScope NMet ["self"] (defScope sHMet) := ⟨rfl, rfl, rfl, by decide +kernel, rfl, by decide +kernel, by decide +kernel⟩
theorem ok_met {fm : Fam P w K mg base} {f : Addr} {fd : FuncData} (FD : FunD K "_met" "Holding._met" (defArgs sHMet) (defBody sHMet) (defScope sHMet) [] [] f fd) (T : Bi mg) (c : NtC K C) (bso : mg "sorted" = none) (hns : ns.length < 64) (M_now : MCal P w K mg base C "_now" 1 ["self", "thing"] (spNow fm C F ns)) : FnOk P w K mg base CX0 2 f fd ["self"] (spMet fm C F ns) := by
  refine FD.ok scHMet (fun vs H Q E h => ?_) (fun cdv A0 outer s H vs Q E hr h => ?_)
  · obtain ⟨A, S, l, rfl, _⟩ := h
    rfl
  · obtain ⟨A, S, l, rfl, hN, k⟩ := h
    have hu := hu_of hr
    refine ⟨_, PSs.nox (pss_cut (ps_set (i := 1) scHMet.nd rfl (Or.inl rfl) pe_dnewK)
    (pss_cut (ps_set (i := 2) scHMet.nd rfl (Or.inl rfl) (pe_revL (pe_lcS (own := [("name", 5)]) (g := gName 5) (tt := tYes) (te := tDGet (tFld K (tVar 0) "heads") (tVar 5)) (by rfl) scHMet.nd (pi_list (pe_callB (call_sortedD rfl) (by rfl) bso (by decide +kernel) (pa_cons (pe_fld (pv 0) rfl) pa_nil))) (blkOk_by (N := NMet) (sc := defScope sHMet) (by decide +kernel)) (fun _ _ _ _ _ => (pg_name (i := 5) scHMet.nd rfl (Or.inl rfl))) (fun _ _ _ _ _ => pts_nil) (fun _ _ _ _ _ => (pe_dget hu (pe_fld (pv 0) rfl) (pv 5) (fun _ _ => rfl))))))
    (pss_cons (ps_while PassesOwn.never (pt_truth (pv 2) (by intro _; rfl)) (pss_cons (ps_asg (pmc M_now hr (pv 0) (pa_cons (pe_bm0 PySem.F.plainAttrs_list PySem.F.slot_list_pop PySem.F.type_list_pop mt_pop (pv 2)) pa_nil)) (pg_tup rfl (pgs_cons (pg_name (i := 3) scHMet.nd rfl (Or.inl rfl)) (pgs_cons (pg_name (i := 4) scHMet.nd rfl (Or.inl rfl)) pgs_nil))))
      (pss_one (ps_if (PW.pt (pw_and (pt_cmpR op_eq (pv 3) pe_str (nomark _)) (pw_and1 (pt_cmp (pc_dnotin hu (pv 4) (pv 1)))))) (pss_cons (ps_dput hu (pv 1) (pv 4) (pe_callB call_lenD (by rfl) T.b_len (by decide +kernel) (pa_cons (pv 1) pa_nil)) rfl)
        (pss_one (ps_expr (pe_bm PySem.F.plainAttrs_list PySem.F.slot_list_extend PySem.F.type_list_extend mt_extT (pv 2) (pa_cons (ZR.pe_revT (pe_ix ix_tup (pe_ix ix_list (pe_fld (pv 0) rfl) (pv 4) (fun _ _ => rfl)) pe_int (fun _ _ => rfl))) pa_nil))))) pss_nil))))
    (pss_one (ps_ret (pv 1)))))), ?_⟩
    refine ⟨fun σ1 H1 => ∃ da, σ1 = [some (.ref A.x), some (.ref da), none, none, none, none] ∧ H da = none ∧ Same H H1 ∧ H1 da = some (.dK (mtKV [])), fun da nd => ⟨da, rfl, nd, same_new nd, upd_same⟩, ?_⟩
    rintro σ1 H1 ⟨da, rfl, nda, s1, hda1⟩
    have hN1 := hN.same s1
    obtain ⟨kvs, ks, h1, h2, h3, h4, h5⟩ := hN1.hh
    have hks : ks.length < 64 := Nat.lt_of_le_of_lt (h3.length_le_of_subset fun y hy => h4 y hy) hns
    refine ⟨fun σ2 H2 => ∃ aa ys ts us, σ2 = [some (.ref A.x), some (.ref da), some (.ref aa), none, none, none] ∧ H1 aa = none ∧ Same H1 H2 ∧ H2 aa = some (.lst us.reverse) ∧ All2 (ThAt K H2) us ts ∧ sortedS ys = true ∧ ys.Nodup ∧ (∀ x, x ∈ ys ↔ S.heads x ≠ none) ∧ All2 (fun y t => S.heads y = some t) ys ts ∧ us.length ≤ 63, ?_, ?_⟩
    · refine lc_into ?_
      refine ⟨_, rfl, A.x, C, A.dx, _, _, rfl, hN1.hx, c.c, c.n_heads, rfl, A.ha, kvs, ks, rfl, .inl h1, h2, hks, fun ys p hp hs np => ?_⟩
      have sp := same_new (o := .lst (ys.map V.str)) np
      have hN2 := hN1.same sp
      have hyl : ys.length = ks.length := hp.length_eq
      refine ⟨p, rfl, ⟨_, SqL.of upd_same⟩, ?_⟩
      refine lc_overA (p := none) (as := ys) (zs := ys.map V.str) (Rel := fun H' y u => ∃ t, S.heads y = some t ∧ ThAt K H' u t) it_list ?_ (fun _ _ _ _ p h => ?_) (fun _ h => nomatch h) ?_ (fun H' kq _ => kq.same.seq (SqL.of upd_same)) ?_ ?_
      · rw [List.length_map]
      · obtain ⟨t, e, h⟩ := h
        exact ⟨t, e, h.pt p⟩
      · rw [List.length_map, hyl]
        exact Nat.lt_trans hks (by decide)
      · intro j z y hz hy H3 kq pt3 R kR
        rw [List.getElem?_map, hy] at hz
        cases hz
        have hN3 := hN2.same kq.same
        have hyk : y ∈ ks := hp.mem_iff.mp (List.mem_of_getElem? hy)
        have h13 := kq.same _ _ (sp _ _ h1)
        have hx := h5 y
        have hin : (.inr y : Key) ∈ kvs.map (·.1) := by
          rw [h2]
          exact List.mem_map_of_mem hyk
        cases e1 : valV kvs (.inr y) with
        | none => exact absurd hin (valV_not e1)
        | some v =>
          rw [e1] at hx
          cases e2 : S.heads y with
          | none => rw [e2] at hx; exact hx.elim
          | some t =>
            rw [e2] at hx
            have hg := DGet.k (k := .inr y) h13
            rw [e1] at hg
            exact ⟨rfl, _, rfl, A.x, C, A.dx, _, _, rfl, hN3.hx, c.c, c.n_heads, rfl, _, rfl, A.ha, _, rfl, hg, kR _ _ (Same.kq fun _ _ h => h) (Pt.refl _) ⟨t, e2, (ThAt.pt sp.pt hx).pt kq.same.pt⟩⟩
      · intro D us H3 kq pt3 nD hD all
        refine ⟨D, us, rfl, SqL.of hD, fun q nq => ?_⟩
        have s3 := sp.trans kq.same
        have sq := same_new (o := .lst us.reverse) nq
        have sz := heads_iff h2 h5
        obtain ⟨ts, t1, t2⟩ := all2_split all
        refine ⟨q, ys, ts, us, rfl, s3.free nq, s3.trans sq, upd_same, t1.imp fun _ _ h => h.pt sq.pt, hs, hp.nodup_iff.mpr h3, fun x => ?_, t2, ?_⟩
        · rw [hp.mem_iff]
          exact sz x
        · rw [t1.len, ← t2.len, hyl]
          omega
    rintro σ2 H2 ⟨aa, ys, ts, us0, rfl, naa, s2, haa2, hu0, hso, hyn, hym, hyt, hul⟩
    have nda2 := s2 _ _ hda1
    have dneq : da ≠ aa := ne_of_none hda1 naa
    have naa0 : H aa = none := s1.free naa
    -- between two turns
    refine ⟨fun n σ' H' => ∃ (st : List Th) (us : List V) (ms : List Nat) (y3 y4 : Option V), σ' = [some (.ref A.x), some (.ref da), some (.ref aa), y3, y4, none] ∧ Same H H' ∧ H' aa = some (.lst us.reverse) ∧ H' da = some (.dK (mtKV ms)) ∧ All2 (ThAt K H') us st ∧
      ms.Nodup ∧ (∀ n ∈ ms, n < S.made.length) ∧ (∀ t ∈ st, OkT fm S t) ∧ us.length ≤ 63 + 3 * ms.length ∧ (∀ r, Me S st ms r → Me S ts [] r) ∧ n = msM S ms st, ⟨_, ts, us0, [], none, none, rfl, s1.trans s2, haa2, nda2, hu0, List.nodup_nil, fun _ h => (nomatch h), fun t ht => ?_, hul, fun r h => h, rfl⟩, ?_⟩
    · obtain ⟨y, _, e⟩ := All2.mem2 hyt ht
      exact hN.wf.hd e
    rintro n σ' H' ⟨st, us, ms, y3, y4, rfl, sm, haa, hda, hus, hnd, hlt, hok, hsz, kM, rfl⟩
    refine ⟨_, rfl, _, .inl ⟨_, SqL.of haa, rfl⟩, ?_⟩
    cases hus with
    | nil => exact ifBF rfl ⟨_, rfl, k da ms H' sm nda hda ⟨ys, ts, hso, hyn, hym, hyt, kM ms .done⟩ hnd hlt⟩
    | @cons v t us st hv hus =>
    rw [List.reverse_cons] at haa ⊢
    have hne : (!(us.reverse ++ [v]).isEmpty) = true := by
      cases us.reverse <;> rfl
    refine ifB hne ?_
    refine ⟨fun σ3 H3 => ∃ m', m' < msM S ms (t :: st) ∧ ∃ (st : List Th) (us : List V) (ms : List Nat) (y3 y4 : Option V), σ3 = [some (.ref A.x), some (.ref da), some (.ref aa), y3, y4, none] ∧ Same H H3 ∧ H3 aa = some (.lst us.reverse) ∧ H3 da = some (.dK (mtKV ms)) ∧ All2 (ThAt K H3) us st ∧
      ms.Nodup ∧ (∀ n ∈ ms, n < S.made.length) ∧ (∀ t ∈ st, OkT fm S t) ∧ us.length ≤ 63 + 3 * ms.length ∧ (∀ r, Me S st ms r → Me S ts [] r) ∧ m' = msM S ms st, fun _ _ h => h, ?_⟩
    have hN' := hN.same sm
    have s3 : Same H (upd H' aa (.lst us.reverse)) := same_putN sm naa0
    have p3 : Pt H' (upd H' aa (.lst us.reverse)) := (Fz.put (M := [aa]) (o := .lst us.reverse) (fun b hb => by rw [List.mem_singleton.mp hb]; exact .inl ⟨_, haa⟩) List.mem_cons_self (.inl ⟨_, rfl⟩)).pt (fun b hb => by rw [List.mem_singleton.mp hb]; exact .inl ⟨_, haa⟩)
    have hN3 := hN.same s3
    have hda3 : upd H' aa (.lst us.reverse) da = some (.dK (mtKV ms)) := (upd_ne dneq).trans hda
    have hokt := hok t List.mem_cons_self
    have hnow := hN.wf.now hokt
    have hsz1 : us.length + 1 ≤ 63 + 3 * ms.length := hsz
    refine ⟨_, rfl, A.x, A.dx, _, rfl, hN'.hx, rfl, _, rfl, .inl ⟨rfl, _, SqL.of haa⟩, aa, _, v, rfl, rfl, haa, by simp, ?_⟩
    rw [List.dropLast_concat]
    refine ⟨A, S, l, v, t, rfl, hN3, hv.pt p3, fun u H4 s4 hu4 => ?_⟩
    obtain ⟨ua, rfl, hU⟩ := hu4
    have sm4 := s3.trans s4
    have hN4 := hN.same sm4
    have hda4 := s4 _ _ hda3
    have haa4 := s4 _ _ (show upd H' aa (.lst us.reverse) aa = some (.lst us.reverse) from upd_same)
    have hus4 : All2 (ThAt K H4) us st := hus.imp fun _ _ h => (h.pt p3).pt s4.pt
    have hms : ms.length ≤ S.made.length := nodup_lt hnd hlt
    cases enow : nowS S t with
    | worth wv =>
      rw [enow] at hU
      refine ⟨ua, _, rfl, hU, rfl, _, _, rfl, _, _, rfl, rfl, ?_⟩
      refine ⟨_, rfl, rfl, _, rfl, ifBF (by decide +kernel) ?_⟩
      refine ⟨_, ?_, st, us, ms, _, _, rfl, sm4, haa4, hda4, hus4, hnd, hlt, fun t ht => hok t (List.mem_cons_of_mem _ ht), by omega, fun r h => kM r (.skip (fun n e => by rw [enow] at e; cases e) h), rfl⟩
      show _ + st.length < _ + (st.length + 1)
      omega
    | note n =>
      rw [enow] at hU
      refine ⟨ua, _, rfl, hU, rfl, _, _, rfl, _, _, rfl, rfl, ?_⟩
      have hg := DGet.k (k := .inl (n : Int)) hda4
      refine ⟨_, rfl, rfl, _, rfl, ifB (by decide +kernel) ⟨_, rfl, _, rfl, da, _, rfl, hg, _, rfl, ?_⟩⟩
      by_cases hm : n ∈ ms
      · obtain ⟨v0, e0⟩ := mt_some hm
        rw [e0]
        refine ifBF rfl ⟨_, ?_, st, us, ms, _, _, rfl, sm4, haa4, hda4, hus4, hnd, hlt, fun t ht => hok t (List.mem_cons_of_mem _ ht), by omega, fun r h => kM r (.skip (fun j e => by rw [enow] at e; cases e; exact hm) h), rfl⟩
        show _ + st.length < _ + (st.length + 1)
        omega
      · rw [mt_none hm]
        have hnl : n < S.made.length := hnow.1 n enow
        have hget : S.made[n]? = some S.made[n] := List.getElem?_eq_getElem hnl
        have hlow := hN.wf.low n _ hget
        have hml : ms.length < S.made.length := by
          have := nodup_lt (n := S.made.length) (l := n :: ms) (List.nodup_cons.mpr ⟨hm, hnd⟩) (fun j hj => by
            rcases List.mem_cons.mp hj with rfl | hj
            · exact hnl
            · exact hlt j hj)
          exact this
        have hsm := hN.wf.szm
        refine ifB rfl ?_
        refine ⟨_, rfl, da, _, rfl, hda4, _, rfl, _, rfl, da, _, rfl, DPut.k (k := .inl (n : Int)) hda4 (by rw [mt_len]; exact Nat.lt_of_lt_of_le hml (Nat.le_trans hsm (by decide))), ?_⟩
        rw [mt_len, mt_snoc hm]
        have sm5 : Same H (upd H4 da (.dK (mtKV (ms ++ [n])))) := same_putN sm4 nda
        have p5 : Pt H4 (upd H4 da (.dK (mtKV (ms ++ [n])))) := (Fz.put (M := [da]) (o := .dK (mtKV (ms ++ [n]))) (fun b hb => by rw [List.mem_singleton.mp hb]; exact .inr ⟨_, hda4⟩) List.mem_cons_self (.inr ⟨_, rfl⟩)).pt (fun b hb => by rw [List.mem_singleton.mp hb]; exact .inr ⟨_, hda4⟩)
        have hN5 := hN.same sm5
        have haa5 : upd H4 da (.dK (mtKV (ms ++ [n]))) aa = some (.lst us.reverse) := (upd_ne (Ne.symm dneq)).trans haa4
        obtain ⟨mus, hma, hall⟩ := hN5.hm
        obtain ⟨mu, hmu0, ⟨a, b, ps, rfl, hSa, hSb, hps⟩⟩ := hall.getR hget
        refine ⟨_, rfl, .inl ⟨rfl, _, SqL.of haa5⟩, _, rfl, A.x, C, A.dx, _, _, rfl, hN5.hx, c.c, c.n_made, rfl, _, rfl, A.ma, mus, _, _, rfl, rfl, SqL.of hma, atI_nat hmu0, a, _, 1, _, rfl, rfl, hSa, rfl, b, ps, rfl, hSb, fun q nq => ?_⟩
        have s6 := same_new (o := .tup ps.reverse) nq
        have hpl : ps.length ≤ 3 := by
          rw [hps.len]
          exact hlow.1
        have aaq : aa ≠ q := ne_of_none haa5 nq
        refine ⟨aa, q, _, _, rfl, rfl, s6 _ _ haa5, .inl (.inl upd_same), ?_, ?_⟩
        · rw [List.length_reverse, List.length_reverse]
          exact Nat.le_trans (show us.length + ps.length ≤ 63 + 3 * 50000 by omega) (by decide)
        have haa6 := s6 _ _ haa5
        have p7 : Pt (upd (upd H4 da (.dK (mtKV (ms ++ [n])))) q (.tup ps.reverse)) (upd (upd (upd H4 da (.dK (mtKV (ms ++ [n])))) q (.tup ps.reverse)) aa (.lst (us.reverse ++ ps.reverse))) := (Fz.put (M := [aa]) (o := .lst (us.reverse ++ ps.reverse)) (fun b hb => by rw [List.mem_singleton.mp hb]; exact .inl ⟨_, haa6⟩) List.mem_cons_self (.inl ⟨_, rfl⟩)).pt (fun b hb => by rw [List.mem_singleton.mp hb]; exact .inl ⟨_, haa6⟩)
        refine ⟨_, ?_, S.made[n].2 ++ st, ps ++ us, ms ++ [n], _, _, rfl, same_putN (sm5.trans s6) naa0, by rw [upd_same, List.reverse_append], (upd_ne dneq).trans (s6 _ _ upd_same), ?_, ?_, ?_, ?_, ?_, fun r h => kM r (.meet enow hm hget h), rfl⟩
        · show (S.made.length - (ms ++ [n]).length) * 4 + (S.made[n].2 ++ st).length < (S.made.length - ms.length) * 4 + (st.length + 1)
          rw [List.length_append, List.length_append, List.length_singleton]
          have := hlow.1
          omega
        · refine All2.app (hps.imp fun _ _ h => ?_) (hus4.imp fun _ _ h => ?_)
          · exact (h.pt s6.pt).pt p7
          · exact ((h.pt p5).pt s6.pt).pt p7
        · exact List.nodup_append.mpr ⟨hnd, by simp, fun a ha b hb e => hm (by rw [List.mem_singleton.mp hb] at e; rw [← e]; exact ha)⟩
        · intro j hj
          rcases List.mem_append.mp hj with hj | hj
          · exact hlt j hj
          · rw [List.mem_singleton.mp hj]
            exact hnl
        · intro t2 ht2
          rcases List.mem_append.mp ht2 with ht2 | ht2
          · exact ⟨fun j e => Nat.lt_trans (hlow.2 j (by rw [← e]; exact ht2)) hnl, fun v2 e => hN.wf.okm _ (List.mem_of_getElem? hget) v2 (by rw [← e]; exact ht2)⟩
          · exact hok t2 (List.mem_cons_of_mem _ ht2)
        · rw [List.length_append, List.length_append, List.length_singleton]
          omega
def spWaiting (fm : Fam P w K mg base) (C : Addr) (F : List (Str × Addr)) (ns : List Str) : Sp := fun vs H Q _ => ∃ (A : Ad) (S : NS) (l : fm.L), vs = [.ref A.x] ∧ NtAt fm C F ns H A S l ∧
  ∀ q ms (is : List Int) H', Same H H' → SqT K H' q (is.map V.int) → MetS S ms → ms.Nodup → (∀ n ∈ ms, n < S.made.length) → is.Perm (ms.map fun (n : Nat) => (n : Int)) → is.Pairwise (· ≤ ·) → Q (.ref q) H'
theorem scHWaiting : FnScope ["self"] ["self"] (defScope sHWaiting) := ⟨rfl, rfl, rfl, by decide +kernel, rfl, by decide +kernel, by decide +kernel⟩
theorem ok_waiting {fm : Fam P w K mg base} {f : Addr} {fd : FuncData} (FD : FunD K "waiting" "Holding.waiting" (defArgs sHWaiting) (defBody sHWaiting) (defScope sHWaiting) [] [] f fd) (T : Bi mg) (c : NtC K C) (bso : mg "sorted" = none) (M_met : MCal P w K mg base C "_met" 2 ["self"] (spMet fm C F ns)) (M_nu : MCal P w K mg base C "_numbers" 1 ["self", "kept"] spNumbers) : FnOk P w K mg base CX0 3 f fd ["self"] (spWaiting fm C F ns) := by
  refine FD.ok scHWaiting (fun vs H Q E h => ?_) (fun cdv A0 outer s H vs Q E hr h => ?_)
  · obtain ⟨A, S, l, rfl, _⟩ := h
    rfl
  · obtain ⟨A, S, l, rfl, hN, k⟩ := h
    have hr1 := hr.mono (show 1 ≤ 2 by omega)
    refine ⟨_, PSs.nox (pss_one (ps_ret (pe_callTy call_tuple_of (by rfl) T.b_tuple (by decide +kernel) (pa_cons (pe_callB cr_sortedI (by rfl) bso (by decide +kernel) (pa_cons (pmc M_nu hr1 (pv 0) (pa_cons (pmc0 M_met hr (pv 0)) pa_nil)) pa_nil)) pa_nil)))), ?_⟩
    refine ⟨_, rfl, A.x, A.dx, _, rfl, hN.hx, rfl, _, rfl, A.x, A.dx, _, rfl, hN.hx, rfl, A, S, l, rfl, hN, fun q ms H1 s1 nq hq hM nd lt => ?_⟩
    refine ⟨_, q, _, rfl, hq, fun p H2 s2 np hp => ?_⟩
    have ek : (mtKV ms).map (fun kv => kV kv.1) = (ms.map fun (n : Nat) => (n : Int)).map V.int := by
      have := congrArg (List.map kV) (mt_keys ms)
      rw [List.map_map, List.map_map] at this
      rw [List.map_map]
      exact this
    rw [ek] at hp
    refine ⟨p, _, rfl, SqL.of hp, fun is q2 hperm hpw nq2 => ?_⟩
    have s3 := same_new (o := .lst (is.map V.int)) nq2
    refine ⟨q2, _, rfl, .inl ⟨SqL.of upd_same, fun q3 nq3 => ?_⟩⟩
    have s4 := same_new (o := .tup (is.map V.int)) nq3
    exact k q3 ms is _ (((s1.trans s2).trans s3).trans s4) (.inl (.inl upd_same)) hM nd lt hperm hpw
def spWorked (fm : Fam P w K mg base) (C : Addr) (F : List (Str × Addr)) (ns : List Str) : Sp := fun vs H Q _ => ∃ (A : Ad) (S : NS) (l : fm.L), vs = [.ref A.x] ∧ NtAt fm C F ns H A S l ∧ ∀ q H', Same H H' → SqT K H' q (S.worths.map fun p => .int (p.1 : Nat)) → Q (.ref q) H'
theorem scHWorked : FnScope ["self"] ["self"] (defScope sHWorked) := ⟨rfl, rfl, rfl, by decide +kernel, rfl, by decide +kernel, by decide +kernel⟩
theorem ok_worked {fm : Fam P w K mg base} {f : Addr} {fd : FuncData} (FD : FunD K "worked" "Holding.worked" (defArgs sHWorked) (defBody sHWorked) (defScope sHWorked) [] [] f fd) (T : Bi mg) (c : NtC K C) : FnOk P w K mg base CX0 1 f fd ["self"] (spWorked fm C F ns) := by
  refine FD.ok scHWorked (fun vs H Q E h => ?_) (fun cdv A0 outer s H vs Q E hr h => ?_)
  · obtain ⟨A, S, l, rfl, _⟩ := h
    rfl
  · obtain ⟨A, S, l, rfl, hN, k⟩ := h
    refine ⟨_, PSs.nox (pss_one (ps_ret (pe_callTy call_tuple_of (by rfl) T.b_tuple (by decide +kernel) (pa_cons (pe_fld (pv 0) rfl) pa_nil)))), ?_⟩
    exact ⟨_, rfl, A.x, C, A.dx, _, _, rfl, hN.hx, c.c, c.n_order, rfl, A.oa, _, rfl, .inl ⟨SqL.of hN.ho, fun q nq => k q _ (same_new nq) (.inl (.inl upd_same))⟩⟩
def spSaid (fm : Fam P w K mg base) (C : Addr) (F : List (Str × Addr)) (ns : List Str) : Sp := fun vs H Q _ => ∃ (A : Ad) (S : NS) (l : fm.L), vs = [.ref A.x] ∧ NtAt fm C F ns H A S l ∧ ∀ q H', Same H H' → SqT K H' q S.printed → Q (.ref q) H'
theorem scHSaid : FnScope ["self"] ["self"] (defScope sHSaid) := ⟨rfl, rfl, rfl, by decide +kernel, rfl, by decide +kernel, by decide +kernel⟩
theorem ok_said {fm : Fam P w K mg base} {f : Addr} {fd : FuncData} (FD : FunD K "said" "Holding.said" (defArgs sHSaid) (defBody sHSaid) (defScope sHSaid) [] [] f fd) (T : Bi mg) (c : NtC K C) : FnOk P w K mg base CX0 1 f fd ["self"] (spSaid fm C F ns) := by
  refine FD.ok scHSaid (fun vs H Q E h => ?_) (fun cdv A0 outer s H vs Q E hr h => ?_)
  · obtain ⟨A, S, l, rfl, _⟩ := h
    rfl
  · obtain ⟨A, S, l, rfl, hN, k⟩ := h
    refine ⟨_, PSs.nox (pss_one (ps_ret (pe_callTy call_tuple_of (by rfl) T.b_tuple (by decide +kernel) (pa_cons (pe_fld (pv 0) rfl) pa_nil)))), ?_⟩
    exact ⟨_, rfl, A.x, C, A.dx, _, _, rfl, hN.hx, c.c, c.n_printed, rfl, A.pa, _, rfl, .inl ⟨SqL.of hN.hp, fun q nq => k q _ (same_new nq) (.inl (.inl upd_same))⟩⟩
end
end K13
set_option Elab.async false
set_option linter.all false
set_option maxRecDepth 100000
set_option maxHeartbeats 4000000
namespace K13
open PySem PySem.Spec PyProof.Rows L2 ZX PM ZR
def spP : Sp := fun vs H Q _ => ∃ a : Addr, vs = [.ref a] ∧ Q .non H
/-- the class NoPlace, as the walk asks of it -/
structure NoP (P : Program) (w : World) (K : PySem.W.Frag) (mg : Str → Option Value) (base : Heap) (CN fI : Addr) (fd : FuncData) (ps : List Str) : Prop where
  T : OexC K CN
  iC : PySem.W.findIn K (.ref CN) "__init__" = some (some (.ref fI))
  tI : PySem.W.typeIn K (.ref fI) = some (.type "function")
  F1 : FnOk P w K mg base CX0 1 fI fd ps spP
  bd : Binds K fd ps []
  g : mg "NoPlace" = some (.ref CN)
/-- no place of n -/
def BadPl (K : PySem.W.Frag) (H : Hp) (v : V) (n : Nat) : Prop := NumV K H v false ∨ ∃ i : Int, v = .int i ∧ ¬ (0 ≤ i ∧ i < n)
def spRowAt (K : PySem.W.Frag) (C CN : Addr) : Sp := fun vs H Q E => ∃ (x : Addr) (v : V) (b : List Rw), vs = [.ref x, v] ∧ PrAt K C H x b ∧
  ((∃ (i : Nat) (r : Rw), v = .int i ∧ (rowsB b)[i]? = some r ∧ ∀ y, RV K H y r → Q y H) ∨ (BadPl K H v (rowsB b).length ∧ ∀ H', Same H H' → E (.ref CN) none H'))
def spNexts (K : PySem.W.Frag) (C CN : Addr) : Sp := fun vs H Q E => ∃ (x : Addr) (v : V) (b : List Rw), vs = [.ref x, v] ∧ PrAt K C H x b ∧
  ((∃ (i : Nat) (l : List Nat), v = .int i ∧ (leadsP b)[i]? = some l ∧ ∀ y, Tv K H y (encL l) → NxAt K C H x i y → Q y H) ∨ (BadPl K H v (leadsP b).length ∧ ∀ H', Same H H' → E (.ref CN) none H'))
def spNames (K : PySem.W.Frag) (C : Addr) : Sp := fun vs H Q _ => ∃ (x : Addr) (b : List Rw), vs = [.ref x] ∧ PrAt K C H x b ∧ ∀ t ys, IsLot ys ((rowsB b).flatMap namesR) → SqT K H t (ys.map V.str) → Q (.ref t) H
theorem same_del {H : Hp} {a : Addr} {o : HO} (n : H a = none) : Same H (delH (upd H a o) a) := fun b u e => by
  have ne := ne_of_none e n
  rw [delH_ne ne, upd_ne ne]
  exact e
theorem fr0_of {H : Hp} {a : Addr} (n : H a = none) : Fr0 H a := fun o e => by
  rw [n] at e
  cases e
section
variable {P : Program} {w : World} {K : PySem.W.Frag} {mg : Str → Option Value} {base : Heap}
theorem scNames : FnScope ["program"] ["program"] (defScope sNames) := ⟨rfl, rfl, rfl, by decide +kernel, rfl, by decide +kernel, by decide +kernel⟩
theorem ok_names {C f : Addr} {fd : FuncData} (F : FnP K "names" sNames f fd) (T : Bi mg) (c : PrC K C) : FnOk P w K mg base CX0 1 f fd ["program"] (spNames K C) := by
  refine F.ok scNames (fun vs H Q E h => ?_) (fun cdv A outer s H vs Q E hr h => ?_)
  · obtain ⟨x, b, rfl, _⟩ := h
    rfl
  · obtain ⟨x, b, rfl, ⟨dx, v, ra, na, la, rs, ls, ys, hx, tv, G, h1, h2, h3, h4, h5, ly⟩, k⟩ := h
    refine ⟨_, PSs.nox (pss_one (ps_ret (pe_fld (pv 0) rfl))), ?_⟩
    exact ⟨_, rfl, x, C, dx, _, _, rfl, hx, c.c, c.n4, rfl, k na ys ly h5⟩
theorem scRow_at : FnScope ["program", "place"] ["program", "place"] (defScope sRow_at) := ⟨rfl, rfl, rfl, by decide +kernel, rfl, by decide +kernel, by decide +kernel⟩
theorem ok_row_at {C CN fI f : Addr} {fdI fd : FuncData} {psI : List Str} (F : FnP K "row_at" sRow_at f fd) (T : Bi mg) (c : PrC K C) (N : NoP P w K mg base CN fI fdI psI) (C_is_number_below : Cal P w K mg base "is_number_below" 2 ["limit", "thing"] (spBelow K)) : FnOk P w K mg base (L2.CX P w) 3 f fd ["program", "place"] (spRowAt K C CN) := by
  refine F.ok scRow_at (fun vs H Q E h => ?_) (fun cdv A outer s H vs Q E hr h => ?_)
  · obtain ⟨x, v, b, rfl, _⟩ := h
    rfl
  · obtain ⟨x, v, b, rfl, ⟨dx, vb, ra, na, la, rs, ls, yn, hx, tv, G, h1, h2, h3, h4, h5, h6⟩, h⟩ := h
    have hr_is_number_below := hr
    refine ⟨_, (pss_cons (ps_if (pt_not (pt_val (pcal C_is_number_below hr_is_number_below rfl (pa_cons (pe_callB call_len_seq (by rfl) T.b_len (by decide +kernel) (pa_cons (pe_fld (pv 0) rfl) pa_nil)) (pa_cons (pv 1) pa_nil))))) (pss_one (ps_raise rfl (takes_of rfl rfl rfl rfl) (pmk_ret rfl (pe_oexN N.T N.iC N.tI N.F1 (fun _ _ _ _ _ m h => by obtain ⟨a, e, q⟩ := h; exact ⟨a, e, m _ _ q⟩) (hr.mono (by decide)) N.bd rfl N.g)))) pss_nil)
    (pss_one (ps_ret (pe_ix ix_tup (pe_fld (pv 0) rfl) (pv 1) (fun _ _ => rfl))))), ?_⟩
    have hln := h2.len
    rw [List.length_map] at hln
    refine ⟨_, rfl, x, C, dx, _, _, rfl, hx, c.c, c.n2, rfl, ra, _, rfl, .inr h1, _, rfl, ?_⟩
    rcases h with ⟨i, r, rfl, hi, k⟩ | ⟨hb, k⟩
    · have hlt : i < (rowsB b).length := (List.getElem?_eq_some_iff.mp hi).1
      obtain ⟨y, hy, ty⟩ := Tvs.get (i := i) h2 (by rw [List.getElem?_map, hi]; rfl)
      refine ⟨_, _, rfl, .inl ⟨_, rfl, _, rfl, ?_⟩⟩
      rw [decide_eq_true (show (0 : Int) ≤ (i : Int) by omega), decide_eq_true (by omega)]
      exact ⟨_, rfl, x, C, dx, _, _, rfl, hx, c.c, c.n2, rfl, _, rfl, ra, _, _, _, rfl, rfl, h1, at_of rfl hy, k y ty⟩
    · have hrs := fun (a : Addr) (na : H a = none) => k (delH (upd (upd H a (exo a CN none)) a (ExO (.ref CN) a)) a) (by rw [upd_upd]; exact same_del na)
      rcases hb with hb | ⟨i, rfl, hi⟩
      · exact ⟨_, _, rfl, .inr ⟨hb, _, rfl, fun a na => ⟨a, rfl, rfl, upd_same, a, .ref CN, rfl, upd_same, fr0_of na, raises_own N.T.exC N.T.tyC, hrs a na⟩⟩⟩
      · refine ⟨_, _, rfl, .inl ⟨i, rfl, _, rfl, ?_⟩⟩
        have hz : (decide (0 ≤ i) && decide (i < (rs.length : Int))) = false := by
          rw [← Bool.decide_and, decide_eq_false]
          rw [hln]
          exact hi
        rw [hz]
        exact fun a na => ⟨a, rfl, rfl, upd_same, a, .ref CN, rfl, upd_same, fr0_of na, raises_own N.T.exC N.T.tyC, hrs a na⟩
theorem scNexts : FnScope ["program", "place"] ["program", "place"] (defScope sNexts) := ⟨rfl, rfl, rfl, by decide +kernel, rfl, by decide +kernel, by decide +kernel⟩
theorem ok_nexts {C CN fI f : Addr} {fdI fd : FuncData} {psI : List Str} (F : FnP K "nexts" sNexts f fd) (T : Bi mg) (c : PrC K C) (N : NoP P w K mg base CN fI fdI psI) (C_is_number_below : Cal P w K mg base "is_number_below" 2 ["limit", "thing"] (spBelow K)) : FnOk P w K mg base (L2.CX P w) 3 f fd ["program", "place"] (spNexts K C CN) := by
  refine F.ok scNexts (fun vs H Q E h => ?_) (fun cdv A outer s H vs Q E hr h => ?_)
  · obtain ⟨x, v, b, rfl, _⟩ := h
    rfl
  · obtain ⟨x, v, b, rfl, ⟨dx, vb, ra, na, la, rs, ls, yn, hx, tv, G, h1, h2, h3, h4, h5, h6⟩, h⟩ := h
    have hr_is_number_below := hr
    refine ⟨_, (pss_cons (ps_if (pt_not (pt_val (pcal C_is_number_below hr_is_number_below rfl (pa_cons (pe_callB call_len_seq (by rfl) T.b_len (by decide +kernel) (pa_cons (pe_fld (pv 0) rfl) pa_nil)) (pa_cons (pv 1) pa_nil))))) (pss_one (ps_raise rfl (takes_of rfl rfl rfl rfl) (pmk_ret rfl (pe_oexN N.T N.iC N.tI N.F1 (fun _ _ _ _ _ m h => by obtain ⟨a, e, q⟩ := h; exact ⟨a, e, m _ _ q⟩) (hr.mono (by decide)) N.bd rfl N.g)))) pss_nil)
    (pss_one (ps_ret (pe_ix ix_tup (pe_fld (pv 0) rfl) (pv 1) (fun _ _ => rfl))))), ?_⟩
    have hln := h4.len
    rw [List.length_map] at hln
    refine ⟨_, rfl, x, C, dx, _, _, rfl, hx, c.c, c.n3, rfl, la, _, rfl, .inr h3, _, rfl, ?_⟩
    rcases h with ⟨i, r, rfl, hi, k⟩ | ⟨hb, k⟩
    · have hlt : i < (leadsP b).length := (List.getElem?_eq_some_iff.mp hi).1
      obtain ⟨y, hy, ty⟩ := Tvs.get (i := i) h4 (by rw [List.getElem?_map, hi]; rfl)
      refine ⟨_, _, rfl, .inl ⟨_, rfl, _, rfl, ?_⟩⟩
      rw [decide_eq_true (show (0 : Int) ≤ (i : Int) by omega), decide_eq_true (by omega)]
      exact ⟨_, rfl, x, C, dx, _, _, rfl, hx, c.c, c.n3, rfl, _, rfl, la, _, _, _, rfl, rfl, h3, at_of rfl hy, k y ty ⟨dx, vb, ra, na, la, ls, hx, h3, hy⟩⟩
    · have hrs := fun (a : Addr) (na : H a = none) => k (delH (upd (upd H a (exo a CN none)) a (ExO (.ref CN) a)) a) (by rw [upd_upd]; exact same_del na)
      rcases hb with hb | ⟨i, rfl, hi⟩
      · exact ⟨_, _, rfl, .inr ⟨hb, _, rfl, fun a na => ⟨a, rfl, rfl, upd_same, a, .ref CN, rfl, upd_same, fr0_of na, raises_own N.T.exC N.T.tyC, hrs a na⟩⟩⟩
      · refine ⟨_, _, rfl, .inl ⟨i, rfl, _, rfl, ?_⟩⟩
        have hz : (decide (0 ≤ i) && decide (i < (ls.length : Int))) = false := by
          rw [← Bool.decide_and, decide_eq_false]
          rw [hln]
          exact hi
        rw [hz]
        exact fun a na => ⟨a, rfl, rfl, upd_same, a, .ref CN, rfl, upd_same, fr0_of na, raises_own N.T.exC N.T.tyC, hrs a na⟩
end
end K13
set_option Elab.async false
set_option linter.all false
set_option maxRecDepth 100000
set_option maxHeartbeats 4000000
/-! ops, functions_of, place_behind. -/
namespace PM
open PySem PySem.Spec PyProof.Rows L2 ZX ZR
section
variable {w : World} {α : Type} {as : List α} {pr : α → Bool} {f : α → Str} {J : It} {zs : List V} {St : Hp → Prop} {g : TG} {tt : TT} {te : TE} {vs : List Nat} {σ : L2.St} {H1 : Hp} {Q : VK}
/-- {e for t in i if c}: each thing that is taken gives a text -/
theorem sc1_over (O : IterOf J zs St) (hz : as.length = zs.length) (hlen : as.length + 1 < scanBound) (st : ∀ H', Same H1 H' → Pt H1 H' → St H')
    (step : ∀ (k : Nat) x c, zs[k]? = some x → as[k]? = some c → ∀ H', Same H1 H' → Pt H1 H' → ∀ (R0 : Hp → Prop) (R1 : VK), (pr c = false → R0 H') → (pr c = true → R1 (.str (f c)) H') → g x (wipe σ vs) H' fun σ2 H2 => wipe σ2 vs = wipe σ vs ∧ tt σ2 H2 fun b H3 => if b = true then te σ2 H3 R1 else R0 H3)
    (fin : ∀ D H', Same H1 H' → H1 D = none → H' D = some (SetTO w D (insAll ((as.filter pr).map f))) → Q (.ref D) H') :
    tSc1S w (fun _ _ R => R J H1) g tt te vs σ H1 Q := by
  rw [sc1S]
  intro D hD
  refine ⟨fun k m H => m = zs.length - k ∧ k ≤ zs.length ∧ Same H1 H ∧ Pt H1 H ∧ H D = some (SetTO w D (insAll (((as.take k).filter pr).map f))), ⟨zs.length, rfl, Nat.zero_le _, same_new hD, Pt.new hD, by rw [List.take_zero]; exact upd_same⟩, ?_⟩
  rintro k m H ⟨rfl, hk, sm, pt, hks⟩
  have hst := st H sm pt
  by_cases hlt : k < zs.length
  · refine .inr ⟨O.go k H hst hlt, fun H' => k + 1 ≤ zs.length ∧ Same H1 H' ∧ Pt H1 H' ∧ H' D = some (SetTO w D (insAll (((as.take (k + 1)).filter pr).map f))), fun H' h => ⟨zs.length - (k + 1), by omega, rfl, h⟩, fun x H' y => ?_⟩
    obtain ⟨rfl, hx⟩ := O.yld k H x H' hst hlt y
    have hka : k < as.length := by omega
    have hc : as[k]? = some as[k] := List.getElem?_eq_getElem hka
    have htk : as.take (k + 1) = as.take k ++ [as[k]] := by
      rw [List.take_succ, hc]
      rfl
    refine step k x as[k] hx hc H' sm pt _ _ (fun e => ⟨hlt, sm, pt, ?_⟩) (fun e => ⟨f as[k], _, rfl, hks, ?_, hlt, same_putN sm hD, pt.trans (Pt.ext hks), ?_⟩)
    · rw [htk, List.filter_append, List.filter_cons, e]
      simpa using hks
    · have h1 := (insAll_ok (((as.take k).filter pr).map f)).2.2
      have h2 : ((as.take k).filter pr).length ≤ as.length := Nat.le_trans (List.length_filter_le _ _) (by rw [List.length_take]; omega)
      rw [List.length_map] at h1
      omega
    · rw [upd_same, htk, List.filter_append, List.filter_cons, e, List.map_append]
      simp [insAll_snoc]
  · have e : as.take k = as := List.take_of_length_le (by omega)
    rw [e] at hks
    have ek : k = zs.length := by omega
    subst ek
    exact .inl ⟨O.stop H hst, fin D H sm hD hks⟩
end
theorem ints_of {K : PySem.W.Frag} {H : Hp} : ∀ {l : List Nat} {xs : List V}, Tvs K H xs (l.map fun (n : Nat) => PyData.int (n : Int)) → xs = natV l
  | [], _, h => by
    cases h
    rfl
  | _ :: _, _, h => by
    cases h with
    | cons h1 h2 =>
      cases h1
      rw [ints_of h2]
      rfl
def isNote : Rw → Bool
  | .note _ _ _ => true
  | _ => false
def opOf : Rw → Str
  | .note _ o _ => o
  | _ => ""
def opsB (b : List Rw) : List Str := ((rowsB b).filter isNote).map opOf
end PM
namespace K13
open PySem PySem.Spec PyProof.Rows L2 ZX PM ZR
abbrev sOps : Stmt := top 36
abbrev sFunctionsOf : Stmt := top 43
abbrev sPlaceBehind : Stmt := top 47
section
variable {P : Program} {w : World} {K : PySem.W.Frag} {mg : Str → Option Value} {base : Heap}
def spOps (K : PySem.W.Frag) (C : Addr) : Sp := fun vs H Q _ => ∃ (x : Addr) (b : List Rw), vs = [.ref x] ∧ PrAt K C H x b ∧ ∀ t ys H', Same H H' → IsLot ys (opsB b) → H' t = some (.tup (ys.map V.str)) → Q (.ref t) H'
theorem scOps : FnScope ["program", "row"] ["program"] (defScope sOps) := ⟨rfl, rfl, rfl, by decide +kernel, rfl, by decide +kernel, by decide +kernel⟩
theorem ok_ops {C f : Addr} {fd : FuncData} (FD : FnP K "ops" sOps f fd) (T : Bi mg) (c : PrC K C) : FnOk P w K mg base CX0 1 f fd ["program"] (spOps K C) := by
  refine FD.ok scOps (fun vs H Q E h => ?_) (fun cdv A0 outer s H vs Q E hr h => ?_)
  · obtain ⟨x, b, rfl, _⟩ := h
    rfl
  · obtain ⟨x, b, rfl, ⟨dx, v, ra, na, la, rs, ls, ys, hx, tv, G, h1, h2, h3, h4, h5, ly⟩, k⟩ := h
    have hz : (rowsB b).length = rs.length := by rw [h2.len, List.length_map]
    have l30 := G.l30
    refine ⟨_, PSs.nox (pss_one (ps_ret (pe_callTy call_tuple_of (by rfl) T.b_tuple (by decide +kernel) (pa_cons (pe_callB (call_sortTx rfl) (by rfl) T.b_sorted (by decide +kernel) (pa_cons (pe_sealed1 (pe_sc1 (own := [("row", 1)]) (g := gName 1) (tt := tTest (tOp rEq (tOp (rIxT K) (tVar 1) (tC (.int 0))) (tC (.str "note")))) (te := tOp (rIxT K) (tVar 1) (tC (.int 2))) rfl scOps.nd (pi_tup (pe_fld (pv 0) rfl)) (blkOk_by (N := ["program", "row"]) (sc := defScope sOps) (by decide +kernel)) (fun _ _ _ _ _ => (pg_name (i := 1) scOps.nd rfl (Or.inl rfl))) (fun _ _ _ _ _ => (pts_one (pt_cmpR op_eq (pe_ix ix_tup (pv 1) pe_int (fun _ _ => rfl)) pe_str (nomark _)))) (fun _ _ _ _ _ => (pe_ix ix_tup (pv 1) pe_int (fun _ _ => rfl))))) pa_nil)) pa_nil)))), ?_⟩
    refine sc1_into ?_
    refine ⟨_, rfl, x, C, dx, _, _, rfl, hx, c.c, c.n2, rfl, ra, rfl, ⟨_, h1⟩, ?_⟩
    refine sc1_over (as := rowsB b) (pr := isNote) (f := opOf) it_tup hz (by show _ < 4096; omega) (fun H' _ pt => pt.sq h1) ?_ ?_
    · intro k0 z r hz0 hr0 H' sm pt R0 R1 kF kT
      obtain ⟨u, hu, tu⟩ := Tvs.get (i := k0) (d := dR r) h2 (by rw [List.getElem?_map, hr0]; rfl)
      rw [hz0] at hu
      cases hu
      obtain ⟨ga, tl, rfl, hrS, hrt⟩ := (tu.pt pt).rowI
      refine ⟨rfl, _, rfl, _, _, _, _, rfl, rfl, hrS, at0, rfl, _, rfl, ?_⟩
      cases r with
      | note y o ps =>
        obtain ⟨v1, v2, v3, rfl, t1, t2, t3⟩ := hrt.three
        cases t2.strI
        exact ifD rfl ⟨_, rfl, _, _, _, _, rfl, rfl, hrS, rfl, kT rfl⟩
      | copy y z => exact ifDF (neS (a := "copy") (b := "note") (by decide +kernel)) (kF rfl)
      | give y i => exact ifDF (neS (a := "give") (b := "note") (by decide +kernel)) (kF rfl)
      | ask y => exact ifDF (neS (a := "ask") (b := "note") (by decide +kernel)) (kF rfl)
      | prt y => exact ifDF (neS (a := "print") (b := "note") (by decide +kernel)) (kF rfl)
      | either y z => exact ifDF (neS (a := "either") (b := "note") (by decide +kernel)) (kF rfl)
      | again y => exact ifDF (neS (a := "again") (b := "note") (by decide +kernel)) (kF rfl)
    · intro D H' sm nD hD
      refine ⟨D, _, rfl, hD, ?_, fun zs p pm so np => ⟨p, _, rfl, .inl ⟨SqL.of upd_same, fun l nl => k l zs _ ((sm.trans (same_new np)).trans (same_new nl)) (lot_of pm so) upd_same⟩⟩⟩
      have e1 := (insAll_ok (((rowsB b).filter isNote).map opOf)).2.2
      have e2 := List.length_filter_le isNote (rowsB b)
      rw [List.length_map] at e1
      omega
def spFunctionsOf (K : PySem.W.Frag) : Sp := fun vs H Q _ => ∃ (t fa : Addr) (ys : List Str) (kvs : List (Key × V)) (g : Str → V), vs = [.ref t, .ref fa] ∧ SqT K H t (ys.map V.str) ∧ ys.Nodup ∧ ys.length ≤ 1000 ∧ H fa = some (.dK kvs) ∧ (∀ y ∈ ys, valV kvs (.inr y) = some (g y)) ∧
  ∀ q H', Same H H' → H q = none → H' q = some (.dK (ys.map fun y => (.inr y, g y))) → Q (.ref q) H'
theorem scFunctionsOf : FnScope ["wanted", "functions", "op"] ["wanted", "functions"] (defScope sFunctionsOf) := ⟨rfl, rfl, rfl, by decide +kernel, rfl, by decide +kernel, by decide +kernel⟩
theorem ok_functions_of {f : Addr} {fd : FuncData} (FD : FnP K "functions_of" sFunctionsOf f fd) (T : Bi mg) (bdi : mg "dict" = none) : FnOk P w K mg base CX0 1 f fd ["wanted", "functions"] (spFunctionsOf K) := by
  refine FD.ok scFunctionsOf (fun vs H Q E h => ?_) (fun cdv A0 outer s H vs Q E hr h => ?_)
  · obtain ⟨t, fa, ys, kvs, g, rfl, _⟩ := h
    rfl
  · obtain ⟨t, fa, ys, kvs, g, rfl, hT, nd, hl, hF, hg, k⟩ := h
    have hu := hu_of hr
    refine ⟨_, PSs.nox (pss_cons (ps_if (PW.pt (pw_or (pt_not (pt_val (pe_callB call_isi (by rfl) T.b_isinstance (by decide +kernel) (pa_cons (pv 1) (pa_cons (pe_bltn (v := .ty "dict") (by rfl) bdi (by decide +kernel) rfl) pa_nil))))) (pw_or1 (pt_not (pt_val (pe_callB (cr_all rfl) (by rfl) T.b_all (by decide +kernel) (pa_cons (pe_lcS (own := [("op", 2)]) (g := gName 2) (tt := tYes) (te := tDIn (tVar 2) (tVar 1)) (by rfl) scFunctionsOf.nd (pi_tup (pv 0)) (blkOk_by (N := ["wanted", "functions", "op"]) (sc := defScope sFunctionsOf) (by decide +kernel)) (fun _ _ _ _ _ => (pg_name (i := 2) scFunctionsOf.nd rfl (Or.inl rfl))) (fun _ _ _ _ _ => pts_nil) (fun _ _ _ _ _ => (pe_cmp (pc_din hu (pv 2) (pv 1))))) pa_nil))))))) (pss_one ps_never) pss_nil)
    (pss_one (ps_ret (pe_sealedD (pe_dc (own := [("op", 2)]) (g := gName 2) (tt := tYes) (tk := tVar 2) (tv := tDGet (tVar 1) (tVar 2)) rfl scFunctionsOf.nd (pi_tup (pv 0)) (blkOk_by (N := ["wanted", "functions", "op"]) (sc := defScope sFunctionsOf) (by decide +kernel)) (fun _ _ _ _ _ => (pg_name (i := 2) scFunctionsOf.nd rfl (Or.inl rfl))) (fun _ _ _ _ _ => pts_nil) (fun _ _ _ _ _ => (pv 2)) (fun _ _ _ _ _ => (pe_dget hu (pv 1) (pv 2) (fun _ _ => rfl)))))))), ?_⟩
    refine ⟨_, rfl, _, _, _, _, true, rfl, .ty "dict", .base (.dK hF), rfl, true, rfl, ?_⟩
    refine lc_into ⟨_, rfl, t, rfl, ⟨_, hT⟩, ?_⟩
    refine lc_overA (p := none) (as := ys) (zs := ys.map V.str) (Rel := fun _ _ y => y = .bl true) it_tup (by rw [List.length_map]) (fun _ _ _ _ _ h => h) (fun _ h => nomatch h) (by rw [List.length_map]; exact Nat.lt_of_le_of_lt hl (by decide)) (fun H' _ pt => pt.sq hT) ?_ ?_
    · intro i z y hz hy H' kq pt R kR
      rw [List.getElem?_map, hy] at hz
      cases hz
      have hgd := DGet.k (k := .inr y) (kq.same _ _ hF)
      rw [hg y (List.mem_of_getElem? hy)] at hgd
      exact ⟨rfl, _, rfl, _, rfl, fa, _, rfl, hgd, kR _ _ (Same.kq fun _ _ h => h) (Pt.refl _) rfl⟩
    intro D zs H1 kq pt nD hD all
    have eb := All2.map (f := fun _ : Str => V.bl true) all
    subst eb
    have hall : (ys.map fun _ => true).all id = true := by simp
    refine ⟨D, ys.map fun _ => true, rfl, SqL.of (by rw [hD, List.map_map]; rfl), ?_⟩
    rw [hall]
    refine ⟨_, rfl, ?_⟩
    have hT1 := pt.sq hT
    have hF1 := kq.same _ _ hF
    refine dc_into ⟨_, rfl, t, rfl, ⟨_, hT1⟩, ?_⟩
    rw [dcS]
    intro D2 nD2
    have nf2 : fa ≠ D2 := ne_of_none hF1 nD2
    refine dc_tup (K := K) (xs := ys.map V.str) (Qd := fun H' => Q (.ref D2) H') (fun i H' => Same H1 H' ∧ SqT K H' t (ys.map V.str) ∧ H' fa = some (.dK kvs) ∧ H' D2 = some (.dK ((ys.take i).map fun y => (.inr y, g y)))) ⟨same_new nD2, (same_new nD2).pt.sq hT1, (upd_ne nf2).trans hF1, by rw [List.take_zero]; exact upd_same⟩ (fun i H' _ h => h.2.1) ?_ ?_
    · rintro i z H' hz ⟨sm, hT', hF', hD'⟩
      obtain ⟨y, hy, e⟩ : ∃ y, ys[i]? = some y ∧ V.str y = z := by
        rw [List.getElem?_map] at hz
        cases ey : ys[i]? with
        | none => rw [ey] at hz; cases hz
        | some y => rw [ey] at hz; exact ⟨y, rfl, Option.some.inj hz⟩
      subst e
      have hi : i < ys.length := (List.getElem?_eq_some_iff.mp hy).1
      have hgd := DGet.k (k := .inr y) hF'
      rw [hg y (List.mem_of_getElem? hy)] at hgd
      have hnew : valV ((ys.take i).map fun y => ((.inr y : Key), g y)) (.inr y) = none := by
        cases e : valV ((ys.take i).map fun y => ((.inr y : Key), g y)) (.inr y) with
        | none => rfl
        | some v =>
          have := valV_in e
          rw [List.map_map] at this
          obtain ⟨z, hz2, e2⟩ := List.mem_map.mp this
          have e3 : z = y := by
            have : (Sum.inr z : Key) = .inr y := e2
            injection this
          subst e3
          obtain ⟨j, hj, ej⟩ := List.getElem_of_mem hz2
          have hj2 : j < i := by
            rw [List.length_take] at hj
            omega
          rw [List.getElem_take] at ej
          have hyy : ys[i] = z := (List.getElem?_eq_some_iff.mp hy).2
          have := (List.getElem_inj (h₀ := by omega) (h₁ := hi) nd).mp (ej.trans hyy.symm)
          omega
      refine ⟨rfl, _, rfl, _, rfl, _, rfl, fa, _, rfl, hgd, _, .inr y, rfl, hD', ?_, same_putN sm nD2, ?_, (upd_ne nf2).trans hF', ?_⟩
      · rw [List.length_map, List.length_take]
        exact Nat.lt_of_le_of_lt (Nat.le_trans (Nat.min_le_right _ _) hl) (by decide)
      · exact ((same_putN sm nD2).pt).sq hT1
      · rw [upd_same, putK_new _ hnew, List.take_succ, hy, List.map_append]
        rfl
    · rintro H' ⟨sm, _, _, hD'⟩
      rw [List.length_map, List.take_of_length_le (Nat.le_refl _)] at hD'
      exact k D2 H' (kq.same.trans sm) (kq.same.free nD2) hD'
def spPlaceBehind (K : PySem.W.Frag) (C : Addr) : Sp := fun vs H Q _ => ∃ (x : Addr) (b : List Rw) (i j n : Nat) (l : List Nat), vs = [.ref x, .int i, .int j] ∧ PrAt K C H x b ∧ (leadsP b)[i]? = some l ∧ l[j]? = some n ∧ Q (.int n) H
theorem scPlaceBehind : FnScope ["program", "place", "which", "after"] ["program", "place", "which"] (defScope sPlaceBehind) := ⟨rfl, rfl, rfl, by decide +kernel, rfl, by decide +kernel, by decide +kernel⟩
theorem ok_place_behind {C CN f : Addr} {fd : FuncData} (FD : FnP K "place_behind" sPlaceBehind f fd) (T : Bi mg) (C_nexts : CalX P w K mg base "nexts" 3 ["program", "place"] (spNexts K C CN)) (C_is_number_below : Cal P w K mg base "is_number_below" 2 ["limit", "thing"] (spBelow K)) : FnOk P w K mg base CX0 4 f fd ["program", "place", "which"] (spPlaceBehind K C) := by
  refine FD.ok scPlaceBehind (fun vs H Q E h => ?_) (fun cdv A0 outer s H vs Q E hr h => ?_)
  · obtain ⟨x, b, i, j, n, l, rfl, _⟩ := h
    rfl
  · obtain ⟨x, b, i, j, n, l, rfl, hP, hi, hj, k⟩ := h
    have hr2 := hr.mono (show 2 ≤ 3 by decide)
    refine ⟨_, PSs.nox (pss_cons (ps_set (i := 3) scPlaceBehind.nd rfl (Or.inl rfl) (pcalN C_nexts hr rfl (pa_cons (pv 0) (pa_cons (pv 1) pa_nil))))
    (pss_cons (ps_if (pt_not (pt_truth (pv 3) (by intro _; rfl))) (pss_one ps_never) pss_nil)
    (pss_cons (ps_if (pt_not (pt_val (pcal C_is_number_below hr2 rfl (pa_cons (pe_callB call_len_seq (by rfl) T.b_len (by decide +kernel) (pa_cons (pv 3) pa_nil)) (pa_cons (pv 2) pa_nil))))) (pss_one ps_never) pss_nil)
    (pss_one (ps_ret (pe_ix ix_tup (pv 3) (pv 2) (fun _ _ => rfl))))))), ?_⟩
    refine ⟨_, rfl, _, rfl, x, _, b, rfl, hP, .inl ⟨i, l, rfl, hi, fun y ty _ => ?_⟩⟩
    obtain ⟨a, xs, rfl, hS, ht⟩ := ty.tupI
    obtain rfl := ints_of ht
    have hjl : j < l.length := (List.getElem?_eq_some_iff.mp hj).1
    have hne : (!(natV l).isEmpty) = true := by
      cases l with
      | nil => cases hjl
      | cons _ _ => rfl
    refine ⟨_, rfl, true, .inr (.inl ⟨_, hS, hne.symm⟩), _, rfl, a, _, rfl, .inr hS, _, rfl, _, _, rfl, .inl ⟨_, rfl, _, rfl, ?_⟩⟩
    have hlen : (natV l).length = l.length := by
      unfold natV
      rw [List.length_map]
    rw [hlen, decide_eq_true (show (0 : Int) ≤ (j : Int) by omega), decide_eq_true (show (j : Int) < (l.length : Int) by omega)]
    refine ⟨_, rfl, _, rfl, a, _, _, _, rfl, rfl, hS, atI_nat (j := j) (show (natV l)[j]? = some (.int (n : Nat)) from ?_), k⟩
    unfold natV
    rw [List.getElem?_map, hj]
    rfl
end
end K13
set_option Elab.async false
set_option linter.all false
set_option maxRecDepth 100000
set_option maxHeartbeats 4000000
/-! Run.__init__, place, step, waiting. -/
namespace PM
open PySem PySem.Spec PyProof.Rows L2 ZX ZR
def fsR (fa px nx wa : Addr) : List (Str × V) := [("_functions", .ref fa), ("_program", .ref px), ("_notes", .ref nx), ("_way", .ref wa)]
/-- what the class of runs is told of -/
structure RnC (K : PySem.W.Frag) (C : Addr) : Prop where
  c : Cls K C
  n_functions : NoAttr K C "_functions"
  n_program : NoAttr K C "_program"
  n_notes : NoAttr K C "_notes"
  n_way : NoAttr K C "_way"
section
variable {P : Program} {w : World} {K : PySem.W.Frag} {mg : Str → Option Value} {base : Heap}
/-- a run of b at x, its notes at A, its way at wa -/
structure RnAt (fm : Fam P w K mg base) (CP CN CR : Addr) (F : List (Str × Addr)) (ns : List Str) (H : Hp) (x : Addr) (A : Ad) (S : NS) (l : fm.L) (px : Addr) (b : List Rw) (wa : Addr) (way : List Nat) : Prop where
  rx : ∃ dx, H x = some (.ins CR dx (fsR A.fa px A.x wa))
  pr : PrAt K CP H px b
  pd : PrD CP H px
  nt : NtAt fm CN F ns H A S l
  wy : H wa = some (.lst (natV way))
  nw : wa ∉ A.fa :: (A.own ++ fm.out)
  hF : ∀ o ∈ opsB b, o ∈ F.map (·.1)
  hns : ∀ x ∈ (rowsB b).flatMap namesR, x ∈ ns
  n63 : ns.length < 64
  lev : fm.lev ≤ 20
  szl : fm.sz l ≤ S.worths.length
/-- what a run asks of the notes' methods -/
structure NtM (P : Program) (w : World) (K : PySem.W.Frag) (mg : Str → Option Value) (base : Heap) (CN : Addr) : Prop where
  do_ : ∀ (fm : Fam P w K mg base) F ns, ns.length < 64 → MCal P w K mg base CN "do" (fm.lev + 6) ["self", "row"] (K13.spNDo fm CN F ns)
  waiting : ∀ (fm : Fam P w K mg base) F ns, ns.length < 64 → MCal P w K mg base CN "waiting" 3 ["self"] (K13.spWaiting fm CN F ns)
  make : ∃ (f : Addr) (fd : FuncData), Mk K CN f ∧ FnOk P w K mg base CX0 2 f fd ["self", "functions"] (K13.spNInit CN) ∧ Binds K fd ["self", "functions"] [] ∧ mg "Notes" = some (.ref CN)
variable {fm : Fam P w K mg base} {CP CN CR : Addr} {F : List (Str × Addr)} {ns : List Str} {H H' : Hp} {x : Addr} {A : Ad} {S S' : NS} {l l' : fm.L} {px : Addr} {b : List Rw} {wa : Addr} {way : List Nat}
theorem natV_snoc (l : List Nat) (n : Nat) : natV (l ++ [n]) = natV l ++ [.int (n : Nat)] := by
  unfold natV
  rw [List.map_append]
  rfl
theorem opsB_mem {b : List Rw} {y o : Str} {ps : List Str} (h : Rw.note y o ps ∈ rowsB b) : o ∈ opsB b := List.mem_map.mpr ⟨_, List.mem_filter.mpr ⟨h, rfl⟩, rfl⟩
theorem RnAt.row (h : RnAt fm CP CN CR F ns H x A S l px b wa way) {r : Rw} (hr : r ∈ rowsB b) : K13.RwOk F ns r := by
  obtain ⟨dx, v, ra, na, la, rs, ls, ys, hx, tv, G, h1, h2, h3, h4, h5, ly⟩ := h.pr
  refine ⟨fun y o ps e => ?_, fun y hy => h.hns y (List.mem_flatMap.mpr ⟨r, hr, hy⟩)⟩
  subst e
  have := ok_names_B G.ok _ hr
  exact ⟨h.hF o (opsB_mem hr), Nat.le_of_succ_le_succ this⟩
theorem PrAt.fz {M : List Addr} (h : PrAt K CP H px b) (z : Fz M H H') (m : Mks M H) : PrAt K CP H' px b := by
  refine h.up (fun o e => ?_) (z.pt m)
  obtain ⟨dx, v, ra, na, la, rs, ls, ys, hx, _⟩ := h
  rw [hx] at e
  cases e
  exact z.keep _ _ (m.no hx fun z => by rcases z with ⟨_, z⟩ | ⟨_, z⟩ <;> cases z) hx
theorem PrD.fz {M : List Addr} (h : PrD CP H px) (z : Fz M H H') (m : Mks M H) : PrD CP H' px := by
  obtain ⟨dx, v, ra, na, la, ls, h1, h2, h3⟩ := h
  refine ⟨dx, v, ra, na, la, ls, z.keep _ _ (m.no h1 fun z => by rcases z with ⟨_, z⟩ | ⟨_, z⟩ <;> cases z) h1, z.keep _ _ (m.no h2 fun z => by rcases z with ⟨_, z⟩ | ⟨_, z⟩ <;> cases z) h2, fun u hu => (h3 u hu).keep fun a o xs e => z.keep _ _ (m.no e fun z => by rcases z with ⟨_, z⟩ | ⟨_, z⟩ <;> cases z) e⟩
theorem RnAt.mksR (h : RnAt fm CP CN CR F ns H x A S l px b wa way) : Mks (wa :: (A.own ++ fm.out)) H := fun b hb => by
  rcases List.mem_cons.mp hb with rfl | hb
  · exact .inl ⟨_, h.wy⟩
  · exact h.nt.mksO b hb
/-- a step -/
theorem RnAt.next (h : RnAt fm CP CN CR F ns H x A S l px b wa way) (z : Fz (A.own ++ fm.out) H H') (hN : NtAt fm CN F ns H' A S' l') (hsz : fm.sz l' ≤ S'.worths.length) (n : Nat) : Fz (wa :: (A.own ++ fm.out)) H (upd H' wa (.lst (natV way ++ [.int (n : Nat)]))) ∧ RnAt fm CP CN CR F ns (upd H' wa (.lst (natV way ++ [.int (n : Nat)]))) x A S' l' px b wa (way ++ [n]) := by
  obtain ⟨dx, hx⟩ := h.rx
  have nm := h.nt.mksO
  have hx' := z.keep _ _ (nm.no hx fun z => by rcases z with ⟨_, z⟩ | ⟨_, z⟩ <;> cases z) hx
  have nw := h.nw
  rw [List.mem_cons, not_or] at nw
  have hw' := z.keep _ _ nw.2 h.wy
  have m1 : Mks [wa] H' := fun c hc => by
    rw [List.mem_singleton.mp hc]
    exact .inl ⟨_, hw'⟩
  have z1 : Fz [wa] H' (upd H' wa (.lst (natV way ++ [.int (n : Nat)]))) := Fz.put m1 List.mem_cons_self (.inl ⟨_, rfl⟩)
  have nx : x ≠ wa := fun e => by
    rw [e, hw'] at hx'
    cases hx'
  have z2 := z.mono (M' := wa :: (A.own ++ fm.out)) (fun c hc => List.mem_cons_of_mem _ hc) h.mksR
  refine ⟨z2.trans (z1.mono (fun c hc => by rw [List.mem_singleton.mp hc]; exact List.mem_cons_self) z2.mks), ⟨dx, (upd_ne nx).trans hx'⟩, (h.pr.fz z nm).fz z1 m1, (h.pd.fz z nm).fz z1 m1, hN.put (.inl ⟨_, hw'⟩) (.inl ⟨_, rfl⟩) nw.1 (fun hm => nw.2 (List.mem_append_left _ hm)) (fun hm => nw.2 (List.mem_append_right _ hm)), by rw [upd_same, natV_snoc], h.nw, h.hF, h.hns, h.n63, h.lev, hsz⟩
end
end PM
namespace K13
open PySem PySem.Spec PyProof.Rows L2 ZX PM ZR
abbrev sRInit : Stmt := inClass (top 48) 0
abbrev sRStep : Stmt := inClass (top 48) 1
abbrev sRPlace : Stmt := inClass (top 48) 2
abbrev sRWaiting : Stmt := inClass (top 48) 6
section
variable {P : Program} {w : World} {K : PySem.W.Frag} {mg : Str → Option Value} {base : Heap} {CP CN CR : Addr}
def spRPlace (P : Program) (w : World) (K : PySem.W.Frag) (mg : Str → Option Value) (base : Heap) (CP CN CR : Addr) : Sp := fun vs H Q _ => ∃ (fm : Fam P w K mg base) (F : List (Str × Addr)) (ns : List Str) (x : Addr) (A : Ad) (S : NS) (l : fm.L) (px : Addr) (b : List Rw) (wa : Addr) (way : List Nat) (p : Nat), vs = [.ref x] ∧ RnAt fm CP CN CR F ns H x A S l px b wa (way ++ [p]) ∧ Q (.int (p : Nat)) H
theorem scRPlace : FnScope ["self"] ["self"] (defScope sRPlace) := ⟨rfl, rfl, rfl, by decide +kernel, rfl, by decide +kernel, by decide +kernel⟩
theorem ok_rplace {f : Addr} {fd : FuncData} (FD : FunD K "place" "Run.place" (defArgs sRPlace) (defBody sRPlace) (defScope sRPlace) [] [] f fd) (c : RnC K CR) : FnOk P w K mg base CX0 1 f fd ["self"] (spRPlace P w K mg base CP CN CR) := by
  refine FD.ok scRPlace (fun vs H Q E h => ?_) (fun cdv A0 outer s H vs Q E hr h => ?_)
  · obtain ⟨fm, F, ns, x, A, S, l, px, b, wa, way, p, rfl, _⟩ := h
    rfl
  · obtain ⟨fm, F, ns, x, A, S, l, px, b, wa, way, p, rfl, R, k⟩ := h
    obtain ⟨dx, hx⟩ := R.rx
    have hw := R.wy
    rw [natV_snoc] at hw
    refine ⟨_, PSs.nox (pss_one (ps_ret (pe_ix ix_list (pe_fld (pv 0) rfl) (pe_un un_neg pe_int) (fun _ _ => rfl)))), ?_⟩
    exact ⟨_, rfl, x, CR, dx, _, _, rfl, hx, c.c, c.n_way, rfl, 1, rfl, wa, _, -1, _, rfl, rfl, SqL.of hw, atI_last _ _, k⟩
def spRWaiting (P : Program) (w : World) (K : PySem.W.Frag) (mg : Str → Option Value) (base : Heap) (CP CN CR : Addr) : Sp := fun vs H Q _ => ∃ (fm : Fam P w K mg base) (F : List (Str × Addr)) (ns : List Str) (x : Addr) (A : Ad) (S : NS) (l : fm.L) (px : Addr) (b : List Rw) (wa : Addr) (way : List Nat), vs = [.ref x] ∧ RnAt fm CP CN CR F ns H x A S l px b wa way ∧
  ∀ q ms (is : List Int) H', Same H H' → SqT K H' q (is.map V.int) → MetS S ms → ms.Nodup → (∀ n ∈ ms, n < S.made.length) → is.Perm (ms.map fun (n : Nat) => (n : Int)) → is.Pairwise (· ≤ ·) → Q (.ref q) H'
theorem scRWaiting : FnScope ["self"] ["self"] (defScope sRWaiting) := ⟨rfl, rfl, rfl, by decide +kernel, rfl, by decide +kernel, by decide +kernel⟩
theorem ok_rwaiting {f : Addr} {fd : FuncData} (FD : FunD K "waiting" "Run.waiting" (defArgs sRWaiting) (defBody sRWaiting) (defScope sRWaiting) [] [] f fd) (c : RnC K CR) (M : NtM P w K mg base CN) : FnOk P w K mg base CX0 4 f fd ["self"] (spRWaiting P w K mg base CP CN CR) := by
  refine FD.ok scRWaiting (fun vs H Q E h => ?_) (fun cdv A0 outer s H vs Q E hr h => ?_)
  · obtain ⟨fm, F, ns, x, A, S, l, px, b, wa, way, rfl, _⟩ := h
    rfl
  · obtain ⟨fm, F, ns, x, A, S, l, px, b, wa, way, rfl, R, k⟩ := h
    obtain ⟨dx, hx⟩ := R.rx
    refine ⟨_, PSs.nox (pss_one (ps_ret (pmc0 (M.waiting fm F ns R.n63) hr (pe_fld (pv 0) rfl)))), ?_⟩
    exact ⟨_, rfl, x, CR, dx, _, _, rfl, hx, c.c, c.n_notes, rfl, A.x, A.dx, _, rfl, R.nt.hx, rfl, A, S, l, rfl, R.nt, k⟩
def spRStep (P : Program) (w : World) (K : PySem.W.Frag) (mg : Str → Option Value) (base : Heap) (CP CN CR : Addr) : Sp := fun vs H Q _ => ∃ (fm : Fam P w K mg base) (F : List (Str × Addr)) (ns : List Str) (x : Addr) (A : Ad) (S : NS) (l : fm.L) (px : Addr) (b : List Rw) (wa : Addr) (way : List Nat) (p j n : Nat) (ls : List Nat) (r : Rw), vs = [.ref x, .int (j : Nat)] ∧
  RnAt fm CP CN CR F ns H x A S l px b wa (way ++ [p]) ∧ (leadsP b)[p]? = some ls ∧ ls[j]? = some n ∧ (rowsB b)[p]? = some r ∧ S.made.length < 50000 ∧ S.printed.length < 50000 ∧ S.trail.length < 50000 ∧ way.length < 50000 ∧
  ∀ S' l' H', Fz (wa :: (A.own ++ fm.out)) H H' → RnAt fm CP CN CR F ns H' x A { S' with trail := S.trail ++ [markS S r] } l' px b wa (way ++ [p] ++ [n]) → DoS fm S l r S' l' → Q .non H'
theorem scRStep : FnScope ["self", "which", "behind"] ["self", "which"] (defScope sRStep) := ⟨rfl, rfl, rfl, by decide +kernel, rfl, by decide +kernel, by decide +kernel⟩
theorem ok_rstep {CE f : Addr} {fd : FuncData} (FD : FunD K "step" "Run.step" (defArgs sRStep) (defBody sRStep) (defScope sRStep) [] [] f fd) (c : RnC K CR) (M : NtM P w K mg base CN) (C_place_behind : Cal P w K mg base "place_behind" 4 ["program", "place", "which"] (spPlaceBehind K CP)) (C_row_at : CalX P w K mg base "row_at" 3 ["program", "place"] (spRowAt K CP CE)) : FnOk P w K mg base CX0 27 f fd ["self", "which"] (spRStep P w K mg base CP CN CR) := by
  refine FD.ok scRStep (fun vs H Q E h => ?_) (fun cdv A0 outer s H vs Q E hr h => ?_)
  · obtain ⟨fm, F, ns, x, A, S, l, px, b, wa, way, p, j, n, ls, r, rfl, _⟩ := h
    rfl
  · obtain ⟨fm, F, ns, x, A, S, l, px, b, wa, way, p, j, n, ls, r, rfl, R, hls, hj, hrow, hzm, hzp, hzt, hzw, k⟩ := h
    obtain ⟨dx, hx⟩ := R.rx
    have hw := R.wy
    rw [natV_snoc] at hw
    have hlev := R.lev
    have hr4 := hr.mono (show 4 ≤ 26 by decide)
    have hr3 := hr.mono (show 3 ≤ 26 by decide)
    have hrd := hr.mono (show fm.lev + 6 ≤ 26 by omega)
    refine ⟨_, PSs.nox (pss_cons (ps_set (i := 2) scRStep.nd rfl (Or.inl rfl) (pcal C_place_behind hr4 rfl (pa_cons (pe_fld (pv 0) rfl) (pa_cons (pe_ix ix_list (pe_fld (pv 0) rfl) (pe_un un_neg pe_int) (fun _ _ => rfl)) (pa_cons (pv 1) pa_nil)))))
    (pss_cons (ps_expr (pmc (M.do_ fm F ns R.n63) hrd (pe_fld (pv 0) rfl) (pa_cons (pcalN C_row_at hr3 rfl (pa_cons (pe_fld (pv 0) rfl) (pa_cons (pe_ix ix_list (pe_fld (pv 0) rfl) (pe_un un_neg pe_int) (fun _ _ => rfl)) pa_nil))) pa_nil)))
    (pss_one (ps_expr (pe_bm PySem.F.plainAttrs_list PySem.F.slot_list_append PySem.F.type_list_append mt_append (pe_fld (pv 0) rfl) (pa_cons (pv 2) pa_nil)))))), ?_⟩
    refine ⟨_, rfl, x, CR, dx, _, _, rfl, hx, c.c, c.n_program, rfl, _, rfl, x, CR, dx, _, _, rfl, hx, c.c, c.n_way, rfl, 1, rfl, wa, _, -1, _, rfl, rfl, SqL.of hw, atI_last _ _, _, rfl, px, b, p, j, n, ls, rfl, R.pr, hls, hj, ?_⟩
    refine ⟨_, rfl, x, CR, dx, _, _, rfl, hx, c.c, c.n_notes, rfl, A.x, A.dx, _, rfl, R.nt.hx, rfl, _, rfl, x, CR, dx, _, _, rfl, hx, c.c, c.n_program, rfl, _, rfl, x, CR, dx, _, _, rfl, hx, c.c, c.n_way, rfl, 1, rfl, wa, _, -1, _, rfl, rfl, SqL.of hw, atI_last _ _, px, _, b, rfl, R.pr, .inl ⟨p, r, rfl, hrow, fun y ty => ?_⟩⟩
    refine ⟨A, S, l, y, r, rfl, R.nt, ty, R.row (List.mem_of_getElem? hrow), R.szl, hzm, hzp, hzt, fun S' l' H' z hN' hD => ?_⟩
    obtain ⟨z2, R2⟩ := R.next z hN' (hD.sz R.szl) n
    have hx2 := z.keep _ _ (R.nt.mksO.no hx fun z => by rcases z with ⟨_, z⟩ | ⟨_, z⟩ <;> cases z) hx
    have nw := R.nw
    rw [List.mem_cons, not_or] at nw
    have hw2 := z.keep _ _ nw.2 R.wy
    refine ⟨_, rfl, x, CR, dx, _, _, rfl, hx2, c.c, c.n_way, rfl, .inl ⟨rfl, _, SqL.of hw2⟩, _, rfl, wa, _, _, rfl, rfl, hw2, ?_, k S' l' _ z2 R2 hD⟩
    unfold natV
    rw [List.length_map, List.length_append]
    exact Nat.lt_of_le_of_lt hzw (by decide)
def spRInit (P : Program) (w : World) (K : PySem.W.Frag) (mg : Str → Option Value) (base : Heap) (CP CN CR : Addr) : Sp := fun vs H Q _ => ∃ (fm : Fam P w K mg base) (ns : List Str) (x dx px fa : Addr) (l : fm.L) (b : List Rw) (H0 : Hp) (kvs : List (Key × V)) (g : Str → Addr), vs = [.ref x, .ref px, .ref fa] ∧
  H x = some (.ins CR dx []) ∧ H0 x = none ∧ Same H0 H ∧ PrAt K CP H0 px b ∧ PrD CP H0 px ∧ H0 fa = some (.dK kvs) ∧ (∀ o ∈ opsB b, valV kvs (.inr o) = some (.ref (g o)) ∧ fm.Fn o (g o) H0) ∧ fm.At l H0 ∧ Mks fm.out H0 ∧ fm.out.Nodup ∧ (∀ x ∈ (rowsB b).flatMap namesR, x ∈ ns) ∧ ns.length < 64 ∧ fm.lev ≤ 20 ∧ fm.sz l = 0 ∧
  ∀ A F wa H', Same H0 H' → RnAt fm CP CN CR F ns H' x A NS0 l px b wa [0] → (∀ c ∈ wa :: A.own, H0 c = none) → Q .non H'
theorem scRInit : FnScope ["self", "program", "functions"] ["self", "program", "functions"] (defScope sRInit) := ⟨rfl, rfl, rfl, by decide +kernel, rfl, by decide +kernel, by decide +kernel⟩
theorem ok_rinit {f : Addr} {fd : FuncData} (FD : FunD K "__init__" "Run.__init__" (defArgs sRInit) (defBody sRInit) (defScope sRInit) [] [] f fd) (c : RnC K CR) (M : NtM P w K mg base CN) (C_ops : Cal P w K mg base "ops" 1 ["program"] (spOps K CP)) (C_functions_of : Cal P w K mg base "functions_of" 1 ["wanted", "functions"] (spFunctionsOf K)) : FnOk P w K mg base CX0 4 f fd ["self", "program", "functions"] (spRInit P w K mg base CP CN CR) := by
  refine FD.ok scRInit (fun vs H Q E h => ?_) (fun cdv A0 outer s H vs Q E hr h => ?_)
  · obtain ⟨fm, ns, x, dx, px, fa, l, b, H0, kvs, g, rfl, _⟩ := h
    rfl
  · obtain ⟨fm, ns, x, dx, px, fa, l, b, H0, kvs, g, rfl, hx, nx0, s0, hP, hPD, hfa, hg, hat, hmo, hon, hns, h63, hlev, hsz, k⟩ := h
    obtain ⟨fN, fdN, mk, G, bN, gN⟩ := M.make
    have hr1 := hr.mono (show 1 ≤ 3 by decide)
    refine ⟨_, PSs.nox (pss_cons (ps_fld (pv 0) (pcal C_functions_of hr1 rfl (pa_cons (pcal C_ops hr1 rfl (pa_cons (pv 1) pa_nil)) (pa_cons (pv 2) pa_nil))) rfl)
    (pss_cons (ps_fld (pv 0) (pv 1) rfl)
    (pss_cons (ps_fld (pv 0) (pe_make mk G hr rfl gN bN .nil pass0 (pa_cons (pe_fld (pv 0) rfl) pa_nil)) rfl)
    (pss_one (ps_fld (pv 0) (pe_lst (pa_cons pe_int pa_nil)) rfl))))), ?_⟩
    refine ⟨_, rfl, px, b, rfl, hP.same s0, fun t ys H1 s1 ly ht => ?_⟩
    have hylen : ys.length ≤ 1000 := by
      obtain ⟨_, _, _, _, _, _, _, _, _, _, Gd, _⟩ := hP
      have h1 := ly.le (W := opsB b) fun x hx => hx
      have h2 : (opsB b).length ≤ (rowsB b).length := by
        unfold opsB
        rw [List.length_map]
        exact List.length_filter_le _ _
      have := Gd.l30
      omega
    refine ⟨_, rfl, t, fa, ys, kvs, fun o => .ref (g o), rfl, .inl (.inl ht), ly.nd, hylen, s1 _ _ (s0 _ _ hfa), fun y hy => (hg y ((ly.me y).mp hy)).1, fun q H2 s2 nq hq => ?_⟩
    have s02 := (s0.trans s1).trans s2
    have hx2 := s2 _ _ (s1 _ _ hx)
    have nqx : q ≠ x := fun e => by
      rw [e, s1 _ _ hx] at nq
      cases nq
    have nq0 : H0 q = none := s0.free (s1.free nq)
    have xk : ∀ {Ha Hb : Hp} {o : HO}, Same H0 Ha → Same H0 (upd Ha x o) := fun sa => same_putN sa nx0
    refine ⟨_, rfl, x, CR, dx, _, rfl, hx2, c.c, c.n_functions, (by show 0 < 1000; decide), ?_⟩
    have s3 : Same H0 (upd H2 x (.ins CR dx [("_functions", V.ref q)])) := same_putN s02 nx0
    have hx3 : upd H2 x (.ins CR dx [("_functions", V.ref q)]) x = some (.ins CR dx [("_functions", V.ref q)]) := upd_same
    have hq3 : upd H2 x (.ins CR dx [("_functions", V.ref q)]) q = _ := (upd_ne nqx).trans hq
    refine ⟨_, rfl, _, rfl, x, CR, dx, _, rfl, hx3, c.c, c.n_program, (by show 1 < 1000; decide), ?_⟩
    have hx4 : (upd (upd H2 x (.ins CR dx [("_functions", V.ref q)])) x (.ins CR dx [("_functions", .ref q), ("_program", .ref px)])) x = some (.ins CR dx [("_functions", .ref q), ("_program", .ref px)]) := upd_same
    have s4 : Same H0 (upd (upd H2 x (.ins CR dx [("_functions", V.ref q)])) x (.ins CR dx [("_functions", .ref q), ("_program", .ref px)])) := same_putN s3 nx0
    have hq4 : (upd (upd H2 x (.ins CR dx [("_functions", V.ref q)])) x (.ins CR dx [("_functions", .ref q), ("_program", .ref px)])) q = some (.dK (ys.map fun y => (.inr y, .ref (g y)))) := (upd_ne nqx).trans hq3
    refine ⟨_, rfl, x, CR, dx, _, _, rfl, hx4, c.c, c.n_functions, rfl, fun nx ndx hnx hndx hne => ⟨nx, ndx, q, rfl, upd_same, fun ha ma wa oa pa ta H6 kp6 hx6 n6 hta nta dta => ⟨rfl, ?_⟩⟩⟩
    have hnx : (upd (upd H2 x (.ins CR dx [("_functions", V.ref q)])) x (.ins CR dx [("_functions", .ref q), ("_program", .ref px)])) nx = none := hnx
    have hndx : (upd (upd H2 x (.ins CR dx [("_functions", V.ref q)])) x (.ins CR dx [("_functions", .ref q), ("_program", .ref px)])) ndx = none := hndx
    have s45 : Same (upd (upd H2 x (.ins CR dx [("_functions", V.ref q)])) x (.ins CR dx [("_functions", .ref q), ("_program", .ref px)])) (upd (upd (upd (upd H2 x (.ins CR dx [("_functions", V.ref q)])) x (.ins CR dx [("_functions", .ref q), ("_program", .ref px)])) ndx (.own nx)) nx (.ins CN ndx [])) := same_putN (same_new hndx) hnx
    have s46 : Same (upd (upd H2 x (.ins CR dx [("_functions", V.ref q)])) x (.ins CR dx [("_functions", .ref q), ("_program", .ref px)])) H6 := fun b u e => kp6 b u (ne_of_none e hnx) (s45 b u e)
    have hx6' := s46 _ _ hx4
    refine ⟨_, rfl, x, CR, dx, _, rfl, hx6', c.c, c.n_notes, (by show 2 < 1000; decide), ?_⟩
    refine ⟨by decide, fun wq nwq => ?_⟩
    obtain ⟨k8, x8, a8, e8, z8, m8⟩ := ini_step (x := x) (C := CR) (dx := dx) (fs' := fsR q px nx wq) (o := .lst [.int 0]) (H := H6) (H1 := upd H6 x (.ins CR dx [("_functions", .ref q), ("_program", .ref px), ("_notes", .ref nx)])) (fun b u n e => (upd_ne n).trans e) upd_same nwq
    refine ⟨_, rfl, x, CR, dx, _, rfl, (upd_ne e8.symm).trans upd_same, c.c, c.n_way, (by show 3 < 1000; decide), ?_⟩
    show Q .non (upd (upd (upd H6 x (.ins CR dx [("_functions", .ref q), ("_program", .ref px), ("_notes", .ref nx)])) wq (.lst [.int 0])) x (.ins CR dx (fsR q px nx wq)))
    generalize upd (upd (upd H6 x (.ins CR dx [("_functions", .ref q), ("_program", .ref px), ("_notes", .ref nx)])) wq (.lst [.int 0])) x (.ins CR dx (fsR q px nx wq)) = H9 at k8 x8 a8 m8
    have s9 : Same H0 H9 := fun b u e => k8 b u (ne_of_none e nx0) (s46 b u (s4 b u e))
    have n5x : ∀ {b : Addr}, (upd (upd (upd (upd H2 x (.ins CR dx [("_functions", V.ref q)])) x (.ins CR dx [("_functions", .ref q), ("_program", .ref px)])) ndx (.own nx)) nx (.ins CN ndx [])) b = none → b ≠ x := fun n e => by
      rw [e, s45 _ _ hx4] at n
      cases n
    have nxx : nx ≠ x := fun e => by
      rw [e, hx4] at hnx
      cases hnx
    have n50 : ∀ {b : Addr}, (upd (upd (upd (upd H2 x (.ins CR dx [("_functions", V.ref q)])) x (.ins CR dx [("_functions", .ref q), ("_program", .ref px)])) ndx (.own nx)) nx (.ins CN ndx [])) b = none → H0 b = none := fun n => s4.free (s45.free n)
    have hq9 := k8 _ _ nqx (s46 _ _ hq4)
    have eF : (ys.map fun y => ((.inr y : Key), V.ref (g y))) = (ys.map fun y => (y, g y)).map fun p => ((.inr p.1 : Key), V.ref p.2) := by
      rw [List.map_map]
      rfl
    rw [eF] at hq9
    have z9 := s9.fz (M := []) mks_nil
    have hN : NtAt fm CN (ys.map fun y => (y, g y)) ns H9 ⟨nx, ndx, q, ha, ma, wa, oa, pa, ta⟩ NS0 l := by
      refine NtAt.init (H := upd (upd (upd (upd H2 x (.ins CR dx [("_functions", V.ref q)])) x (.ins CR dx [("_functions", .ref q), ("_program", .ref px)])) ndx (.own nx)) nx (.ins CN ndx [])) (k8 _ _ nxx hx6) ⟨k8 _ _ (n5x n6.n1) n6.h1, k8 _ _ (n5x n6.n2) n6.h2, k8 _ _ (n5x n6.n3) n6.h3, k8 _ _ (n5x n6.n4) n6.h4, k8 _ _ (n5x n6.n5) n6.h5, n6.n1, n6.n2, n6.n3, n6.n4, n6.n5, n6.nd⟩ (k8 _ _ (n5x nta) hta) nta dta ⟨_, s45 _ _ hq4⟩ hq9 (fun p hp => ?_) (hmo.same (s4.trans s45)) (hmo.same s9) (fun hm => ?_) hon (fm.atK hat mks_nil z9 (fun _ _ m => nomatch m))
      · obtain ⟨y, hy, rfl⟩ := List.mem_map.mp hp
        exact fm.fnK (hg y ((ly.me y).mp hy)).2 mks_nil z9
      · rcases hmo q hm with ⟨_, e⟩ | ⟨_, e⟩ <;> rw [nq0] at e <;> cases e
    have hw9 : H9 wq = some (.lst (natV [0])) := a8
    have nwq6 : H6 wq = none := z8
    have hfr : ∀ c ∈ wq :: Ad.own ⟨nx, ndx, q, ha, ma, wa, oa, pa, ta⟩, H0 c = none := fun c hc => by
      simp only [Ad.own, List.mem_cons, List.not_mem_nil, or_false] at hc
      rcases hc with rfl | rfl | rfl | rfl | rfl | rfl | rfl
      · exact s4.free (s46.free nwq6)
      · exact n50 n6.n1
      · exact n50 n6.n2
      · exact n50 n6.n3
      · exact n50 n6.n4
      · exact n50 n6.n5
      · exact n50 nta
    refine k _ _ wq H9 s9 ⟨⟨dx, x8⟩, hP.same s9, hPD.same s9, hN, hw9, ?_, fun o ho => ?_, hns, h63, hlev, Nat.le_of_eq hsz⟩ hfr
    · have h6 : ∀ {b : Addr} {u : HO}, H6 b = some u → wq ≠ b := fun e z => by
        rw [← z, nwq6] at e
        cases e
      rw [List.mem_cons, List.mem_append, not_or, not_or]
      refine ⟨h6 (s46 _ _ hq4), fun hm => ?_, fun hm => ?_⟩
      · simp only [Ad.own, List.mem_cons, List.not_mem_nil, or_false] at hm
        rcases hm with e | e | e | e | e | e
        · exact h6 n6.h1 e
        · exact h6 n6.h2 e
        · exact h6 n6.h3 e
        · exact h6 n6.h4 e
        · exact h6 n6.h5 e
        · exact h6 hta e
      · rcases hmo wq hm with ⟨_, e⟩ | ⟨_, e⟩ <;> rw [hfr wq List.mem_cons_self] at e <;> cases e
    · rw [List.map_map]
      exact List.mem_map.mpr ⟨o, (ly.me o).mpr ho, rfl⟩
end
end K13
set_option Elab.async false
set_option linter.all false
set_option maxRecDepth 100000
set_option maxHeartbeats 4000000
/-! Rules of my own: tuples joined and cut (some tuple of these items), == with the empty tuple, list comprehensions over pairs. -/
namespace ZR
open PySem PySem.Spec PyProof.Rows L2 ZX PM RZ
theorem cutV_whole {xs : List V} {lo hi : Option Int} (h : HT.sIx xs.length 0 lo = 0 ∧ HT.sIx xs.length xs.length hi = xs.length) : cutV xs lo hi = xs := by
  unfold cutV
  rw [h.1, h.2]
  simp
section
variable {X : Cx}
/-- t + u: some tuple of these items -/
def rCatZ (K : PySem.W.Frag) : R2 := fun x y H Q => ∃ a b xs ys, x = .ref a ∧ y = .ref b ∧ SqT K H a xs ∧ SqT K H b ys ∧ xs.length + ys.length ≤ sizeLine ∧ ∀ q H', Same H H' → SqT K H' q (xs ++ ys) → Q (.ref q) H'
theorem op_catZ : OpR X (binaryOp .Add) (rCatZ X.K) := by
  intro pins s σ H x y v u Q I rx ry h
  obtain ⟨a, b, xs, ys, rfl, rfl, ha, hb, hz, q⟩ := h
  refine op_catA pins s σ H _ _ v u Q I rx ry ⟨a, b, xs, ys, rfl, rfl, ha, hb, hz, fun e => ?_, fun _ e => ?_, fun _ _ p np => ?_⟩
  · exact q b H (fun _ _ h => h) (by rw [e]; exact hb)
  · exact q a H (fun _ _ h => h) (by rw [e, List.append_nil]; exact ha)
  · exact q p _ (same_new np) (.inl (.inl upd_same))
/-- t[lo:hi]: some tuple of these items -/
def rSlZ (K : PySem.W.Frag) : V → Option Int → Option Int → Hp → VK → Prop := fun x lo hi H Q => ∃ a xs, x = .ref a ∧ SqT K H a xs ∧ ∀ q H', Same H H' → SqT K H' q (cutV xs lo hi) → Q (.ref q) H'
theorem sl_tupZ : L2.SlR X (rSlZ X.K) := by
  intro pins s σ H x v vl vu lo hi sl Q I rx hs pl pu h
  obtain ⟨a, xs, rfl, hx, q⟩ := h
  refine sl_tupA pins s σ H _ v vl vu lo hi sl Q I rx hs pl pu ⟨a, xs, rfl, hx, fun e => ?_, fun _ p np => ?_⟩
  · exact q a H (fun _ _ h => h) (by rw [cutV_whole e]; exact hx)
  · exact q p _ (same_new np) (.inl (.inl upd_same))
/-- t == () -/
def rEqEmp (K : PySem.W.Frag) : R2 := fun x y H Q => ∃ a b xs, x = .ref a ∧ y = .ref b ∧ SqT K H a xs ∧ SqT K H b [] ∧ Q (.bl xs.isEmpty) H
theorem op_eqEmp (hu : X.A.units < cLine) : OpR X (compareOp .Eq) (rEqEmp X.K) := by
  intro pins s σ H x y v u Q I rx ry h
  obtain ⟨a, b, xs, rfl, rfl, ha, hb, q⟩ := h
  cases rx
  cases ry
  obtain ⟨its, r1, p1, _⟩ := I.tuple ha
  obtain ⟨its2, r2, p2, _⟩ := I.tuple hb
  cases r2
  show wpAny (model X.prog X.w) X.A (richCompare .Eq (.ref a) (.ref b)) (EP X pins σ Q) X.xe s
  refine SeqAt.RcAt.tuples (e := fun _ => true) p1 p2 hu (fun j h1 h2 => absurd h2 (Nat.not_lt_zero _)) X.prog X.w _ _ ?_
  have e : ((List.range (min its.toArray.size ([] : List Value).toArray.size)).all (fun _ => true) && its.toArray.size == ([] : List Value).toArray.size) = xs.isEmpty := by
    have hl := r1.length
    cases xs with
    | nil =>
      have : its = [] := List.length_eq_zero_iff.mp hl.symm
      subst this
      rfl
    | cons y ys =>
      cases its with
      | nil => cases hl
      | cons i is => simp
  rw [e]
  exact ⟨.bl _, H, I, rfl, q⟩
end
/-- J walks n turns as long as St holds; each turn gives what Y says -/
structure IterY (J : It) (n : Nat) (St : Hp → Prop) (Y : Nat → V → Hp → Prop) : Prop where
  stop : ∀ H, St H → J.stop n H
  go : ∀ i H, St H → i < n → J.go i H
  yld : ∀ i H v H', St H → i < n → J.yld i H v H' → Same H H' ∧ Y i v H'
theorem it_zipT {K : PySem.W.Frag} {a b : Addr} {xs ys : List V} : IterY (ItzT K a b) (min xs.length ys.length) (fun H => SqT K H a xs ∧ SqT K H b ys) (fun i v H => ∃ T x y, v = .ref T ∧ H T = some (.tup [x, y]) ∧ xs[i]? = some x ∧ ys[i]? = some y) := by
  refine ⟨fun H h => ⟨xs, ys, h.1, h.2, by omega⟩, fun i H h l => ⟨xs, ys, xs[i]'(by omega), ys[i]'(by omega), h.1, h.2, List.getElem?_eq_getElem _, List.getElem?_eq_getElem _⟩, fun i H v H' h l y => ?_⟩
  obtain ⟨T, x, y, rfl, nT, rfl, hx, hy⟩ := y
  exact ⟨same_new nT, T, x, y, rfl, upd_same, hx xs h.1, hy ys h.2⟩
section
variable {J : It} {n : Nat} {St : Hp → Prop} {Y : Nat → V → Hp → Prop} {g : TG} {te : TE} {vs : List Nat} {σ : L2.St} {H1 : Hp} {Q : VK}
theorem lc_overY {α : Type} {as : List α} {Rel : Hp → α → V → Prop} (O : IterY J n St Y) (hz : as.length = n) (hRel : ∀ c y H H', Pt H H' → Rel H c y → Rel H' c y) (hlen : n < sizeLine)
    (st : ∀ H', Same H1 H' → Pt H1 H' → St H')
    (step : ∀ (i : Nat) x c, as[i]? = some c → ∀ H', Same H1 H' → Pt H1 H' → Y i x H' → ∀ R : VK, (∀ y H'', Same H' H'' → Rel H'' c y → R y H'') → g x (wipe σ vs) H' fun σ2 H2 => wipe σ2 vs = wipe σ vs ∧ te σ2 H2 R)
    (fin : ∀ D ys H', Same H1 H' → Pt H1 H' → H1 D = none → H' D = some (.lst ys) → All2 (Rel H') as ys → Q (.ref D) H') :
    tLcS (fun _ _ R => R J H1) g tYes te vs σ H1 Q := by
  rw [lcS]
  intro D hD
  refine ⟨fun i m H => m = n - i ∧ i ≤ n ∧ Same H1 H ∧ Pt H1 H ∧ ∃ ys, H D = some (.lst ys) ∧ All2 (Rel H) (as.take i) ys, ⟨n, rfl, Nat.zero_le _, same_new hD, Pt.new hD, [], upd_same, by rw [List.take_zero]; exact .nil⟩, ?_⟩
  rintro i m H ⟨rfl, hi, sm, pt, ys, hys, all⟩
  have hst := st H sm pt
  by_cases hlt : i < n
  · refine .inr ⟨O.go i H hst hlt, fun H' => i + 1 ≤ n ∧ Same H1 H' ∧ Pt H1 H' ∧ ∃ ys, H' D = some (.lst ys) ∧ All2 (Rel H') (as.take (i + 1)) ys, fun H' h => ⟨n - (i + 1), by omega, rfl, h⟩, fun x H' y => ?_⟩
    obtain ⟨sy, hx⟩ := O.yld i H x H' hst hlt y
    have hia : i < as.length := by omega
    have hc : as[i]? = some as[i] := List.getElem?_eq_getElem hia
    show g x (wipe σ vs) H' fun σ2 H2 => wipe σ2 vs = wipe σ vs ∧ tYes σ2 H2 fun b H3 => if b = true then te σ2 H3 _ else _
    refine step i x as[i] hc H' (sm.trans sy) (pt.trans sy.pt) hx _ fun y H'' s2 r => ?_
    have hD2 := s2 _ _ (sy _ _ hys)
    have pD : Pt H'' (upd H'' D (.lst (ys ++ [y]))) := Pt.lst hD2
    have ptk : as.take (i + 1) = as.take i ++ [as[i]] := by
      rw [List.take_succ, hc]
      rfl
    have hl2 : ys.length < sizeLine := by
      rw [← all.len, List.length_take]
      omega
    refine ⟨ys, hD2, hl2, hlt, ((sm.trans sy).trans s2).put hD, ((pt.trans sy.pt).trans s2.pt).trans pD, ys ++ [y], upd_same, ?_⟩
    rw [ptk]
    exact All2.snoc (hRel _ _ _ _ pD r) (all.imp fun a b q => hRel _ _ _ _ ((sy.pt.trans s2.pt).trans pD) q)
  · have e : i = n := by omega
    subst e
    rw [← hz, List.take_length] at all
    exact .inl ⟨O.stop H hst, fin D ys H sm pt hD hys all⟩
end
end ZR
set_option Elab.async false
set_option linter.all false
set_option maxRecDepth 100000
set_option maxHeartbeats 4000000
namespace PM
open PySem PySem.Spec PyProof.Rows L2 ZX ZR
theorem _root_.L2.TyX.same {K : PySem.W.Frag} {H H' : Hp} {v : V} {t : Value} (s : Same H H') (h : TyX K H v t) : TyX K H' v t := by
  cases h with
  | base h =>
    cases h with
    | non => exact .base .non
    | bl x => exact .base (.bl x)
    | int i => exact .base (.int i)
    | str x => exact .base (.str x)
    | flt x => exact .base (.flt x)
    | lst e => exact .base (.lst (s _ _ e))
    | frz e => exact .base (.frz (s _ _ e))
    | tup e => exact .base (.tup (s _ _ e))
    | dK e => exact .base (.dK (s _ _ e))
    | dT e => exact .base (.dT (s _ _ e))
    | ins e cl ha hn ht hm => exact .base (.ins (s _ _ e) cl ha hn ht hm)
  | byt b => exact .byt b
  | set e => exact .set (s _ _ e)
  | kList e c => exact .kList e c
  | kTuple e c => exact .kTuple e c
  | kDict e c => exact .kDict e c
  | fTuple e => exact .fTuple (s _ _ e)
  | fDict e => exact .fDict (s _ _ e)
theorem Tvs.ints {K : PySem.W.Frag} {H : Hp} : ∀ {vs : List V} {l : List Nat}, Tvs K H vs (l.map fun (n : Nat) => PyData.int (n : Int)) → vs = l.map fun (n : Nat) => V.int (n : Int)
  | _, [], .nil => rfl
  | _, _ :: _, .cons h t => by
    cases h
    rw [List.map_cons, Tvs.ints t]
theorem flat_ints (l : List Nat) : (l.map fun (n : Nat) => V.int (n : Int)).all flatV = true := by
  induction l with
  | nil => rfl
  | cons n l ih => exact ih
theorem inV_ints (m : Nat) (l : List Nat) : inV (.int (m : Int)) (l.map fun (n : Nat) => V.int (n : Int)) = decide (m ∈ l) := by
  induction l with
  | nil => rfl
  | cons n l ih =>
    show ((n : Int) == (m : Int) || inV (.int (m : Int)) (l.map fun (n : Nat) => V.int (n : Int))) = _
    rw [ih]
    by_cases e : n = m
    · subst e
      simp
    · have e1 : ((n : Int) == (m : Int)) = false := by
        rw [beq_eq_false_iff_ne]
        omega
      have e2 : ¬ m = n := fun z => e z.symm
      rw [e1, Bool.false_or]
      simp [e2]
/-- judging ways -/
def inRg (n : Nat) : Option Int → Bool
  | some i => decide (0 ≤ i) && decide (i < n)
  | none => false
def natOf : Option Int → Nat
  | some i => i.toNat
  | none => 0
def stepB (ls : List (List Nat)) (ns : List Nat) (k : Nat) : Bool := decide (ns.getD (k + 1) 0 ∈ ls.getD (ns.getD k 0) [])
def judge (ls : List (List Nat)) (cs : List (Option Int)) : Bool := !cs.isEmpty && ((cs.map (inRg ls.length)).all id && ((List.range (cs.length - 1)).map (stepB ls (cs.map natOf))).all id)
theorem inR_all {n : Nat} {cs : List (Option Int)} (h : (cs.map (inRg n)).all id = true) {k : Nat} {c : Option Int} (hc : cs[k]? = some c) : ∃ m : Nat, c = some (m : Int) ∧ m < n ∧ (cs.map natOf).getD k 0 = m := by
  have h1 := List.all_eq_true.mp h (inRg n c) (List.mem_map.mpr ⟨c, List.mem_of_getElem? hc, rfl⟩)
  cases c with
  | none => cases h1
  | some i =>
    obtain ⟨h2, h3⟩ := Bool.and_eq_true_iff.mp (show (decide (0 ≤ i) && decide (i < n)) = true from h1)
    have h4 := of_decide_eq_true h2
    have h5 := of_decide_eq_true h3
    refine ⟨i.toNat, by rw [Int.toNat_of_nonneg h4], by omega, ?_⟩
    rw [List.getD_eq_getElem?_getD, List.getElem?_map, hc]
    rfl
end PM
namespace K13
open PySem PySem.Spec PyProof.Rows L2 ZX PM ZR
theorem NumV.same {K : PySem.W.Frag} {H H' : Hp} {v : V} {c : Bool} (s : Same H H') (h : NumV K H v c) : NumV K H' v c := by
  cases h with
  | int i => exact .int i
  | bl b => exact .bl b
  | oth h e => exact .oth (h.same s) e
/-- an item: an integer or none -/
inductive Itm (K : PySem.W.Frag) (H : Hp) : V → Option Int → Prop
  | int (i : Int) : Itm K H (.int i) (some i)
  | oth {v : V} (h : NumV K H v false) : Itm K H v none
theorem Itm.same {K : PySem.W.Frag} {H H' : Hp} {v : V} {c : Option Int} (s : Same H H') (h : Itm K H v c) : Itm K H' v c := by
  cases h with
  | int i => exact .int i
  | oth h => exact .oth (NumV.same s h)
theorem All2.get {α β : Type} {R : α → β → Prop} : ∀ {as : List α} {bs : List β} {i : Nat} {a : α}, All2 R as bs → as[i]? = some a → ∃ b, bs[i]? = some b ∧ R a b
  | _, _, i, _, .nil, h => by simp at h
  | _, _, 0, _, .cons r t, h => by
    cases h
    exact ⟨_, rfl, r⟩
  | _, _, i + 1, _, .cons r t, h => All2.get (i := i) t h
end K13
set_option Elab.async false
set_option linter.all false
set_option maxRecDepth 100000
set_option maxHeartbeats 4000000
namespace K13
open PySem PySem.Spec PyProof.Rows L2 ZX PM ZR
abbrev sIsWay : Stmt := top 39
def spIsWay (K : PySem.W.Frag) (C : Addr) : Sp := fun vs H Q _ => ∃ (x : Addr) (v : V) (b : List Rw), vs = [.ref x, v] ∧ PrAt K C H x b ∧
  ((∃ t, TyX K H v t ∧ PySem.W.kitOne K t (.type "tuple") = some false ∧ ∀ H', Same H H' → Q (.bl false) H') ∨
   (∃ (a : Addr) (xs : List V) (cs : List (Option Int)), v = .ref a ∧ SqT K H a xs ∧ All2 (Itm K H) xs cs ∧ xs.length ≤ 100000 ∧ ∀ H', Same H H' → Q (.bl (judge (leadsP b) cs)) H'))
/-- the words of the two comprehensions -/
def rLenQ (K : PySem.W.Frag) : List V → Hp → VK → Prop := fun xs H Q => ∃ p ys, xs = [.ref p] ∧ (SqL K H p ys ∨ SqT K H p ys) ∧ Q (.int ys.length) H
abbrev teA (K : PySem.W.Frag) : TE := tCall (spBelow K) [] E0 (tCons (tCB (rLenQ K) (tCons (tFld K (tVar 0) "_leads") tNil)) (tCons (tVar 2) tNil))
abbrev teB (K : PySem.W.Frag) : TE := tOp (rIn K false) (tVar 3) (tOp (rIxT K) (tFld K (tVar 0) "_leads") (tVar 2))
section
variable {P : Program} {w : World} {K : PySem.W.Frag} {mg : Str → Option Value} {base : Heap}
theorem scIsWay : FnScope ["program", "thing", "place", "after"] ["program", "thing"] (defScope sIsWay) := ⟨rfl, rfl, rfl, by decide +kernel, rfl, by decide +kernel, by decide +kernel⟩
theorem ok_is_way {C f : Addr} {fd : FuncData} (F : FnP K "is_way" sIsWay f fd) (T : Bi mg) (c : PrC K C) (C_is_number_below : Cal P w K mg base "is_number_below" 2 ["limit", "thing"] (spBelow K)) : FnOk P w K mg base CX0 3 f fd ["program", "thing"] (spIsWay K C) := by
  refine F.ok scIsWay (fun vs H Q E h => ?_) (fun cdv A outer s H vs Q E hr h => ?_)
  · obtain ⟨x, v, b, rfl, _⟩ := h
    rfl
  · obtain ⟨x, v, b, rfl, ⟨dx, vb, ra, na, la, rs, ls, yn, hx, tv, G, h1, h2, h3, h4, h5, h6⟩, h⟩ := h
    have hr_is_number_below := hr
    have hln := h4.len
    rw [List.length_map] at hln
    refine ⟨_, PSs.nox (pss_cons (ps_if (PW.pt (pw_or (pt_not (pt_val (pe_callB call_isi (by rfl) T.b_isinstance (by decide +kernel) (pa_cons (pv 1) (pa_cons (pe_bltn (v := .ty "tuple") (by rfl) T.b_tuple (by decide +kernel) rfl) pa_nil))))) (pw_or1 (pt_not (pt_truth (pv 1) (by intro _; rfl)))))) (pss_one (ps_ret pe_bl)) pss_nil)
    (pss_cons (ps_if (pt_not (pt_val (pe_callB (cr_all rfl) (by rfl) T.b_all (by decide +kernel) (pa_cons (pe_lcS (own := [("place", 2)]) (g := gName 2) (tt := tYes) (te := teA K) (by rfl) scIsWay.nd (pi_tup (pv 1)) (blkOk_by (N := ["program", "thing", "place", "after"]) (sc := defScope sIsWay) (by decide +kernel)) (fun _ _ _ _ _ => (pg_name (i := 2) scIsWay.nd rfl (Or.inl rfl))) (fun _ _ _ _ _ => pts_nil) (fun _ _ _ _ _ => ((pcal C_is_number_below hr_is_number_below rfl (pa_cons (pe_callB call_len_seq (by rfl) T.b_len (by decide +kernel) (pa_cons (pe_fld (pv 0) (by rfl)) pa_nil)) (pa_cons (pv 2) pa_nil)))))) pa_nil)))) (pss_one (ps_ret pe_bl)) pss_nil)
    (pss_one (ps_ret (pe_callB (cr_all rfl) (by rfl) T.b_all (by decide +kernel) (pa_cons (pe_lcS (own := [("place", 2), ("after", 3)]) (g := gTup K 2 (gCons (gName 2) (gCons (gName 3) gNil))) (te := teB K) (tt := tYes) (by rfl) scIsWay.nd (RZ.pi_zipA (by rfl) T.b_zip (pa_cons (pv 1) (pa_cons (pe_slice sl_tupZ (pv 1) (po_some pe_int) po_none) pa_nil))) (blkOk_by (N := ["program", "thing", "place", "after"]) (sc := defScope sIsWay) (by decide +kernel)) (fun _ _ _ _ _ => (pg_tup rfl (pgs_cons (pg_name (i := 2) scIsWay.nd rfl (Or.inl rfl)) (pgs_cons (pg_name (i := 3) scIsWay.nd rfl (Or.inl rfl)) pgs_nil)))) (fun _ _ _ _ _ => pts_nil) (fun _ _ _ _ _ => ((pe_cmpR op_in_seq (pv 3) (pe_ix ix_tup (pe_fld (pv 0) (by rfl)) (pv 2) (fun _ _ => rfl)) (by with_unfolding_all rfl))))) pa_nil)))))), ?_⟩
    rcases h with ⟨t, ht, e, k⟩ | ⟨a, xs, cs, rfl, hS, hcs, hxl, k⟩
    · exact ⟨_, rfl, _, _, _, _, false, rfl, .ty "tuple", ht, e, false, rfl, k _ (fun _ _ h => h)⟩
    · have hcl := hcs.len
      refine ⟨_, rfl, _, _, _, _, true, rfl, .ty "tuple", tyT hS, rfl, true, rfl, _, rfl, !xs.isEmpty, .inr (.inl ⟨_, hS, rfl⟩), ?_⟩
      cases hcs with
      | nil => exact k _ (fun _ _ h => h)
      | @cons y0 c0 xs' cs' hi0 hi =>
        have hcs := All2.cons hi0 hi
        refine lc_into ?_
        refine ⟨_, rfl, a, rfl, ⟨_, hS⟩, ?_⟩
        refine lc_overA (p := none) (as := c0 :: cs') (Rel := fun _ e y => y = .bl (inRg (leadsP b).length e)) it_tup hcl.symm (fun _ _ _ _ _ h => h) (fun _ h => nomatch h) (Nat.lt_of_le_of_lt hxl (by decide)) (fun H' _ pt => pt.sq hS) ?_ ?_
        · intro i z e hz he H' kq pt R kR
          obtain ⟨e', he', itm⟩ := All2.get hcs hz
          rw [he] at he'
          cases he'
          have sm := Kq.same kq
          refine ⟨rfl, _, rfl, x, C, dx, _, _, rfl, sm _ _ hx, c.c, c.n3, rfl, la, _, rfl, .inr (pt.sq h3), _, rfl, ?_⟩
          rw [hln]
          cases itm.same sm with
          | int j => exact ⟨_, _, rfl, .inl ⟨j, rfl, kR _ _ Kq.refl (Pt.refl _) rfl⟩⟩
          | oth hn => exact ⟨_, _, rfl, .inr ⟨hn, kR _ _ Kq.refl (Pt.refl _) rfl⟩⟩
        · intro D ys H2 kq pt nD hD all
          have ey := All2.map all
          subst ey
          have s2 := Kq.same kq
          refine ⟨D, (c0 :: cs').map (inRg (leadsP b).length), rfl, SqL.of (by rw [hD, List.map_map]; rfl), _, rfl, ?_⟩
          cases hall : ((c0 :: cs').map (inRg (leadsP b).length)).all id with
          | false =>
            have ej : judge (leadsP b) (c0 :: cs') = false := by
              unfold judge
              rw [hall]
              simp
            rw [ej] at k
            exact k _ s2
          | true =>
            refine lc_into ?_
            refine ⟨_, rfl, _, rfl, 1, rfl, a, _, rfl, pt.sq hS, fun q H3 s3 hq => ?_⟩
            rw [show cutV (y0 :: xs') (some 1) none = xs' from cut1] at hq
            have s23 := s2.trans s3
            refine ⟨a, q, y0 :: xs', xs', rfl, .inr ⟨s23.pt.sq hS, hq, ?_⟩⟩
            have hcl' : cs'.length = xs'.length := by
              have := hcl
              simp only [List.length_cons] at this
              omega
            refine lc_overY (as := List.range ((c0 :: cs').length - 1)) (Rel := fun _ kk y => y = .bl (stepB (leadsP b) ((c0 :: cs').map natOf) kk)) it_zipT ?_ (fun _ _ _ _ _ h => h) ?_ (fun H' _ pt => ⟨pt.sq (s23.pt.sq hS), pt.sq hq⟩) ?_ ?_
            · rw [List.length_range, List.length_cons, List.length_cons, hcl']
              omega
            · refine Nat.lt_of_le_of_lt (Nat.le_trans (Nat.min_le_left _ _) hxl) (by decide)
            · rintro i y kk hk H4 s4 pt4 ⟨T', x1, x2, rfl, hT, e1, e2⟩ R kR
              have hik : kk = i := by
                have := List.getElem?_eq_some_iff.mp hk
                obtain ⟨_, h⟩ := this
                rw [List.getElem_range] at h
                exact h.symm
              subst hik
              obtain ⟨o1, q1, it1⟩ := All2.get hcs e1
              obtain ⟨o2, q2, it2⟩ := All2.get hcs (i := kk + 1) (a := x2) (by rw [List.getElem?_cons_succ]; exact e2)
              obtain ⟨m1, rfl, hm1, g1⟩ := inR_all hall q1
              obtain ⟨m2, rfl, hm2, g2⟩ := inR_all hall q2
              cases it1
              cases it2
              have hl1 : (leadsP b)[m1]? = some (leadsP b)[m1] := List.getElem?_eq_getElem hm1
              have s24 := s23.trans s4
              obtain ⟨yl, hyl, tyl⟩ := Tvs.get (i := m1) (d := encL (leadsP b)[m1]) (h4.pt s24.pt) (by rw [List.getElem?_map, hl1]; rfl)
              obtain ⟨al, xl, rfl, hal, tal⟩ := tyl.tupI
              have exl := Tvs.ints tal
              subst exl
              refine ⟨T', _, rfl, .inl (.inl hT), rfl, _, _, rfl, _, _, rfl, rfl, rfl, ?_⟩
              refine ⟨_, rfl, _, rfl, x, C, dx, _, _, rfl, s24 _ _ hx, c.c, c.n3, rfl, _, rfl, la, _, _, _, rfl, rfl, s24.pt.sq h3, at_of (j := m1) rfl hyl, al, _, rfl, .inr hal, rfl, flat_ints _, ?_⟩
              refine kR _ _ (fun _ _ h => h) ?_
              show V.bl (inV (.int (m2 : Int)) _) = _
              rw [inV_ints]
              unfold stepB
              rw [g1, g2, List.getD_eq_getElem?_getD, hl1]
              rfl
            · intro D2 ys2 H4 s4 pt4 nD2 hD2 all2
              have ey2 := All2.map all2
              subst ey2
              refine ⟨D2, (List.range ((c0 :: cs').length - 1)).map (stepB (leadsP b) ((c0 :: cs').map natOf)), rfl, SqL.of (by rw [hD2, List.map_map]; rfl), ?_⟩
              have ej : judge (leadsP b) (c0 :: cs') = ((List.range ((c0 :: cs').length - 1)).map (stepB (leadsP b) ((c0 :: cs').map natOf))).all id := by
                unfold judge
                rw [hall]
                rfl
              rw [← ej]
              exact k _ (s23.trans s4)
end
end K13
set_option Elab.async false
set_option linter.all false
set_option maxRecDepth 100000
set_option maxHeartbeats 4000000
namespace PM
open PySem PySem.Spec PyProof.Rows L2 ZX ZR
mutual
theorem leadsR_le : ∀ (r : Rw) (p e : Nat), ∀ l ∈ leadsR r p e, ∀ n ∈ l, n ≤ max (p + (rowsR r).length) e
  | .either a b, p, e, l, hl, n, hn => by
    have hlen : (rowsR (.either a b)).length = (rowsB a).length + (rowsB b).length + 1 := by
      show ((rowsB a ++ rowsB b).length + 1) = _
      rw [List.length_append]
    rw [hlen]
    rcases List.mem_cons.mp hl with rfl | hl
    · simp only [List.mem_cons, List.not_mem_nil, or_false] at hn
      rcases hn with rfl | rfl
      · split <;> omega
      · split <;> omega
    · rcases List.mem_append.mp hl with hl | hl
      · have := leadsB_le a (p + 1) e l hl n hn
        omega
      · have := leadsB_le b (p + 1 + (rowsB a).length) e l hl n hn
        omega
  | .again a, p, e, l, hl, n, hn => by
    have hlen : (rowsR (.again a)).length = (rowsB a).length + 1 := rfl
    rw [hlen]
    rcases List.mem_cons.mp hl with rfl | hl
    · simp only [List.mem_cons, List.not_mem_nil, or_false] at hn
      rcases hn with rfl | rfl
      · split <;> omega
      · omega
    · have := leadsB_le a (p + 1) p l hl n hn
      omega
  | .note _ _ _, p, e, l, hl, n, hn => by
    rw [List.mem_singleton.mp hl] at hn
    rw [List.mem_singleton.mp hn]
    exact Nat.le_max_right _ _
  | .copy _ _, p, e, l, hl, n, hn => by
    rw [List.mem_singleton.mp hl] at hn
    rw [List.mem_singleton.mp hn]
    exact Nat.le_max_right _ _
  | .give _ _, p, e, l, hl, n, hn => by
    rw [List.mem_singleton.mp hl] at hn
    rw [List.mem_singleton.mp hn]
    exact Nat.le_max_right _ _
  | .ask _, p, e, l, hl, n, hn => by
    rw [List.mem_singleton.mp hl] at hn
    rw [List.mem_singleton.mp hn]
    exact Nat.le_max_right _ _
  | .prt _, p, e, l, hl, n, hn => by
    rw [List.mem_singleton.mp hl] at hn
    rw [List.mem_singleton.mp hn]
    exact Nat.le_max_right _ _
theorem leadsB_le : ∀ (b : List Rw) (p e : Nat), ∀ l ∈ leadsB b p e, ∀ n ∈ l, n ≤ max (p + (rowsB b).length) e
  | [], p, e, l, hl, n, hn => nomatch hl
  | r :: b, p, e, l, hl, n, hn => by
    have hlen : (rowsB (r :: b)).length = (rowsR r).length + (rowsB b).length := List.length_append
    rw [hlen]
    rcases List.mem_append.mp hl with hl | hl
    · have := leadsR_le r p _ l hl n hn
      split at this <;> omega
    · have := leadsB_le b (p + (rowsR r).length) e l hl n hn
      omega
end
mutual
theorem leadsR_two : ∀ (r : Rw) (p e : Nat), ∀ l ∈ leadsR r p e, l.length ≤ 2
  | .either a b, p, e, l, hl => by
    rcases List.mem_cons.mp hl with rfl | hl
    · exact Nat.le_refl _
    · rcases List.mem_append.mp hl with hl | hl
      · exact leadsB_two a _ _ l hl
      · exact leadsB_two b _ _ l hl
  | .again a, p, e, l, hl => by
    rcases List.mem_cons.mp hl with rfl | hl
    · exact Nat.le_refl _
    · exact leadsB_two a _ _ l hl
  | .note _ _ _, p, e, l, hl => by
    rw [List.mem_singleton.mp hl]
    exact Nat.le_succ 1
  | .copy _ _, p, e, l, hl => by
    rw [List.mem_singleton.mp hl]
    exact Nat.le_succ 1
  | .give _ _, p, e, l, hl => by
    rw [List.mem_singleton.mp hl]
    exact Nat.le_succ 1
  | .ask _, p, e, l, hl => by
    rw [List.mem_singleton.mp hl]
    exact Nat.le_succ 1
  | .prt _, p, e, l, hl => by
    rw [List.mem_singleton.mp hl]
    exact Nat.le_succ 1
theorem leadsB_two : ∀ (b : List Rw) (p e : Nat), ∀ l ∈ leadsB b p e, l.length ≤ 2
  | [], p, e, l, hl => nomatch hl
  | r :: b, p, e, l, hl => by
    rcases List.mem_append.mp hl with hl | hl
    · exact leadsR_two r _ _ l hl
    · exact leadsB_two b _ _ l hl
end
theorem leads_two {b : List Rw} {l : List Nat} (h : l ∈ leadsP b) : l.length ≤ 2 := by
  rcases List.mem_append.mp h with h | h
  · exact leadsB_two b _ _ l h
  · rw [List.mem_singleton.mp h]
    exact Nat.zero_le _
theorem leadsP_lt {b : List Rw} {i : Nat} {l : List Nat} (h : (leadsP b)[i]? = some l) : ∀ n ∈ l, n < (leadsP b).length := fun n hn => by
  rw [leadsP_len]
  have hm := List.mem_of_getElem? h
  rcases List.mem_append.mp hm with hm | hm
  · have := leadsB_le b 0 _ l hm n hn
    omega
  · rw [List.mem_singleton.mp hm] at hn
    cases hn
/-- a way: places, each a next one of the one ahead -/
structure WayOk (ls : List (List Nat)) (ns : List Nat) : Prop where
  ne : ns ≠ []
  lt : ∀ n ∈ ns, n < ls.length
  st : ∀ k, k + 1 < ns.length → stepB ls ns k = true
theorem nat_map (ns : List Nat) : (ns.map fun (n : Nat) => (some (n : Int) : Option Int)).map natOf = ns := by
  induction ns with
  | nil => rfl
  | cons n ns ih => rw [List.map_cons, List.map_cons, ih]; rfl
theorem WayOk.judge {ls : List (List Nat)} {ns : List Nat} (w : WayOk ls ns) : judge ls (ns.map fun (n : Nat) => (some (n : Int) : Option Int)) = true := by
  unfold PM.judge
  rw [nat_map]
  have h1 : (ns.map fun (n : Nat) => (some (n : Int) : Option Int)).isEmpty = false := by
    cases ns with
    | nil => exact absurd rfl w.ne
    | cons _ _ => rfl
  have h2 : ((ns.map fun (n : Nat) => (some (n : Int) : Option Int)).map (inRg ls.length)).all id = true := by
    refine List.all_eq_true.mpr fun x hx => ?_
    obtain ⟨c, hc, rfl⟩ := List.mem_map.mp hx
    obtain ⟨n, hn, rfl⟩ := List.mem_map.mp hc
    have := w.lt n hn
    show (decide (0 ≤ (n : Int)) && decide ((n : Int) < (ls.length : Int))) = true
    rw [decide_eq_true (by omega), decide_eq_true (by omega)]
    rfl
  have h3 : ((List.range ((ns.map fun (n : Nat) => (some (n : Int) : Option Int)).length - 1)).map (stepB ls ns)).all id = true := by
    refine List.all_eq_true.mpr fun x hx => ?_
    obtain ⟨k, hk, rfl⟩ := List.mem_map.mp hx
    rw [List.length_map] at hk
    have := List.mem_range.mp hk
    exact w.st k (by omega)
  rw [h1, h2, h3]
  rfl
theorem WayOk.one {ls : List (List Nat)} {n : Nat} (h : n < ls.length) : WayOk ls [n] :=
  ⟨by simp, fun m hm => by rw [List.mem_singleton.mp hm]; exact h, fun k hk => by simp at hk⟩
theorem getD_app {ns : List Nat} {m k : Nat} (h : k < ns.length) : (ns ++ [m]).getD k 0 = ns.getD k 0 := by
  rw [List.getD_eq_getElem?_getD, List.getD_eq_getElem?_getD, List.getElem?_append_left h]
theorem WayOk.snoc {ls : List (List Nat)} {ns : List Nat} {m : Nat} {l : List Nat} (w : WayOk ls ns) (hl : ls[ns.getD (ns.length - 1) 0]? = some l) (hm : m ∈ l) (h : m < ls.length) : WayOk ls (ns ++ [m]) := by
  have hp : 0 < ns.length := List.length_pos_iff.mpr w.ne
  refine ⟨by simp, fun n hn => ?_, fun k hk => ?_⟩
  · rcases List.mem_append.mp hn with hn | hn
    · exact w.lt n hn
    · rw [List.mem_singleton.mp hn]
      exact h
  · rw [List.length_append, List.length_singleton] at hk
    by_cases hk2 : k + 1 < ns.length
    · have := w.st k hk2
      unfold stepB at this ⊢
      rw [getD_app hk2, getD_app (by omega)]
      exact this
    · have e : k = ns.length - 1 := by omega
      unfold stepB
      rw [getD_app (by omega), e, List.getD_eq_getElem?_getD (l := ns ++ [m]), List.getElem?_append_right (by omega), List.getD_eq_getElem?_getD (l := ls), hl]
      have e2 : ns.length - 1 + 1 - ns.length = 0 := by omega
      rw [e2]
      show decide (m ∈ l) = true
      exact decide_eq_true hm
end PM
set_option Elab.async false
set_option linter.all false
set_option maxRecDepth 100000
set_option maxHeartbeats 4000000
/-! Numbers of places, as values (k25 B11, C3 without their law). -/
namespace K13
open PySem PySem.Spec PyProof.Rows L2 ZX PM ZR
def plV (ps : List Nat) : List V := ps.map fun (n : Nat) => V.int (n : Int)
theorem plV_app (ps qs : List Nat) : plV (ps ++ qs) = plV ps ++ plV qs := List.map_append
theorem itm_ints {K : PySem.W.Frag} {H : Hp} : ∀ ns : List Nat, All2 (Itm K H) (plV ns) (ns.map fun (n : Nat) => (some (n : Int) : Option Int))
  | [] => .nil
  | n :: ns => .cons (.int (n : Int)) (itm_ints ns)
theorem flat_strs (L : List Str) : (L.map V.str).all flatV = true := by
  induction L with
  | nil => rfl
  | cons x L ih => exact ih
theorem inV_strs (x : Str) (L : List Str) : inV (.str x) (L.map V.str) = decide (x ∈ L) := by
  induction L with
  | nil => rfl
  | cons y L ih =>
    show (y == x || inV (.str x) (L.map V.str)) = _
    rw [ih]
    by_cases e : y = x
    · subst e
      simp
    · have e2 : ¬ x = y := fun z => e z.symm
      simp [e, e2]
end K13
set_option Elab.async false
set_option linter.all false
set_option maxRecDepth 100000
set_option maxHeartbeats 4000000
/-! go_to, told. -/
namespace PM
open PySem PySem.Spec PyProof.Rows L2 ZX ZR
/-- a way done, place by place, from the place p on -/
inductive RunS {P : Program} {w : World} {K : PySem.W.Frag} {mg : Str → Option Value} {base : Heap} (fm : Fam P w K mg base) (b : List Rw) : NS → fm.L → Nat → List Nat → NS → fm.L → Prop
  | done {S : NS} {l : fm.L} {p : Nat} : RunS fm b S l p [] S l
  | step {S S1 S2 : NS} {l l1 l2 : fm.L} {p n : Nat} {ls : List Nat} {r : Rw} {rest : List Nat} (hl : (leadsP b)[p]? = some ls) (hn : n ∈ ls) (hr : (rowsB b)[p]? = some r) (hd : DoS fm S l r S1 l1) (h : RunS fm b { S1 with trail := S.trail ++ [markS S r] } l1 n rest S2 l2) : RunS fm b S l p (n :: rest) S2 l2
/-- a real way from the place p on -/
inductive WayP (b : List Rw) : Nat → List Nat → Prop
  | done {p : Nat} : WayP b p []
  | step {p n : Nat} {ls : List Nat} {r : Rw} {rest : List Nat} (hl : (leadsP b)[p]? = some ls) (hn : n ∈ ls) (hr : (rowsB b)[p]? = some r) (h : WayP b n rest) : WayP b p (n :: rest)
theorem first_at {n : Nat} : ∀ {ls : List Nat}, n ∈ ls → ∃ j : Nat, ls[j]? = some n ∧ ∀ m : Nat, m < j → ls[m]? ≠ some n
  | a :: ls, h => by
    by_cases e : a = n
    · subst e
      exact ⟨0, rfl, fun m hm => absurd hm (Nat.not_lt_zero m)⟩
    · obtain ⟨j, h1, h2⟩ := first_at ((List.mem_cons.mp h).resolve_left fun z => e z.symm)
      refine ⟨j + 1, h1, fun m hm => ?_⟩
      cases m with
      | zero => intro z; cases z; exact e rfl
      | succ m => exact h2 m (Nat.lt_of_succ_lt_succ hm)
  | [], h => nomatch h
theorem leadsP_at {b : List Rw} {p : Nat} {ls : List Nat} (h : (leadsP b)[p]? = some ls) (hp : p < (rowsB b).length) : ∀ n ∈ ls, n ≤ (rowsB b).length := fun n hn => by
  unfold leadsP at h
  rw [List.getElem?_append_left (by rw [leadsB_len]; exact hp)] at h
  have := leadsB_le _ _ _ _ (List.mem_of_getElem? h) n hn
  omega
theorem wayP_judge {b : List Rw} {p : Nat} {rest : List Nat} (h : WayP b p rest) : p ≤ (rowsB b).length → judge (leadsP b) ((p :: rest).map fun (n : Nat) => (some (n : Int) : Option Int)) = true := by
  intro hp
  have key : ((((p :: rest).map fun (n : Nat) => (some (n : Int) : Option Int)).map (inRg (leadsP b).length)).all id = true) ∧ ∀ k, k < rest.length → stepB (leadsP b) (p :: rest) k = true := by
    induction h with
    | @done p =>
      refine ⟨?_, fun k hk => absurd hk (Nat.not_lt_zero k)⟩
      show ((decide ((0 : Int) ≤ (p : Int)) && decide ((p : Int) < ((leadsP b).length : Int))) && true) = true
      rw [leadsP_len, decide_eq_true (by omega), decide_eq_true (by omega)]
      rfl
    | @step p n ls r rest hl hn hr h ih =>
      have hpr : p < (rowsB b).length := (List.getElem?_eq_some_iff.mp hr).1
      obtain ⟨i1, i2⟩ := ih (leadsP_at hl hpr n hn)
      refine ⟨?_, fun k hk => ?_⟩
      · show ((decide ((0 : Int) ≤ (p : Int)) && decide ((p : Int) < ((leadsP b).length : Int))) && (((n :: rest).map fun (n : Nat) => (some (n : Int) : Option Int)).map (inRg (leadsP b).length)).all id) = true
        rw [i1, leadsP_len, decide_eq_true (by omega), decide_eq_true (by omega)]
        rfl
      · cases k with
        | zero =>
          refine decide_eq_true ?_
          show n ∈ (leadsP b).getD p []
          rw [List.getD_eq_getElem?_getD, hl]
          exact hn
        | succ k => exact i2 k (Nat.lt_of_succ_lt_succ hk)
  unfold judge
  rw [key.1]
  have e : ((p :: rest).map fun (n : Nat) => (some (n : Int) : Option Int)).map natOf = p :: rest := by
    rw [List.map_map]
    exact List.map_id _
  rw [e, List.length_map]
  show (true && (true && _)) = true
  rw [Bool.true_and, Bool.true_and, List.all_eq_true]
  intro x hx
  obtain ⟨k, hk, rfl⟩ := List.mem_map.mp hx
  exact key.2 k (by have := List.mem_range.mp hk; exact this)
section
variable {P : Program} {w : World} {K : PySem.W.Frag} {mg : Str → Option Value} {base : Heap} {fm : Fam P w K mg base} {S S' : NS} {l l' : fm.L} {r : Rw}
theorem DoS.sizes (h : DoS fm S l r S' l') : S'.made.length ≤ S.made.length + 1 ∧ S'.printed.length ≤ S.printed.length + 1 := by
  cases h <;> refine ⟨?_, ?_⟩ <;> first | exact Nat.le_refl _ | exact Nat.le_succ _ | (show (_ ++ [_]).length ≤ _; rw [List.length_append]; exact Nat.le_refl _)
end
end PM
namespace K13
open PySem PySem.Spec PyProof.Rows L2 ZX PM ZR
abbrev sGoTo : Stmt := top 50
abbrev sTold : Stmt := top 49
section
variable {P : Program} {w : World} {K : PySem.W.Frag} {mg : Str → Option Value} {base : Heap} {CP CN CR : Addr}
def spGoTo (P : Program) (w : World) (K : PySem.W.Frag) (mg : Str → Option Value) (base : Heap) (CP CN CR : Addr) : Sp := fun vs H Q _ => ∃ (fm : Fam P w K mg base) (F : List (Str × Addr)) (ns : List Str) (x : Addr) (A : Ad) (S : NS) (l : fm.L) (px : Addr) (b : List Rw) (wa : Addr) (way : List Nat) (p n : Nat) (ls : List Nat) (r : Rw), vs = [.ref x, .int (n : Nat)] ∧
  RnAt fm CP CN CR F ns H x A S l px b wa (way ++ [p]) ∧ (leadsP b)[p]? = some ls ∧ n ∈ ls ∧ (rowsB b)[p]? = some r ∧ S.made.length < 50000 ∧ S.printed.length < 50000 ∧ S.trail.length < 50000 ∧ way.length < 50000 ∧
  ∀ S' l' H', Fz (wa :: (A.own ++ fm.out)) H H' → RnAt fm CP CN CR F ns H' x A { S' with trail := S.trail ++ [markS S r] } l' px b wa (way ++ [p] ++ [n]) → DoS fm S l r S' l' → Q .non H'
theorem scGoTo : FnScope ["run", "place"] ["run", "place"] (defScope sGoTo) := ⟨rfl, rfl, rfl, by decide +kernel, rfl, by decide +kernel, by decide +kernel⟩
theorem ok_go_to {CE f : Addr} {fd : FuncData} (FD : FnP K "go_to" sGoTo f fd) (c : RnC K CR) (C_nexts : CalX P w K mg base "nexts" 3 ["program", "place"] (spNexts K CP CE)) (M_step : MCal P w K mg base CR "step" 27 ["self", "which"] (spRStep P w K mg base CP CN CR)) (M_place : MCal P w K mg base CR "place" 1 ["self"] (spRPlace P w K mg base CP CN CR)) : FnOk P w K mg base CX0 28 f fd ["run", "place"] (spGoTo P w K mg base CP CN CR) := by
  refine FD.ok scGoTo (fun vs H Q E h => ?_) (fun cdv A0 outer s H vs Q E hr h => ?_)
  · obtain ⟨fm, F, ns, x, A, S, l, px, b, wa, way, p, n, ls, r, rfl, _⟩ := h
    rfl
  · obtain ⟨fm, F, ns, x, A, S, l, px, b, wa, way, p, n, ls, r, rfl, R, hls, hn, hrow, hzm, hzp, hzt, hzw, k⟩ := h
    have hr3 := hr.mono (show 3 ≤ 27 by decide)
    have hr1 := hr.mono (show 1 ≤ 27 by decide)
    obtain ⟨dx, hx⟩ := R.rx
    obtain ⟨j, hj, hf⟩ := first_at hn
    refine ⟨_, PSs.nox (pss_one (ps_expr (pmc M_step hr (pv 0) (pa_cons (pe_tidx (pe_inj (pcalN C_nexts hr3 rfl (pa_cons (pe_fld (pv 0) rfl) (pa_cons (pmc0 M_place hr1 (pv 0)) pa_nil)))) (pa_cons (pv 1) pa_nil)) pa_nil)))), ?_⟩
    refine ⟨_, rfl, x, dx, _, rfl, hx, rfl, _, rfl, x, CR, dx, _, _, rfl, hx, c.c, c.n_program, rfl, _, rfl, x, dx, _, rfl, hx, rfl, fm, F, ns, x, A, S, l, px, b, wa, way, p, rfl, R, px, _, b, rfl, R.pr, .inl ⟨p, ls, rfl, hls, fun y ty ny inj => ?_⟩⟩
    obtain ⟨a, xs, rfl, hS, ht⟩ := ty.tupI
    obtain rfl := ints_of ht
    have e : natV ls = (ls.map fun (n : Nat) => (n : Int)).map V.int := by
      unfold natV
      rw [List.map_map]
      rfl
    rw [e] at hS
    refine ⟨ny.df R.pd inj, _, rfl, a, _, n, j, rfl, rfl, hS, by rw [List.getElem?_map, hj]; rfl, fun m hm z => ?_, ?_⟩
    · rw [List.getElem?_map] at z
      cases e2 : ls[m]? with
      | none => rw [e2] at z; cases z
      | some v =>
        rw [e2] at z
        have : v = n := by
          have q : (v : Int) = (n : Int) := Option.some.inj z
          omega
        exact hf m hm (by rw [e2, this])
    · exact ⟨fm, F, ns, x, A, S, l, px, b, wa, way, p, j, n, ls, r, rfl, R, hls, hj, hrow, hzm, hzp, hzt, hzw, k⟩
/-- the class of runs, as it is made -/
structure RnM (P : Program) (w : World) (K : PySem.W.Frag) (mg : Str → Option Value) (base : Heap) (CP CN CR : Addr) : Prop where
  ex : ∃ (f : Addr) (fd : FuncData), Mk K CR f ∧ FnOk P w K mg base CX0 4 f fd ["self", "program", "functions"] (spRInit P w K mg base CP CN CR) ∧ Binds K fd ["self", "program", "functions"] [] ∧ mg "Run" = some (.ref CR)
def spTold (P : Program) (w : World) (K : PySem.W.Frag) (mg : Str → Option Value) (base : Heap) (CP CN CR : Addr) : Sp := fun vs H Q _ => ∃ (fm : Fam P w K mg base) (ns : List Str) (px wt fa : Addr) (l : fm.L) (b : List Rw) (kvs : List (Key × V)) (g : Str → Addr) (rest : List Nat), vs = [.ref px, .ref wt, .ref fa] ∧
  PrAt K CP H px b ∧ PrD CP H px ∧ SqT K H wt (plV (0 :: rest)) ∧ WayP b 0 rest ∧ rest.length ≤ 10000 ∧ H fa = some (.dK kvs) ∧ (∀ o ∈ opsB b, valV kvs (.inr o) = some (.ref (g o)) ∧ fm.Fn o (g o) H) ∧ fm.At l H ∧ Mks fm.out H ∧ fm.out.Nodup ∧ (∀ x ∈ (rowsB b).flatMap namesR, x ∈ ns) ∧ ns.length < 64 ∧ fm.lev ≤ 20 ∧ fm.sz l = 0 ∧
  ∀ x A F S' l' wa H', Fz fm.out H H' → RnAt fm CP CN CR F ns H' x A S' l' px b wa (0 :: rest) → RunS fm b NS0 l 0 rest S' l' → (∀ c ∈ wa :: A.own, H c = none) → Q (.ref x) H'
theorem scTold : FnScope ["program", "way", "functions", "run", "place"] ["program", "way", "functions"] (defScope sTold) := ⟨rfl, rfl, rfl, by decide +kernel, rfl, by decide +kernel, by decide +kernel⟩
theorem ok_told {f : Addr} {fd : FuncData} (FD : FnP K "told" sTold f fd) (C_is_way : Cal P w K mg base "is_way" 3 ["program", "thing"] (spIsWay K CP)) (M : RnM P w K mg base CP CN CR) (C_go_to : Cal P w K mg base "go_to" 28 ["run", "place"] (spGoTo P w K mg base CP CN CR)) : FnOk P w K mg base CX0 29 f fd ["program", "way", "functions"] (spTold P w K mg base CP CN CR) := by
  refine FD.ok scTold (fun vs H Q E h => ?_) (fun cdv A0 outer s H vs Q E hr h => ?_)
  · obtain ⟨fm, ns, px, wt, fa, l, b, kvs, g, rest, rfl, _⟩ := h
    rfl
  · obtain ⟨fm, ns, px, wt, fa, l, b, kvs, g, rest, rfl, hP, hPD, hw, hway, hrl, hfa, hg, hat, hmo, hon, hns, h63, hlev, hsz, k⟩ := h
    obtain ⟨fR, fdR, mk, G, bR, gR⟩ := M.ex
    have hr3 := hr.mono (show 3 ≤ 28 by decide)
    have hr5 := hr.mono (show 5 ≤ 28 by decide)
    refine ⟨_, PSs.nox (pss_cons (ps_if (PW.pt (pw_or (pt_not (pt_val (pcal C_is_way hr3 rfl (pa_cons (pv 0) (pa_cons (pv 1) pa_nil))))) (pw_or1 (pt_cmpR op_ne (pe_ix ix_tup (pv 1) pe_int (fun _ _ => rfl)) pe_int (nomark _))))) (pss_one ps_never) pss_nil)
    (pss_cons (ps_set (i := 3) scTold.nd rfl (Or.inl rfl) (pe_make mk G hr5 rfl gR bR .nil pass0 (pa_cons (pv 0) (pa_cons (pv 2) pa_nil))))
    (pss_cons (ps_for PassesOwn.never rfl (pi_tup (pe_slice sl_tupZ (pv 1) (po_some pe_int) po_none)) (pg_name (i := 4) scTold.nd rfl (Or.inl rfl)) (pss_one (ps_expr (pcal C_go_to hr rfl (pa_cons (pv 3) (pa_cons (pv 4) pa_nil))))))
    (pss_one (ps_ret (pv 3)))))), ?_⟩
    have hwl : (plV (0 :: rest)).length ≤ 100000 := by
      unfold plV
      rw [List.length_map]
      show rest.length + 1 ≤ 100000
      omega
    refine ⟨_, rfl, _, rfl, px, _, b, rfl, hP, .inr ⟨wt, _, _, rfl, hw, itm_ints _, hwl, fun H1 s1 => ?_⟩⟩
    rw [wayP_judge hway (Nat.zero_le _)]
    have hw1 := s1.pt.sq hw
    have e0 : (V.bl !decide (V.int ((0 : Nat) : Int) = V.int 0)) = V.bl false := by
      rw [decide_eq_true (show V.int ((0 : Nat) : Int) = V.int 0 from rfl)]
      rfl
    refine ⟨_, rfl, _, rfl, wt, _, 0, .int ((0 : Nat) : Int), rfl, rfl, hw1, (at0 : atI (V.int ((0 : Nat) : Int) :: plV rest) 0 = _), rfl, false, e0, ?_⟩
    refine ⟨_, rfl, _, rfl, fun x dx nx ndx hne => ?_⟩
    have s2 : Same H1 (upd (upd H1 dx (.own x)) x (.ins CR dx [])) := same_putN (same_new ndx) nx
    have z1 := s1.fz (M := []) mks_nil
    refine ⟨fm, ns, x, dx, px, fa, l, b, H1, kvs, g, rfl, upd_same, nx, s2, hP.same s1, hPD.same s1, s1 _ _ hfa, fun o ho => ⟨(hg o ho).1, fm.fnK (hg o ho).2 mks_nil z1⟩, fm.atK hat mks_nil z1 (fun _ _ m => nomatch m), hmo.same s1, hon, hns, h63, hlev, hsz, fun A F wa H2 s12 R hfr => ⟨rfl, ?_⟩⟩
    have hw2 := s12.pt.sq hw1
    have s02 := s1.trans s12
    have mR := R.mksR
    refine ⟨_, rfl, _, rfl, wt, _, rfl, hw2, fun wc H3 s3 hwc => ?_⟩
    rw [show plV (0 :: rest) = V.int ((0 : Nat) : Int) :: plV rest from rfl, cut1] at hwc
    refine ⟨wc, rfl, ⟨_, hwc⟩, ?_⟩
    have z3 : Fz (wa :: (A.own ++ fm.out)) H2 H3 := s3.fz mR
    have R3 : RnAt fm CP CN CR F ns H3 x A NS0 l px b wa ([] ++ [0]) := ⟨by obtain ⟨d, hd⟩ := R.rx; exact ⟨d, s3 _ _ hd⟩, R.pr.same s3, R.pd.same s3, R.nt.same s3, s3 _ _ R.wy, R.nw, R.hF, R.hns, R.n63, R.lev, R.szl⟩
    refine for_tup (xs := plV rest) (fun i σ' H' => ∃ (S' : NS) (l' : fm.L) (way' : List Nat) (p : Nat) (y : Option V), σ' = [some (.ref px), some (.ref wt), some (.ref fa), some (.ref x), y] ∧ Fz (wa :: (A.own ++ fm.out)) H2 H' ∧ SqT K H' wc (plV rest) ∧ RnAt fm CP CN CR F ns H' x A S' l' px b wa (way' ++ [p]) ∧ way' ++ [p] ++ rest.drop i = 0 :: rest ∧ WayP b p (rest.drop i) ∧
      way'.length = i ∧ S'.made.length ≤ i ∧ S'.printed.length ≤ i ∧ S'.trail.length ≤ i ∧ ∀ S2 l2, RunS fm b S' l' p (rest.drop i) S2 l2 → RunS fm b NS0 l 0 rest S2 l2) ⟨NS0, l, [], 0, _, rfl, z3, hwc, R3, rfl, hway, rfl, Nat.le_refl _, Nat.le_refl _, Nat.le_refl _, fun _ _ h => h⟩ ?_ ?_ ?_
    · rintro i σ' H' _ ⟨_, _, _, _, _, _, _, h, _⟩
      exact h
    · rintro i z σ' H' hz ⟨S', l', way', p, y, rfl, zz, hwc', R', hspl, hwp, hwl', hm, hpn, htr, kR⟩
      obtain ⟨n, hn, rfl⟩ : ∃ n, rest[i]? = some n ∧ z = V.int (n : Nat) := by
        unfold plV at hz
        rw [List.getElem?_map] at hz
        cases e : rest[i]? with
        | none => rw [e] at hz; cases hz
        | some p => rw [e] at hz; exact ⟨p, rfl, (Option.some.inj hz).symm⟩
      have hil : i < rest.length := (List.getElem?_eq_some_iff.mp hn).1
      have hdr : rest.drop i = n :: rest.drop (i + 1) := by
        rw [List.drop_eq_getElem_cons hil]
        have := (List.getElem?_eq_some_iff.mp hn).2
        rw [this]
      rw [hdr] at hspl hwp kR
      cases hwp with
      | @step _ _ ls r _ hl hnl hr0 hrest =>
        refine ⟨_, rfl, _, rfl, fm, F, ns, x, A, S', l', px, b, wa, way', p, n, ls, r, rfl, R', hl, hnl, hr0, by omega, by omega, by omega, by omega, fun S1 l1 H4 z4 R4 hD => ?_⟩
        obtain ⟨g1, g2⟩ := hD.sizes
        refine ⟨_, l1, way' ++ [p], n, _, rfl, zz.trans z4, (z4.pt R'.mksR).sq hwc', R4, ?_, hrest, ?_, ?_, ?_, ?_, fun S2 l2 h => kR S2 l2 (.step hl hnl hr0 hD h)⟩
        · rw [List.append_assoc]
          exact hspl
        · rw [List.length_append, hwl']
          rfl
        · exact Nat.le_trans g1 (Nat.succ_le_succ hm)
        · exact Nat.le_trans g2 (Nat.succ_le_succ hpn)
        · show (S'.trail ++ [markS S' r]).length ≤ i + 1
          rw [List.length_append]
          exact Nat.succ_le_succ htr
    · rintro σ' H' ⟨S', l', way', p, y, rfl, zz, hwc', R', hspl, hwp, hwl', hm, hpn, htr, kR⟩
      have e : (plV rest).length = rest.length := List.length_map ..
      rw [e, List.drop_length] at hspl kR
      rw [List.append_nil] at hspl
      rw [hspl] at R'
      refine ⟨_, rfl, k x A F S' l' wa H' ⟨fun b' u nb hb => ?_, R'.nt.mo⟩ R' (kR S' l' .done) fun c hc => s1.free (hfr c hc)⟩
      refine zz.keep _ _ (fun hm => ?_) (s02 _ _ hb)
      rcases List.mem_cons.mp hm with e1 | hm
      · have := hfr b' (by rw [e1]; exact List.mem_cons_self)
        rw [s1 _ _ hb] at this
        cases this
      · rcases List.mem_append.mp hm with hm | hm
        · have := hfr b' (List.mem_cons_of_mem _ hm)
          rw [s1 _ _ hb] at this
          cases this
        · exact nb hm
end
end K13
set_option Elab.async false
set_option linter.all false
set_option maxRecDepth 100000
set_option maxHeartbeats 4000000
/-! The law's pot of draws: _law_draw, _law_any. -/
namespace K13
open PySem PySem.Spec PyProof.Rows L2 ZX PM ZR
abbrev sPot : Stmt := top 52
abbrev sDraw : Stmt := top 53
abbrev sAny : Stmt := top 54
/-- the pot at p: its great numbers at g, its small ones at s -/
structure PotIs (H : Hp) (p g s : Addr) (gs ss : List Int) (t k : Int) : Prop where
  hp : H p = some (.lst [.ref g, .ref s, .int t, .int k])
  hg : H g = some (.lst (gs.map V.int))
  hs : H s = some (.lst (ss.map V.int))
  ngp : g ≠ p
  nsp : s ≠ p
  nsg : s ≠ g
  nn : ∀ x ∈ gs, 0 ≤ x
  ne : ss ≠ []
  few : ss.length < 1000
  t0 : 0 ≤ t
def PotAt (H : Hp) (p g s : Addr) : Prop := ∃ gs ss t k, PotIs H p g s gs ss t k
theorem PotIs.mks {H : Hp} {p g s : Addr} {gs ss : List Int} {t k : Int} (h : PotIs H p g s gs ss t k) : Mks [p, g] H := fun b hb => by
  simp only [List.mem_cons, List.not_mem_nil, or_false] at hb
  rcases hb with rfl | rfl
  · exact .inl ⟨_, h.hp⟩
  · exact .inl ⟨_, h.hg⟩
theorem PotIs.turn {H : Hp} {p g s : Addr} {gs ss : List Int} {t k t' : Int} (h : PotIs H p g s gs ss t k) (h0 : 0 ≤ t') : PotIs (upd H p (.lst [.ref g, .ref s, .int t', .int k])) p g s gs ss t' k :=
  ⟨upd_same, by rw [upd_ne h.ngp]; exact h.hg, by rw [upd_ne h.nsp]; exact h.hs, h.ngp, h.nsp, h.nsg, h.nn, h.ne, h.few, h0⟩
theorem PotIs.great {H : Hp} {p g s : Addr} {gs gs' ss : List Int} {t k : Int} (h : PotIs H p g s gs ss t k) (h0 : ∀ x ∈ gs', 0 ≤ x) : PotIs (upd H g (.lst (gs'.map V.int))) p g s gs' ss t k :=
  ⟨by rw [upd_ne h.ngp.symm]; exact h.hp, upd_same, by rw [upd_ne h.nsg]; exact h.hs, h.ngp, h.nsp, h.nsg, h0, h.ne, h.few, h.t0⟩
theorem PotAt.same {H H' : Hp} {p g s : Addr} (h : PotAt H p g s) (k : Same H H') : PotAt H' p g s := by
  obtain ⟨gs, ss, t, kk, h⟩ := h
  exact ⟨gs, ss, t, kk, k _ _ h.hp, k _ _ h.hg, k _ _ h.hs, h.ngp, h.nsp, h.nsg, h.nn, h.ne, h.few, h.t0⟩
theorem PotAt.mks {H : Hp} {p g s : Addr} (h : PotAt H p g s) : Mks [p, g] H := by
  obtain ⟨gs, ss, t, kk, h⟩ := h
  exact h.mks
/-- what stands when others than the pot's are changed -/
theorem PotAt.fz {M : List Addr} {H H' : Hp} {p g s : Addr} (h : PotAt H p g s) (f : Fz M H H') (np : p ∉ M) (ng : g ∉ M) (ns : s ∉ M) : PotAt H' p g s := by
  obtain ⟨gs, ss, t, kk, h⟩ := h
  exact ⟨gs, ss, t, kk, f.keep _ _ np h.hp, f.keep _ _ ng h.hg, f.keep _ _ ns h.hs, h.ngp, h.nsp, h.nsg, h.nn, h.ne, h.few, h.t0⟩
theorem ix0 {n : Nat} (h : 0 < n) : ixN n 0 = some 0 := by
  unfold ixN
  rw [if_pos (by decide), if_pos (by omega)]
  rfl
def spDraw : Sp := fun vs H Q _ => ∃ (p g s : Addr) (m : Int), vs = [.ref p, .int m] ∧ PotAt H p g s ∧ 0 < m ∧ m < 1073741824 ∧ ∀ (d : Int) (H' : Hp), 0 ≤ d → d < m → PotAt H' p g s → Fz [p, g] H H' → Q (.int d) H'
section
variable {P : Program} {w : World} {K : PySem.W.Frag} {mg : Str → Option Value} {base : Heap}
theorem scDraw : FnScope ["_law_pot_here", "_law_many", "_law_turn", "_law_number", "_law_seed"] ["_law_pot_here", "_law_many"] (defScope sDraw) := ⟨rfl, rfl, rfl, by decide +kernel, rfl, by decide +kernel, by decide +kernel⟩
/-- between its last statements -/
def DrawNum (p g s : Addr) (m t : Int) (H0 : Hp) (σ : L2.St) (H : Hp) : Prop := ∃ (y : Option V) (n : Int), σ = [some (.ref p), some (.int m), some (.int t), some (.int n), y] ∧ PotAt H p g s ∧ Fz [p, g] H0 H ∧ 0 ≤ t ∧ 0 ≤ n ∧ n < 4294967296
theorem ok_draw {f : Addr} {fd : FuncData} (F : FnP K "_law_draw" sDraw f fd) (T : Bi mg) : FnOk P w K mg base CX0 1 f fd ["_law_pot_here", "_law_many"] spDraw := by
  refine F.ok scDraw (fun vs H Q E h => ?_) (fun cdv A outer s H vs Q E hr h => ?_)
  · obtain ⟨p, g, s, m, rfl, _⟩ := h
    rfl
  · obtain ⟨p, g, s, m, rfl, ⟨gs, ss, t, kk, hh⟩, m0, m1, k⟩ := h
    refine ⟨_, PSs.nox (pss_cons (ps_set (i := 2) scDraw.nd rfl (Or.inl rfl) (pe_ix ix_list (pv 0) pe_int (fun _ _ => rfl)))
    (pss_cons (ps_asg (pe_op op_add (pv 2) pe_int) (pg_sub (pv 0) pe_int set_list))
    (pss_cons (ps_if (pt_cmpR op_gt (pe_callB call_len_seq (by rfl) T.b_len (by decide +kernel) (pa_cons (pe_ix ix_list (pv 0) pe_int (fun _ _ => rfl)) pa_nil)) pe_int (nomark _)) (pss_cons (ps_set (i := 3) scDraw.nd rfl (Or.inl rfl) (pe_ix ix_list (pe_ix ix_list (pv 0) pe_int (fun _ _ => rfl)) pe_int (fun _ _ => rfl)))
      (pss_cons (ps_asg (pe_op op_fdivP (pv 3) (pv 1)) (pg_sub (pe_ix ix_list (pv 0) pe_int (fun _ _ => rfl)) pe_int set_list))
      (pss_cons (ps_if (pt_cmpR op_lt (pv 3) (pv 1) (nomark _)) (pss_one (ps_expr (pe_bm PySem.F.plainAttrs_list PySem.F.slot_list_pop PySem.F.type_list_pop mt_popAt (pe_ix ix_list (pv 0) pe_int (fun _ _ => rfl)) (pa_cons pe_int pa_nil)))) pss_nil)
      (pss_one (ps_ret (pe_op op_modP (pe_callTy call_int1 (by rfl) T.b_int (by decide +kernel) (pa_cons (pv 3) pa_nil)) (pv 1))))))) pss_nil)
    (pss_cons (ps_set (i := 4) scDraw.nd rfl (Or.inl rfl) (pe_op op_add (pe_op op_add (pe_op op_mul (pe_ix ix_list (pe_ix ix_list (pv 0) pe_int (fun _ _ => rfl)) (pe_op op_modP (pe_callTy call_int1 (by rfl) T.b_int (by decide +kernel) (pa_cons (pv 2) pa_nil)) (pe_callB call_len_seq (by rfl) T.b_len (by decide +kernel) (pa_cons (pe_ix ix_list (pv 0) pe_int (fun _ _ => rfl)) pa_nil))) (fun _ _ => rfl)) pe_int) (pe_op op_mul pe_int (pv 2))) (pe_op op_mul (pe_ix ix_list (pv 0) pe_int (fun _ _ => rfl)) pe_int)))
    (pss_cut (ps_set (i := 3) scDraw.nd rfl (Or.inl rfl) (pe_op op_mod (pe_callTy call_int1 (by rfl) T.b_int (by decide +kernel) (pa_cons (pe_op op_add (pe_op op_mul (pv 4) pe_int) pe_int) pa_nil)) pe_int))
    (pss_cut (ps_set (i := 3) scDraw.nd rfl (Or.inl rfl) (pe_op op_mod (pe_callTy call_int1 (by rfl) T.b_int (by decide +kernel) (pa_cons (pe_op op_mul (pv 3) (pe_op op_add (pe_op op_fdiv (pv 3) pe_int) pe_int)) pa_nil)) pe_int))
    (pss_cut (ps_set (i := 3) scDraw.nd rfl (Or.inl rfl) (pe_op op_mod (pe_callTy call_int1 (by rfl) T.b_int (by decide +kernel) (pa_cons (pe_op op_add (pe_op op_mul (pv 3) (pe_op op_add (pe_op op_fdiv (pv 3) pe_int) pe_int)) (pv 2)) pa_nil)) pe_int))
    (pss_one (ps_ret (pe_op op_modP (pe_callTy call_int1 (by rfl) T.b_int (by decide +kernel) (pa_cons (pe_op op_fdiv (pv 3) pe_int) pa_nil)) (pv 1))))))))))), ?_⟩
    refine ⟨_, rfl, p, _, _, _, rfl, rfl, SqL.of hh.hp, rfl, ?_⟩
    -- pot[2] = turn + 1
    refine ⟨_, rfl, _, _, rfl, rfl, _, rfl, p, _, _, 2, rfl, rfl, hh.hp, rfl, ?_⟩
    have h1 := hh.turn (t' := t + 1) (by have := hh.t0; omega)
    have f1 : Fz [p, g] H (upd H p (.lst [.ref g, .ref s, .int (t + 1), .int kk])) := Fz.put hh.mks (by simp) (.inl ⟨_, rfl⟩)
    show _
    refine ⟨_, rfl, p, _, _, _, rfl, rfl, SqL.of h1.hp, rfl, g, _, rfl, .inl (SqL.of h1.hg), _, _, rfl, rfl, _, rfl, ?_⟩
    refine ite2 (fun e => ?_) (fun _ => ?_)
    · cases gs with
      | nil => exact absurd (of_decide_eq_true e) (by decide)
      | cons x gs =>
        have hx := hh.nn x List.mem_cons_self
        refine ⟨_, rfl, p, _, _, _, rfl, rfl, SqL.of h1.hp, rfl, g, _, _, _, rfl, rfl, SqL.of h1.hg, at_of (j := 0) rfl rfl, ?_⟩
        refine ⟨_, rfl, _, rfl, _, _, rfl, rfl, ⟨m0, m1⟩, _, rfl, p, _, _, _, rfl, rfl, SqL.of h1.hp, rfl, g, _, _, 0, rfl, rfl, h1.hg, ix0 (by rw [List.length_map]; exact Nat.succ_pos _), ?_⟩
        have h2 := h1.great (gs' := x / m :: gs) (fun y hy => (List.mem_cons.mp hy).elim (fun e => by rw [e]; exact Int.ediv_nonneg hx (by omega)) fun h => hh.nn y (List.mem_cons_of_mem _ h))
        have f2 := f1.trans (Fz.put f1.mks (a := g) (o := .lst ((x / m :: gs).map V.int)) (by simp) (.inl ⟨_, rfl⟩))
        refine ⟨_, rfl, _, rfl, _, _, rfl, rfl, _, rfl, ?_⟩
        refine ite2 (fun _ => ?_) (fun _ => ?_)
        · have h3 := h2.great (gs' := gs) (fun y hy => hh.nn y (List.mem_cons_of_mem _ hy))
          have f3 := f2.trans (Fz.put f2.mks (a := g) (o := .lst (gs.map V.int)) (by simp) (.inl ⟨_, rfl⟩))
          refine ⟨_, rfl, p, _, _, _, rfl, rfl, SqL.of h2.hp, rfl, .inl ⟨rfl, _, SqL.of h2.hg⟩, g, _, 0, 0, _, rfl, rfl, h2.hg, by decide, by decide, (ixN_seq (ix0 (by rw [List.length_map]; exact Nat.succ_pos _))).1, rfl, ?_⟩
          exact ⟨_, rfl, .inl ⟨_, rfl, _, rfl, _, _, rfl, rfl, m0, k _ _ (Int.emod_nonneg _ (by omega)) (Int.emod_lt_of_pos _ m0) ⟨_, _, _, _, h3⟩ f3⟩⟩
        · exact ⟨_, rfl, .inl ⟨_, rfl, _, rfl, _, _, rfl, rfl, m0, k _ _ (Int.emod_nonneg _ (by omega)) (Int.emod_lt_of_pos _ m0) ⟨_, _, _, _, h2⟩ f2⟩⟩
    · have hpos : 0 < ss.length := List.length_pos_iff.mpr hh.ne
      have hl : (ss.map V.int).length = ss.length := List.length_map _
      have i0 : 0 ≤ t % (((ss.map V.int).length : Nat) : Int) := Int.emod_nonneg _ (by omega)
      have i1 : t % (((ss.map V.int).length : Nat) : Int) < ((ss.map V.int).length : Nat) := Int.emod_lt_of_pos _ (by omega)
      obtain ⟨z, hz⟩ : ∃ z, atI (ss.map V.int) (t % (((ss.map V.int).length : Nat) : Int)) = some (V.int z) := by
        have hj : (t % (((ss.map V.int).length : Nat) : Int)).toNat < ss.length := by omega
        exact ⟨ss[(t % (((ss.map V.int).length : Nat) : Int)).toNat], at_of (j := (t % (((ss.map V.int).length : Nat) : Int)).toNat) (by omega) (by rw [List.getElem?_map, List.getElem?_eq_getElem hj]; rfl)⟩
      refine ⟨_, rfl, p, _, _, _, rfl, rfl, SqL.of h1.hp, rfl, _, rfl, .inl ⟨_, rfl, _, rfl, p, _, _, _, rfl, rfl, SqL.of h1.hp, rfl, s, _, rfl, .inl (SqL.of h1.hs), _, _, rfl, rfl, (by omega), s, _, _, _, rfl, rfl, SqL.of h1.hs, hz, _, _, rfl, rfl, .inr ⟨by decide, by decide⟩, _, rfl, _, _, rfl, rfl, .inl ⟨by decide, by decide⟩, _, _, rfl, rfl, _, rfl, p, _, _, _, rfl, rfl, SqL.of h1.hp, rfl, _, _, rfl, rfl, .inr ⟨by decide, by decide⟩, _, _, rfl, rfl, ?_⟩⟩
      refine ⟨DrawNum p g s m t H, ?_, ?_⟩
      · refine ⟨_, rfl, _, _, rfl, rfl, .inr ⟨by decide, by decide⟩, _, _, rfl, rfl, .inl ⟨_, rfl, _, _, rfl, rfl, (by show (0 : Int) < 2147483647; decide), ?_⟩⟩
        exact ⟨_, _, rfl, ⟨_, _, _, _, h1⟩, f1, hh.t0, Int.emod_nonneg _ (by decide), Int.lt_trans (Int.emod_lt_of_pos _ (by decide)) (by decide)⟩
      · rintro σ' H' ⟨y, n, rfl, hh', f', t0, n0, n1⟩
        refine ⟨DrawNum p g s m t H, ?_, ?_⟩
        · refine ⟨_, rfl, _, rfl, _, _, rfl, rfl, ⟨by decide, by decide⟩, _, _, rfl, rfl, _, _, rfl, rfl, .inl ⟨by omega, by omega⟩, .inl ⟨_, rfl, _, _, rfl, rfl, (by show (0 : Int) < 2147483629; decide), ?_⟩⟩
          exact ⟨_, _, rfl, hh', f', t0, Int.emod_nonneg _ (by decide), Int.lt_trans (Int.emod_lt_of_pos _ (by decide)) (by decide)⟩
        · rintro σ' H' ⟨y, n, rfl, hh', f', t0, n0, n1⟩
          refine ⟨DrawNum p g s m t H, ?_, ?_⟩
          · refine ⟨_, rfl, _, rfl, _, _, rfl, rfl, ⟨by decide, by decide⟩, _, _, rfl, rfl, _, _, rfl, rfl, .inl ⟨by omega, by omega⟩, _, rfl, _, _, rfl, rfl, .inl ⟨_, rfl, _, _, rfl, rfl, (by show (0 : Int) < 2147483399; decide), ?_⟩⟩
            exact ⟨_, _, rfl, hh', f', t0, Int.emod_nonneg _ (by decide), Int.lt_trans (Int.emod_lt_of_pos _ (by decide)) (by decide)⟩
          · rintro σ' H' ⟨y, n, rfl, hh', f', t0, n0, n1⟩
            refine ⟨_, rfl, _, _, rfl, rfl, ⟨by decide, by decide⟩, .inl ⟨_, rfl, _, rfl, _, _, rfl, rfl, m0, ?_⟩⟩
            exact k _ _ (Int.emod_nonneg _ (by omega)) (Int.emod_lt_of_pos _ m0) hh' f'
end
end K13
set_option Elab.async false
set_option linter.all false
set_option maxRecDepth 100000
set_option maxHeartbeats 4000000
/-! The law's _law_any, _law_pot. -/
namespace K13
open PySem PySem.Spec PyProof.Rows L2 ZX PM ZR
def spAny : Sp := fun vs H Q _ => ∃ (p g s t : Addr) (xs : List V), vs = [.ref p, .ref t] ∧ PotAt H p g s ∧ H t = some (.lst xs) ∧ t ≠ p ∧ t ≠ g ∧ xs ≠ [] ∧ xs.length < 1073741824 ∧ ∀ (x : V) (H' : Hp), x ∈ xs → PotAt H' p g s → Fz [p, g] H H' → Q x H'
def spPot (K : PySem.W.Frag) : Sp := fun vs H Q _ => ∃ (a : Addr) (ns : List Int), vs = [.ref a] ∧ SqL K H a (ns.map V.int) ∧ ns.length ≤ 63 ∧ ∀ (p g s : Addr) (H' : Hp), PotAt H' p g s → Same H H' → H p = none → H g = none → H s = none → Q (.ref p) H'
section
variable {P : Program} {w : World} {K : PySem.W.Frag} {mg : Str → Option Value} {base : Heap}
theorem scAny : FnScope ["_law_pot_here", "_law_items"] ["_law_pot_here", "_law_items"] (defScope sAny) := ⟨rfl, rfl, rfl, by decide +kernel, rfl, by decide +kernel, by decide +kernel⟩
theorem ok_any {f : Addr} {fd : FuncData} (F : FnP K "_law_any" sAny f fd) (T : Bi mg) (C_draw : Cal P w K mg base "_law_draw" 1 ["_law_pot_here", "_law_many"] spDraw) : FnOk P w K mg base CX0 2 f fd ["_law_pot_here", "_law_items"] spAny := by
  refine F.ok scAny (fun vs H Q E h => ?_) (fun cdv A outer s H vs Q E hr h => ?_)
  · obtain ⟨p, g, s, t, xs, rfl, _⟩ := h
    rfl
  · obtain ⟨p, g, s, t, xs, rfl, hh, ht, n1, n2, hx, hl, k⟩ := h
    refine ⟨_, PSs.nox (pss_one (ps_ret (pe_ix ix_list (pv 1) (pcal C_draw hr rfl (pa_cons (pv 0) (pa_cons (pe_callB call_len_seq (by rfl) T.b_len (by decide +kernel) (pa_cons (pv 1) pa_nil)) pa_nil))) (fun _ _ => rfl)))), ?_⟩
    have hpos : 0 < xs.length := List.length_pos_iff.mpr hx
    refine ⟨_, rfl, _, rfl, _, rfl, t, xs, rfl, .inl (SqL.of ht), p, g, s, _, rfl, hh, by omega, by omega, fun d H' d0 d1 hh' fz => ?_⟩
    have hd : d.toNat < xs.length := by omega
    have hat : atI xs d = some xs[d.toNat] := at_of (j := d.toNat) (by omega) (List.getElem?_eq_getElem hd)
    have ht' := fz.keep t _ (by simp [n1, n2]) ht
    exact ⟨t, xs, d, _, rfl, rfl, SqL.of ht', hat, k xs[d.toNat] H' (List.getElem_mem hd) hh' fz⟩
theorem scPot : FnScope ["_law_script", "_law_cells", "_law_greats", "_law_smalls", "_law_item"] ["_law_script"] (defScope sPot) := ⟨rfl, rfl, rfl, by decide +kernel, rfl, by decide +kernel, by decide +kernel⟩
def absI (z : Int) : Int := if z < 0 then -z else z
theorem absI0 (z : Int) : 0 ≤ absI z := by
  unfold absI
  split <;> omega
theorem ok_pot {f : Addr} {fd : FuncData} (F : FnP K "_law_pot" sPot f fd) (T : Bi mg) : FnOk P w K mg base CX0 1 f fd ["_law_script"] (spPot K) := by
  refine F.ok scPot (fun vs H Q E h => ?_) (fun cdv A outer s H vs Q E hr h => ?_)
  · obtain ⟨a, ns, rfl, _⟩ := h
    rfl
  · obtain ⟨a, ns, rfl, hS, hl, k⟩ := h
    refine ⟨_, PSs.nox (pss_cut (ps_setLc (i := 1) (own := [("_law_item", 4)]) (g := gName 4) (tt := tYes) rfl scPot.nd rfl rfl (sw_true rfl rfl rfl (by decide +kernel)) (pi_list (pe_slice sl_list (pv 0) po_none (po_some pe_int))) (blkOk_by (N := ["_law_script", "_law_cells", "_law_greats", "_law_smalls", "_law_item"]) (sc := defScope sPot) (by decide +kernel)) (fun _ _ _ _ _ => (pg_name (i := 4) scPot.nd rfl (Or.inl rfl))) (fun _ _ _ _ _ => pts_nil) (fun _ _ _ _ _ => (pe_callTy call_int1 (by rfl) T.b_int (by decide +kernel) (pa_cons (pv 4) pa_nil))))
    (pss_cut (ps_setLcS (i := 2) (own := [("_law_item", 4)]) (g := gName 4) rfl scPot.nd rfl rfl (sw_true rfl rfl rfl (by decide +kernel)) (pi_list (pv 1)) (blkOk_by (N := ["_law_script", "_law_cells", "_law_greats", "_law_smalls", "_law_item"]) (sc := defScope sPot) (by decide +kernel)) (fun _ _ _ _ _ => (pg_name (i := 4) scPot.nd rfl (Or.inl rfl))) (fun _ _ _ _ _ => (pts_one (pt_cmpR op_ge (pe_callB call_abs (by rfl) T.b_abs (by decide +kernel) (pa_cons (pv 4) pa_nil)) (pe_op op_pow pe_int pe_int) (nomark _)))) (fun _ _ _ _ _ => (pe_callB call_abs (by rfl) T.b_abs (by decide +kernel) (pa_cons (pv 4) pa_nil))))
    (pss_cut (ps_set (i := 3) scPot.nd rfl (Or.inl rfl) (pe_op op_cat (pe_lcS (own := [("_law_item", 4)]) (g := gName 4) (by rfl) scPot.nd (pi_list (pv 1)) (blkOk_by (N := ["_law_script", "_law_cells", "_law_greats", "_law_smalls", "_law_item"]) (sc := defScope sPot) (by decide +kernel)) (fun _ _ _ _ _ => (pg_name (i := 4) scPot.nd rfl (Or.inl rfl))) (fun _ _ _ _ _ => (pts_one (pt_cmpR op_lt (pe_callB call_abs (by rfl) T.b_abs (by decide +kernel) (pa_cons (pv 4) pa_nil)) (pe_op op_pow pe_int pe_int) (nomark _)))) (fun _ _ _ _ _ => (pe_op op_mod (pe_callTy call_int1 (by rfl) T.b_int (by decide +kernel) (pa_cons (pv 4) pa_nil)) pe_int))) (pe_lst (pa_cons (pe_op op_add (pe_callB call_len_seq (by rfl) T.b_len (by decide +kernel) (pa_cons (pv 1) pa_nil)) pe_int) pa_nil))))
    (pss_one (ps_ret (pe_lst (pa_cons (pv 2) (pa_cons (pv 3) (pa_cons pe_int (pa_cons (pe_op op_mod (pe_callTy call_int1 (by rfl) T.b_int (by decide +kernel) (pa_cons (pe_callB (cr_sum rfl) (by rfl) T.b_sum (by decide +kernel) (pa_cons (pv 3) pa_nil)) pa_nil)) pe_int) pa_nil)))))))))), ?_⟩
    refine ⟨fun σ' H' => ∃ (c : Addr) (cs : List Int), σ' = [some (.ref a), some (.ref c), none, none, none] ∧ Same H H' ∧ H c = none ∧ H' c = some (.lst (cs.map V.int)) ∧ cs.length ≤ 63, ?_, ?_⟩
    · refine ⟨_, rfl, _, rfl, a, _, rfl, hS, fun p np => ?_⟩
      have hlen : (cutV (ns.map V.int) none (some 63)) = ns.map V.int := by
        unfold cutV
        rw [List.length_map]
        have h1 : HT.sIx ns.length 0 none = 0 := rfl
        have h2 : HT.sIx ns.length ns.length (some 63) = min 63 ns.length := HT.sIx_nat _ _ 63
        rw [h1, h2, List.drop_zero, Nat.sub_zero, Nat.min_eq_right hl]
        exact List.take_of_length_le (by rw [List.length_map]; exact Nat.le_refl _)
      rw [hlen]
      refine ⟨p, rfl, ⟨_, SqL.of upd_same⟩, fun D hD => ?_⟩
      have npD : p ≠ D := ne_of_none (upd_same (H := H) (a := p)) hD
      have nH : H D = none := by
        rw [upd_ne npD.symm] at hD
        exact hD
      refine lc_list (K := K) (xs := ns.map V.int) (fun i H' => ∃ cs : List Int, H' = upd (upd H p (.lst (ns.map V.int))) D (.lst (cs.map V.int)) ∧ cs.length = i) ⟨[], rfl, rfl⟩ ?_ ?_ ?_
      · rintro i H' _ ⟨cs, rfl, _⟩
        exact SqL.of (by rw [upd_ne npD, upd_same])
      · rintro i x H' hx ⟨cs, rfl, hi⟩
        obtain ⟨z, rfl⟩ : ∃ z, x = V.int z := by
          rw [List.getElem?_map] at hx
          cases e : ns[i]? with
          | none => rw [e] at hx; cases hx
          | some z => rw [e] at hx; exact ⟨z, (Option.some.inj hx).symm⟩
        have hil : i < (ns.map V.int).length := (List.getElem?_eq_some_iff.mp hx).1
        rw [List.length_map] at hil
        refine ⟨rfl, _, rfl, .inl ⟨_, rfl, cs.map V.int, upd_same, Nat.lt_of_le_of_lt (by rw [List.length_map, hi]; omega) (show 63 < sizeLine by decide), cs ++ [z], ?_, by rw [List.length_append, hi]; rfl⟩⟩
        rw [upd_upd, List.map_append]
        rfl
      · rintro H' ⟨cs, rfl, hi⟩
        refine ⟨D, cs, rfl, fun b o e => ?_, nH, upd_same, by rw [hi, List.length_map]; exact hl⟩
        rw [upd_ne (ne_of_none e nH), upd_ne (ne_of_none e np)]
        exact e
    · rintro σ' H1 ⟨c, cs, rfl, s1, n1, hc, hl1⟩
      have hlc : (cs.map V.int).length < sizeLine := Nat.lt_of_le_of_lt (by rw [List.length_map]; exact hl1) (show 63 < sizeLine by decide)
      refine ⟨fun σ' H' => ∃ (g : Addr) (gs : List Int), σ' = [some (.ref a), some (.ref c), some (.ref g), none, none] ∧ Same H1 H' ∧ H1 g = none ∧ H' g = some (.lst (gs.map V.int)) ∧ ∀ x ∈ gs, 0 ≤ x, ?_, ?_⟩
      · refine lc_into ?_
        refine ⟨_, rfl, c, rfl, ⟨_, SqL.of hc⟩, ?_⟩
        refine lc_overF (as := cs) (Rel := fun _ z y => y = .int (absI z)) (fun z => decide (absI z ≥ 10 ^ 18)) it_list (by rw [List.length_map]) (fun _ _ _ _ _ h => h) hlc (fun H' sm _ => SqL.of (sm _ _ hc)) ?_ ?_
        · intro i x z hx hz H' sm pt R N kR kN
          rw [List.getElem?_map, hz] at hx
          cases hx
          refine ⟨rfl, _, rfl, _, rfl, _, _, rfl, rfl, ⟨by decide, by decide, by decide⟩, _, _, rfl, rfl, _, rfl, ?_⟩
          refine ite2 (fun e => ?_) (fun e => ?_)
          · exact ⟨_, rfl, _, rfl, kR e _ _ (fun _ _ h => h) rfl⟩
          · exact kN (Bool.eq_false_iff.mpr e) _ fun _ _ h => h
        · intro D ys H' sm pt nD hD all
          have e := All2.map all
          subst e
          exact ⟨D, (cs.filter _).map absI, rfl, sm, nD, by rw [hD, List.map_map]; rfl, fun x hx => by
            obtain ⟨z, _, rfl⟩ := List.mem_map.mp hx
            exact absI0 z⟩
      · rintro σ' H2 ⟨g, gs, rfl, s2, n2, hg, gn⟩
        have hc2 := s2 _ _ hc
        have ncg : c ≠ g := ne_of_none hc n2
        refine ⟨fun σ' H' => ∃ (s : Addr) (ss : List Int), σ' = [some (.ref a), some (.ref c), some (.ref g), some (.ref s), none] ∧ Same H2 H' ∧ H2 s = none ∧ H' s = some (.lst (ss.map V.int)) ∧ ss ≠ [] ∧ ss.length < 1000, ?_, ?_⟩
        · refine lc_into ?_
          refine ⟨_, rfl, c, rfl, ⟨_, SqL.of hc2⟩, ?_⟩
          refine lc_overF (as := cs) (Rel := fun _ z y => y = .int (z % 1000000007)) (fun z => decide (absI z < 10 ^ 18)) it_list (by rw [List.length_map]) (fun _ _ _ _ _ h => h) hlc (fun H' sm _ => SqL.of (sm _ _ hc2)) ?_ ?_
          · intro i x z hx hz H' sm pt R N kR kN
            rw [List.getElem?_map, hz] at hx
            cases hx
            refine ⟨rfl, _, rfl, _, rfl, _, _, rfl, rfl, ⟨by decide, by decide, by decide⟩, _, _, rfl, rfl, _, rfl, ?_⟩
            refine ite2 (fun e => ?_) (fun e => ?_)
            · exact ⟨_, rfl, .inl ⟨_, rfl, _, _, rfl, rfl, (by show (0 : Int) < 1000000007; decide), kR e _ _ (fun _ _ h => h) rfl⟩⟩
            · exact kN (Bool.eq_false_iff.mpr e) _ fun _ _ h => h
          · intro D ys H' sm pt nD hD all
            have e := All2.map all
            subst e
            have hle : (cs.filter fun z => decide (absI z < 10 ^ 18)).length ≤ 63 := Nat.le_trans (List.length_filter_le _ _) hl1
            refine ⟨_, rfl, c, _, rfl, .inl (SqL.of (sm _ _ hc2)), _, _, rfl, rfl, by show 1 ≤ sizeLine; decide, fun q nq => ?_⟩
            have sq := same_new (o := .lst [V.int (((cs.map V.int).length : Nat) + 1 : Int)]) nq
            refine ⟨D, q, _, _, rfl, rfl, sq _ _ hD, upd_same, Nat.le_trans (show _ ≤ 64 by rw [List.length_map]; show _ + 1 ≤ 64; omega) (by decide), fun s ns => ?_⟩
            have ss := same_new (o := .lst ((cs.filter fun z => decide (absI z < 10 ^ 18)).map (fun z => V.int (z % 1000000007)) ++ [V.int (((cs.map V.int).length : Nat) + 1 : Int)])) ns
            refine ⟨s, (cs.filter fun z => decide (absI z < 10 ^ 18)).map (fun z => z % 1000000007) ++ [(((cs.map V.int).length : Nat) + 1 : Int)], rfl, (sm.trans sq).trans ss, (sm.trans sq).free ns, ?_, by simp, ?_⟩
            · rw [upd_same, List.map_append, List.map_map]
              rfl
            · rw [List.length_append, List.length_map]
              show _ + 1 < 1000
              omega
        · rintro σ' H3 ⟨s, ss, rfl, s3, n3, hs, sne, sl⟩
          refine ⟨_, rfl, _, rfl, _, rfl, s, ss, rfl, SqL.of hs, .inl ⟨_, rfl, _, _, rfl, rfl, (by show (0 : Int) < 999983; decide), by show 4 ≤ sizeLine; decide, fun p np => ?_⟩⟩
          have hg3 := s3 _ _ hg
          have ngp : g ≠ p := ne_of_none hg3 np
          have nsp : s ≠ p := ne_of_none hs np
          have nsg : s ≠ g := (ne_of_none hg n3).symm
          refine k p g s _ ⟨gs, ss, 0, _, upd_same, by rw [upd_ne ngp]; exact hg3, by rw [upd_ne nsp]; exact hs, ngp, nsp, nsg, gn, sne, sl, Int.le_refl _⟩ ?_ (((s1.trans s2).trans s3).free np) (s1.free n2) ((s1.trans s2).free n3)
          exact ((s1.trans s2).trans s3).trans (same_new np)
end
end K13
set_option Elab.async false
set_option linter.all false
set_option maxRecDepth 100000
set_option maxHeartbeats 4000000
/-! A closure that outlives its frame: its cells stand in the heap as things of their own. -/
namespace PM
open PySem PySem.Spec PyProof.Rows L2 LamX ZX ZR NdefX
/-- the cell at c holds v -/
def CellO (c : Addr) (v : V) : HO := .ext fun h => ∃ u, L2.RelV v u ∧ h.IsCell c (some u)
/-- what is told, but for these -/
def dropC (cs : List Addr) (H : Hp) : Hp := fun b => if b ∈ cs then none else H b
/-- .. and with them again -/
def backC (cs : List Addr) (H H' : Hp) : Hp := fun b => if b ∈ cs then H b else H' b
theorem dropC_in {cs : List Addr} {H : Hp} {b : Addr} (h : b ∈ cs) : dropC cs H b = none := if_pos h
theorem dropC_out {cs : List Addr} {H : Hp} {b : Addr} (h : b ∉ cs) : dropC cs H b = H b := if_neg h
theorem dropC_none {cs : List Addr} {H : Hp} {b : Addr} (h : H b = none) : dropC cs H b = none := by
  unfold dropC
  split
  · rfl
  · exact h
/-- what the cells of a closure hold -/
structure CellsT (cl : List (Str × Addr)) (fr : List Str) (ws : List (Option V)) (H : Hp) : Prop where
  len : ws.length = fr.length
  all : ∀ p ∈ cl, ∃ v, H p.2 = some (CellO p.2 v)
  inj : ∀ x y c, cl.lookup x = some c → cl.lookup y = some c → x = y
  has : ∀ (i : Nat) (y : Str), fr[i]? = some y → ∃ c, cl.lookup y = some c ∧ ∀ v, ws[i]? = some (some v) → H c = some (CellO c v)
section
variable {P : Program} {w : World} {K : PySem.W.Frag} {mg : Str → Option Value} {base : Heap} {cl : List (Str × Addr)} {fr : List Str} {ws : List (Option V)} {H : Hp} {h : Heap}
theorem CellsT.at_ (C : CellsT cl fr ws H) (hok : HOk P w H h) : CellsAt cl fr ws h (dropC (cl.map (·.2)) H) := by
  refine ⟨C.len, fun y c e => ?_, C.inj, fun i y e => ?_⟩
  · have hm := PySem.mem_of_lookup e
    obtain ⟨v, hv⟩ := C.all _ hm
    obtain ⟨⟨u, _, hu⟩, _, _⟩ := hok _ _ hv
    exact ⟨dropC_in (List.mem_map.mpr ⟨_, hm, rfl⟩), _, hu⟩
  · obtain ⟨c, hc, hv⟩ := C.has i y e
    exact ⟨c, hc, fun v ev => (hok _ _ (hv v ev)).1⟩
theorem hok_drop (C : ∀ p ∈ cl, ∃ v, H p.2 = some (CellO p.2 v)) (hok : HOk P w H h) : HOk P w (dropC (cl.map (·.2)) H) h := fun a o e => by
  have nb : ∀ {b : Addr} {u : HO}, H b = some u → (∀ v, u ≠ CellO b v) → b ∉ cl.map (·.2) := fun {b u} g n hb => by
    obtain ⟨p, hp, rfl⟩ := List.mem_map.mp hb
    obtain ⟨v, hv⟩ := C p hp
    rw [g] at hv
    exact n v (Option.some.inj hv)
  unfold dropC at e
  split at e
  · cases e
  · exact (hok a o e).stay (fun _ _ _ q => q) (fun b q => by rw [dropC_out (nb q fun v z => by cases z)]; exact q) fun b xs q => by rw [dropC_out (nb q fun v z => by cases z)]; exact q
/-- what a call leaves, with the cells again -/
theorem ce_back {outer : List Env} {s s' : Shared} {Q : VK} {u : Value} (C : ∀ p ∈ cl, ∃ v, H p.2 = some (CellO p.2 v)) (frf : ∀ b ∈ frs outer, H b = none) (hok : HOk P w H s.heap)
    (h : CE outer P w (dropC (cl.map (·.2)) H) s (fun v H' => Q v (backC (cl.map (·.2)) H H')) u s') : CE outer P w H s Q u s' := by
  obtain ⟨v, H', e1, e2, un, hk, rv, q⟩ := h
  have cell : ∀ b ∈ cl.map (·.2), ∃ v, H b = some (CellO b v) := fun b hb => by
    obtain ⟨p, hp, rfl⟩ := List.mem_map.mp hb
    exact C p hp
  have out : ∀ {b : Addr}, H b = none → b ∉ cl.map (·.2) := fun {b} n hb => by
    obtain ⟨v, hv⟩ := cell b hb
    rw [n] at hv
    cases hv
  refine ⟨v, backC (cl.map (·.2)) H H', e1, e2, ⟨fun b o g n => un.keep b o g (dropC_none n), fun b o g n => un.slot b o g (dropC_none n), fun b o g n hx => ?_, un.there, fun b xs g => ?_, fun b o u g => ?_, fun b ps g => ?_⟩, fun a o e => ?_, rv, q⟩
  · unfold backC
    rw [if_neg (out n)]
    exact un.free b o g (dropC_none n) hx
  · have nb : b ∉ cl.map (·.2) := fun hb => by
      obtain ⟨v, hv⟩ := cell b hb
      rw [g] at hv
      cases hv
    unfold backC
    rw [if_neg nb]
    exact un.tups b xs (by rw [dropC_out nb]; exact g)
  · have nb : b ∉ cl.map (·.2) := fun hb => by
      obtain ⟨v, hv⟩ := cell b hb
      rw [g] at hv
      cases hv
    unfold backC
    rw [if_neg nb]
    exact un.frzs b o u (by rw [dropC_out nb]; exact g)
  · have nb : b ∉ cl.map (·.2) := fun hb => by
      obtain ⟨v, hv⟩ := cell b hb
      rw [g] at hv
      cases hv
    unfold backC
    rw [if_neg nb]
    exact un.tbls b ps (by rw [dropC_out nb]; exact g)
  · unfold backC at e
    split at e
    · rename_i hb
      obtain ⟨v, hv⟩ := cell a hb
      rw [hv] at e
      cases e
      obtain ⟨h1, ⟨o1, ho1⟩, h3⟩ := hok a _ hv
      have kp : ∀ o, s.heap.get? a = some o → s'.heap.get? a = some o := fun o g => un.keep a o g (dropC_in hb) (fun z => by
        rw [frf a z] at hv
        cases hv) (fun z => nomatch z)
      exact ⟨h3 _ _ h1 kp, ⟨o1, kp _ ho1⟩, h3⟩
    · have no : ∀ {b : Addr} {u : HO}, H' b = some u → backC (cl.map (·.2)) H H' b = some u := fun {b u} g => by
        unfold backC
        rw [if_neg (fun hb => ?_)]
        · exact g
        · obtain ⟨v, hv⟩ := cell b hb
          obtain ⟨_, ⟨o1, ho1⟩, _⟩ := hok b _ hv
          have := un.free b o1 ho1 (dropC_in hb) (fun z => nomatch z)
          rw [g] at this
          cases this
      exact (hk a o e).stay (fun _ _ _ q => q) (fun b q => no q) fun b xs q => no q
/-- THE RULE: a closure whose cells stand in the heap is called -/
theorem run_clo {X : Cx} {pins : List (Addr × Obj)} {σ : L2.St} {H : Hp} {s : Shared} {Q : VK} {us : List Value} {vs : List V} {k : Nat} {f : Addr} {F : NF} {ps fr : List Str} {ws : List (Option V)} {sp : List (Option V) → Sp}
    (o : NOk X.prog X.w X.K X.mg X.base CX0 k f F ps fr sp) (hr : Room k X.A) (I : Inv X pins σ H s) (hf : H f = some (FnO f F)) (hc : H F.c = some (CodeO F.c F.qual)) (nf : f ∉ F.cl.map (·.2)) (nc : F.c ∉ F.cl.map (·.2)) (C : CellsT F.cl fr ws H) (r : Vals vs us)
    (h : sp ws vs (dropC (F.cl.map (·.2)) H) (fun v H' => Q v (backC (F.cl.map (·.2)) H H')) E0) : wpAny (model X.prog X.w) X.A (call (.ref f) us) (EP X pins σ Q) X.xe s := by
  have e0 := I.env0
  have e1 : Env0 X.prog X.w X.K X.mg X.base X.A X.stack s (dropC (F.cl.map (·.2)) H) := ⟨e0.frames, e0.mod, fun b o q => ⟨(e0.bs b o q).1, dropC_none (e0.bs b o q).2⟩, e0.bsz, e0.funs, fun b hb => dropC_none (e0.frf b hb), hok_drop C.all e0.hok, e0.bare⟩
  refine wpAny_call (codeAny_mono (o.run X.A X.stack s _ us vs ws _ E0 hr e1 (by rw [dropC_out nf]; exact hf) (by rw [dropC_out nc]; exact hc) (C.at_ e0.hok) r h) fun rs s' hq => ?_)
  cases rs with
  | error e => exact hq.elim
  | ok fl =>
    cases fl with
    | ret u => exact I.after (ce_back C.all e0.frf e0.hok hq)
    | next => exact False.elim hq
    | brk => exact False.elim hq
    | cont => exact False.elim hq
/-- .. whose code object stands in K -/
theorem run_cloK {X : Cx} {pins : List (Addr × Obj)} {σ : L2.St} {H : Hp} {s : Shared} {Q : VK} {us : List Value} {vs : List V} {k : Nat} {f : Addr} {F : NF} {ps fr : List Str} {ws : List (Option V)} {sp : List (Option V) → Sp}
    (o : NOkK X.prog X.w X.K X.mg X.base CX0 k f F ps fr sp) (hr : Room k X.A) (I : Inv X pins σ H s) (hf : H f = some (FnO f F)) (nf : f ∉ F.cl.map (·.2)) (C : CellsT F.cl fr ws H) (r : Vals vs us)
    (h : sp ws vs (dropC (F.cl.map (·.2)) H) (fun v H' => Q v (backC (F.cl.map (·.2)) H H')) E0) : wpAny (model X.prog X.w) X.A (call (.ref f) us) (EP X pins σ Q) X.xe s := by
  have e0 := I.env0
  have e1 : Env0 X.prog X.w X.K X.mg X.base X.A X.stack s (dropC (F.cl.map (·.2)) H) := ⟨e0.frames, e0.mod, fun b o q => ⟨(e0.bs b o q).1, dropC_none (e0.bs b o q).2⟩, e0.bsz, e0.funs, fun b hb => dropC_none (e0.frf b hb), hok_drop C.all e0.hok, e0.bare⟩
  refine wpAny_call (codeAny_mono (o.run X.A X.stack s _ us vs ws _ E0 hr e1 (by rw [dropC_out nf]; exact hf) (C.at_ e0.hok) r h) fun rs s' hq => ?_)
  cases rs with
  | error e => exact hq.elim
  | ok fl =>
    cases fl with
    | ret u => exact I.after (ce_back C.all e0.frf e0.hok hq)
    | next => exact False.elim hq
    | brk => exact False.elim hq
    | cont => exact False.elim hq
end
end PM
set_option Elab.async false
set_option linter.all false
set_option maxRecDepth 100000
set_option maxHeartbeats 4000000
/-! A def that gives a closure back: its two cells stand in the heap from then on. -/
namespace PM
open PySem PySem.Spec PyProof.Rows L2 LamX ZX ZR NdefX
theorem cell_lo {names : List (Str × NameKind)} {h : Heap} {y : Str} {c : Addr} (e : (cellsFrom (h.objs.size + 1) names []).lookup y = some c) : h.objs.size + 1 ≤ c := by
  have ok := cellsFrom_ok names (h.push { cls := .type "frame", data := .dict #[] }) (h.objs.size + 1) [] ⟨fun _ _ hm => (nomatch hm), List.Pairwise.nil⟩ (by rw [Heap.size_push]; exact Nat.le_refl _)
  rw [Heap.size_push] at ok
  exact (ok.empty y c (PySem.mem_of_lookup e)).2
theorem cellO_ok {P : Program} {w : World} {H : Hp} {h : Heap} {c : Addr} {v : V} {u : Value} (r : L2.RelV v u) (i : h.IsCell c (some u)) : ObjOk P w H h c (CellO c v) := by
  obtain ⟨o, ho, hd⟩ := i
  refine ⟨⟨u, r, o, ho, hd⟩, ⟨o, ho⟩, fun h1 h2 ⟨u1, r1, o1, g1, d1⟩ k => ⟨u1, r1, o1, k _ g1, d1⟩⟩
theorem hok_laid {P : Program} {w : World} {H : Hp} {h : Heap} {a : Addr} {o : HO} (x : HOk P w H h) (hn : H a = none) (new : ObjOk P w (upd H a o) h a o) : HOk P w (upd H a o) h := fun b u e => by
  by_cases hb : b = a
  · subst hb
    rw [upd_same] at e
    cases e
    exact new
  · rw [upd_ne hb] at e
    exact (x b u e).stay (fun _ _ _ q => q) (fun c q => by rw [upd_ne (ne_of_none q hn)]; exact q) fun c xs q => by rw [upd_ne (ne_of_none q hn)]; exact q
theorem un_laid {fs : List Addr} {H H1 : Hp} {h h1 : Heap} {a : Addr} {o : HO} (u : Un fs [] H H1 h h1) (hs : h.objs.size ≤ a) (hn : H1 a = none) : Un fs [] H (upd H1 a o) h h1 :=
  ⟨u.keep, u.slot, fun b ob g n hx => by
    rw [upd_ne (Nat.ne_of_lt (Nat.lt_of_lt_of_le (Heap.lt_size g) hs))]
    exact u.free b ob g n hx, u.there, fun b xs g => by
    rw [upd_ne (ne_of_none (u.tups b xs g) hn)]
    exact u.tups b xs g, fun b o' u' g => by
    rw [upd_ne (ne_of_none (u.frzs b o' u' g) hn)]
    exact u.frzs b o' u' g, fun b ps g => by
    obtain ⟨more, e⟩ := u.tbls b ps g
    exact ⟨more, by rw [upd_ne (ne_of_none e hn)]; exact e⟩⟩
theorem fn_of2 {P : Program} {w : World} {K : PySem.W.Frag} {mg : Str → Option Value} {base : Heap} {k : Nat} {f : Addr} {name qual : Str} {params : Arguments} {st : Stmt} {e : Expr} {rp : Pos} {scope : Scope} {dV kV doc pm cdv ct oc : Value} {an od : Option Addr}
    {osl : Array (Option Value)} {N ps : List Str} {sp : Sp} {y1 y2 : Str} {j1 j2 : Nat} (lk : K.lookup f = some ⟨oc, od, .func (PySem.W.fnOf name qual params [st, .Return (some e) rp] scope dV kV doc pm an cdv ct), osl⟩) (hcd : PySem.W.codeIn K cdv qual = true) (S : FnScope N ps scope)
    (n1 : N[j1]? = some y1) (n2 : N[j2]? = some y2) (k1 : scope.names.lookup y1 = some .cell) (k2 : scope.names.lookup y2 = some .cell) (ny : y1 ≠ y2)
    (len : ∀ vs H Q E, sp vs H Q E → vs.length = ps.length)
    (hbody : ∀ (A : Around) (outer : List Env) (s : Shared) (H : Hp) (vs : List V) (Q : VK) (E : XK), Room k (A.deeper (envOfC qual scope s.heap.objs.size f cdv)) → sp vs H Q E →
      ∃ t te, PS (cxOf CX0 P w K mg base N qual scope f cdv A outer s H E) st t ∧ PE (cxOf CX0 P w K mg base N qual scope f cdv A outer s H E) e te ∧
        t { nx := fun σ' H' => te σ' H' fun v H2 => ∃ v1 v2, σ'[j1]? = some (some v1) ∧ σ'[j2]? = some (some v2) ∧ ∀ c1 c2, (envOfC qual scope s.heap.objs.size f cdv).cells.lookup y1 = some c1 → (envOfC qual scope s.heap.objs.size f cdv).cells.lookup y2 = some c2 → c1 ≠ c2 → H c1 = none → H c2 = none → H2 c1 = none → H2 c2 = none →
            Q v (upd (upd H2 c1 (CellO c1 v1)) c2 (CellO c2 v2)), rt := fun _ _ => False } (start N vs) H) :
    FnOk P w K mg base CX0 (k + 1) f (PySem.W.fnOf name qual params [st, .Return (some e) rp] scope dV kV doc pm an cdv ct) ps sp := by
  refine ⟨len, fun A outer s H args us vs Q E hr e0 hb r hsp => ?_⟩
  have hl := len _ _ _ _ hsp
  have KX : K.In s.heap := e0.mod.kin.keeps fun b o e => (e0.bs b o e).1
  have lim : s.heap.NoLimit := e0.mod.nolimit.keeps fun b o e => (e0.bs b o e).1
  have hkind : ∀ y ∈ ps.zip us, scope.names.lookup y.1 = some .local ∨ (scope.names.lookup y.1 = some .cell ∧ ((cellsFrom (s.heap.objs.size + 1) scope.names []).lookup y.1).isSome = true) := fun ⟨n, v⟩ hy => by
    rcases S.par n (List.of_mem_zip hy).1 with q | q
    · exact .inl q
    · exact .inr ⟨q, PySem.W.cellsFrom_some _ _ _ (.inl q)⟩
  refine codeAny_call_function hr.depth (KX _ _ lk) rfl S.co S.gen rfl (PySem.W.codeRec_of KX hcd) (hb _ _ _ _ ?_)
  refine wpAny_newFunctionEnv_cells S.kind hkind fun env he s1 x => ?_
  subst he
  refine ⟨lim.keeps x.toInCall.keep, codeAny_func ?_⟩
  obtain ⟨t, te, ht, hte, hq⟩ := hbody A outer s H vs Q E (hr.deeper _) hsp
  have I : Inv (cxOf CX0 P w K mg base N qual scope f cdv A outer s H E) [] (start N vs) H s1 := inv_start S hr.hd e0 hl r x
  refine wpAny_execs_cons (thn (ht.run [] s1 (start N vs) H _ I hq) fun fl s2 hs => ?_)
  cases fl with
  | next =>
    obtain ⟨σ', H', J, q⟩ := hs
    refine wpAny_execs_cons (wpAny_Return_some (thn (hte.run [] s2 σ' H' _ J q) fun u s3 ⟨v, H2, J2, rv, v1, v2, g1, g2, hQ⟩ => ?_))
    obtain ⟨m, hn, hl2⟩ := J2.loc
    have cellAt : ∀ {j : Nat} {y : Str} {z : V}, N[j]? = some y → scope.names.lookup y = some .cell → σ'[j]? = some (some z) → ∃ c u, (envOfC qual scope s.heap.objs.size f cdv).cells.lookup y = some c ∧ L2.RelV z u ∧ s3.heap.IsCell c (some u) := fun {j y z} hj hk hg => by
      obtain ⟨u, r, l⟩ := hl2 j y z hj hg (.inr (.inl hk))
      rcases l with ⟨z', _⟩ | ⟨_, a', ha', hcell⟩
      · have z' : scope.names.lookup y = some .local := z'
        rw [hk] at z'
        cases z'
      · exact ⟨a', u, ha', r, hcell⟩
    obtain ⟨c1, u1, l1, r1, i1⟩ := cellAt n1 k1 g1
    obtain ⟨c2, u2, l2, r2, i2⟩ := cellAt n2 k2 g2
    have hc : c1 ≠ c2 := fun z => ny (J2.ok.inj y1 y2 c1 l1 (by rw [z]; exact l2))
    have lo1 : s.heap.objs.size ≤ c1 := Nat.le_of_succ_le (cell_lo l1)
    have lo2 : s.heap.objs.size ≤ c2 := Nat.le_of_succ_le (cell_lo l2)
    have f1 := J2.freeC y1 c1 l1
    have f2 := J2.freeC y2 c2 l2
    have f2' : upd H2 c1 (CellO c1 v1) c2 = none := by
      rw [upd_ne hc.symm]
      exact f2
    exact ⟨v, _, J2.os, J2.bare, un_laid (un_laid J2.base lo1 f1) lo2 f2', hok_laid (hok_laid J2.hok f1 (cellO_ok r1 i1)) f2' (cellO_ok r2 i2), rv, hQ c1 c2 l1 l2 hc (e0.hok.fresh lo1) (e0.hok.fresh lo2) f1 f2⟩
  | ret u =>
    obtain ⟨_, _, _, _, _, q⟩ := hs
    exact False.elim q
  | brk =>
    obtain ⟨_, _, _, q⟩ := hs
    exact False.elim q
  | cont =>
    obtain ⟨_, _, _, q⟩ := hs
    exact False.elim q
end PM
set_option Elab.async false
set_option linter.all false
set_option maxRecDepth 100000
set_option maxHeartbeats 4000000
/-! sum(t), t a tuple of whole numbers. -/
namespace PM
open PySem PySem.Spec PyProof.Rows L2 ZX ZR
section
variable {X : Cx}
def rSumT (K : PySem.W.Frag) : List V → Hp → VK → Prop := fun vs H Q => ∃ (a : Addr) (ns : List Int), vs = [V.ref a] ∧ SqT K H a (ns.map V.int) ∧ Q (.int ns.sum) H
theorem cr_sumT (hc : X.calm = true) : CallR X (.builtin "sum") (rSumT X.K) := by
  intro pins s σ H vs us Q I r h
  obtain ⟨a, ns, rfl, hs, q⟩ := h
  obtain ⟨its, rv, pl, hz⟩ := I.tuple hs
  rw [Vals.ref1 r]
  have hi := rv.ints
  obtain ⟨xs, e⟩ := hi.allInts.items
  have hn : numsOf (intItems xs).toList = ns := by rw [← e]; exact hi.numsOf
  rw [nums_intItems] at hn
  have hl : s.heap.IsTuple a its.toArray := pl
  rw [e] at hl
  refine PySem.W.ktm_sumG (I.ok.hd hc) hl fun h' tk t' hk => ?_
  rw [preSum_eq, List.take_of_length_le (by simp), hn]
  exact ⟨.int _, H, I.kept hk, ⟨_, rfl⟩, q⟩
end
end PM
set_option Elab.async false
set_option linter.all false
set_option maxRecDepth 100000
set_option maxHeartbeats 4000000
/-! The law's _law_noting: the function that it gives back. -/
namespace K13
open PySem PySem.Spec PyProof.Rows L2 ZX PM ZR
abbrev sNoting : Stmt := top 55
abbrev sLf : Stmt := (defBody sNoting).getD 0 (.Pass ⟨0, 0, 0, 0⟩)
abbrev nfLf (q : Str) (cl : List (Str × Addr)) (c : Addr) : NdefX.NF := { name := "_law_f", qual := q, params := defArgs sLf, body := defBody sLf, scope := defScope sLf, cl := cl, c := c }
/-- the function: its row is noted down; the sum of it, and the step -/
def spLf (K : PySem.W.Frag) : List (Option V) → Sp := fun ws vs H Q _ => ∃ (l t : Addr) (cs : List V) (k : Int) (ns : List Int), ws = [some (.ref l), some (.int k)] ∧ vs = [.ref t] ∧ H l = some (.lst cs) ∧ cs.length < sizeLine ∧ SqT K H t (ns.map V.int) ∧ Q (.int ((ns.sum + k) % 1000003)) (upd H l (.lst (cs ++ [.ref t])))
section
variable {P : Program} {w : World} {K : PySem.W.Frag} {mg : Str → Option Value} {base : Heap}
theorem scLf : NdefX.NScope ["_law_row", "_law_calls", "_law_step"] ["_law_row"] ["_law_calls", "_law_step"] (defScope sLf) := NdefX.nscope_by (by decide +kernel)
theorem ok_lf {f c : Addr} {q : Str} {cl : List (Str × Addr)} (T : Bi mg) : NdefX.NOk P w K mg base CX0 1 f (nfLf q cl c) ["_law_row"] ["_law_calls", "_law_step"] (spLf K) := by
  refine NdefX.nok_of (N := ["_law_row", "_law_calls", "_law_step"]) scLf (fun doc pm ctv us hl => match us, hl with | [_], _ => rfl) (fun ws vs H Q E h => ?_) (fun A outer s H vs ws Q E hr hf hc hw h => ?_)
  · obtain ⟨l, t, cs, k, ns, _, rfl, _⟩ := h
    rfl
  · obtain ⟨l, t, cs, k, ns, rfl, rfl, hL, hcl, hS, hQ⟩ := h
    refine ⟨_, pss_cons (ps_expr (pe_bm PySem.F.plainAttrs_list PySem.F.slot_list_append PySem.F.type_list_append mt_append (pv 1) (pa_cons (pv 0) pa_nil)))
      (pss_one (ps_ret (pe_op op_mod (pe_callTy call_int1 (by rfl) T.b_int (by decide +kernel) (pa_cons (pe_op op_add (pe_callB (cr_sumT rfl) (by rfl) T.b_sum (by decide +kernel) (pa_cons (pv 0) pa_nil)) (pv 2)) pa_nil)) pe_int))), ?_⟩
    refine ⟨_, rfl, .inl ⟨rfl, _, SqL.of hL⟩, _, rfl, l, cs, _, rfl, rfl, hL, hcl, ?_⟩
    have hS' : SqT K (upd H l (.lst (cs ++ [V.ref t]))) t (ns.map V.int) := (Pt.lst hL).sq hS
    exact ⟨_, rfl, t, ns, rfl, hS', _, rfl, _, _, rfl, rfl, .inl ⟨_, rfl, _, _, rfl, rfl, (by show (0 : Int) < 1000003; decide), hQ⟩⟩
end
end K13
set_option Elab.async false
set_option linter.all false
set_option maxRecDepth 100000
set_option maxHeartbeats 4000000
/-! The law's _law_noting. -/
namespace K13
open PySem PySem.Spec PyProof.Rows L2 LamX ZX PM ZR
/-- what is known of a noted function at f: l the list of its calls, k its step -/
structure LfAt (H : Hp) (f l : Addr) (k : Int) (q : Str) (cl : List (Str × Addr)) (c : Addr) : Prop where
  fn : H f = some (NdefX.FnO f (nfLf q cl c))
  code : H c = some (CodeO c q)
  cells : CellsT cl ["_law_calls", "_law_step"] [some (.ref l), some (.int k)] H
  nf : f ∉ cl.map (·.2)
  nc : c ∉ cl.map (·.2)
def spNoting (T : List NdefX.NTab) : Sp := fun vs H Q _ => ∃ (l : Addr) (k : Int), vs = [.ref l, .int k] ∧ NdefX.TabsN T H ∧ ∀ (f c : Addr) (q : Str) (cl : List (Str × Addr)) (H' : Hp), ExtN H H' → NdefX.TabsN T H' → H f = none → (∀ p ∈ cl, H p.2 = none) → LfAt H' f l k q cl c → Q (.ref f) H'
section
variable {P : Program} {w : World} {K : PySem.W.Frag} {mg : Str → Option Value} {base : Heap}
theorem scNoting : FnScope ["_law_calls", "_law_step", "_law_f"] ["_law_calls", "_law_step"] (defScope sNoting) := ⟨rfl, rfl, rfl, by decide +kernel, rfl, by decide +kernel, by decide +kernel⟩
theorem freeLf : ∀ y ∈ (C8.fnScope sLf).names, y.2 = .free → (defScope sNoting).names.lookup y.1 = some .cell ∨ (defScope sNoting).names.lookup y.1 = some .free := by decide +kernel
theorem cellsE (n : Nat) (f : Addr) (cd : Value) : (envOfC "_law_noting" (defScope sNoting) n f cd).cells = [(("_law_step" : Str), n + 1 + 1), ("_law_calls", n + 1)] := rfl
theorem cellsN (n : Nat) (f : Addr) (cd : Value) : cloFrom (envOfC "_law_noting" (defScope sNoting) n f cd).cells (C8.fnScope sLf).names [] = [(("_law_step" : Str), n + 1 + 1), ("_law_calls", n + 1)] := rfl
theorem ok_noting {T : List NdefX.NTab} {nm : Nat → Nat → Str} {f c0 P0 : Addr} {dV kV doc pm ct oc : Value} {an od : Option Addr} {osl : Array (Option Value)} (lk : K.lookup f = some ⟨oc, od, .func (PySem.W.fnOf "_law_noting" "_law_noting" (defArgs sNoting) (defBody sNoting) (defScope sNoting) dV kV doc pm an (.ref c0) ct), osl⟩)
    (hcd : PySem.W.codeIn K (.ref c0) "_law_noting" = true) (TB : TabB base mg c0 P0) (hm : (P0, nm) ∈ T) (hu : ∀ p ∈ T, p.1 = P0 → p.2 = nm) (hn : ∀ pos : Pos, pos = (match sLf with | .FunctionDef _ _ _ _ _ _ _ _ _ p => p | _ => ⟨0, 0, 0, 0⟩) → nm pos.line pos.col = (envOfC "_law_noting" (defScope sNoting) 0 f (.ref c0)).qual ++ "_law_f") :
    FnOk P w K mg base CX0 1 f (PySem.W.fnOf "_law_noting" "_law_noting" (defArgs sNoting) (defBody sNoting) (defScope sNoting) dV kV doc pm an (.ref c0) ct) ["_law_calls", "_law_step"] (spNoting T) := by
  refine fn_of2 (k := 0) (N := ["_law_calls", "_law_step", "_law_f"]) (y1 := "_law_calls") (y2 := "_law_step") (j1 := 0) (j2 := 1) lk hcd scNoting rfl rfl (by decide +kernel) (by decide +kernel) (by decide) (fun vs H Q E h => ?_) (fun A outer s H vs Q E hr h => ?_)
  · obtain ⟨l, k, rfl, _⟩ := h
    rfl
  · obtain ⟨l, k, rfl, hT, hQ⟩ := h
    refine ⟨_, _, NdefX.ps_ndefMS (T := T) (nm := nm) (c := c0) (P := P0) (name := "_law_f") (i := 2) rfl TB rfl hm (hn _ rfl) hu freeLf rfl rfl rfl scNoting.nd rfl (Or.inl rfl) (Or.inl rfl), pv 2, ?_⟩
    refine ⟨hT, fun f' c' H1 eN keep T1 f0 h1 hc1 => ?_⟩
    refine ⟨_, rfl, .ref l, .int k, rfl, rfl, fun c1 c2 l1 l2 nc n1 n2 m1 m2 => ?_⟩
    have e1 : f' ≠ c1 := ne_of_none h1 m1
    have e2 : f' ≠ c2 := ne_of_none h1 m2
    have d1 : c' ≠ c1 := ne_of_none hc1 m1
    have d2 : c' ≠ c2 := ne_of_none hc1 m2
    have E1 : c1 = s.heap.objs.size + 1 := by
      rw [cellsE] at l1
      exact (Option.some.inj l1).symm
    have E2 : c2 = s.heap.objs.size + 1 + 1 := by
      rw [cellsE] at l2
      exact (Option.some.inj l2).symm
    have s1 : Same H1 (upd (upd H1 c1 (CellO c1 (.ref l))) c2 (CellO c2 (.int k))) := fun b o e => by
      rw [upd_ne (ne_of_none e m2), upd_ne (ne_of_none e m1)]
      exact e
    have g1 : upd (upd H1 c1 (CellO c1 (.ref l))) c2 (CellO c2 (.int k)) c1 = some (CellO c1 (.ref l)) := by
      rw [upd_ne nc, upd_same]
    have g2 : upd (upd H1 c1 (CellO c1 (.ref l))) c2 (CellO c2 (.int k)) c2 = some (CellO c2 (.int k)) := upd_same
    refine hQ f' c' _ [("_law_step", c2), ("_law_calls", c1)] _ (eN.trans (ExtN.of s1)) (T1.ext s1) f0 ?_ ⟨?_, s1 _ _ hc1, ⟨rfl, ?_, ?_, ?_⟩, ?_, ?_⟩
    · intro p hp
      simp only [List.mem_cons, List.not_mem_nil, or_false] at hp
      rcases hp with rfl | rfl
      · exact n2
      · exact n1
    · subst E1
      subst E2
      exact s1 _ _ h1
    · intro p hp
      simp only [List.mem_cons, List.not_mem_nil, or_false] at hp
      rcases hp with rfl | rfl
      · exact ⟨_, g2⟩
      · exact ⟨_, g1⟩
    · intro x y c h1 h2
      have look : ∀ z, List.lookup z [(("_law_step" : Str), c2), ("_law_calls", c1)] = some c → (z = "_law_step" ∧ c = c2) ∨ (z = "_law_calls" ∧ c = c1) := fun z hz => by
        have := PySem.mem_of_lookup hz
        simp only [List.mem_cons, List.not_mem_nil, or_false, Prod.mk.injEq] at this
        exact this
      rcases look x h1 with ⟨rfl, e⟩ | ⟨rfl, e⟩ <;> rcases look y h2 with ⟨rfl, e'⟩ | ⟨rfl, e'⟩
      · rfl
      · exact absurd (e'.symm.trans e) nc
      · exact absurd (e.symm.trans e') nc
      · rfl
    · intro i y hi
      match i, hi with
      | 0, hi =>
        cases hi
        refine ⟨c1, rfl, fun v hv => ?_⟩
        cases hv
        exact g1
      | 1, hi =>
        cases hi
        refine ⟨c2, rfl, fun v hv => ?_⟩
        cases hv
        exact g2
    · simp [e1, e2]
    · simp [d1, d2]
end
end K13
set_option Elab.async false
set_option linter.all false
set_option maxRecDepth 100000
set_option maxHeartbeats 4000000
/-! The family of a noted function; tables of code objects through frames. -/
namespace PM
open PySem PySem.Spec PyProof.Rows L2 ZX ZR
theorem TabsN.fz {T : List NdefX.NTab} {M : List Addr} {H H' : Hp} (t : NdefX.TabsN T H) (z : Fz M H H') (m : Mks M H) : NdefX.TabsN T H' := fun p hp => by
  obtain ⟨ps, h1, h2, h3⟩ := t p hp
  have n1 : p.1 ∉ M := m.no h1 fun z => by rcases z with ⟨_, z⟩ | ⟨_, z⟩ <;> cases z
  refine ⟨ps, z.keep _ _ n1 h1, h2, fun pos cv hc => ?_⟩
  obtain ⟨c, e1, e2⟩ := h3 pos cv hc
  have n2 : c ∉ M := m.no e2 fun z => by rcases z with ⟨_, z⟩ | ⟨_, z⟩ <;> cases z
  exact ⟨c, e1, z.keep _ _ n2 e2⟩
/-- the calls noted down -/
def ClAt (K : PySem.W.Frag) (la : Addr) (cs : List (List V)) (H : Hp) : Prop := ∃ us : List V, H la = some (.lst us) ∧ All2 (fun u ws => ∃ t, u = V.ref t ∧ SqT K H t ws) us cs
theorem ClAt.fz {K : PySem.W.Frag} {la : Addr} {cs : List (List V)} {M : List Addr} {H H' : Hp} (h : ClAt K la cs H) (z : Fz M H H') (m : Mks M H) (n : la ∉ M) : ClAt K la cs H' := by
  obtain ⟨us, h1, h2⟩ := h
  exact ⟨us, z.keep _ _ n h1, h2.imp fun u ws ⟨t, e, q⟩ => ⟨t, e, (z.pt m).sq q⟩⟩
theorem ClAt.mks {K : PySem.W.Frag} {la : Addr} {cs : List (List V)} {H : Hp} (h : ClAt K la cs H) : Mks [la] H := fun b hb => by
  obtain ⟨us, h1, _⟩ := h
  rw [List.mem_singleton.mp hb]
  exact .inl ⟨_, h1⟩
end PM
namespace K13
open PySem PySem.Spec PyProof.Rows L2 LamX ZX PM ZR
section
variable {P : Program} {w : World} {K : PySem.W.Frag} {mg : Str → Option Value} {base : Heap}
theorem LfAt.fz {M : List Addr} {H H' : Hp} {f l c : Addr} {k : Int} {q : Str} {cl : List (Str × Addr)} (h : LfAt H f l k q cl c) (z : Fz M H H') (m : Mks M H) : LfAt H' f l k q cl c := by
  have kp : ∀ {b : Addr} {o : HO}, H b = some o → ¬ IsM (some o) → H' b = some o := fun e n => z.keep _ _ (m.no e n) e
  refine ⟨kp h.fn (fun z => by rcases z with ⟨_, z⟩ | ⟨_, z⟩ <;> cases z), kp h.code (fun z => by rcases z with ⟨_, z⟩ | ⟨_, z⟩ <;> cases z), ⟨h.cells.len, fun p hp => ?_, h.cells.inj, fun i y hi => ?_⟩, h.nf, h.nc⟩
  · obtain ⟨v, hv⟩ := h.cells.all p hp
    exact ⟨v, kp hv fun z => by rcases z with ⟨_, z⟩ | ⟨_, z⟩ <;> cases z⟩
  · obtain ⟨c1, h1, h2⟩ := h.cells.has i y hi
    exact ⟨c1, h1, fun v hv => kp (h2 v hv) fun z => by rcases z with ⟨_, z⟩ | ⟨_, z⟩ <;> cases z⟩
/-- the family of a noted function -/
def fmN (P : Program) (w : World) (K : PySem.W.Frag) (mg : Str → Option Value) (base : Heap) (T : Bi mg) (la : Addr) (k : Int) : Fam P w K mg base where
  L := List (List V)
  At := ClAt K la
  out := [la]
  lev := 1
  Ok := fun v => ∃ i, v = .int i
  call := fun _ ws l v l' => (∃ ns : List Int, ws = ns.map V.int ∧ v = .int ((ns.sum + k) % 1000003)) ∧ l' = l ++ [ws]
  sz := List.length
  szC := fun h => by
    rw [h.2, List.length_append]
    exact Nat.le_refl _
  Fn := fun _ f H => ∃ q cl c, LfAt H f la k q cl c
  ok0 := ⟨0, rfl⟩
  okI := fun i => ⟨i, rfl⟩
  atK := fun h m z n => h.fz z m (n la List.mem_cons_self)
  fnK := fun ⟨q, cl, c, h⟩ m z => ⟨q, cl, c, h.fz z m⟩
  callee := fun o f => by
    refine ⟨fun {X pins σ H s} e I ⟨q, cl, c, h⟩ => ?_, fun {X pins σ H s us vs Q} e1 e2 e3 e4 e5 I ⟨q, cl, c, h⟩ hr r sp => ?_⟩
    · obtain ⟨od, sl, doc, pm, ctv, g⟩ := NdefX.fnO_at I.hok h.fn
      exact ⟨_, _, _, _, g⟩
    · subst e1 e2 e3 e4 e5
      obtain ⟨t, ws, l, rfl, hS, h3, hok, hm, ⟨ys, hL, hA⟩, hsz, kk⟩ := sp
      have hws : ∃ ns : List Int, ws = ns.map V.int := by
        clear hS kk h3
        induction ws with
        | nil => exact ⟨[], rfl⟩
        | cons v ws ih =>
          obtain ⟨i, rfl⟩ := hok v List.mem_cons_self
          obtain ⟨ns, rfl⟩ := ih fun v hv => hok v (List.mem_cons_of_mem _ hv)
          exact ⟨i :: ns, rfl⟩
      obtain ⟨ns, rfl⟩ := hws
      have cell : ∀ b ∈ cl.map (·.2), ∃ v, H b = some (CellO b v) := fun b hb => by
        obtain ⟨p, hp, rfl⟩ := List.mem_map.mp hb
        exact h.cells.all p hp
      have nl : la ∉ cl.map (·.2) := fun hb => by
        obtain ⟨v, hv⟩ := cell _ hb
        rw [hL] at hv
        cases hv
      have hS' : SqT X.K (dropC (cl.map (·.2)) H) t (ns.map V.int) := by
        refine Pt.sq (H := H) (fun b xs hb => ?_) hS
        have nb : b ∉ cl.map (·.2) := fun hm => by
          obtain ⟨v, hv⟩ := cell b hm
          rcases hb with hb | ⟨o, hb⟩ <;> rw [hv] at hb <;> cases hb
        exact hb.elim (fun h => .inl (by rw [dropC_out nb]; exact h)) fun ⟨o, h⟩ => .inr ⟨o, by rw [dropC_out nb]; exact h⟩
      refine run_clo (ok_lf (T := T)) hr I h.fn h.code h.nf h.nc h.cells r ?_
      refine ⟨la, t, ys, k, ns, rfl, rfl, by rw [dropC_out nl]; exact hL, ?_, hS', ?_⟩
      · rw [hA.len]
        exact Nat.lt_trans hsz (by decide)
      have eH : backC (cl.map (·.2)) H (upd (dropC (cl.map (·.2)) H) la (.lst (ys ++ [.ref t]))) = upd H la (.lst (ys ++ [.ref t])) := by
        funext b
        unfold backC
        by_cases hb : b ∈ cl.map (·.2)
        · rw [if_pos hb, upd_ne (fun e => nl (by rw [← e]; exact hb))]
        · rw [if_neg hb]
          by_cases e : b = la
          · rw [e, upd_same, upd_same]
          · rw [upd_ne e, upd_ne e, dropC_out hb]
      show Q _ (backC (cl.map (·.2)) H (upd (dropC (cl.map (·.2)) H) la (.lst (ys ++ [.ref t]))))
      rw [eH]
      have m1 : Mks [la] H := hm
      have z : Fz [la] H (upd H la (.lst (ys ++ [.ref t]))) := Fz.put m1 List.mem_cons_self (.inl ⟨_, rfl⟩)
      refine kk _ (l ++ [ns.map V.int]) _ ⟨⟨ns, rfl, rfl⟩, rfl⟩ ⟨_, rfl⟩ z ⟨_, upd_same, ?_⟩
      have pt := z.pt m1
      exact All2.app (hA.imp fun u ws ⟨t, e, q⟩ => ⟨t, e, pt.sq q⟩) (.cons ⟨t, rfl, pt.sq hS⟩ .nil)
end
end K13
set_option Elab.async false
set_option linter.all false
set_option maxRecDepth 100000
set_option maxHeartbeats 4000000
/-! Run.held, worked, said. -/
namespace PM
open PySem PySem.Spec PyProof.Rows L2 ZX ZR
/-- what a run asks more of the notes' methods -/
structure NtM2 (P : Program) (w : World) (K : PySem.W.Frag) (mg : Str → Option Value) (base : Heap) (CN : Addr) : Prop where
  held : ∀ (fm : Fam P w K mg base) F ns, ns.length < 64 → MCal P w K mg base CN "held" 2 ["self", "name"] (K13.spHeld fm CN F ns)
  worked : ∀ (fm : Fam P w K mg base) F ns, ns.length < 64 → MCal P w K mg base CN "worked" 1 ["self"] (K13.spWorked fm CN F ns)
  said : ∀ (fm : Fam P w K mg base) F ns, ns.length < 64 → MCal P w K mg base CN "said" 1 ["self"] (K13.spSaid fm CN F ns)
end PM
namespace K13
open PySem PySem.Spec PyProof.Rows L2 ZX PM ZR
abbrev sRHeld : Stmt := inClass (top 48) 4
abbrev sRWorked : Stmt := inClass (top 48) 7
abbrev sRSaid : Stmt := inClass (top 48) 8
section
variable {P : Program} {w : World} {K : PySem.W.Frag} {mg : Str → Option Value} {base : Heap} {CP CN CR : Addr}
def spRHeld (P : Program) (w : World) (K : PySem.W.Frag) (mg : Str → Option Value) (base : Heap) (CP CN CR : Addr) : Sp := fun vs H Q _ => ∃ (fm : Fam P w K mg base) (F : List (Str × Addr)) (ns : List Str) (x : Addr) (A : Ad) (S : NS) (l : fm.L) (px : Addr) (b : List Rw) (wa : Addr) (way : List Nat) (y : Str), vs = [.ref x, .str y] ∧ RnAt fm CP CN CR F ns H x A S l px b wa way ∧ y ∈ (rowsB b).flatMap namesR ∧ ∀ u H', Same H H' → ThAt K H' u (heldS S y) → Q u H'
theorem scRHeld : FnScope ["self", "name"] ["self", "name"] (defScope sRHeld) := ⟨rfl, rfl, rfl, by decide +kernel, rfl, by decide +kernel, by decide +kernel⟩
theorem ok_rheld {f : Addr} {fd : FuncData} (FD : FunD K "held" "Run.held" (defArgs sRHeld) (defBody sRHeld) (defScope sRHeld) [] [] f fd) (c : RnC K CR) (M : NtM2 P w K mg base CN) (C_names : Cal P w K mg base "names" 1 ["program"] (spNames K CP)) : FnOk P w K mg base CX0 3 f fd ["self", "name"] (spRHeld P w K mg base CP CN CR) := by
  refine FD.ok scRHeld (fun vs H Q E h => ?_) (fun cdv A0 outer s H vs Q E hr h => ?_)
  · obtain ⟨fm, F, ns, x, A, S, l, px, b, wa, way, y, rfl, _⟩ := h
    rfl
  · obtain ⟨fm, F, ns, x, A, S, l, px, b, wa, way, y, rfl, R, hy, k⟩ := h
    obtain ⟨dx, hx⟩ := R.rx
    have hr1 := hr.mono (show 1 ≤ 2 by decide)
    refine ⟨_, PSs.nox (pss_cons (ps_if (pt_cmpR op_notIn_seq (pv 1) (pcal C_names hr1 rfl (pa_cons (pe_fld (pv 0) rfl) pa_nil)) (by with_unfolding_all rfl)) (pss_one ps_never) pss_nil)
    (pss_one (ps_ret (pmc (M.held fm F ns R.n63) hr (pe_fld (pv 0) rfl) (pa_cons (pv 1) pa_nil))))), ?_⟩
    refine ⟨_, rfl, _, rfl, x, CR, dx, _, _, rfl, hx, c.c, c.n_program, rfl, px, b, rfl, R.pr, fun t ys ly ht => ?_⟩
    have hin : inV (V.str y) (ys.map V.str) = true := by
      rw [inV_strs]
      exact decide_eq_true ((ly.me y).mpr hy)
    refine ⟨t, _, rfl, .inr ht, rfl, flat_strs ys, ?_⟩
    refine ⟨false, ?_, ?_⟩
    · show V.bl (!inV (V.str y) (ys.map V.str)) = _
      rw [hin]
      rfl
    · exact ⟨_, rfl, x, CR, dx, _, _, rfl, hx, c.c, c.n_notes, rfl, A.x, A.dx, _, rfl, R.nt.hx, rfl, _, rfl, A, S, l, y, rfl, R.nt, k⟩
def spRWorked (P : Program) (w : World) (K : PySem.W.Frag) (mg : Str → Option Value) (base : Heap) (CP CN CR : Addr) : Sp := fun vs H Q _ => ∃ (fm : Fam P w K mg base) (F : List (Str × Addr)) (ns : List Str) (x : Addr) (A : Ad) (S : NS) (l : fm.L) (px : Addr) (b : List Rw) (wa : Addr) (way : List Nat), vs = [.ref x] ∧ RnAt fm CP CN CR F ns H x A S l px b wa way ∧ ∀ q H', Same H H' → SqT K H' q (S.worths.map fun p => .int (p.1 : Nat)) → Q (.ref q) H'
theorem scRWorked : FnScope ["self"] ["self"] (defScope sRWorked) := ⟨rfl, rfl, rfl, by decide +kernel, rfl, by decide +kernel, by decide +kernel⟩
theorem ok_rworked {f : Addr} {fd : FuncData} (FD : FunD K "worked" "Run.worked" (defArgs sRWorked) (defBody sRWorked) (defScope sRWorked) [] [] f fd) (c : RnC K CR) (M : NtM2 P w K mg base CN) : FnOk P w K mg base CX0 2 f fd ["self"] (spRWorked P w K mg base CP CN CR) := by
  refine FD.ok scRWorked (fun vs H Q E h => ?_) (fun cdv A0 outer s H vs Q E hr h => ?_)
  · obtain ⟨fm, F, ns, x, A, S, l, px, b, wa, way, rfl, _⟩ := h
    rfl
  · obtain ⟨fm, F, ns, x, A, S, l, px, b, wa, way, rfl, R, k⟩ := h
    obtain ⟨dx, hx⟩ := R.rx
    refine ⟨_, PSs.nox (pss_one (ps_ret (pmc0 (M.worked fm F ns R.n63) hr (pe_fld (pv 0) rfl)))), ?_⟩
    exact ⟨_, rfl, x, CR, dx, _, _, rfl, hx, c.c, c.n_notes, rfl, A.x, A.dx, _, rfl, R.nt.hx, rfl, A, S, l, rfl, R.nt, k⟩
def spRSaid (P : Program) (w : World) (K : PySem.W.Frag) (mg : Str → Option Value) (base : Heap) (CP CN CR : Addr) : Sp := fun vs H Q _ => ∃ (fm : Fam P w K mg base) (F : List (Str × Addr)) (ns : List Str) (x : Addr) (A : Ad) (S : NS) (l : fm.L) (px : Addr) (b : List Rw) (wa : Addr) (way : List Nat), vs = [.ref x] ∧ RnAt fm CP CN CR F ns H x A S l px b wa way ∧ ∀ q H', Same H H' → SqT K H' q S.printed → Q (.ref q) H'
theorem scRSaid : FnScope ["self"] ["self"] (defScope sRSaid) := ⟨rfl, rfl, rfl, by decide +kernel, rfl, by decide +kernel, by decide +kernel⟩
theorem ok_rsaid {f : Addr} {fd : FuncData} (FD : FunD K "said" "Run.said" (defArgs sRSaid) (defBody sRSaid) (defScope sRSaid) [] [] f fd) (c : RnC K CR) (M : NtM2 P w K mg base CN) : FnOk P w K mg base CX0 2 f fd ["self"] (spRSaid P w K mg base CP CN CR) := by
  refine FD.ok scRSaid (fun vs H Q E h => ?_) (fun cdv A0 outer s H vs Q E hr h => ?_)
  · obtain ⟨fm, F, ns, x, A, S, l, px, b, wa, way, rfl, _⟩ := h
    rfl
  · obtain ⟨fm, F, ns, x, A, S, l, px, b, wa, way, rfl, R, k⟩ := h
    obtain ⟨dx, hx⟩ := R.rx
    refine ⟨_, PSs.nox (pss_one (ps_ret (pmc0 (M.said fm F ns R.n63) hr (pe_fld (pv 0) rfl)))), ?_⟩
    exact ⟨_, rfl, x, CR, dx, _, _, rfl, hx, c.c, c.n_notes, rfl, A.x, A.dx, _, rfl, R.nt.hx, rfl, A, S, l, rfl, R.nt, k⟩
end
end K13
set_option Elab.async false
set_option linter.all false
set_option maxRecDepth 100000
set_option maxHeartbeats 4000000
/-! The law's own account and a run's notes: the maths. -/
namespace PM
open PySem PySem.Spec PyProof.Rows L2 ZX ZR
/-- reached along things that wait -/
inductive Rch (ed : Nat → Nat → Prop) (un : Nat → Prop) : Nat → Nat → Prop
  | here {n : Nat} (h : un n) : Rch ed un n n
  | down {m p n : Nat} (hm : un m) (he : ed m p) (h : Rch ed un p n) : Rch ed un m n
section
variable {ed ed' : Nat → Nat → Prop} {un un' : Nat → Prop} {a b c : Nat}
theorem Rch.un1 (h : Rch ed un a b) : un a := by cases h <;> assumption
theorem Rch.un2 (h : Rch ed un a b) : un b := by
  induction h with
  | here h => exact h
  | down _ _ _ ih => exact ih
theorem Rch.mono (hu : ∀ n, un n → un' n) (he : ∀ m p, un m → un p → ed m p → ed' m p) (h : Rch ed un a b) : Rch ed' un' a b := by
  induction h with
  | here h => exact .here (hu _ h)
  | down hm e h ih => exact .down (hu _ hm) (he _ _ hm h.un1 e) ih
theorem Rch.trans (h : Rch ed un a b) (k : Rch ed un b c) : Rch ed un a c := by
  induction h with
  | here h => exact k
  | down hm e h ih => exact .down hm e (ih k)
/-- a closed set has all that is reached -/
theorem Rch.into {T : Nat → Prop} (cl : ∀ m p, T m → ed m p → un p → T p) (h : Rch ed un a b) : T a → T b := by
  induction h with
  | here h => exact id
  | down hm e h ih => exact fun ht => ih (cl _ _ ht e h.un1)
end
/-- the law's own account -/
structure AC where
  heads : Str → Option Nat
  parts : List (List (Option Nat))
  worked : List Nat
def AC0 : AC := ⟨fun _ => none, [], []⟩
def edA (A : AC) (m p : Nat) : Prop := ∃ ps, A.parts[m]? = some ps ∧ some p ∈ ps
def unA (A : AC) (n : Nat) : Prop := n ∉ A.worked
/-- what lies beneath a name -/
def Bn (A : AC) (x : Str) (n : Nat) : Prop := ∃ m, A.heads x = some m ∧ Rch (edA A) (unA A) m n
structure WfA (A : AC) : Prop where
  low : ∀ (k : Nat) (ps : List (Option Nat)), A.parts[k]? = some ps → ∀ n : Nat, some n ∈ ps → n < k
  hlow : ∀ x n, A.heads x = some n → n < A.parts.length
  wlow : ∀ n ∈ A.worked, n < A.parts.length
  three : ∀ ps ∈ A.parts, ps.length ≤ 3
def setO (h : Str → Option Nat) (x : Str) (o : Option Nat) : Str → Option Nat := fun y => if y = x then o else h y
theorem setO_same {h : Str → Option Nat} {x : Str} {o : Option Nat} : setO h x o x = o := by
  unfold setO
  rw [if_pos rfl]
theorem setO_ne {h : Str → Option Nat} {x y : Str} {o : Option Nat} (n : ¬ y = x) : setO h x o y = h y := by
  unfold setO
  rw [if_neg n]
inductive AcDo (A : AC) : Rw → AC → Prop
  | note {x o : Str} {ps : List Str} (h3 : ps.length ≤ 3) : AcDo A (.note x o ps) { A with heads := setO A.heads x (some A.parts.length), parts := A.parts ++ [ps.map A.heads] }
  | copy {x y : Str} : AcDo A (.copy x y) { A with heads := setO A.heads x (A.heads y) }
  | give {x : Str} {i : Int} : AcDo A (.give x i) { A with heads := setO A.heads x none }
  | ask {x : Str} {fs : List Nat} (h : ∀ n, n ∈ fs ↔ Bn A x n) : AcDo A (.ask x) { A with worked := A.worked ++ fs }
  | prt {x : Str} {fs : List Nat} (h : ∀ n, n ∈ fs ↔ Bn A x n) : AcDo A (.prt x) { A with worked := A.worked ++ fs }
  | either {a b : List Rw} : AcDo A (.either a b) A
  | again {a : List Rw} : AcDo A (.again a) A
theorem Rch.lt {A : AC} (wf : WfA A) {m n : Nat} (h : Rch (edA A) (unA A) m n) : n ≤ m := by
  induction h with
  | here _ => exact Nat.le_refl _
  | down _ e _ ih =>
    obtain ⟨ps, h1, h2⟩ := e
    exact Nat.le_of_lt (Nat.lt_of_le_of_lt ih (wf.low _ _ h1 _ h2))
theorem WfA.step {A A' : AC} {r : Rw} (wf : WfA A) (h : AcDo A r A') : WfA A' := by
  cases h with
  | note h3 =>
    rename_i x o ps
    refine ⟨fun k qs hk n hn => ?_, fun y n e => ?_, fun n hn => by show n < (A.parts ++ [_]).length; rw [List.length_append]; exact Nat.lt_of_lt_of_le (wf.wlow n hn) (Nat.le_add_right _ _), fun qs hq => (List.mem_append.mp hq).elim (wf.three qs) fun hq => by rw [List.mem_singleton.mp hq, List.length_map]; exact h3⟩
    · have hk : (A.parts ++ [ps.map A.heads])[k]? = some qs := hk
      by_cases l : k < A.parts.length
      · rw [List.getElem?_append_left l] at hk
        exact wf.low k qs hk n hn
      · rw [List.getElem?_append_right (Nat.le_of_not_lt l)] at hk
        cases ek : k - A.parts.length with
        | zero =>
          rw [ek] at hk
          cases hk
          obtain ⟨z, _, hz⟩ := List.mem_map.mp hn
          exact Nat.lt_of_lt_of_le (wf.hlow z n hz) (Nat.le_of_not_lt l)
        | succ j =>
          rw [ek] at hk
          cases hk
    · show n < (A.parts ++ [ps.map A.heads]).length
      rw [List.length_append]
      have e : setO A.heads x (some A.parts.length) y = some n := e
      by_cases h : y = x
      · rw [h, setO_same] at e
        cases e
        exact Nat.lt_succ_self _
      · rw [setO_ne h] at e
        exact Nat.lt_of_lt_of_le (wf.hlow y n e) (Nat.le_add_right _ _)
  | copy =>
    rename_i x y
    refine ⟨wf.low, fun z n e => ?_, wf.wlow, wf.three⟩
    have e : setO A.heads x (A.heads y) z = some n := e
    by_cases h : z = x
    · rw [h, setO_same] at e
      exact wf.hlow y n e
    · rw [setO_ne h] at e
      exact wf.hlow z n e
  | give =>
    rename_i x i
    refine ⟨wf.low, fun z n e => ?_, wf.wlow, wf.three⟩
    have e : setO A.heads x none z = some n := e
    by_cases h : z = x
    · rw [h, setO_same] at e
      cases e
    · rw [setO_ne h] at e
      exact wf.hlow z n e
  | ask h =>
    refine ⟨wf.low, wf.hlow, fun n hn => ?_, wf.three⟩
    rcases List.mem_append.mp hn with hn | hn
    · exact wf.wlow n hn
    · obtain ⟨m, hm, hr⟩ := (h n).mp hn
      exact Nat.lt_of_le_of_lt (hr.lt wf) (wf.hlow _ _ hm)
  | prt h =>
    refine ⟨wf.low, wf.hlow, fun n hn => ?_, wf.three⟩
    rcases List.mem_append.mp hn with hn | hn
    · exact wf.wlow n hn
    · obtain ⟨m, hm, hr⟩ := (h n).mp hn
      exact Nat.lt_of_le_of_lt (hr.lt wf) (wf.hlow _ _ hm)
  | either => exact wf
  | again => exact wf
/-! ### the run's notes -/
def edS (S : NS) (m p : Nat) : Prop := ∃ mm, S.made[m]? = some mm ∧ Th.note p ∈ mm.2
def unS (S : NS) (n : Nat) : Prop := S.worths.lookup n = none
def RT (A : AC) : Th → Option Nat → Prop
  | .note n, o => o = some n
  | .worth _, o => ∀ n, o = some n → n ∈ A.worked
def RTo (A : AC) : Option Th → Option Nat → Prop
  | some t, o => RT A t o
  | none, o => o = none
structure Sim (S : NS) (A : AC) : Prop where
  len : S.made.length = A.parts.length
  parts : ∀ (k : Nat) (m : Str × List Th), S.made[k]? = some m → ∃ ps, A.parts[k]? = some ps ∧ All2 (RT A) m.2 ps
  heads : ∀ x, RTo A (S.heads x) (A.heads x)
  worked : ∀ n, n ∈ A.worked ↔ S.worths.lookup n ≠ none
theorem sim0 : Sim NS0 AC0 := ⟨rfl, fun k m h => (by cases h), fun x => rfl, fun n => ⟨fun h => (nomatch h), fun h => absurd rfl h⟩⟩
theorem RT.mono {A A' : AC} (h : ∀ n, n ∈ A.worked → n ∈ A'.worked) {t : Th} {o : Option Nat} (r : RT A t o) : RT A' t o := by
  cases t with
  | note n => exact r
  | worth v => exact fun n e => h n (r n e)
theorem RTo.mono {A A' : AC} (h : ∀ n, n ∈ A.worked → n ∈ A'.worked) {t : Option Th} {o : Option Nat} (r : RTo A t o) : RTo A' t o := by
  cases t with
  | none => exact r
  | some t => exact RT.mono h r
theorem Sim.un {S : NS} {A : AC} (s : Sim S A) (n : Nat) : unS S n ↔ unA A n := by
  unfold unS unA
  rw [s.worked]
  cases S.worths.lookup n <;> simp
theorem Sim.ed {S : NS} {A : AC} (s : Sim S A) (m p : Nat) (hp : unS S p) : edS S m p ↔ edA A m p := by
  constructor
  · rintro ⟨mm, h1, h2⟩
    obtain ⟨ps, g1, g2⟩ := s.parts m mm h1
    obtain ⟨j, hj, ej⟩ := List.getElem_of_mem h2
    obtain ⟨o, ho, r⟩ := g2.getL (i := j) (by rw [List.getElem?_eq_getElem hj, ej])
    refine ⟨ps, g1, ?_⟩
    have : o = some p := r
    rw [← this]
    exact List.mem_of_getElem? ho
  · rintro ⟨ps, g1, g2⟩
    have hm : m < S.made.length := by
      rw [s.len]
      exact (List.getElem?_eq_some_iff.mp g1).1
    obtain ⟨ps', g1', all⟩ := s.parts m S.made[m] (List.getElem?_eq_getElem hm)
    rw [g1] at g1'
    cases g1'
    obtain ⟨j, hj, ej⟩ := List.getElem_of_mem g2
    obtain ⟨t, ht, r⟩ := all.getR (i := j) (by rw [List.getElem?_eq_getElem hj, ej])
    refine ⟨_, List.getElem?_eq_getElem hm, ?_⟩
    cases t with
    | note n =>
      have : some p = some n := r
      cases this
      exact List.mem_of_getElem? ht
    | worth v => exact absurd (r p rfl) ((s.un p).mp hp)
theorem Sim.rch {S : NS} {A : AC} (s : Sim S A) {m n : Nat} : Rch (edS S) (unS S) m n ↔ Rch (edA A) (unA A) m n :=
  ⟨Rch.mono (fun n h => (s.un n).mp h) fun m p _ hp => (s.ed m p hp).mp, Rch.mono (fun n h => (s.un n).mpr h) fun m p _ hp => (s.ed m p ((s.un p).mpr hp)).mpr⟩
theorem now_note {S : NS} {t : Th} {n : Nat} : nowS S t = .note n ↔ t = .note n ∧ unS S n := by
  cases t with
  | worth v => exact ⟨fun e => (by cases e), fun e => (by cases e.1)⟩
  | note k =>
    cases e : S.worths.lookup k with
    | none =>
      rw [nowS_none e]
      exact ⟨fun h => by cases h; exact ⟨rfl, e⟩, fun h => h.1⟩
    | some v =>
      rw [nowS_some e]
      refine ⟨fun h => (by cases h), fun h => ?_⟩
      obtain ⟨h1, h2⟩ := h
      have h3 : k = n := by injection h1
      have h2 : S.worths.lookup n = none := h2
      rw [← h3, e] at h2
      cases h2
theorem RT.now {S : NS} {A : AC} (s : Sim S A) {t : Th} {o : Option Nat} (r : RT A t o) : RT A (nowS S t) o := by
  cases t with
  | worth v => exact r
  | note k =>
    have ro : o = some k := r
    cases e : S.worths.lookup k with
    | none =>
      rw [nowS_none e]
      exact r
    | some v =>
      rw [nowS_some e]
      intro n en
      have r : o = some k := ro
      rw [r] at en
      cases en
      rw [s.worked, e]
      exact fun z => nomatch z
theorem Sim.held {S : NS} {A : AC} (s : Sim S A) (x : Str) : RT A (heldS S x) (A.heads x) := by
  refine RT.now s ?_
  have h := s.heads x
  cases e : S.heads x with
  | none =>
    rw [e] at h
    intro n en
    have h : A.heads x = none := h
    rw [h] at en
    cases en
  | some t =>
    rw [e] at h
    exact h
/-- the number a name holds, as long as it waits -/
theorem Sim.held_note {S : NS} {A : AC} (s : Sim S A) (x : Str) (n : Nat) : heldS S x = .note n ↔ A.heads x = some n ∧ unA A n := by
  constructor
  · intro e
    have h := s.held x
    rw [e] at h
    refine ⟨h, (s.un n).mp ?_⟩
    exact (now_note.mp e).2
  · rintro ⟨h1, h2⟩
    have h := s.held x
    rw [h1] at h
    cases e : heldS S x with
    | note k =>
      rw [e] at h
      have : some n = some k := h
      cases this
      rfl
    | worth v =>
      rw [e] at h
      exact absurd (h n rfl) h2
def keysOf (fr : List (Nat × V)) : List Nat := fr.map (·.1)
def Clo (S : NS) (T : Nat → Prop) : Prop := ∀ m p, T m → edS S m p → unS S p → T p
section
variable {P : Program} {w : World} {K : PySem.W.Frag} {mg : Str → Option Value} {base : Heap} {fm : Fam P w K mg base} {S S' : NS} {l l' : fm.L} {A A' : AC} {F : List (Str × Addr)} {ns : List Str}
theorem Wo.keys {ah : List Nat} {fr fr' : List (Nat × V)} (h : Wo fm S ah fr l fr' l') : (∀ a ∈ ah, unS S a) → (∀ k ∈ keysOf fr, k ∈ keysOf fr') ∧ (∀ a ∈ ah, a ∈ keysOf fr') ∧ (Clo S (· ∈ keysOf fr) → Clo S (· ∈ keysOf fr')) ∧ ∀ k ∈ keysOf fr', k ∈ keysOf fr ∨ ∃ a ∈ ah, Rch (edS S) (unS S) a k := by
  induction h with
  | done => exact fun _ => ⟨fun _ h => h, fun _ h => (nomatch h), id, fun _ h => .inl h⟩
  | @push k b ah bs fr fr' l l' m hk ho h ih =>
    intro hu
    have hb := mem_open.mp (show b ∈ openS S fr m.2 by rw [ho]; exact List.mem_cons_self)
    obtain ⟨i1, i2, i3, i4⟩ := ih (fun a ha => by
      rcases List.mem_cons.mp ha with rfl | ha
      · exact hb.2.1
      · exact hu a ha)
    refine ⟨i1, fun a ha => i2 a (List.mem_cons_of_mem _ ha), i3, fun j hj => ?_⟩
    rcases i4 j hj with h | ⟨a, ha, hr⟩
    · exact .inl h
    · rcases List.mem_cons.mp ha with rfl | ha
      · exact .inr ⟨k, List.mem_cons_self, .down (hu k List.mem_cons_self) ⟨m, hk, hb.1⟩ hr⟩
      · exact .inr ⟨a, ha, hr⟩
  | @call k ah fr fr' l l1 l' m v hk ho hc h ih =>
    intro hu
    obtain ⟨i1, i2, i3, i4⟩ := ih (fun a ha => hu a (List.mem_cons_of_mem _ ha))
    have ek : keysOf (fr ++ [(k, v)]) = keysOf fr ++ [k] := by
      unfold keysOf
      rw [List.map_append]
      rfl
    rw [ek] at i1 i3 i4
    refine ⟨fun j hj => i1 j (List.mem_append_left _ hj), fun a ha => ?_, fun hcl => i3 fun m' p hm' he hp => ?_, fun j hj => ?_⟩
    · rcases List.mem_cons.mp ha with rfl | ha
      · exact i1 a (List.mem_append_right _ List.mem_cons_self)
      · exact i2 a ha
    · rcases List.mem_append.mp hm' with h1 | h1
      · exact List.mem_append_left _ (hcl m' p h1 he hp)
      · rw [List.mem_singleton.mp h1] at he
        obtain ⟨mm, g1, g2⟩ := he
        rw [hk] at g1
        cases g1
        refine List.mem_append_left _ ?_
        cases e : fr.lookup p with
        | some u => exact List.mem_map.mpr ⟨(p, u), look_mem e, rfl⟩
        | none =>
          have : p ∈ openS S fr m.2 := mem_open.mpr ⟨g2, hp, e⟩
          rw [ho] at this
          cases this
    · rcases i4 j hj with h1 | ⟨a, ha, hr⟩
      · rcases List.mem_append.mp h1 with h1 | h1
        · exact .inl h1
        · rw [List.mem_singleton.mp h1]
          exact .inr ⟨k, List.mem_cons_self, .here (hu k List.mem_cons_self)⟩
      · exact .inr ⟨a, List.mem_cons_of_mem _ ha, hr⟩
/-- what is worked out freshly is what lies beneath -/
theorem Wo.beneath {x : Str} {fr : List (Nat × V)} (s : Sim S A) (h : Wo fm S (openS S [] [heldS S x]) [] l fr l') (n : Nat) : n ∈ keysOf fr ↔ Bn A x n := by
  have hu : ∀ a ∈ openS S [] [heldS S x], unS S a := fun a ha => (mem_open.mp ha).2.1
  obtain ⟨_, i2, i3, i4⟩ := h.keys hu
  constructor
  · intro hn
    rcases i4 n hn with h1 | ⟨a, ha, hr⟩
    · cases h1
    · have e := List.mem_singleton.mp (mem_open.mp ha).1
      exact ⟨a, ((s.held_note x a).mp e.symm).1, s.rch.mp hr⟩
  · rintro ⟨m, hm, hr⟩
    have e := (s.held_note x m).mpr ⟨hm, hr.un1⟩
    have hin : m ∈ openS S [] [heldS S x] := mem_open.mpr ⟨by rw [e]; exact List.mem_cons_self, (s.un m).mpr hr.un1, rfl⟩
    exact (s.rch.mpr hr).into (T := (· ∈ keysOf fr)) (i3 fun _ _ h => (nomatch h)) (i2 m hin)
theorem look_app {fr gr : List (Nat × V)} (n : Nat) : (fr ++ gr).lookup n = none ↔ fr.lookup n = none ∧ n ∉ keysOf gr := by
  rw [look_none, look_none, List.map_append, List.mem_append, not_or]
  exact Iff.rfl
theorem Sim.more {fr : List (Nat × V)} {fs : List Nat} (s : Sim S A) (h : ∀ n, n ∈ keysOf fr ↔ n ∈ fs) : Sim { S with worths := S.worths ++ fr } { A with worked := A.worked ++ fs } := by
  have mono : ∀ n, n ∈ A.worked → n ∈ A.worked ++ fs := fun n h => List.mem_append_left _ h
  refine ⟨s.len, fun k m hk => ?_, fun x => RTo.mono (A := A) (A' := { A with worked := A.worked ++ fs }) mono (s.heads x), fun n => ?_⟩
  · obtain ⟨ps, g1, g2⟩ := s.parts k m hk
    exact ⟨ps, g1, g2.imp fun _ _ r => RT.mono (A := A) (A' := { A with worked := A.worked ++ fs }) mono r⟩
  · show n ∈ A.worked ++ fs ↔ (S.worths ++ fr).lookup n ≠ none
    rw [List.mem_append, ← h n, s.worked]
    show ¬ S.worths.lookup n = none ∨ n ∈ keysOf fr ↔ ¬ (S.worths ++ fr).lookup n = none
    rw [look_app]
    constructor
    · rintro (h1 | h1) ⟨z1, z2⟩
      · exact h1 z1
      · exact z2 h1
    · intro h1
      by_cases h2 : S.worths.lookup n = none
      · right
        exact Decidable.byContradiction fun h3 => h1 ⟨h2, h3⟩
      · exact .inl h2
theorem Sim.setH {x : Str} {t : Th} {o : Option Nat} (s : Sim S A) (r : RT A t o) : Sim { S with heads := PM.setH S.heads x t } { A with heads := setO A.heads x o } := by
  refine ⟨s.len, s.parts, fun y => ?_, s.worked⟩
  show RTo A (PM.setH S.heads x t y) (setO A.heads x o y)
  by_cases e : y = x
  · rw [e, setO_same]
    unfold PM.setH
    rw [if_pos rfl]
    exact r
  · rw [setO_ne e]
    unfold PM.setH
    rw [if_neg e]
    exact s.heads y
theorem all2_maps {α β γ : Type} {R : β → γ → Prop} {f : α → β} {g : α → γ} (h : ∀ a, R (f a) (g a)) : ∀ as : List α, All2 R (as.map f) (as.map g)
  | [] => .nil
  | a :: as => .cons (h a) (all2_maps h as)
/-- a row, in both -/
theorem Sim.step {r : Rw} {m : List Mark} (s : Sim S A) (h : DoS fm S l r S' l') (k : AcDo A r A') : Sim { S' with trail := m } A' := by
  have key : Sim S' A' := by
    cases h with
    | note =>
      rename_i x o ps
      cases k
      have s1 : Sim { S with made := S.made ++ [(o, ps.map (heldS S))] } { A with parts := A.parts ++ [ps.map A.heads] } := by
        refine ⟨?_, fun k m hk => ?_, s.heads, s.worked⟩
        · show (S.made ++ [_]).length = (A.parts ++ [_]).length
          rw [List.length_append, List.length_append, s.len]
          rfl
        · have hk : (S.made ++ [(o, ps.map (heldS S))])[k]? = some m := hk
          by_cases e : k < S.made.length
          · rw [List.getElem?_append_left e] at hk
            obtain ⟨qs, g1, g2⟩ := s.parts k m hk
            refine ⟨qs, ?_, g2⟩
            show (A.parts ++ [ps.map A.heads])[k]? = some qs
            rw [List.getElem?_append_left (by rw [← s.len]; exact e)]
            exact g1
          · rw [List.getElem?_append_right (Nat.le_of_not_lt e)] at hk
            cases ek : k - S.made.length with
            | zero =>
              rw [ek] at hk
              cases hk
              refine ⟨ps.map A.heads, ?_, all2_maps (fun a => s.held a) ps⟩
              show (A.parts ++ [ps.map A.heads])[k]? = some _
              rw [List.getElem?_append_right (by rw [← s.len]; exact Nat.le_of_not_lt e), ← s.len, ek]
              rfl
            | succ j =>
              rw [ek] at hk
              cases hk
      have := s1.setH (x := x) (t := .note S.made.length) (o := some A.parts.length) (show some A.parts.length = some S.made.length by rw [s.len])
      exact this
    | copy =>
      cases k
      exact s.setH (s.held _)
    | give =>
      cases k
      exact s.setH (fun n e => by cases e)
    | ask hw hf =>
      cases k with
      | ask hb => exact s.more fun n => (hw.beneath s n).trans (hb n).symm
    | prt hw hf =>
      cases k with
      | prt hb =>
        have := s.more fun n => (hw.beneath s n).trans (hb n).symm
        exact ⟨this.len, this.parts, this.heads, this.worked⟩
    | either =>
      cases k
      exact s
    | again =>
      cases k
      exact s
  exact ⟨key.len, key.parts, key.heads, key.worked⟩
end
/-! ### what waits -/
theorem Me.keys {S : NS} {st : List Th} {ms r : List Nat} (h : Me S st ms r) : (∀ k ∈ ms, k ∈ r) ∧ (∀ t ∈ st, ∀ n, nowS S t = .note n → n ∈ r) ∧ ((∀ k ∈ ms, ∀ p, edS S k p → unS S p → p ∈ ms ∨ Th.note p ∈ st) → ∀ k ∈ r, ∀ p, edS S k p → unS S p → p ∈ r) ∧ ∀ k ∈ r, k ∈ ms ∨ ∃ t ∈ st, ∃ n, nowS S t = .note n ∧ Rch (edS S) (unS S) n k := by
  induction h with
  | done => exact ⟨fun _ h => h, fun _ h => (nomatch h), fun h k hk p e u => (h k hk p e u).elim id fun h => (nomatch h), fun _ h => .inl h⟩
  | @skip t st ms r hn h ih =>
    obtain ⟨i1, i2, i3, i4⟩ := ih
    refine ⟨i1, fun t2 ht n e => ?_, fun hc => i3 fun k hk p e u => ?_, fun k hk => ?_⟩
    · rcases List.mem_cons.mp ht with rfl | ht
      · exact i1 n (hn n e)
      · exact i2 t2 ht n e
    · rcases hc k hk p e u with h1 | h1
      · exact .inl h1
      · rcases List.mem_cons.mp h1 with h1 | h1
        · exact .inl (hn p (now_note.mpr ⟨h1.symm, u⟩))
        · exact .inr h1
    · rcases i4 k hk with h1 | ⟨t2, ht, n, e, hr⟩
      · exact .inl h1
      · exact .inr ⟨t2, List.mem_cons_of_mem _ ht, n, e, hr⟩
  | @meet t st ms r n m hn hm hk h ih =>
    obtain ⟨i1, i2, i3, i4⟩ := ih
    have hnn := now_note.mp hn
    have hnr : n ∈ r := i1 n (List.mem_append_right _ List.mem_cons_self)
    refine ⟨fun k hk => i1 k (List.mem_append_left _ hk), fun t2 ht j e => ?_, fun hc => i3 fun k hkm p e u => ?_, fun k hkr => ?_⟩
    · rcases List.mem_cons.mp ht with rfl | ht
      · rw [hn] at e
        cases e
        exact hnr
      · exact i2 t2 (List.mem_append_right _ ht) j e
    · rcases List.mem_append.mp hkm with h1 | h1
      · rcases hc k h1 p e u with h2 | h2
        · exact .inl (List.mem_append_left _ h2)
        · rcases List.mem_cons.mp h2 with h2 | h2
          · rw [← h2] at hnn
            have : p = n := by injection hnn.1
            rw [this]
            exact .inl (List.mem_append_right _ List.mem_cons_self)
          · exact .inr (List.mem_append_right _ h2)
      · rw [List.mem_singleton.mp h1] at e
        obtain ⟨mm, g1, g2⟩ := e
        rw [hk] at g1
        cases g1
        exact .inr (List.mem_append_left _ g2)
    · rcases i4 k hkr with h1 | ⟨t2, ht, j, e, hr⟩
      · rcases List.mem_append.mp h1 with h1 | h1
        · exact .inl h1
        · rw [List.mem_singleton.mp h1]
          exact .inr ⟨t, List.mem_cons_self, n, hn, .here hnn.2⟩
      · rcases List.mem_append.mp ht with h1 | h1
        · have h2 := now_note.mp e
          exact .inr ⟨t, List.mem_cons_self, n, hn, .down hnn.2 ⟨m, hk, by rw [← h2.1]; exact h1⟩ hr⟩
        · exact .inr ⟨t2, List.mem_cons_of_mem _ h1, j, e, hr⟩
theorem MetS.mem {S : NS} {A : AC} {ms : List Nat} (s : Sim S A) (h : MetS S ms) (n : Nat) : n ∈ ms ↔ ∃ x, Bn A x n := by
  obtain ⟨ys, ts, h1, h2, h3, h4, h5⟩ := h
  obtain ⟨i1, i2, i3, i4⟩ := h5.keys
  constructor
  · intro hn
    rcases i4 n hn with h | ⟨t, ht, m, e, hr⟩
    · cases h
    · obtain ⟨x, hx, ex⟩ := All2.mem2 h4 ht
      have h6 := now_note.mp e
      have h7 := s.heads x
      rw [ex, h6.1] at h7
      exact ⟨x, m, h7, s.rch.mp hr⟩
  · rintro ⟨x, m, hm, hr⟩
    have hu := hr.un1
    have h6 := (s.held_note x m).mpr ⟨hm, hu⟩
    have hr' := s.rch.mpr hr
    refine hr'.into (T := (· ∈ ms)) (fun k p hk e u => i3 (fun _ h => nomatch h) k hk p e u) ?_
    cases ex : S.heads x with
    | none =>
      have := s.heads x
      rw [ex] at this
      have this : A.heads x = none := this
      rw [hm] at this
      cases this
    | some t =>
      have hxy : x ∈ ys := (h3 x).mpr (by rw [ex]; exact fun z => nomatch z)
      obtain ⟨j, hj, ej⟩ := List.getElem_of_mem hxy
      obtain ⟨t2, ht2, e2⟩ := h4.getL (i := j) (by rw [List.getElem?_eq_getElem hj, ej])
      rw [ex] at e2
      cases e2
      refine i2 t (List.mem_of_getElem? ht2) m ?_
      have h8 : nowS S ((S.heads x).getD (.worth (.int 0))) = .note m := h6
      rw [ex] at h8
      exact h8
end PM
set_option Elab.async false
set_option linter.all false
set_option maxRecDepth 100000
set_option maxHeartbeats 4000000
/-! What working out does where each note has the one ahead among its parts. -/
namespace PM
open PySem PySem.Spec PyProof.Rows L2 ZX ZR
def segL (wq : Nat → Int) (a n : Nat) : List (Nat × V) := (List.range' a n).map fun i => (i, V.int (wq i))
def seg (wq : Nat → Int) (a b : Nat) : List (Nat × V) := segL wq a (b - a)
theorem look_segL (wq : Nat → Int) (m : Nat) : ∀ (n a : Nat), (segL wq a n).lookup m = if a ≤ m ∧ m < a + n then some (V.int (wq m)) else none
  | 0, a => by
    rw [if_neg (by omega)]
    rfl
  | n + 1, a => by
    unfold segL
    rw [List.range'_succ, List.map_cons, List.lookup_cons]
    by_cases e : m = a
    · subst e
      rw [beq_self_eq_true, if_pos (by omega)]
    · rw [beq_eq_false_iff_ne.mpr e]
      show (segL wq (a + 1) n).lookup m = _
      rw [look_segL wq m n (a + 1)]
      by_cases h : a ≤ m ∧ m < a + (n + 1)
      · rw [if_pos h, if_pos (by omega)]
      · rw [if_neg h, if_neg (by omega)]
theorem look_seg {wq : Nat → Int} {a b m : Nat} (h : a ≤ b) : (seg wq a b).lookup m = if a ≤ m ∧ m < b then some (V.int (wq m)) else none := by
  unfold seg
  rw [look_segL, show a + (b - a) = b by omega]
theorem seg_nil {wq : Nat → Int} (a : Nat) : seg wq a a = [] := by
  unfold seg segL
  rw [Nat.sub_self]
  rfl
theorem seg_snoc {wq : Nat → Int} {a b : Nat} (h : a ≤ b) : seg wq a b ++ [(b, V.int (wq b))] = seg wq a (b + 1) := by
  unfold seg segL
  rw [show b + 1 - a = (b - a) + 1 by omega, List.range'_concat, List.map_append, show a + 1 * (b - a) = b by omega]
  rfl
theorem seg_app {wq : Nat → Int} {a b c : Nat} (h1 : a ≤ b) (h2 : b ≤ c) : seg wq a b ++ seg wq b c = seg wq a c := by
  unfold seg segL
  rw [← List.map_append, show c - a = (b - a) + (c - b) by omega, ← List.range'_append_1, show a + (b - a) = b by omega]
theorem seg_len {wq : Nat → Int} (a b : Nat) : (seg wq a b).length = b - a := by
  unfold seg segL
  rw [List.length_map, List.length_range']
def rowV (ns : List Int) : List V := ns.map V.int
def clls (row : Nat → List Int) (a b : Nat) : List (List V) := (List.range' a (b - a)).map fun i => rowV (row i)
theorem clls_nil {row : Nat → List Int} (a : Nat) : clls row a a = [] := by
  unfold clls
  rw [Nat.sub_self]
  rfl
theorem clls_snoc {row : Nat → List Int} {a b : Nat} (h : a ≤ b) : clls row a b ++ [rowV (row b)] = clls row a (b + 1) := by
  unfold clls
  rw [show b + 1 - a = (b - a) + 1 by omega, List.range'_concat, List.map_append, show a + 1 * (b - a) = b by omega]
  rfl
theorem clls_app {row : Nat → List Int} {a b c : Nat} (h1 : a ≤ b) (h2 : b ≤ c) : clls row a b ++ clls row b c = clls row a c := by
  unfold clls
  rw [← List.map_append, show c - a = (b - a) + (c - b) by omega, ← List.range'_append_1, show a + (b - a) = b by omega]
def valT (wq : Nat → Int) : Th → V
  | .note n => .int (wq n)
  | .worth v => v
theorem rowV_inj {a b : List Int} (h : rowV a = rowV b) : a = b := by
  unfold rowV at h
  induction a generalizing b with
  | nil => cases b with
    | nil => rfl
    | cons y b => cases h
  | cons x a ih => cases b with
    | nil => cases h
    | cons y b =>
      rw [List.map_cons, List.map_cons] at h
      injection h with h1 h2
      rw [ih h2]
      injection h1 with h1
      rw [h1]
theorem Wo.inv_nil {P : Program} {w : World} {K : PySem.W.Frag} {mg : Str → Option Value} {base : Heap} {fm : Fam P w K mg base} {S : NS} {fr fr' : List (Nat × V)} {l l' : fm.L} (h : Wo fm S [] fr l fr' l') : fr' = fr ∧ l' = l := by
  cases h
  exact ⟨rfl, rfl⟩
theorem Wo.inv {P : Program} {w : World} {K : PySem.W.Frag} {mg : Str → Option Value} {base : Heap} {fm : Fam P w K mg base} {S : NS} {t : Nat} {ah : List Nat} {fr fr' : List (Nat × V)} {l l' : fm.L} {m : Str × List Th} (hk : S.made[t]? = some m) (h : Wo fm S (t :: ah) fr l fr' l') :
    (∃ b bs, openS S fr m.2 = b :: bs ∧ Wo fm S (b :: t :: ah) fr l fr' l') ∨ ∃ v l1, openS S fr m.2 = [] ∧ fm.call m.1 (m.2.map (worthS S fr)) l v l1 ∧ Wo fm S ah (fr ++ [(t, v)]) l1 fr' l' := by
  cases h with
  | push hk' ho h' =>
    rw [hk] at hk'
    cases hk'
    exact .inl ⟨_, _, ho, h'⟩
  | call hk' ho hc h' =>
    rw [hk] at hk'
    cases hk'
    exact .inr ⟨_, _, ho, hc, h'⟩
section
variable {S : NS} {wq : Nat → Int} {j0 j : Nat}
theorem open_seg (hw : S.worths = seg wq 0 j0) (h : j0 ≤ j) (n : Nat) : isOpen S (seg wq j0 j) (.note n) = decide (j ≤ n) := by
  show ((S.worths.lookup n).isNone && ((seg wq j0 j).lookup n).isNone) = _
  rw [hw, look_seg (Nat.zero_le _), look_seg h]
  by_cases h1 : n < j0
  · rw [if_pos (by omega), decide_eq_false (by omega)]
    rfl
  · rw [if_neg (by omega)]
    by_cases h2 : n < j
    · rw [if_pos (by omega), decide_eq_false (by omega)]
      rfl
    · rw [if_neg (by omega), decide_eq_true (by omega)]
      rfl
theorem worth_seg (hw : S.worths = seg wq 0 j0) (h : j0 ≤ j) {n : Nat} (hn : n < j) : worthS S (seg wq j0 j) (.note n) = .int (wq n) := by
  show (match (seg wq j0 j).lookup n with
    | some v => v
    | none => match S.worths.lookup n with
      | some v => v
      | none => .int n) = _
  rw [hw, look_seg (Nat.zero_le _), look_seg h]
  by_cases h1 : n < j0
  · rw [if_neg (by omega), if_pos (by omega)]
  · rw [if_pos (by omega)]
theorem vals_seg (hw : S.worths = seg wq 0 j0) (h : j0 ≤ j) {ts : List Th} (hn : ∀ m, Th.note m ∈ ts → m < j) : ts.map (worthS S (seg wq j0 j)) = ts.map (valT wq) := by
  refine List.map_congr_left fun t ht => ?_
  cases t with
  | worth v => rfl
  | note n => exact worth_seg hw h (hn n ht)
theorem opens_seg (hw : S.worths = seg wq 0 j0) (h : j0 ≤ j) {ts : List Th} {n : Nat} : n ∈ openS S (seg wq j0 j) ts ↔ Th.note n ∈ ts ∧ j ≤ n := by
  unfold openS
  rw [List.mem_map]
  constructor
  · rintro ⟨t, ht, e⟩
    obtain ⟨h1, h2⟩ := List.mem_filter.mp ht
    cases t with
    | worth v => cases h2
    | note m =>
      obtain rfl : m = n := e
      rw [open_seg hw h] at h2
      exact ⟨h1, of_decide_eq_true h2⟩
  · rintro ⟨h1, h2⟩
    exact ⟨.note n, List.mem_filter.mpr ⟨h1, by rw [open_seg hw h, decide_eq_true h2]⟩, rfl⟩
end
end PM
namespace K13
open PySem PySem.Spec PyProof.Rows L2 LamX ZX PM ZR
section
variable {P : Program} {w : World} {K : PySem.W.Frag} {mg : Str → Option Value} {base : Heap} {T : Bi mg} {la : Addr} {k : Int} {S : NS} {wq : Nat → Int} {row : Nat → List Int} {j0 : Nat}
abbrev FM (P : Program) (w : World) (K : PySem.W.Frag) (mg : Str → Option Value) (base : Heap) (T : Bi mg) (la : Addr) (k : Int) : Fam P w K mg base := fmN P w K mg base T la k
/-- one note, those beneath being worked out as they should -/
theorem stepWo (hw : S.worths = seg wq 0 j0) {t M e : Nat} {o : Str} {ts : List Th} (hk : S.made[t]? = some (o, ts)) (hM : ∀ m, Th.note m ∈ ts → m < M)
    (IH : ∀ b, b < M → ∀ (j : Nat) (ah : List Nat) (fr' : List (Nat × V)) (l l' : List (List V)), j0 ≤ j → j ≤ b → Wo (FM P w K mg base T la k) S (b :: ah) (seg wq j0 j) l fr' l' → Wo (FM P w K mg base T la k) S ah (seg wq j0 (b + 1)) (l ++ clls row j (b + 1)) fr' l')
    (he2 : ∀ m, Th.note m ∈ ts → m + 1 ≤ e) {ah : List Nat} {fr' : List (Nat × V)} {l' : List (List V)} : ∀ (d j : Nat) (l : List (List V)), M - j ≤ d → j0 ≤ j → j ≤ e → (e = j ∨ ∃ m, e = m + 1 ∧ Th.note m ∈ ts) → Wo (FM P w K mg base T la k) S (t :: ah) (seg wq j0 j) l fr' l' →
      ∃ ns, ts.map (valT wq) = rowV ns ∧ Wo (FM P w K mg base T la k) S ah (seg wq j0 e ++ [(t, .int ((ns.sum + k) % 1000003))]) (l ++ clls row j e ++ [rowV ns]) fr' l'
  | d, j, l, hd, hj, he, he3, h => by
    rcases Wo.inv hk h with ⟨b, bs, ho, h'⟩ | ⟨v, l1, ho, hc, h'⟩
    · obtain ⟨h1, h2⟩ := (opens_seg hw hj).mp (show b ∈ openS S (seg wq j0 j) ts by rw [ho]; exact List.mem_cons_self)
      have h3 := hM b h1
      have h4 := he2 b h1
      have h5 := IH b h3 j _ _ _ _ hj h2 h'
      match d, hd with
      | 0, hd => omega
      | d + 1, hd =>
        obtain ⟨ns, e1, e2⟩ := stepWo hw hk hM IH he2 d (b + 1) _ (by omega) (by omega) h4 (.inr (he3.resolve_left (by omega))) h5
        refine ⟨ns, e1, ?_⟩
        rw [List.append_assoc l, clls_app (by omega) h4] at e2
        exact e2
    · have hall : ∀ m, Th.note m ∈ ts → m < j := fun m hm => Nat.lt_of_not_le fun hle => by
        have := (opens_seg hw hj).mpr ⟨hm, hle⟩
        rw [ho] at this
        cases this
      have ej : e = j := by
        rcases he3 with h | ⟨m, h, hm⟩
        · exact h
        · have := hall m hm
          omega
      subst ej
      obtain ⟨⟨ns, e1, e2⟩, e3⟩ := (show (∃ ns : List Int, ts.map (worthS S (seg wq j0 e)) = ns.map V.int ∧ v = .int ((ns.sum + k) % 1000003)) ∧ l1 = l ++ [ts.map (worthS S (seg wq j0 e))] from hc)
      subst e2
      subst e3
      rw [e1] at h'
      rw [vals_seg hw hj hall] at e1
      refine ⟨ns, e1, ?_⟩
      rw [clls_nil, List.append_nil]
      exact h'
  termination_by d => d
/-- each note has the one ahead among its parts -/
structure Chain (S : NS) (wq : Nat → Int) (row : Nat → List Int) (k : Int) (mx j0 : Nat) : Prop where
  known : S.worths = seg wq 0 j0
  made : ∀ n, n < mx → ∃ o ts, S.made[n]? = some (o, ts) ∧ (∀ m, Th.note m ∈ ts → m < n) ∧ (0 < n → Th.note (n - 1) ∈ ts) ∧ ts.map (valT wq) = rowV (row n)
  worth : ∀ n, n < mx → wq n = ((row n).sum + k) % 1000003
theorem chainWo {mx : Nat} (c : Chain S wq row k mx j0) : ∀ b, b < mx → ∀ (j : Nat) (ah : List Nat) (fr' : List (Nat × V)) (l l' : List (List V)), j0 ≤ j → j ≤ b → Wo (FM P w K mg base T la k) S (b :: ah) (seg wq j0 j) l fr' l' → Wo (FM P w K mg base T la k) S ah (seg wq j0 (b + 1)) (l ++ clls row j (b + 1)) fr' l' := by
  intro b
  induction b using Nat.strongRecOn with
  | ind b ih =>
    intro hb j ah fr' l l' h1 h2 h
    obtain ⟨o, ts, m1, m2, m3, m4⟩ := c.made b hb
    obtain ⟨ns, e1, e2⟩ := stepWo (M := b) (e := b) c.known m1 m2 (fun a ha => ih a ha (Nat.lt_trans ha hb)) (fun m hm => m2 m hm) (b - j) j l (Nat.le_refl _) h1 h2 (by
      by_cases e : b = j
      · exact .inl e
      · exact .inr ⟨b - 1, by omega, m3 (by omega)⟩) h
    obtain rfl := rowV_inj (m4.symm.trans e1)
    rw [← c.worth b hb, seg_snoc (by omega), List.append_assoc, clls_snoc h2] at e2
    exact e2
/-- the whole of a working out -/
theorem workWo {mx b : Nat} (c : Chain S wq row k mx j0) (hb : b < mx) (hj : j0 ≤ b) {x : Str} (hx : heldS S x = .note b) {fr : List (Nat × V)} {l l' : List (List V)} (h : Wo (FM P w K mg base T la k) S (openS S [] [heldS S x]) [] l fr l') : fr = seg wq j0 (b + 1) ∧ l' = l ++ clls row j0 (b + 1) := by
  have e : openS S [] [heldS S x] = [b] := by
    rw [hx]
    have : isOpen S [] (.note b) = true := by
      have := open_seg (wq := wq) (j := j0) c.known (Nat.le_refl _) b
      rw [seg_nil, decide_eq_true hj] at this
      exact this
    unfold openS
    rw [List.filter_cons, if_pos this]
    rfl
  rw [e] at h
  have h' := chainWo c b hb j0 [] fr l l' (Nat.le_refl _) hj (by rw [seg_nil]; exact h)
  exact h'.inv_nil
theorem noWo {x : Str} {v : V} (hx : heldS S x = .worth v) {fr : List (Nat × V)} {l l' : List (List V)} (h : Wo (FM P w K mg base T la k) S (openS S [] [heldS S x]) [] l fr l') : fr = [] ∧ l' = l := by
  rw [hx] at h
  exact h.inv_nil
/-- a row of a run -/
theorem run_inv {fm : Fam P w K mg base} {b : List Rw} {S S2 : NS} {l l2 : fm.L} {p n : Nat} {rest : List Nat} {r : Rw} (hr : (rowsB b)[p]? = some r) (h : RunS fm b S l p (n :: rest) S2 l2) : ∃ S1 l1, DoS fm S l r S1 l1 ∧ RunS fm b { S1 with trail := S.trail ++ [markS S r] } l1 n rest S2 l2 := by
  cases h with
  | step hl hn hr' hd h =>
    rw [hr] at hr'
    cases hr'
    exact ⟨_, _, hd, h⟩
theorem run_nil {fm : Fam P w K mg base} {b : List Rw} {S S2 : NS} {l l2 : fm.L} {p : Nat} (h : RunS fm b S l p [] S2 l2) : S2 = S ∧ l2 = l := by
  cases h
  exact ⟨rfl, rfl⟩
theorem run_trail {fm : Fam P w K mg base} {b : List Rw} {S S2 : NS} {l l2 : fm.L} {p : Nat} {rest : List Nat} (h : RunS fm b S l p rest S2 l2) : S2.trail.length = S.trail.length + rest.length := by
  induction h with
  | done => rfl
  | step _ _ _ _ _ ih =>
    rw [ih]
    show (_ ++ [_]).length + _ = _
    rw [List.length_append, List.length_singleton, List.length_cons]
    omega
/-- all notes wait -/
theorem wait_all {r : Nat} {wq : Nat → Int} {row : Nat → List Int} {k : Int} (c : Chain S wq row k r 0) {x : Str} (hr : 0 < r) (hx : S.heads x = some (.note (r - 1))) (hl : S.made.length = r) {ms : List Nat} {is : List Int} (h : MetS S ms) (nd : ms.Nodup) (lt : ∀ n ∈ ms, n < S.made.length)
    (hp : is.Perm (ms.map fun (n : Nat) => (n : Int))) (ho : is.Pairwise (· ≤ ·)) : is = (List.range r).map fun (n : Nat) => (n : Int) := by
  have un : ∀ n, unS S n := fun n => by
    show S.worths.lookup n = none
    rw [c.known, seg_nil]
    rfl
  obtain ⟨ys, ts, h1, h2, h3, h4, h5⟩ := h
  obtain ⟨i1, i2, i3, i4⟩ := h5.keys
  have top : r - 1 ∈ ms := by
    have hxy : x ∈ ys := (h3 x).mpr (by rw [hx]; exact fun z => nomatch z)
    obtain ⟨i, hi⟩ := List.mem_iff_getElem?.mp hxy
    obtain ⟨t, ht, e⟩ := h4.getL hi
    rw [hx] at e
    cases e
    exact i2 _ (List.mem_of_getElem? ht) _ (nowS_none (un _))
  have dn : ∀ d n, n + d = r - 1 → n ∈ ms := by
    intro d
    induction d with
    | zero =>
      intro n e
      rw [Nat.add_zero] at e
      rw [e]
      exact top
    | succ d ih =>
      intro n e
      have hm := ih (n + 1) (by omega)
      obtain ⟨o, ts', m1, _, m3, _⟩ := c.made (n + 1) (by omega)
      exact i3 (fun _ h => nomatch h) (n + 1) hm n ⟨_, m1, m3 (Nat.succ_pos n)⟩ (un n)
  have hperm : ms.Perm (List.range r) := (List.perm_ext_iff_of_nodup nd List.nodup_range).mpr fun n => by
    rw [List.mem_range]
    exact ⟨fun h => by rw [← hl]; exact lt n h, fun h => dn (r - 1 - n) n (by omega)⟩
  refine List.Perm.eq_of_pairwise (fun _ _ _ _ => Int.le_antisymm) ho ?_ (hp.trans (hperm.map _))
  refine List.pairwise_map.mpr (List.pairwise_lt_range.imp fun h => ?_)
  omega
/-- no note waits -/
theorem wait_none {wq : Nat → Int} (hw : S.worths = seg wq 0 S.made.length) {ms : List Nat} {is : List Int} (h : MetS S ms) (lt : ∀ n ∈ ms, n < S.made.length) (hp : is.Perm (ms.map fun (n : Nat) => (n : Int))) : is = [] := by
  obtain ⟨ys, ts, h1, h2, h3, h4, h5⟩ := h
  obtain ⟨i1, i2, i3, i4⟩ := h5.keys
  have : ms = [] := by
    cases ms with
    | nil => rfl
    | cons n ms =>
      rcases i4 n List.mem_cons_self with h | ⟨t, ht, m, e, hr⟩
      · cases h
      · have hu : S.worths.lookup n = none := hr.un2
        have := lt n List.mem_cons_self
        rw [hw, look_seg (Nat.zero_le _), if_pos ⟨Nat.zero_le _, this⟩] at hu
        cases hu
  rw [this] at hp
  exact hp.eq_nil
end
end K13
set_option Elab.async false
set_option linter.all false
set_option maxRecDepth 100000
set_option maxHeartbeats 4000000
/-! The program that doubles: its block, what a run of it holds. -/
namespace PM
open PySem PySem.Spec PyProof.Rows L2 ZX ZR
/-- the block -/
def blk1 (ps : List Str) (b s : Int) : List Rw := [.give "x" b, .give "y" s, .again [.note "x" "f" ps], .copy "z" "x", .prt "x", .prt "z"]
/-- the parts that may be drawn -/
def P4 : List (List Str) := [["x", "x"], ["x"], ["x", "x", "x"], ["y", "x", "x"]]
theorem P4_in {ps : List Str} (h : ps ∈ P4) : ps.length ≤ 3 ∧ (∀ y ∈ ps, y = ("x" : Str) ∨ y = ("y" : Str)) ∧ ("x" : Str) ∈ ps := by
  simp only [P4, List.mem_cons, List.not_mem_nil, or_false] at h
  rcases h with rfl | rfl | rfl | rfl <;> simp
instance (x : Str) : Decidable (NameOk x) := inferInstanceAs (Decidable (_ ∧ _ ∧ _))
theorem ok_x : NameOk "x" := by decide +kernel
theorem ok_y : NameOk "y" := by decide +kernel
theorem ok_z : NameOk "z" := by decide +kernel
theorem ok_f : NameOk "f" := by decide +kernel
theorem ok_a : NameOk "a" := by decide +kernel
theorem ok_b : NameOk "b" := by decide +kernel
theorem ok_c : NameOk "c" := by decide +kernel
theorem ok_one : NameOk "one" := by decide +kernel
theorem ok_two : NameOk "two" := by decide +kernel
theorem ok_six : NameOk "six" := by decide +kernel
theorem ok_top : NameOk "top" := by decide +kernel
theorem rows1 (ps : List Str) (b s : Int) : rowsB (blk1 ps b s) = [.give "x" b, .give "y" s, .again [.note "x" "f" ps], .note "x" "f" ps, .copy "z" "x", .prt "x", .prt "z"] := rfl
theorem leads1 (ps : List Str) (b s : Int) : leadsP (blk1 ps b s) = [[1], [2], [3, 4], [2], [5], [6], [7], []] := rfl
theorem names1 {ps : List Str} (h : ps ∈ P4) (b s : Int) : ∀ x ∈ (rowsB (blk1 ps b s)).flatMap namesR, x ∈ ([("x" : Str), "y", "z"] : List Str) := fun x hx => by
  obtain ⟨h1, h2, _⟩ := P4_in h
  rw [rows1] at hx
  simp only [List.flatMap_cons, List.flatMap_nil, namesR, List.append_nil, List.mem_append, List.mem_cons, List.not_mem_nil, or_false, false_or] at hx
  simp only [List.mem_cons, List.not_mem_nil, or_false]
  rcases hx with rfl | rfl | (rfl | hx) | (rfl | rfl) | rfl | rfl <;> first | exact .inl rfl | exact .inr (.inl rfl) | exact .inr (.inr rfl) | exact (h2 x hx).elim .inl fun h => .inr (.inl h)
theorem good1 {ps : List Str} (h : ps ∈ P4) (b s : Int) : Good (blk1 ps b s) := by
  obtain ⟨h1, h2, _⟩ := P4_in h
  refine ⟨⟨ok_x, ok_y, ⟨by decide, by show 1 ≤ 12; decide, ⟨ok_x, ok_f, h1, fun y hy => ?_⟩, trivial⟩, ⟨ok_z, ok_x⟩, ok_x, ok_z, trivial⟩, by show 6 ≤ 12; decide, by rw [rows1]; show 7 ≤ 30; decide, fun ys ly => ?_⟩
  · rcases h2 y hy with rfl | rfl
    · exact ok_x
    · exact ok_y
  · exact Nat.le_trans (ly.le (W := ["x", "y", "z"]) (names1 h b s)) (by decide)
/-- what x was worth behind n rounds -/
def sumP (ps : List Str) (v s : Int) : List Int := ps.map fun y => if y = ("x" : Str) then v else s
def wx (ps : List Str) (b s : Int) : Nat → Int
  | 0 => b
  | n + 1 => ((sumP ps (wx ps b s n) s).sum + s) % 1000003
def row1 (ps : List Str) (b s : Int) (n : Nat) : List Int := sumP ps (wx ps b s n) s
def hx1 (b : Int) : Nat → Th
  | 0 => .worth (.int b)
  | n + 1 => .note n
def prt1 (ps : List Str) (b s : Int) (n : Nat) : List Th := ps.map fun y => if y = ("x" : Str) then hx1 b n else .worth (.int s)
/-- behind i rounds -/
structure F1 (ps : List Str) (b s : Int) (i : Nat) (S : NS) : Prop where
  x : S.heads "x" = some (hx1 b i)
  y : S.heads "y" = some (.worth (.int s))
  m : S.made = (List.range i).map fun n => (("f" : Str), prt1 ps b s n)
  w : S.worths = []
  p : S.printed = []
theorem setH_same {h : Str → Option Th} {x : Str} {t : Th} : setH h x t x = some t := if_pos rfl
theorem setH_ne {h : Str → Option Th} {x y : Str} {t : Th} (n : y ≠ x) : setH h x t y = h y := if_neg n
theorem held_of {S : NS} {x : Str} {t : Th} (hw : S.worths = []) (h : S.heads x = some t) : heldS S x = t := by
  unfold heldS
  rw [h]
  cases t with
  | note n => exact nowS_none (by rw [hw]; rfl)
  | worth v => rfl
end PM
namespace K13
open PySem PySem.Spec PyProof.Rows L2 LamX ZX PM ZR
theorem _root_.PM.F1.chain {ps : List Str} {b s : Int} {i : Nat} {S : NS} (hp : ps ∈ P4) (F : F1 ps b s i S) : Chain S (fun n => wx ps b s (n + 1)) (row1 ps b s) s i 0 := by
  obtain ⟨h1, h2, h3⟩ := P4_in hp
  refine ⟨by rw [F.w, seg_nil], fun n hn => ⟨"f", prt1 ps b s n, ?_, fun m hm => ?_, fun h0 => ?_, ?_⟩, fun n hn => rfl⟩
  · rw [F.m, List.getElem?_map, List.getElem?_range hn]
    rfl
  · obtain ⟨y, hy, e⟩ := List.mem_map.mp hm
    split at e
    · cases n with
      | zero => cases e
      | succ n =>
        cases e
        exact Nat.lt_succ_self _
    · cases e
  · refine List.mem_map.mpr ⟨"x", h3, ?_⟩
    rw [if_pos rfl]
    cases n with
    | zero => exact absurd h0 (Nat.lt_irrefl 0)
    | succ n => rfl
  · unfold rowV prt1 row1 sumP
    rw [List.map_map, List.map_map]
    refine List.map_congr_left fun y hy => ?_
    show valT _ (if y = ("x" : Str) then hx1 b n else .worth (.int s)) = V.int (if y = ("x" : Str) then wx ps b s n else s)
    split
    · cases n <;> rfl
    · rfl
section
variable {P : Program} {w : World} {K : PySem.W.Frag} {mg : Str → Option Value} {base : Heap} {fm : Fam P w K mg base} {ps : List Str} {b s : Int} {S S2 : NS} {l l2 : fm.L}
theorem _root_.PM.F1.tr {i : Nat} {m : List Mark} (F : F1 ps b s i S) : F1 ps b s i { S with trail := m } := ⟨F.x, F.y, F.m, F.w, F.p⟩
/-- a round -/
theorem round1 (hp : ps ∈ P4) {i : Nat} {rest : List Nat} (F : F1 ps b s i S) (h : RunS fm (blk1 ps b s) S l 2 (3 :: 2 :: rest) S2 l2) : ∃ S', F1 ps b s (i + 1) S' ∧ RunS fm (blk1 ps b s) S' l 2 rest S2 l2 := by
  obtain ⟨h1, h2, h3⟩ := P4_in hp
  obtain ⟨S1, l1, d1, r1⟩ := run_inv (r := .again [.note "x" "f" ps]) rfl h
  cases d1
  obtain ⟨S3, l3, d3, r3⟩ := run_inv (r := .note "x" "f" ps) rfl r1
  cases d3
  refine ⟨_, ?_, r3⟩
  have F' := F.tr (m := S.trail ++ [markS S (.again [.note "x" "f" ps])])
  have hl : S.made.length = i := by
    rw [F.m, List.length_map, List.length_range]
  refine ⟨?_, ?_, ?_, F.w, F.p⟩
  · show setH S.heads "x" (.note S.made.length) "x" = _
    rw [setH_same, hl]
    rfl
  · show setH S.heads "x" (.note S.made.length) "y" = _
    rw [setH_ne (by decide +kernel)]
    exact F.y
  · show S.made ++ [(("f" : Str), ps.map (heldS _))] = _
    rw [List.range_succ, List.map_append, ← F.m]
    congr 1
    show [(("f" : Str), ps.map (heldS _))] = [(("f" : Str), prt1 ps b s i)]
    congr 2
    unfold prt1
    refine List.map_congr_left fun y hy => ?_
    rcases h2 y hy with rfl | rfl
    · rw [if_pos rfl]
      exact held_of F'.w F'.x
    · rw [if_neg (by decide +kernel)]
      exact held_of F'.w F'.y
theorem rounds1 (hp : ps ∈ P4) {rest : List Nat} : ∀ (n i : Nat) {S : NS}, F1 ps b s i S → RunS fm (blk1 ps b s) S l 2 ((List.replicate n [3, 2]).flatten ++ rest) S2 l2 → ∃ S', F1 ps b s (i + n) S' ∧ RunS fm (blk1 ps b s) S' l 2 rest S2 l2
  | 0, i, S, F, h => ⟨S, F, h⟩
  | n + 1, i, S, F, h => by
    rw [List.replicate_succ, List.flatten_cons] at h
    obtain ⟨S', F', h'⟩ := round1 hp F (show RunS fm (blk1 ps b s) S l 2 (3 :: 2 :: ((List.replicate n [3, 2]).flatten ++ rest)) S2 l2 from h)
    obtain ⟨S3, F3, h3⟩ := rounds1 hp n (i + 1) F' h'
    exact ⟨S3, by rw [show i + (n + 1) = i + 1 + n by omega]; exact F3, h3⟩
def way1 (r : Nat) : List Nat := 1 :: 2 :: ((List.replicate r [3, 2]).flatten ++ [4, 5])
/-- what stands when it is told -/
theorem told1 (hp : ps ∈ P4) {r : Nat} (h : RunS fm (blk1 ps b s) NS0 l 0 (way1 r) S2 l2) : F1 ps b s r S2 ∧ S2.heads "z" = some (hx1 b r) ∧ l2 = l := by
  obtain ⟨S1, l1, d1, r1⟩ := run_inv (r := .give "x" b) rfl h
  cases d1
  obtain ⟨S3, l3, d3, r3⟩ := run_inv (r := .give "y" s) rfl r1
  cases d3
  obtain ⟨S4, F4, r4⟩ := rounds1 (rest := [4, 5]) hp r 0 ⟨(setH_ne (h := setH NS0.heads "x" (.worth (.int b))) (x := "y") (t := .worth (.int s)) (y := "x") (by decide +kernel)).trans setH_same, setH_same (h := setH NS0.heads "x" (.worth (.int b))) (x := "y") (t := .worth (.int s)), rfl, rfl, rfl⟩ r3
  · rw [Nat.zero_add] at F4
    obtain ⟨S5, l5, d5, r5⟩ := run_inv (r := .again [.note "x" "f" ps]) rfl r4
    cases d5
    obtain ⟨S6, l6, d6, r6⟩ := run_inv (r := .copy "z" "x") rfl r5
    cases d6
    obtain ⟨e1, e2⟩ := run_nil r6
    have F' := F4.tr (m := S4.trail ++ [markS S4 (.again [.note "x" "f" ps])])
    subst e1
    refine ⟨⟨?_, ?_, F4.m, F4.w, F4.p⟩, ?_, e2⟩
    · exact (setH_ne (h := S4.heads) (x := "z") (t := heldS { S4 with trail := S4.trail ++ [markS S4 (.again [.note "x" "f" ps])] } "x") (y := "x") (by decide +kernel)).trans F4.x
    · exact (setH_ne (h := S4.heads) (x := "z") (t := heldS { S4 with trail := S4.trail ++ [markS S4 (.again [.note "x" "f" ps])] } "x") (y := "y") (by decide +kernel)).trans F4.y
    · exact (setH_same (h := S4.heads) (x := "z") (t := heldS { S4 with trail := S4.trail ++ [markS S4 (.again [.note "x" "f" ps])] } "x")).trans (congrArg some (held_of F'.w F'.x))
theorem wayP1 (ps : List Str) (b s : Int) (r : Nat) : WayP (blk1 ps b s) 0 (way1 r) := by
  have tail : WayP (blk1 ps b s) 2 [4, 5] := .step (r := .again [.note "x" "f" ps]) (ls := [3, 4]) rfl (by decide) rfl (.step (r := .copy "z" "x") (ls := [5]) rfl (by decide) rfl .done)
  have mid : ∀ n, WayP (blk1 ps b s) 2 ((List.replicate n [3, 2]).flatten ++ [4, 5]) := fun n => by
    induction n with
    | zero => exact tail
    | succ n ih =>
      rw [List.replicate_succ, List.flatten_cons]
      exact .step (r := .again [.note "x" "f" ps]) (ls := [3, 4]) rfl (by decide) rfl (.step (r := .note "x" "f" ps) (ls := [2]) rfl (by decide) rfl ih)
  exact .step (r := .give "x" b) (ls := [1]) rfl (by decide) rfl (.step (r := .give "y" s) (ls := [2]) rfl (by decide) rfl (mid r))
end
end K13
set_option Elab.async false
set_option linter.all false
set_option maxRecDepth 100000
set_option maxHeartbeats 4000000
/-! tuple * int, of few items, many times. -/
namespace PM
open PySem PySem.Spec PyProof.Rows L2
/-- t * n, t of one to eight items, n from 2 to 100000 -/
def rRepB (K : PySem.W.Frag) : R2 := fun x y H Q => ∃ tt nn zs, x = .ref tt ∧ y = .int nn ∧ SqT K H tt zs ∧ zs ≠ [] ∧ 2 ≤ nn ∧ nn ≤ 100000 ∧ zs.length ≤ 8 ∧
  ∀ r, H r = none → Q (.ref r) (upd H r (.tup (List.replicate nn.toNat zs).flatten))
theorem op_repB {X : Cx} : OpR X (binaryOp .Mult) (rRepB X.K) := by
  intro pins sh slots H x y v u Q I rx ry h
  obtain ⟨tt, nn, zs, rfl, rfl, hT, hne, g1, g2, hz, q⟩ := h
  cases rx
  obtain ⟨tk, rfl⟩ := ry
  obtain ⟨vals, r, ⟨⟨cc, dd, da, ss⟩, ho, hc, nw, hd⟩, hs⟩ := I.tuple hT
  simp only at hc hd
  subst hc hd
  have hlen : vals.length = zs.length := r.length.symm
  have hpos : 0 < vals.length := by
    rw [hlen]
    exact List.length_pos_iff.mpr hne
  have hempty : vals.toArray.isEmpty = false := by
    cases vals with
    | nil => exact absurd hpos (Nat.lt_irrefl 0)
    | cons _ _ => rfl
  have hsize : vals.toArray.size = zs.length := by rw [List.size_toArray, hlen]
  have hprod : ((vals.toArray.size : Nat) : Int) * nn ≤ 800000 := by
    rw [hsize]
    have b1 : ((zs.length : Nat) : Int) * nn ≤ 8 * nn := Int.mul_le_mul_of_nonneg_right (by omega) (by omega)
    omega
  have hnat : nn.toNat * zs.length ≤ 100000 * 8 := Nat.mul_le_mul (by omega) hz
  have hflat : (List.replicate nn.toNat vals).flatten.length ≤ sizeLine := by
    rw [PyProof.Rows.lm_len_rep_flat, hlen, sizeLine_eq]
    omega
  have k0 : (decide (nn < -(2 ^ 63)) || decide (nn ≥ 2 ^ 63)) = false := by
    rw [Bool.or_eq_false_iff]
    exact ⟨decide_eq_false (by omega), decide_eq_false (by omega)⟩
  have k1 : (vals.toArray.isEmpty || nn == 1) = false := by
    rw [Bool.or_eq_false_iff]
    exact ⟨hempty, beq_eq_false_iff_ne.mpr (by omega)⟩
  have k2 : (decide (nn ≤ 0) || vals.toArray.isEmpty) = false := by
    rw [Bool.or_eq_false_iff]
    exact ⟨decide_eq_false (by omega), hempty⟩
  have k4 : Builtin.Tuple.tupleTooMany (((vals.toArray.size : Nat) : Int) * nn) = false := by
    show decide _ = false
    rw [sizeLine_eq]
    exact decide_eq_false (by omega)
  have mul : Meets _ _ :=
    tuple_mulW tt vals.toArray nw dd ss nn tk k0 k1 k2
      (by omega) k4 (by rw [size_rep, List.size_toArray]; exact hflat)
  have dec := int_rmul_tuple nn tk tt vals.toArray nw dd ss
  have isT : sh.TypeIs (.ref tt) "tuple" := ⟨_, ho, rfl⟩
  have a1 := F.args_int_rmul_2 (.int nn tk) (.ref tt)
  have a2 := F.args_tuple_mul_2 (.ref tt) (.int nn tk)
  refine wpAny_binaryOp_repeat_ref (T := "tuple") (U := "int")
    (by decide) isT (fun z => typeIs_int z nn tk) noFill_tuple_mul
    F.fills_int_mul F.slot_int_rmul repeat_tuple
    F.slot_int_index.lookup
    (call_meets F.slot_int_rmul (typeIs_int sh nn tk)
      F.entry_int_rmul a1 dec ⟨ho, rfl, isT, ?_⟩)
  refine call_meets F.slot_tuple_mul isT F.entry_tuple_mul
    a2 mul ⟨ho, ?_⟩
  rw [size_rep]
  have nF := I.hok.fresh (Nat.le_refl sh.heap.objs.size)
  refine ⟨.ref sh.heap.objs.size, _, I.laid (t' := sh.toks)
    (o := .tup (List.replicate nn.toNat zs).flatten)
    (fun b ob q => Heap.get?_push_of_some _ q)
    (Nat.le_refl _) ⟨?_, _, r.rep nn.toNat, IsTup.new _ _⟩, rfl, q _ nF⟩
  rw [PyProof.Rows.lm_len_rep_flat, sizeLine_eq]
  omega
end PM
set_option Elab.async false
set_option linter.all false
set_option maxRecDepth 100000
set_option maxHeartbeats 4000000
/-! The law's _law_doubled_right. -/
namespace PM
open PySem PySem.Spec PyProof.Rows L2 ZX ZR
theorem tvNew {K : PySem.W.Frag} {H : Hp} {q : Addr} {xs : List V} {ds : List PyData} (nq : H q = none) (h : Tvs K H xs ds) : Tv K (upd H q (.tup xs)) (.ref q) (.tuple ds) := .tup (.inl (.inl upd_same)) (h.pt (Pt.new nq))
/-- lists of rows of numbers -/
def rowsD (rs : List (List Int)) : List PyData := rs.map fun ns => .tuple (ns.map .int)
theorem Tvs.intZ {K : PySem.W.Frag} {H : Hp} : ∀ ns : List Int, Tvs K H (ns.map V.int) (ns.map .int)
  | [] => .nil
  | n :: ns => .cons (.int n) (Tvs.intZ ns)
theorem dp_ints {K : PySem.W.Frag} {H : Hp} {a : Addr} {ns : List Int} (h : SqT K H a (ns.map V.int)) : Dp K H (.ref a) (.tuple (ns.map .int)) := .tup h (Tvs.intZ ns).dp
theorem lay_ints : ∀ ns : List Int, PyData.canLayAll0 (ns.map PyData.int) = true
  | [] => rfl
  | n :: ns => by
    show (true && PyData.canLayAll0 (ns.map .int)) = true
    rw [lay_ints ns]
    rfl
theorem dep_ints : ∀ ns : List Int, PyData.depthAll (ns.map PyData.int) = 0
  | [] => rfl
  | n :: ns => by
    show max 0 (PyData.depthAll (ns.map .int)) = 0
    rw [dep_ints ns]
    rfl
theorem sh_ints (ns : List Int) : SeqAt.shaped (.tuple (ns.map .int)) = true := by
  show ((PyData.canLayAll0 (ns.map .int)) && decide (PyData.depthAll (ns.map .int) + 1 ≤ 64)) = true
  rw [lay_ints, dep_ints]
  rfl
theorem eq_ints (ns : List Int) : PyData.eqv (.tuple (ns.map .int)) (.tuple (ns.map .int)) = true := SeqAt.eqv_refl _ (lay_ints ns)
theorem lay_rows : ∀ rs : List (List Int), PyData.canLayAll0 (rowsD rs) = true
  | [] => rfl
  | r :: rs => by
    show (PyData.canLayAll0 (r.map .int) && PyData.canLayAll0 (rowsD rs)) = true
    rw [lay_rows rs, lay_ints]
    rfl
theorem dep_rows : ∀ rs : List (List Int), PyData.depthAll (rowsD rs) ≤ 1
  | [] => Nat.zero_le _
  | r :: rs => by
    show max (PyData.depthAll (r.map .int) + 1) (PyData.depthAll (rowsD rs)) ≤ 1
    rw [dep_ints]
    exact Nat.max_le.mpr ⟨Nat.le_refl _, dep_rows rs⟩
theorem sh_rows (rs : List (List Int)) : SeqAt.shaped (.list (rowsD rs)) = true := by
  show ((PyData.canLayAll0 (rowsD rs)) && decide (PyData.depthAll (rowsD rs) + 1 ≤ 64)) = true
  rw [lay_rows, decide_eq_true (Nat.le_trans (Nat.succ_le_succ (dep_rows rs)) (by decide))]
  rfl
theorem eq_rows (rs : List (List Int)) : PyData.eqv (.list (rowsD rs)) (.list (rowsD rs)) = true := SeqAt.eqv_refl _ (lay_rows rs)
/-- a list of rows of numbers -/
theorem ClAt.dp {K : PySem.W.Frag} {la : Addr} {H : Hp} {rs : List (List Int)} (h : ClAt K la (rs.map rowV) H) : Dp K H (.ref la) (.list (rowsD rs)) := by
  obtain ⟨us, h1, h2⟩ := h
  refine .lst (SqL.of h1) ?_
  clear h1
  induction rs generalizing us with
  | nil => cases h2; exact .nil
  | cons r rs ih => cases h2 with
    | cons a b =>
      obtain ⟨t, rfl, q⟩ := a
      exact .cons (dp_ints q) (ih _ b)
theorem ClAt.same {K : PySem.W.Frag} {la : Addr} {cs : List (List V)} {H H' : Hp} (h : ClAt K la cs H) (s : Same H H') : ClAt K la cs H' := h.fz (M := []) (s.fz mks_nil) mks_nil (fun z => nomatch z)
theorem clls0 (row : Nat → List Int) (n : Nat) : clls row 0 n = ((List.range n).map row).map rowV := by
  unfold clls
  rw [Nat.sub_zero, ← List.range_eq_range', List.map_map]
  rfl
end PM
namespace K13
open PySem PySem.Spec PyProof.Rows L2 LamX ZX PM ZR
theorem _root_.PM.ExtN.pt {H H' : Hp} (e : ExtN H H') : Pt H H' := fun b xs h => h.elim (fun h => .inl (e _ _ h fun _ z => by cases z)) fun ⟨o, h⟩ => .inr ⟨o, e _ _ h fun _ z => by cases z⟩
theorem _root_.PM.PrAt.ext {K : PySem.W.Frag} {C x : Addr} {b : List Rw} {H H' : Hp} (h : PrAt K C H x b) (e : ExtN H H') : PrAt K C H' x b := by
  refine h.up (fun o ho => ?_) (ExtN.pt e)
  obtain ⟨dx, v, ra, na, la, rs, ls, ys, hx, _⟩ := h
  rw [hx] at ho
  cases ho
  exact e _ _ hx fun _ z => by cases z
theorem _root_.PM.PrD.ext {C x : Addr} {H H' : Hp} (h : PrD C H x) (e : ExtN H H') : PrD C H' x := by
  obtain ⟨dx, v, ra, na, la, ls, h1, h2, h3⟩ := h
  exact ⟨dx, v, ra, na, la, ls, e _ _ h1 (fun _ z => by cases z), e _ _ h2 (fun _ z => by cases z), fun u hu => (h3 u hu).keep fun a o xs q => e _ _ q fun _ z => by cases z⟩
theorem PotAt.ext {H H' : Hp} {p g s : Addr} (h : PotAt H p g s) (e : ExtN H H') : PotAt H' p g s := by
  obtain ⟨gs, ss, t, kk, h⟩ := h
  exact ⟨gs, ss, t, kk, e _ _ h.hp (fun _ z => by cases z), e _ _ h.hg (fun _ z => by cases z), e _ _ h.hs (fun _ z => by cases z), h.ngp, h.nsp, h.nsg, h.nn, h.ne, h.few, h.t0⟩
/-- the pot stands apart from M -/
def PotOff (p g s : Addr) (M : List Addr) : Prop := p ∉ M ∧ g ∉ M ∧ s ∉ M
theorem PotAt.off {H : Hp} {p g s : Addr} (h : PotAt H p g s) {M : List Addr} (n : ∀ b ∈ M, H b = none) : PotOff p g s M := by
  obtain ⟨gs, ss, t, kk, h⟩ := h
  have key : ∀ {b : Addr} {o : HO}, H b = some o → b ∉ M := fun e hm => by
    rw [n _ hm] at e
    cases e
  exact ⟨key h.hp, key h.hg, key h.hs⟩
/-- a run, the pot, the tables -/
structure St9 {P : Program} {w : World} {K : PySem.W.Frag} {mg : Str → Option Value} {base : Heap} (fm : Fam P w K mg base) (CP CN CR : Addr) (TT : List NdefX.NTab) (p g s : Addr) (F : List (Str × Addr)) (ns : List Str) (x : Addr) (A : Ad) (px : Addr) (b : List Rw) (wa : Addr) (H : Hp) (S : NS) (l : fm.L) (way : List Nat) : Prop where
  R : RnAt fm CP CN CR F ns H x A S l px b wa way
  P : PotAt H p g s
  T : NdefX.TabsN TT H
  off : PotOff p g s (wa :: (A.own ++ fm.out))
theorem St9.same {P : Program} {w : World} {K : PySem.W.Frag} {mg : Str → Option Value} {base : Heap} {CP CN CR : Addr} {TT : List NdefX.NTab} {fm : Fam P w K mg base} {p g s : Addr} {F : List (Str × Addr)} {ns : List Str} {x : Addr} {A : Ad} {px : Addr} {b : List Rw} {wa : Addr} {H H' : Hp} {S : NS} {l : fm.L} {way : List Nat}
    (B : St9 fm CP CN CR TT p g s F ns x A px b wa H S l way) (sm : Same H H') : St9 fm CP CN CR TT p g s F ns x A px b wa H' S l way := by
  obtain ⟨d, hd⟩ := B.R.rx
  exact ⟨⟨⟨d, sm _ _ hd⟩, B.R.pr.same sm, B.R.pd.same sm, B.R.nt.same sm, sm _ _ B.R.wy, B.R.nw, B.R.hF, B.R.hns, B.R.n63, B.R.lev, B.R.szl⟩, B.P.same sm, B.T.ext sm, B.off⟩
theorem St9.step {P : Program} {w : World} {K : PySem.W.Frag} {mg : Str → Option Value} {base : Heap} {CP CN CR : Addr} {TT : List NdefX.NTab} {fm : Fam P w K mg base} {p g s : Addr} {F : List (Str × Addr)} {ns : List Str} {x : Addr} {A : Ad} {px : Addr} {b : List Rw} {wa : Addr} {H H' : Hp} {S S' : NS} {l l' : fm.L} {way way' : List Nat}
    (B : St9 fm CP CN CR TT p g s F ns x A px b wa H S l way) (z : Fz (wa :: (A.own ++ fm.out)) H H') (R : RnAt fm CP CN CR F ns H' x A S' l' px b wa way') : St9 fm CP CN CR TT p g s F ns x A px b wa H' S' l' way' :=
  ⟨R, B.P.fz z B.off.1 B.off.2.1 B.off.2.2, TabsN.fz B.T z B.R.mksR, B.off⟩
theorem _root_.PM.RnAt.put {P : Program} {w : World} {K : PySem.W.Frag} {mg : Str → Option Value} {base : Heap} {CP CN CR : Addr} {fm : Fam P w K mg base} {F : List (Str × Addr)} {ns : List Str} {x : Addr} {A : Ad} {px : Addr} {b : List Rw} {wa : Addr} {H : Hp} {S : NS} {l : fm.L} {way : List Nat} {c : Addr} {o : HO}
    (R : RnAt fm CP CN CR F ns H x A S l px b wa way) (m : IsM (H c)) (i : IsM (some o)) (nc : c ∉ wa :: A.fa :: (A.own ++ fm.out)) : RnAt fm CP CN CR F ns (upd H c o) x A S l px b wa way := by
  obtain ⟨d, hd⟩ := R.rx
  have mc : Mks [c] H := fun b hb => by
    rw [List.mem_singleton.mp hb]
    exact m
  have z : Fz [c] H (upd H c o) := Fz.put mc List.mem_cons_self i
  simp only [List.mem_cons, List.mem_append, not_or] at nc
  obtain ⟨n1, n2, n3, n4⟩ := nc
  exact ⟨⟨d, z.keep _ _ (mc.no hd fun z => by rcases z with ⟨_, z⟩ | ⟨_, z⟩ <;> cases z) hd⟩, R.pr.fz z mc, R.pd.fz z mc, R.nt.put m i n2 n3 n4, (upd_ne (Ne.symm n1)).trans R.wy, R.nw, R.hF, R.hns, R.n63, R.lev, R.szl⟩
/-- where nothing stands, nothing of a run does -/
theorem _root_.PM.RnAt.newN {P : Program} {w : World} {K : PySem.W.Frag} {mg : Str → Option Value} {base : Heap} {CP CN CR : Addr} {fm : Fam P w K mg base} {F : List (Str × Addr)} {ns : List Str} {x : Addr} {A : Ad} {px : Addr} {b : List Rw} {wa : Addr} {H : Hp} {S : NS} {l : fm.L} {way : List Nat} {c : Addr}
    (R : RnAt fm CP CN CR F ns H x A S l px b wa way) (n : H c = none) : c ∉ wa :: A.fa :: (A.own ++ fm.out) := by
  obtain ⟨n1, n2, n3⟩ := R.nt.new_ne n
  simp only [List.mem_cons, List.mem_append, not_or]
  exact ⟨fun e => (by rw [e, R.wy] at n; cases n), n1, n2, n3⟩
theorem St9.put {P : Program} {w : World} {K : PySem.W.Frag} {mg : Str → Option Value} {base : Heap} {CP CN CR : Addr} {TT : List NdefX.NTab} {fm : Fam P w K mg base} {p g s : Addr} {F : List (Str × Addr)} {ns : List Str} {x : Addr} {A : Ad} {px : Addr} {b : List Rw} {wa : Addr} {H : Hp} {S : NS} {l : fm.L} {way : List Nat} {c : Addr} {o : HO}
    (B : St9 fm CP CN CR TT p g s F ns x A px b wa H S l way) (m : IsM (H c)) (i : IsM (some o)) (nc : c ∉ wa :: A.fa :: (A.own ++ fm.out)) (np : PotOff p g s [c]) : St9 fm CP CN CR TT p g s F ns x A px b wa (upd H c o) S l way := by
  have mc : Mks [c] H := fun b hb => by
    rw [List.mem_singleton.mp hb]
    exact m
  have z : Fz [c] H (upd H c o) := Fz.put mc List.mem_cons_self i
  exact ⟨B.R.put m i nc, B.P.fz z np.1 np.2.1 np.2.2, TabsN.fz B.T z mc, B.off⟩
theorem _root_.PM.DoS.inv_prt {P : Program} {w : World} {K : PySem.W.Frag} {mg : Str → Option Value} {base : Heap} {fm : Fam P w K mg base} {S S' : NS} {l l' : fm.L} {x : Str} (h : DoS fm S l (.prt x) S' l') : ∃ fr, S' = { S with worths := S.worths ++ fr, printed := S.printed ++ [whatT (heldS { S with worths := S.worths ++ fr } x)] } ∧ Wo fm S (openS S [] [heldS S x]) [] l fr l' := by
  cases h with
  | prt h hf => exact ⟨_, rfl, h⟩
theorem _root_.PM.DoS.inv_ask {P : Program} {w : World} {K : PySem.W.Frag} {mg : Str → Option Value} {base : Heap} {fm : Fam P w K mg base} {S S' : NS} {l l' : fm.L} {x : Str} (h : DoS fm S l (.ask x) S' l') : ∃ fr, S' = { S with worths := S.worths ++ fr } ∧ Wo fm S (openS S [] [heldS S x]) [] l fr l' := by
  cases h with
  | ask h hf => exact ⟨_, rfl, h⟩
theorem rg0 (r : Nat) : rgV 0 (r : Int) = ((List.range r).map fun (n : Nat) => (n : Int)).map V.int := by
  unfold rgV
  rw [Int.sub_zero, Int.toNat_natCast, List.map_map]
  exact List.map_congr_left fun i _ => by
    show V.int (0 + (i : Int)) = V.int (i : Int)
    rw [Int.zero_add]
theorem seg_keys (wq : Nat → Int) (r : Nat) : (seg wq 0 r).map (fun p => V.int (p.1 : Nat)) = ((List.range r).map fun (n : Nat) => (n : Int)).map V.int := by
  unfold seg segL
  rw [Nat.sub_zero, ← List.range_eq_range', List.map_map, List.map_map]
  rfl
theorem hx1_pos {b : Int} {r : Nat} (h : 0 < r) : hx1 b r = .note (r - 1) := by
  cases r with
  | zero => exact absurd h (Nat.lt_irrefl 0)
  | succ r => rfl
def w5 (r : Nat) : List Nat := 0 :: 1 :: 2 :: ((List.replicate r [3, 2]).flatten ++ [4])
theorem w5_len (r : Nat) : (w5 r).length = 2 * r + 4 := by
  show ((List.replicate r [3, 2]).flatten ++ [4]).length + 3 = _
  rw [List.length_append, PyProof.Rows.lm_len_rep_flat]
  show r * 2 + 1 + 3 = _
  omega
theorem way1_w5 (r : Nat) : 0 :: way1 r = w5 r ++ [5] := by
  show 0 :: 1 :: 2 :: ((List.replicate r [3, 2]).flatten ++ [4, 5]) = 0 :: 1 :: 2 :: (((List.replicate r [3, 2]).flatten ++ [4]) ++ [5])
  rw [List.append_assoc]
  rfl
theorem lay_worth (n : Int) : PyData.canLay0 (.tuple [.str "worth", .int n]) = true := by
  show (PyData.strOk "worth" && (true && true)) = true
  rw [show PyData.strOk "worth" = true by decide +kernel]
  rfl
theorem sh_worth (n : Int) : SeqAt.shaped (.tuple [.str "worth", .int n]) = true := by
  show (PyData.canLay0 (.tuple [.str "worth", .int n]) && decide (max 0 (max 0 0) + 1 ≤ 64)) = true
  rw [lay_worth]
  rfl
theorem eq_worth (n : Int) : PyData.eqv (.tuple [.str "worth", .int n]) (.tuple [.str "worth", .int n]) = true := SeqAt.eqv_refl _ (lay_worth n)
theorem dp_worth {K : PySem.W.Frag} {H : Hp} {a : Addr} {n : Int} (h : SqT K H a [.str "worth", .int n]) : Dp K H (.ref a) (.tuple [.str "worth", .int n]) := .tup h (.cons (.str _) (.cons (.int _) .nil))
abbrev sDoubled : Stmt := top 56
def spDoubled (TT : List NdefX.NTab) : Sp := fun vs H Q _ => ∃ (p g s : Addr) (r : Nat), vs = [.ref p, .int (r : Nat)] ∧ PotAt H p g s ∧ NdefX.TabsN TT H ∧ 2 ≤ r ∧ r ≤ 1500 ∧ ∀ H', PotAt H' p g s → NdefX.TabsN TT H' → Q (.bl true) H'
/-- what the law's parts call -/
structure Cx3 (P : Program) (w : World) (K : PySem.W.Frag) (mg : Str → Option Value) (base : Heap) (CP CN CR : Addr) (TT : List NdefX.NTab) : Prop where
  bi : Bi mg
  gP : mg "Program" = some (.ref CP)
  make : ∃ fI fd, Mk K CP fI ∧ FnOk P w K mg base CX0 16 fI fd ["self", "block"] (spInit K CP) ∧ Binds K fd ["self", "block"] []
  draw : Cal P w K mg base "_law_draw" 1 ["_law_pot_here", "_law_many"] spDraw
  any : Cal P w K mg base "_law_any" 2 ["_law_pot_here", "_law_items"] spAny
  noting : Cal P w K mg base "_law_noting" 1 ["_law_calls", "_law_step"] (spNoting TT)
  told : Cal P w K mg base "told" 29 ["program", "way", "functions"] (spTold P w K mg base CP CN CR)
  run : RnM P w K mg base CP CN CR
  waiting : MCal P w K mg base CR "waiting" 4 ["self"] (spRWaiting P w K mg base CP CN CR)
  worked : MCal P w K mg base CR "worked" 2 ["self"] (spRWorked P w K mg base CP CN CR)
  said : MCal P w K mg base CR "said" 2 ["self"] (spRSaid P w K mg base CP CN CR)
  held : MCal P w K mg base CR "held" 3 ["self", "name"] (spRHeld P w K mg base CP CN CR)
  place : MCal P w K mg base CR "place" 1 ["self"] (spRPlace P w K mg base CP CN CR)
  step : MCal P w K mg base CR "step" 27 ["self", "which"] (spRStep P w K mg base CP CN CR)
section
variable {P : Program} {w : World} {K : PySem.W.Frag} {mg : Str → Option Value} {base : Heap} {CP CN CR : Addr} {TT : List NdefX.NTab}
abbrev ND : List Str := ["_law_pot_here", "_law_rounds", "_law_parts", "_law_step", "_law_begin", "_law_loop", "_law_block", "_law_calls", "_law_run", "_law_due", "_law_worth", "_law_turn", "_law_row", "_law_part"]
theorem scDoubled : FnScope ND ["_law_pot_here", "_law_rounds"] (defScope sDoubled) := ⟨rfl, rfl, rfl, by decide +kernel, rfl, by decide +kernel, by decide +kernel⟩
theorem ok_doubled {f : Addr} {fd : FuncData} (F : FnP K "_law_doubled_right" sDoubled f fd) (C : Cx3 P w K mg base CP CN CR TT) : FnOk P w K mg base CX0 30 f fd ["_law_pot_here", "_law_rounds"] (spDoubled TT) := by
  refine F.ok scDoubled (fun vs H Q E h => ?_) (fun cdv A0 outer st H vs Q E hr h => ?_)
  · obtain ⟨p, g, s, r, rfl, _⟩ := h
    rfl
  · obtain ⟨p, g, s, r, rfl, hP, hT, r2, r15, k⟩ := h
    obtain ⟨fI, fdI, mkP, GI, bI⟩ := C.make
    have T := C.bi
    have hr1 := hr.mono (show 1 ≤ 29 by decide)
    have hr2 := hr.mono (show 2 ≤ 29 by decide)
    have hr3 := hr.mono (show 3 ≤ 29 by decide)
    have hr4 := hr.mono (show 4 ≤ 29 by decide)
    have hr17 := hr.mono (show 17 ≤ 29 by decide)
    have hr27 := hr.mono (show 27 ≤ 29 by decide)
    refine ⟨_, PSs.nox (pss_cut (ps_set (i := 2) scDoubled.nd rfl (Or.inl rfl) (pcal C.any hr2 rfl (pa_cons (pv 0) (pa_cons (pe_lst (pa_cons (pe_tup (pa_cons pe_str (pa_cons pe_str pa_nil))) (pa_cons (pe_tup (pa_cons pe_str pa_nil)) (pa_cons (pe_tup (pa_cons pe_str (pa_cons pe_str (pa_cons pe_str pa_nil)))) (pa_cons (pe_tup (pa_cons pe_str (pa_cons pe_str (pa_cons pe_str pa_nil)))) pa_nil))))) pa_nil))))
    (pss_cut (ps_asg (pe_tup (pa_cons (pcal C.draw hr1 rfl (pa_cons (pv 0) (pa_cons pe_int pa_nil))) (pa_cons (pcal C.draw hr1 rfl (pa_cons (pv 0) (pa_cons pe_int pa_nil))) pa_nil))) (pg_tup rfl (pgs_cons (pg_name (i := 3) scDoubled.nd rfl (Or.inr rfl)) (pgs_cons (pg_name (i := 4) scDoubled.nd rfl (Or.inl rfl)) pgs_nil))))
    (pss_cons (ps_set (i := 5) scDoubled.nd rfl (Or.inl rfl) (pe_tup (pa_cons pe_str (pa_cons (pe_tup (pa_cons (pe_tup (pa_cons pe_str (pa_cons pe_str (pa_cons pe_str (pa_cons (pv 2) pa_nil))))) pa_nil)) pa_nil))))
    (pss_cut (ps_set (i := 6) scDoubled.nd rfl (Or.inl rfl) (pe_tup (pa_cons (pe_tup (pa_cons pe_str (pa_cons pe_str (pa_cons (pv 4) pa_nil)))) (pa_cons (pe_tup (pa_cons pe_str (pa_cons pe_str (pa_cons (pv 3) pa_nil)))) (pa_cons (pv 5) (pa_cons (pe_tup (pa_cons pe_str (pa_cons pe_str (pa_cons pe_str pa_nil)))) (pa_cons (pe_tup (pa_cons pe_str (pa_cons pe_str pa_nil))) (pa_cons (pe_tup (pa_cons pe_str (pa_cons pe_str pa_nil))) pa_nil))))))))
    (pss_cons (ps_set (i := 7) scDoubled.nd rfl (Or.inl rfl) (pe_lst pa_nil))
    (pss_cut (ps_set (i := 8) scDoubled.nd rfl (Or.inl rfl) (pcal C.told hr rfl (pa_cons (pe_make mkP GI hr17 rfl C.gP bI .nil pass0 (pa_cons (pv 6) pa_nil)) (pa_cons (pe_op op_catT (pe_op op_catT (pe_tup (pa_cons pe_int (pa_cons pe_int (pa_cons pe_int pa_nil)))) (pe_op op_repB (pe_tup (pa_cons pe_int (pa_cons pe_int pa_nil))) (pv 1))) (pe_tup (pa_cons pe_int (pa_cons pe_int pa_nil)))) (pa_cons (pe_disp (pps_cons pe_str (pcal C.noting hr1 rfl (pa_cons (pv 7) (pa_cons (pv 3) pa_nil))) pps_nil) (by rfl) (by rfl) (fun z => by cases z) (by decide)) pa_nil)))))
    (pss_cons (ps_if (PW.pt (pw_or (pt_cmpR (op_neD hr.units) (pv 7) (pe_lst pa_nil) (nomark _)) (pw_or (pt_cmpR (op_neD hr.units) (pmc0 C.waiting hr4 (pv 8)) (pe_tupRg rfl rfl T.b_tuple (prg_1 rfl T.b_range (pv 1))) (nomark _)) (pw_or1 (pt_cmpR (op_neD hr.units) (pmc0 C.worked hr2 (pv 8)) (pe_tup pa_nil) (nomark _)))))) (pss_one (ps_ret pe_bl)) pss_nil)
    (pss_cons (ps_expr (pmc C.step hr27 (pv 8) (pa_cons pe_int pa_nil)))
    (pss_cut (ps_asg (pe_tup (pa_cons (pe_lst pa_nil) (pa_cons (pv 4) pa_nil))) (pg_tup rfl (pgs_cons (pg_name (i := 9) scDoubled.nd rfl (Or.inl rfl)) (pgs_cons (pg_name (i := 10) scDoubled.nd rfl (Or.inr rfl)) pgs_nil))))
    (pss_cut (ps_for PassesOwn.never rfl (pi_range1 rfl T.b_range (pa_cons (pv 1) pa_nil)) (pg_name (i := 11) scDoubled.nd rfl (Or.inl rfl)) (pss_cons (ps_set (i := 12) scDoubled.nd rfl (Or.inl rfl) (pe_callTy call_tuple_of (by rfl) T.b_tuple (by decide +kernel) (pa_cons (pe_lcS (own := [("_law_part", 13)]) (g := gName 13) (tt := tYes) (te := tIf (tTest (tOp rEq (tVar 13) (tC (.str "x")))) (tVar 10) (tVar 3)) (by rfl) scDoubled.nd (pi_tup (pv 2)) (blkOk_by (N := ND) (sc := defScope sDoubled) (by decide +kernel)) (fun _ _ _ _ _ => (pg_name (i := 13) scDoubled.nd rfl (Or.inl rfl))) (fun _ _ _ _ _ => pts_nil) (fun _ _ _ _ _ => (pe_ifExp (pt_cmpR op_eq (pv 13) pe_str (nomark _)) (pv 10) (pv 3)))) pa_nil)))
      (pss_cons (ps_expr (pe_bm PySem.F.plainAttrs_list PySem.F.slot_list_append PySem.F.type_list_append mt_append (pv 9) (pa_cons (pv 12) pa_nil)))
      (pss_one (ps_set (i := 10) scDoubled.nd rfl (Or.inr rfl) (pe_op op_mod (pe_callTy call_int1 (by rfl) T.b_int (by decide +kernel) (pa_cons (pe_op op_add (pe_callB (cr_sumT rfl) (by rfl) T.b_sum (by decide +kernel) (pa_cons (pv 12) pa_nil)) (pv 3)) pa_nil)) pe_int))))))
    (pss_cons (ps_if (PW.pt (pw_or (pt_cmpR (op_neD hr.units) (pv 7) (pv 9) (nomark _)) (pw_or (pt_cmpR (op_neD hr.units) (pmc0 C.said hr2 (pv 8)) (pe_tup (pa_cons (pv 10) pa_nil)) (nomark _)) (pw_or (pt_cmpR (op_neD hr.units) (pmc0 C.worked hr2 (pv 8)) (pe_tupRg rfl rfl T.b_tuple (prg_1 rfl T.b_range (pv 1))) (nomark _)) (pw_or1 (pt_cmpR (op_neD hr.units) (pmc0 C.waiting hr4 (pv 8)) (pe_tup pa_nil) (nomark _))))))) (pss_one (ps_ret pe_bl)) pss_nil)
    (pss_cons (ps_expr (pmc C.step hr27 (pv 8) (pa_cons pe_int pa_nil)))
    (pss_cons (ps_if (PW.pt (pw_or (pt_cmpR (op_neD hr.units) (pv 7) (pv 9) (nomark _)) (pw_or (pt_cmpR (op_neD hr.units) (pmc0 C.said hr2 (pv 8)) (pe_tup (pa_cons (pv 10) (pa_cons (pv 10) pa_nil))) (nomark _)) (pw_or1 (pt_cmpR (op_neD hr.units) (pmc C.held hr3 (pv 8) (pa_cons pe_str pa_nil)) (pe_tup (pa_cons pe_str (pa_cons (pv 10) pa_nil))) (nomark _)))))) (pss_one (ps_ret pe_bl)) pss_nil)
    (pss_one (ps_ret (pe_cmpR op_eq (pmc0 C.place hr1 (pv 8)) pe_int (nomark _))))))))))))))))), ?_⟩
    -- the parts
    refine ⟨fun σ1 H1 => ∃ pa ps, σ1 = [some (.ref p), some (.int (r : Nat)), some (.ref pa), none, none, none, none, none, none, none, none, none, none, none] ∧ ps ∈ P4 ∧ SqT K H1 pa (ps.map V.str) ∧ PotAt H1 p g s ∧ NdefX.TabsN TT H1, ?_, ?_⟩
    · refine ⟨_, rfl, by show 2 ≤ sizeLine; decide, fun q1 n1 => ⟨by show 1 ≤ sizeLine; decide, fun q2 n2 => ⟨by show 3 ≤ sizeLine; decide, fun q3 n3 => ⟨by show 3 ≤ sizeLine; decide, fun q4 n4 => ⟨by show 4 ≤ sizeLine; decide, fun q n => ?_⟩⟩⟩⟩⟩
      have s1 := same_new (o := .tup [.str "x", .str "x"]) n1
      have s2 := same_new (o := .tup [.str "x"]) n2
      have s3 := same_new (o := .tup [.str "x", .str "x", .str "x"]) n3
      have s4 := same_new (o := .tup [.str "y", .str "x", .str "x"]) n4
      have s5 := same_new (o := .lst [.ref q1, .ref q2, .ref q3, .ref q4]) n
      have sA := (((s1.trans s2).trans s3).trans s4).trans s5
      have hP5 := hP.same sA
      have nn : ∀ {b : Addr} {o : HO}, H b = some o → q ≠ b := fun e z => by
        rw [← z] at e
        rw [(((s1.trans s2).trans s3).trans s4).free n] at e
        cases e
      obtain ⟨gs0, ss0, t0, k0, hp0⟩ := hP
      refine ⟨p, g, s, q, _, rfl, hP5, upd_same, nn hp0.hp, nn hp0.hg, fun z => (by cases z), by show 4 < 1073741824; decide, fun x H' hx hP' z => ?_⟩
      have pt := z.pt hP5.mks
      have g1 := pt.sq (s5.pt.sq (s4.pt.sq (s3.pt.sq (s2.pt.sq (K := K) (.inl (.inl (upd_same (H := H) (a := q1) (o := .tup [.str "x", .str "x"]))))))))
      have g2 := pt.sq (s5.pt.sq (s4.pt.sq (s3.pt.sq (K := K) (.inl (.inl (upd_same (a := q2) (o := .tup [.str "x"])))))))
      have g3 := pt.sq (s5.pt.sq (s4.pt.sq (K := K) (.inl (.inl (upd_same (a := q3) (o := .tup [.str "x", .str "x", .str "x"]))))))
      have g4 := pt.sq (s5.pt.sq (K := K) (.inl (.inl (upd_same (a := q4) (o := .tup [.str "y", .str "x", .str "x"])))))
      have hT' := TabsN.fz (hT.ext sA) z hP5.mks
      simp only [List.mem_cons, List.not_mem_nil, or_false] at hx
      rcases hx with rfl | rfl | rfl | rfl
      · exact ⟨q1, ["x", "x"], rfl, by simp [P4], g1, hP', hT'⟩
      · exact ⟨q2, ["x"], rfl, by simp [P4], g2, hP', hT'⟩
      · exact ⟨q3, ["x", "x", "x"], rfl, by simp [P4], g3, hP', hT'⟩
      · exact ⟨q4, ["y", "x", "x"], rfl, by simp [P4], g4, hP', hT'⟩
    rintro σ1 H1 ⟨pa, ps, rfl, hps, hpa1, hP1, hT1⟩
    -- step, begin
    refine ⟨fun σ2 H2 => ∃ (sp bg : Int), σ2 = [some (.ref p), some (.int (r : Nat)), some (.ref pa), some (.int sp), some (.int bg), none, none, none, none, none, none, none, none, none] ∧ SqT K H2 pa (ps.map V.str) ∧ PotAt H2 p g s ∧ NdefX.TabsN TT H2, ?_, ?_⟩
    · refine ⟨_, rfl, p, g, s, 50, rfl, hP1, by decide, by decide, fun d1 H2 _ _ hP2 z2 => ⟨_, rfl, p, g, s, 50, rfl, hP2, by decide, by decide, fun d2 H3 _ _ hP3 z3 => ⟨by show 2 ≤ sizeLine; decide, fun q n => ?_⟩⟩⟩
      have sq := same_new (o := .tup [.int d1, .int d2]) n
      refine ⟨q, _, rfl, .inl (.inl upd_same), rfl, _, _, rfl, _, _, rfl, rfl, d1, d2, rfl, ?_, hP3.same sq, ?_⟩
      · exact sq.pt.sq ((z3.pt hP2.mks).sq ((z2.pt hP1.mks).sq hpa1))
      · exact (TabsN.fz (TabsN.fz hT1 z2 hP1.mks) z3 hP2.mks).ext sq
    rintro σ2 H2 ⟨sp, bg, rfl, hpa2, hP2, hT2⟩
    -- the loop, the block
    refine ⟨_, rfl, by show 4 ≤ sizeLine; decide, fun q1 n1 => ⟨by show 1 ≤ sizeLine; decide, fun q2 n2 => ⟨by show 2 ≤ sizeLine; decide, fun q3 n3 => ?_⟩⟩⟩
    have t1 : RV K _ (.ref q1) (.note "x" "f" ps) := tvNew n1 (.cons (.str "note") (.cons (.str "x") (.cons (.str "f") (.cons (.tup hpa2 Tvs.ofStrs) .nil))))
    have t2 : Tv K _ (.ref q2) (.tuple (dB [.note "x" "f" ps])) := tvNew n2 (.cons t1 .nil)
    have t3 : RV K _ (.ref q3) (.again [.note "x" "f" ps]) := tvNew n3 (.cons (.str "again") (.cons t2 .nil))
    have s123 := ((same_new (o := .tup [.str "note", .str "x", .str "f", .ref pa]) n1).trans (same_new (o := .tup [.ref q1]) n2)).trans (same_new (o := .tup [.str "again", .ref q2]) n3)
    have hP2' := hP2.same s123
    have hT2' := hT2.ext s123
    have hpa2' := s123.pt.sq hpa2
    clear t1 t2 s123 hP2 hT2 hpa2
    generalize upd (upd (upd H2 q1 (.tup [.str "note", .str "x", .str "f", .ref pa])) q2 (.tup [.ref q1])) q3 (.tup [.str "again", .ref q2]) = H3 at t3 hP2' hT2' hpa2' ⊢
    clear n1 n2 n3
    refine ⟨fun σ4 H4 => ∃ vb, σ4 = [some (.ref p), some (.int (r : Nat)), some (.ref pa), some (.int sp), some (.int bg), some (.ref q3), some vb, none, none, none, none, none, none, none] ∧ Same H3 H4 ∧ BV K H4 vb (blk1 ps bg sp), ?_, ?_⟩
    · refine ⟨_, rfl, by show 3 ≤ sizeLine; decide, fun a0 m0 => ⟨_, rfl, by show 3 ≤ sizeLine; decide, fun a1 m1 => ⟨_, rfl, by show 3 ≤ sizeLine; decide, fun a3 m3 => ⟨by show 2 ≤ sizeLine; decide, fun a4 m4 => ⟨by show 2 ≤ sizeLine; decide, fun a5 m5 => ⟨by show 6 ≤ sizeLine; decide, fun ab mb => ?_⟩⟩⟩⟩⟩⟩
      have u0 : RV K _ (.ref a0) (.give "x" bg) := tvNew m0 (.cons (.str "give") (.cons (.str "x") (.cons (.int bg) .nil)))
      have u1 : RV K _ (.ref a1) (.give "y" sp) := tvNew m1 (.cons (.str "give") (.cons (.str "y") (.cons (.int sp) .nil)))
      have u3 : RV K _ (.ref a3) (.copy "z" "x") := tvNew m3 (.cons (.str "copy") (.cons (.str "z") (.cons (.str "x") .nil)))
      have u4 : RV K _ (.ref a4) (.prt "x") := tvNew m4 (.cons (.str "print") (.cons (.str "x") .nil))
      have u5 : RV K _ (.ref a5) (.prt "z") := tvNew m5 (.cons (.str "print") (.cons (.str "z") .nil))
      have p0 := Pt.new (o := .tup [.str "give", .str "x", .int bg]) m0
      have p1 := Pt.new (o := .tup [.str "give", .str "y", .int sp]) m1
      have p3 := Pt.new (o := .tup [.str "copy", .str "z", .str "x"]) m3
      have p4 := Pt.new (o := .tup [.str "print", .str "x"]) m4
      have p5 := Pt.new (o := .tup [.str "print", .str "z"]) m5
      refine ⟨.ref ab, rfl, ?_, ?_⟩
      · exact (((((same_new m0).trans (same_new m1)).trans (same_new m3)).trans (same_new m4)).trans (same_new m5)).trans (same_new mb)
      · exact tvNew mb (.cons ((((u0.pt p1).pt p3).pt p4).pt p5) (.cons (((u1.pt p3).pt p4).pt p5) (.cons (((((t3.pt p0).pt p1).pt p3).pt p4).pt p5) (.cons ((u3.pt p4).pt p5) (.cons (u4.pt p5) (.cons u5 .nil))))))
    rintro σ4 H4 ⟨vb, rfl, s4, tb⟩
    have hP4 := hP2'.same s4
    have hT4 := hT2'.ext s4
    have hpa4 := s4.pt.sq hpa2'
    clear hP2' hT2' hpa2' t3 s4
    -- the run
    refine ⟨by decide, fun la nla => ?_⟩
    have sla := same_new (o := .lst []) nla
    have hP5 := hP4.same sla
    have hT5 := hT4.ext sla
    have tb5 := tb.pt sla.pt
    have hpa5 := sla.pt.sq hpa4
    have hla5 : upd H4 la (.lst []) la = some (.lst []) := upd_same
    have offla : ∀ {b : Addr} {o : HO}, H4 b = some o → la ≠ b := fun e z => by
      rw [← z, nla] at e
      cases e
    have nP : PotOff p g s [la] := hP4.off fun b hb => by
      rw [List.mem_singleton.mp hb]
      exact nla
    clear hP4 hT4 hpa4 tb
    generalize upd H4 la (.lst []) = H5 at sla hP5 hT5 tb5 hpa5 hla5 ⊢
    refine ⟨fun σ6 H6 => ∃ x wa px A F S, σ6 = [some (.ref p), some (.int (r : Nat)), some (.ref pa), some (.int sp), some (.int bg), some (.ref q3), some vb, some (.ref la), some (.ref x), none, none, none, none, none] ∧
      St9 (FM P w K mg base T la sp) CP CN CR TT p g s F ["x", "y", "z"] x A px (blk1 ps bg sp) wa H6 S [] (0 :: way1 r) ∧ SqT K H6 pa (ps.map V.str) ∧ F1 ps bg sp r S ∧ S.heads "z" = some (hx1 bg r) ∧ S.trail.length = 2 * r + 4, ?_, ?_⟩
    · refine ⟨_, rfl, fun px dx npx ndx ned => ⟨px, dx, vb, blk1 ps bg sp, rfl, upd_same, tb5.pt ((Pt.new ndx).trans (Pt.new (by rw [upd_ne ned.symm]; exact npx))), good1 hps _ _, fun H6 k6 p6 pr6 pd6 => ⟨rfl, ?_⟩⟩⟩
      have s6 : Same H5 H6 := fun z o e => by
        refine k6 _ _ (ne_of_none e npx) ?_
        rw [upd_ne (ne_of_none e npx), upd_ne (ne_of_none e ndx)]
        exact e
      refine ⟨by show 3 ≤ sizeLine; decide, fun w1 m1 => ⟨by show 2 ≤ sizeLine; decide, fun w2 m2 => ⟨_, rfl, w2, r, [.int 3, .int 2], rfl, rfl, .inl (.inl upd_same), by simp, by omega, by omega, by decide, fun w3 m3 => ?_⟩⟩⟩
      have v1 := same_new (o := .tup [.int 0, .int 1, .int 2]) m1
      have v2 := same_new (o := .tup [.int 3, .int 2]) m2
      have v3 := same_new (o := .tup (List.replicate (r : Int).toNat [V.int 3, V.int 2]).flatten) m3
      have hfl : ((List.replicate (r : Int).toNat [V.int 3, V.int 2]).flatten).length = r * 2 := by
        rw [PyProof.Rows.lm_len_rep_flat, Int.toNat_natCast]
        rfl
      refine ⟨w1, w3, _, _, rfl, rfl, .inl (.inl (v3 _ _ (v2 _ _ upd_same))), .inl (.inl upd_same), by simp, ?_, fun e => ?_, fun _ w4 m4 => ?_⟩
      · rw [hfl]
        show 3 + r * 2 ≤ 2 ^ 24
        omega
      · rw [e] at hfl
        simp at hfl
        omega
      refine ⟨by show 2 ≤ sizeLine; decide, fun w5 m5 => ?_⟩
      have v4 := same_new (o := .tup ([.int 0, .int 1, .int 2] ++ (List.replicate (r : Int).toNat [V.int 3, V.int 2]).flatten)) m4
      have v5 := same_new (o := .tup [.int 4, .int 5]) m5
      refine ⟨w4, w5, _, _, rfl, rfl, .inl (.inl (v5 _ _ upd_same)), .inl (.inl upd_same), by simp, ?_, fun e => (by cases e), fun _ w6 m6 => ?_⟩
      · rw [List.length_append, hfl]
        show 3 + r * 2 + 2 ≤ 2 ^ 24
        omega
      have v6 := same_new (o := .tup ([.int 0, .int 1, .int 2] ++ (List.replicate (r : Int).toNat [V.int 3, V.int 2]).flatten ++ [.int 4, .int 5])) m6
      have eway : [V.int 0, V.int 1, V.int 2] ++ (List.replicate (r : Int).toNat [V.int 3, V.int 2]).flatten ++ [V.int 4, V.int 5] = plV (0 :: way1 r) := by
        rw [Int.toNat_natCast]
        unfold plV way1
        rw [List.map_cons, List.map_cons, List.map_cons, List.map_append, List.map_flatten, List.map_replicate]
        rfl
      have hw6 := upd_same (H := upd (upd (upd (upd (upd H6 w1 (.tup [.int 0, .int 1, .int 2])) w2 (.tup [.int 3, .int 2])) w3 (.tup (List.replicate (r : Int).toNat [V.int 3, V.int 2]).flatten)) w4 (.tup ([.int 0, .int 1, .int 2] ++ (List.replicate (r : Int).toNat [V.int 3, V.int 2]).flatten))) w5 (.tup [.int 4, .int 5])) (a := w6) (o := .tup ([.int 0, .int 1, .int 2] ++ (List.replicate (r : Int).toNat [V.int 3, V.int 2]).flatten ++ [.int 4, .int 5]))
      have s7 := ((((v1.trans v2).trans v3).trans v4).trans v5).trans v6
      generalize upd (upd (upd (upd (upd (upd H6 w1 (.tup [.int 0, .int 1, .int 2])) w2 (.tup [.int 3, .int 2])) w3 (.tup (List.replicate (r : Int).toNat [V.int 3, V.int 2]).flatten)) w4 (.tup ([.int 0, .int 1, .int 2] ++ (List.replicate (r : Int).toNat [V.int 3, V.int 2]).flatten))) w5 (.tup [.int 4, .int 5])) w6 (.tup ([.int 0, .int 1, .int 2] ++ (List.replicate (r : Int).toNat [V.int 3, V.int 2]).flatten ++ [.int 4, .int 5])) = H7 at s7 hw6 ⊢
      rw [eway] at hw6
      clear v1 v2 v3 v4 v5 v6 m1 m2 m3 m4 m5 m6 hfl eway
      refine fun d nd => ⟨_, rfl, _, rfl, la, sp, rfl, (hT5.ext ((s6.trans s7).trans (same_new nd))), fun f c q cl H8 eN T8 nf ncl LF => ?_⟩
      have s8 := same_new (o := .dK []) nd
      have hd8 : H8 d = some (.dK []) := eN _ _ upd_same fun _ z => by cases z
      refine ⟨hd8, [(.inr "f", .ref f)], rfl, by show 1 ≤ 15; decide, ?_⟩
      have e8 : ExtN H5 H8 := (ExtN.of ((s6.trans s7).trans s8)).trans eN
      have md : Mks [d] H8 := fun b hb => by
        rw [List.mem_singleton.mp hb]
        exact .inr ⟨_, hd8⟩
      have z9 : Fz [d] H8 (upd H8 d (.dK (mergeK [] [(.inr "f", .ref f)]))) := Fz.put md List.mem_cons_self (.inr ⟨_, rfl⟩)
      have hd9 : upd H8 d (.dK (mergeK [] [(.inr "f", .ref f)])) d = some (.dK [(.inr "f", .ref f)]) := upd_same
      have nPd : PotOff p g s [d] := ((hP5.same s6).same s7).off fun b hb => by
        rw [List.mem_singleton.mp hb]
        exact nd
      have lad : la ∉ [d] := fun hm => by
        rw [← List.mem_singleton.mp hm] at nd
        rw [(s6.trans s7) _ _ hla5] at nd
        cases nd
      generalize upd H8 d (.dK (mergeK [] [(.inr "f", .ref f)])) = H9 at z9 hd9 ⊢
      have hP9 := (hP5.ext e8).fz z9 nPd.1 nPd.2.1 nPd.2.2
      have hT9 := TabsN.fz T8 z9 md
      have hC9 : ClAt K la [] H9 := ClAt.fz ⟨[], e8 _ _ hla5 (fun _ z => by cases z), .nil⟩ z9 md lad
      have pr9 := ((PM.PrAt.ext (pr6.same s7) ((ExtN.of s8).trans eN)).fz z9 md)
      have pd9 := ((PM.PrD.ext (pd6.same s7) ((ExtN.of s8).trans eN)).fz z9 md)
      have hw9 := (z9.pt md).sq ((ExtN.pt ((ExtN.of s8).trans eN)).sq (K := K) (.inl (.inl hw6)))
      have hpa9 := (z9.pt md).sq ((ExtN.pt e8).sq hpa5)
      have LF9 := LF.fz z9 md
      have hops : opsB (blk1 ps bg sp) = ([("f" : Str)] : List Str) := rfl
      have hlen : (way1 r).length = 2 * r + 4 := by
        show ((List.replicate r [3, 2]).flatten ++ [4, 5]).length + 2 = _
        rw [List.length_append, PyProof.Rows.lm_len_rep_flat]
        show r * 2 + 2 + 2 = _
        omega
      refine ⟨FM P w K mg base T la sp, ["x", "y", "z"], px, w6, d, [], blk1 ps bg sp, _, fun _ => f, way1 r, rfl, pr9, pd9, hw9, wayP1 ps bg sp r, by omega, hd9, fun o ho => ?_, hC9, hC9.mks, by show [la].Nodup; simp, names1 hps bg sp, by show 3 < 64; decide, by show 1 ≤ 20; decide, rfl, fun x A F S l' wa H10 z10 R hrun hfr => ?_⟩
      · rw [hops] at ho
        rw [List.mem_singleton.mp ho]
        exact ⟨valV_pos rfl, q, cl, c, LF9⟩
      obtain ⟨F10, h10, el⟩ := told1 hps hrun
      have htr := run_trail hrun
      rw [hlen] at htr
      rw [el] at R
      have n9 := hP9.off hfr
      refine ⟨x, wa, px, A, F, S, rfl, ⟨R, hP9.fz z10 nP.1 nP.2.1 nP.2.2, TabsN.fz hT9 z10 hC9.mks, ?_⟩, (z10.pt hC9.mks).sq hpa9, F10, h10, by rw [htr]; show 0 + _ = _; omega⟩
      have app : ∀ {b : Addr}, b ∉ wa :: A.own → b ∉ [la] → b ∉ wa :: (A.own ++ [la]) := fun h1 h2 hm => by
        rcases List.mem_cons.mp hm with e | hm
        · exact h1 (by rw [e]; exact List.mem_cons_self)
        · rcases List.mem_append.mp hm with hm | hm
          · exact h1 (List.mem_cons_of_mem _ hm)
          · exact h2 hm
      exact ⟨app n9.1 nP.1, app n9.2.1 nP.2.1, app n9.2.2 nP.2.2⟩
    rintro σ6 H6 ⟨x, wa, px, A, F, S, rfl, B6, hpa6, F6, hz6, htr6⟩
    clear hla5 hpa5 hP5 hT5 tb5 offla sla
    have ch := F6.chain hps
    have hml : S.made.length = r := by rw [F6.m, List.length_map, List.length_range]
    have hcl6 : ClAt K la ([] : List (List V)) H6 := B6.R.nt.at_
    -- nothing is called, all waits
    have hnx : heldS S "x" = .note (r - 1) := by rw [held_of F6.w F6.x, hx1_pos (by omega)]
    obtain ⟨dx, hx6⟩ := B6.R.rx
    refine ⟨_, rfl, by decide, fun e1 ne1 => ?_⟩
    have s1 := same_new (o := .lst []) ne1
    refine ⟨_, _, ClAt.dp (rs := []) (hcl6.same s1), .lst (SqL.of upd_same) .nil, sh_rows [], by decide, _, rfl, ifBF rfl ?_⟩
    refine ⟨_, rfl, x, dx, _, rfl, s1 _ _ hx6, rfl, _, F, _, x, A, S, _, px, _, wa, _, rfl, (B6.same s1).R, fun q ms is H7 s2 hq hM nd lt hperm hpw => ?_⟩
    have eis := wait_all ch (by omega) (by rw [F6.x, hx1_pos (by omega)]) hml hM nd lt hperm hpw
    refine ⟨_, rfl, _, rfl, RgOk.of_le (by decide) (by omega) (by decide) (by omega), fun q2 nq2 => ?_⟩
    have s3 := same_new (o := .tup (rgV 0 (r : Int))) nq2
    refine ⟨_, _, dp_ints (s3.pt.sq hq), dp_ints (ns := (List.range r).map fun (n : Nat) => (n : Int)) (.inl (.inl (by rw [upd_same, rg0]))), sh_ints _, sh_ints _, _, rfl, ?_⟩
    rw [eis, eq_ints]
    refine ifBF rfl ?_
    have s13 := (s1.trans s2).trans s3
    refine ⟨_, rfl, x, dx, _, rfl, s13 _ _ hx6, rfl, _, F, _, x, A, S, _, px, _, wa, _, rfl, (B6.same s13).R, fun q3' H8 s4 hq3 => ⟨by decide, fun e2 ne2 => ?_⟩⟩
    rw [F6.w] at hq3
    have s5 := same_new (o := .tup []) ne2
    have s15 := (s13.trans s4).trans s5
    refine ⟨_, _, dp_ints (ns := []) (s5.pt.sq hq3), dp_ints (ns := []) (.inl (.inl upd_same)), sh_ints [], sh_ints [], _, rfl, ifBF (by rw [eq_ints]; rfl) ?_⟩
    have B8 := B6.same s15
    have hpa8 := s15.pt.sq hpa6
    clear s1 s2 s3 s4 s5 s13 s15 ne1 nq2 ne2 hq hq3 hM B6 hpa6 hcl6 hx6
    generalize upd H8 e2 (.tup []) = H9 at B8 hpa8 ⊢
    -- the ask
    have R8 := B8.R
    rw [way1_w5] at R8
    obtain ⟨dx, hx8⟩ := R8.rx
    refine ⟨_, rfl, x, dx, _, rfl, hx8, rfl, FM P w K mg base T la sp, F, _, x, A, S, [], px, _, wa, w5 r, 5, 0, 6, [6], .prt "x", rfl, R8, rfl, rfl, rfl, by rw [hml]; omega, by rw [F6.p]; decide, by rw [htr6]; omega, by rw [w5_len]; omega, fun S7 l7 H10 z10 R10 hD => ?_⟩
    obtain ⟨fr, eS, hW⟩ := hD.inv_prt
    obtain ⟨efr, el7⟩ := workWo ch (show r - 1 < r by omega) (Nat.zero_le _) hnx hW
    rw [show r - 1 + 1 = r by omega] at efr el7
    have el7 : l7 = clls (row1 ps bg sp) 0 r := el7
    have hval : ∀ {S' : NS} {y : Str}, S'.worths = seg (fun n => wx ps bg sp (n + 1)) 0 r → S'.heads y = some (hx1 bg r) → heldS S' y = .worth (.int (wx ps bg sp r)) := fun {S' y} h1 h2 => by
      unfold heldS
      rw [h2, hx1_pos (by omega)]
      refine nowS_some (v := .int (wx ps bg sp r)) ?_
      rw [h1, look_seg (Nat.zero_le _), if_pos (by omega)]
      show some (V.int (wx ps bg sp (r - 1 + 1))) = _
      rw [show r - 1 + 1 = r by omega]
    have h1w : S.worths ++ fr = seg (fun n => wx ps bg sp (n + 1)) 0 r := by rw [F6.w, efr]; rfl
    obtain ⟨S9, eS9⟩ : ∃ S9 : NS, S9 = { S7 with trail := S.trail ++ [markS S (.prt "x")] } := ⟨_, rfl⟩
    rw [← eS9, el7] at R10
    have hw9 : S9.worths = seg (fun n => wx ps bg sp (n + 1)) 0 r := by rw [eS9, eS]; exact h1w
    have hp9 : S9.printed = [.int (wx ps bg sp r)] := by
      rw [eS9, eS]
      show S.printed ++ [_] = _
      rw [hval (S' := { S with worths := S.worths ++ fr }) h1w F6.x, F6.p]
      rfl
    have hz9 : S9.heads "z" = some (hx1 bg r) := by rw [eS9, eS]; exact hz6
    have hm9 : S9.made.length = r := by rw [eS9, eS]; exact hml
    have ht9 : S9.trail.length = 2 * r + 5 := by
      rw [eS9]
      show (S.trail ++ [_]).length = _
      rw [List.length_append, htr6]
      rfl
    have B10 := B8.step z10 R10
    have hpa10 := (z10.pt B8.R.mksR).sq hpa8
    clear B8 hpa8 z10 R10 R8 hx8 hW hD eS eS9 efr el7 h1w hz6 F6 htr6 ch hml hnx eis
    -- what is due
    refine ⟨fun σ' H' => ∃ du, σ' = [some (.ref p), some (.int (r : Nat)), some (.ref pa), some (.int sp), some (.int bg), some (.ref q3), some vb, some (.ref la), some (.ref x), some (.ref du), some (.int bg), none, none, none] ∧ St9 (FM P w K mg base T la sp) CP CN CR TT p g s F ["x", "y", "z"] x A px (blk1 ps bg sp) wa H' S9 (clls (row1 ps bg sp) 0 r) (w5 r ++ [5] ++ [6]) ∧ SqT K H' pa (ps.map V.str) ∧ ClAt K du [] H' ∧ du ∉ wa :: A.fa :: (A.own ++ [la]) ∧ PotOff p g s [du], ?_, ?_⟩
    · refine ⟨by decide, fun du ndu => ⟨_, rfl, by show 2 ≤ sizeLine; decide, fun q nq => ?_⟩⟩
      have s1 := same_new (o := .lst []) ndu
      have s2 := same_new (o := .tup [.ref du, .int bg]) nq
      have s12 := s1.trans s2
      refine ⟨q, _, rfl, .inl (.inl upd_same), rfl, _, _, rfl, _, _, rfl, rfl, du, rfl, B10.same s12, s12.pt.sq hpa10, ⟨[], s2 _ _ upd_same, .nil⟩, B10.R.newN ndu, B10.P.off fun b hb => by rw [List.mem_singleton.mp hb]; exact ndu⟩
    rintro σ11 H11 ⟨du, rfl, B11, hpa11, hC11, ndu, pdu⟩
    clear B10 hpa10
    have hP4 := P4_in hps
    refine ⟨fun σ' H' => ∃ y11 y12, σ' = [some (.ref p), some (.int (r : Nat)), some (.ref pa), some (.int sp), some (.int bg), some (.ref q3), some vb, some (.ref la), some (.ref x), some (.ref du), some (.int (wx ps bg sp r)), y11, y12, none] ∧ St9 (FM P w K mg base T la sp) CP CN CR TT p g s F ["x", "y", "z"] x A px (blk1 ps bg sp) wa H' S9 (clls (row1 ps bg sp) 0 r) (w5 r ++ [5] ++ [6]) ∧ ClAt K du (clls (row1 ps bg sp) 0 r) H', ?_, ?_⟩
    · refine ⟨_, rfl, _, rfl, by omega, by omega, ?_⟩
      refine for_range (fun i σ' H' => ∃ y11 y12, σ' = [some (.ref p), some (.int (r : Nat)), some (.ref pa), some (.int sp), some (.int bg), some (.ref q3), some vb, some (.ref la), some (.ref x), some (.ref du), some (.int (wx ps bg sp i)), y11, y12, none] ∧ St9 (FM P w K mg base T la sp) CP CN CR TT p g s F ["x", "y", "z"] x A px (blk1 ps bg sp) wa H' S9 (clls (row1 ps bg sp) 0 r) (w5 r ++ [5] ++ [6]) ∧ ClAt K du (clls (row1 ps bg sp) 0 i) H' ∧ SqT K H' pa (ps.map V.str)) ⟨_, _, rfl, B11, by rw [clls_nil]; exact hC11, hpa11⟩ ?_ (fun σ' H' h => ?_)
      · rintro i σ2' H2' hi ⟨y11, y12, rfl, B, hC, hpa⟩
        refine lc_into ⟨_, rfl, pa, rfl, ⟨_, hpa⟩, ?_⟩
        refine lc_overA (p := none) (as := ps) (zs := ps.map V.str) (Rel := fun _ y v => v = V.int (if y = ("x" : Str) then wx ps bg sp i else sp)) it_tup (by rw [List.length_map]) (fun _ _ _ _ _ h => h) (fun _ h => nomatch h) (by rw [List.length_map]; exact Nat.lt_of_le_of_lt hP4.1 (by decide)) (fun H' kq pt => pt.sq hpa) ?_ ?_
        · intro j z y hz hy H3' kq pt R kR
          rw [List.getElem?_map, hy] at hz
          cases hz
          refine ⟨rfl, _, rfl, rfl, _, rfl, ?_⟩
          by_cases e : y = "x"
          · subst e
            exact ifD rfl ⟨_, rfl, kR _ _ (Same.kq fun _ _ h => h) (Pt.refl _) (by rw [if_pos rfl])⟩
          · exact ifDF (fun z => e (by injection z)) ⟨_, rfl, kR _ _ (Same.kq fun _ _ h => h) (Pt.refl _) (by rw [if_neg e])⟩
        · intro D ys H3' kq pt nD hD all
          refine ⟨D, _, rfl, .inl ⟨SqL.of hD, fun q2 nq2 => ?_⟩⟩
          have eys : ys = (row1 ps bg sp i).map V.int := by
            rw [All2.map all]
            unfold row1 sumP
            rw [List.map_map]
            rfl
          subst eys
          have s1 := kq.same.trans (same_new (o := .tup ((row1 ps bg sp i).map V.int)) nq2)
          have hrow := upd_same (H := H3') (a := q2) (o := .tup ((row1 ps bg sp i).map V.int))
          generalize upd H3' q2 (.tup ((row1 ps bg sp i).map V.int)) = H4' at s1 hrow ⊢
          have B4 := B.same s1
          have hpa4 := s1.pt.sq hpa
          have hC4 := hC.same s1
          obtain ⟨us, hU, hUA⟩ := hC4
          have hul : us.length = i := by
            rw [hUA.len]
            unfold clls
            rw [List.length_map, List.length_range', Nat.sub_zero]
          refine ⟨_, rfl, .inl ⟨rfl, _, SqL.of hU⟩, _, rfl, du, us, _, rfl, rfl, hU, by rw [hul]; exact Nat.lt_of_lt_of_le (Nat.lt_of_lt_of_le hi r15) (by decide), ?_⟩
          have mdu : Mks [du] H4' := fun b hb => by
            rw [List.mem_singleton.mp hb]
            exact .inl ⟨_, hU⟩
          have zd : Fz [du] H4' (upd H4' du (.lst (us ++ [.ref q2]))) := Fz.put mdu List.mem_cons_self (.inl ⟨_, rfl⟩)
          have B5 := B4.put (o := .lst (us ++ [.ref q2])) (.inl ⟨_, hU⟩) (.inl ⟨_, rfl⟩) ndu pdu
          have hrow5 : SqT K (upd H4' du (.lst (us ++ [.ref q2]))) q2 ((row1 ps bg sp i).map V.int) := (zd.pt mdu).sq (.inl (.inl hrow))
          refine ⟨_, rfl, q2, _, rfl, hrow5, _, rfl, _, _, rfl, rfl, .inl ⟨_, rfl, _, _, rfl, rfl, (by show (0 : Int) < 1000003; decide), ?_⟩⟩
          refine ⟨_, _, rfl, B5, ⟨_, upd_same, ?_⟩, (zd.pt mdu).sq hpa4⟩
          rw [← clls_snoc (Nat.zero_le i)]
          exact All2.app (hUA.imp fun u ws ⟨t, e, q⟩ => ⟨t, e, (zd.pt mdu).sq q⟩) (.cons ⟨q2, rfl, hrow5⟩ .nil)
      · obtain ⟨y11, y12, e, B, hC, hpa⟩ := h
        rw [Int.toNat_natCast] at e hC
        exact ⟨y11, y12, e, B, hC⟩
    rintro σ12 H12 ⟨y11, y12, rfl, B12, hC12⟩
    clear B11 hpa11 hC11
    -- once each
    have hcl12 : ClAt K la (clls (row1 ps bg sp) 0 r) H12 := B12.R.nt.at_
    obtain ⟨dx, hx12⟩ := B12.R.rx
    rw [clls0] at hcl12 hC12
    refine ⟨_, rfl, _, rfl, _, _, hcl12.dp, hC12.dp, sh_rows _, sh_rows _, _, rfl, ?_⟩
    rw [eq_rows]
    refine ifBF rfl ?_
    refine ⟨_, rfl, x, dx, _, rfl, hx12, rfl, _, F, _, x, A, S9, _, px, _, wa, _, rfl, B12.R, fun q1' H13 s1 hq1 => ⟨_, rfl, by show 1 ≤ sizeLine; decide, fun e1 ne1 => ?_⟩⟩
    rw [hp9] at hq1
    have s2 := same_new (o := .tup [.int (wx ps bg sp r)]) ne1
    refine ⟨_, _, dp_ints (ns := [wx ps bg sp r]) (s2.pt.sq hq1), dp_ints (ns := [wx ps bg sp r]) (.inl (.inl upd_same)), sh_ints [_], sh_ints [_], _, rfl, ifBF (by rw [eq_ints]; rfl) ?_⟩
    have s12 := s1.trans s2
    refine ⟨_, rfl, x, dx, _, rfl, s12 _ _ hx12, rfl, _, F, _, x, A, S9, _, px, _, wa, _, rfl, (B12.same s12).R, fun q2' H14 s3 hq2 => ⟨_, rfl, _, rfl, RgOk.of_le (by decide) (by omega) (by decide) (by omega), fun e2 ne2 => ?_⟩⟩
    rw [hw9, seg_keys] at hq2
    have s4 := same_new (o := .tup (rgV 0 (r : Int))) ne2
    refine ⟨_, _, dp_ints (s4.pt.sq hq2), dp_ints (ns := (List.range r).map fun (n : Nat) => (n : Int)) (.inl (.inl (by rw [upd_same, rg0]))), sh_ints _, sh_ints _, _, rfl, ifBF (by rw [eq_ints]; rfl) ?_⟩
    have s14 := (s12.trans s3).trans s4
    refine ⟨_, rfl, x, dx, _, rfl, s14 _ _ hx12, rfl, _, F, _, x, A, S9, _, px, _, wa, _, rfl, (B12.same s14).R, fun q4' ms is H15 s5 hq4 hM nd lt hperm hpw => ⟨by decide, fun e3 ne3 => ?_⟩⟩
    have eis := wait_none (by rw [hm9]; exact hw9) hM lt hperm
    rw [eis] at hq4
    have s6 := same_new (o := .tup []) ne3
    refine ⟨_, _, dp_ints (ns := []) (s6.pt.sq hq4), dp_ints (ns := []) (.inl (.inl upd_same)), sh_ints [], sh_ints [], _, rfl, ifBF (by rw [eq_ints]; rfl) ?_⟩
    have s16 := (s14.trans s5).trans s6
    have B16 := B12.same s16
    have hC16 := hC12.same s16
    clear s1 s2 s3 s4 s5 s6 s12 s14 s16 ne1 ne2 ne3 hq1 hq2 hq4 hM B12 hC12 hcl12 hx12
    generalize upd H15 e3 (.tup []) = H16 at B16 hC16 ⊢
    -- asked again
    obtain ⟨dx, hx16⟩ := B16.R.rx
    refine ⟨_, rfl, x, dx, _, rfl, hx16, rfl, FM P w K mg base T la sp, F, _, x, A, S9, _, px, _, wa, w5 r ++ [5], 6, 0, 7, [7], .prt "z", rfl, B16.R, rfl, rfl, rfl, by rw [hm9]; omega, by rw [hp9]; show 1 < 50000; decide, by rw [ht9]; omega, by rw [List.length_append, w5_len]; show 2 * r + 4 + 1 < 50000; omega, fun S7 l7 H17 z17 R17 hD => ?_⟩
    obtain ⟨fr, eS, hW⟩ := hD.inv_prt
    have hz : heldS S9 "z" = .worth (.int (wx ps bg sp r)) := hval hw9 hz9
    obtain ⟨efr, el7⟩ := noWo hz hW
    obtain ⟨S10, eS10⟩ : ∃ S10 : NS, S10 = { S7 with trail := S9.trail ++ [markS S9 (.prt "z")] } := ⟨_, rfl⟩
    rw [← eS10, el7] at R17
    have hw10 : S10.worths = seg (fun n => wx ps bg sp (n + 1)) 0 r := by
      rw [eS10, eS, efr]
      show S9.worths ++ [] = _
      rw [List.append_nil, hw9]
    have hz10 : S10.heads "z" = some (hx1 bg r) := by rw [eS10, eS]; exact hz9
    have hp10 : S10.printed = [.int (wx ps bg sp r), .int (wx ps bg sp r)] := by
      rw [eS10, eS]
      show S9.printed ++ [_] = _
      rw [hval (S' := { S9 with worths := S9.worths ++ fr }) (by rw [efr]; show S9.worths ++ [] = _; rw [List.append_nil, hw9]) hz9, hp9]
      rfl
    have B17 := B16.step z17 R17
    have hC17 : ClAt K du (((List.range r).map (row1 ps bg sp)).map rowV) H17 := hC16.fz z17 B16.R.mksR fun hm => by
      refine ndu ?_
      rcases List.mem_cons.mp hm with e | hm
      · rw [e]
        exact List.mem_cons_self
      · exact List.mem_cons_of_mem _ (List.mem_cons_of_mem _ hm)
    have hcl17 : ClAt K la (clls (row1 ps bg sp) 0 r) H17 := B17.R.nt.at_
    rw [clls0] at hcl17
    obtain ⟨dx, hx17⟩ := B17.R.rx
    clear B16 hC16 z17 R17 hD eS hW eS10 efr el7
    refine ⟨_, rfl, _, rfl, _, _, hcl17.dp, hC17.dp, sh_rows _, sh_rows _, _, rfl, ?_⟩
    rw [eq_rows]
    refine ifBF rfl ?_
    refine ⟨_, rfl, x, dx, _, rfl, hx17, rfl, _, F, _, x, A, S10, _, px, _, wa, _, rfl, B17.R, fun q1' H18 s1 hq1 => ⟨_, rfl, _, rfl, by show 2 ≤ sizeLine; decide, fun e1 ne1 => ?_⟩⟩
    rw [hp10] at hq1
    have s2 := same_new (o := .tup [.int (wx ps bg sp r), .int (wx ps bg sp r)]) ne1
    refine ⟨_, _, dp_ints (ns := [wx ps bg sp r, wx ps bg sp r]) (s2.pt.sq hq1), dp_ints (ns := [wx ps bg sp r, wx ps bg sp r]) (.inl (.inl upd_same)), sh_ints [_, _], sh_ints [_, _], _, rfl, ifBF (by rw [eq_ints]; rfl) ?_⟩
    have s12 := s1.trans s2
    refine ⟨_, rfl, x, dx, _, rfl, s12 _ _ hx17, rfl, _, F, _, x, A, S10, _, px, _, wa, _, "z", rfl, (B17.same s12).R, by rw [rows1]; simp [namesR], fun u H19 s3 hu => ⟨_, rfl, by show 2 ≤ sizeLine; decide, fun e2 ne2 => ?_⟩⟩
    rw [hval hw10 hz10] at hu
    obtain ⟨ua, rfl, hu⟩ := hu
    have s4 := same_new (o := .tup [.str "worth", .int (wx ps bg sp r)]) ne2
    refine ⟨_, _, dp_worth (s4.pt.sq hu), dp_worth (.inl (.inl upd_same)), sh_worth _, sh_worth _, _, rfl, ifBF (by rw [eq_worth]; rfl) ?_⟩
    have B20 := B17.same ((s12.trans s3).trans s4)
    obtain ⟨dx, hx20⟩ := B20.R.rx
    refine ⟨_, rfl, x, dx, _, rfl, hx20, rfl, _, F, _, x, A, S10, _, px, _, wa, w5 r ++ [5] ++ [6], 7, rfl, B20.R, ?_⟩
    exact ⟨rfl, k _ B20.P B20.T⟩
end
end K13
set_option Elab.async false
set_option linter.all false
set_option maxRecDepth 100000
set_option maxHeartbeats 4000000
/-! The program of two names that take turns. -/
namespace PM
open PySem PySem.Spec PyProof.Rows L2 ZX ZR
def blk2 : List Rw := [.give "a" 1, .give "b" 2, .again [.note "c" "f" ["a", "b"], .copy "a" "b", .copy "b" "c"], .ask "b", .ask "a", .prt "c"]
theorem rows2 : rowsB blk2 = [.give "a" 1, .give "b" 2, .again [.note "c" "f" ["a", "b"], .copy "a" "b", .copy "b" "c"], .note "c" "f" ["a", "b"], .copy "a" "b", .copy "b" "c", .ask "b", .ask "a", .prt "c"] := rfl
theorem leads2 : leadsP blk2 = [[1], [2], [3, 6], [4], [5], [2], [7], [8], [9], []] := rfl
theorem names2 : ∀ x ∈ (rowsB blk2).flatMap namesR, x ∈ ([("a" : Str), "b", "c"] : List Str) := fun x hx => by
  rw [rows2] at hx
  simp only [List.flatMap_cons, List.flatMap_nil, namesR, List.append_nil, List.mem_append, List.mem_cons, List.not_mem_nil, or_false, false_or] at hx
  simp only [List.mem_cons, List.not_mem_nil, or_false]
  rcases hx with rfl | rfl | (rfl | rfl | rfl) | (rfl | rfl) | (rfl | rfl) | rfl | rfl | rfl <;> first | exact .inl rfl | exact .inr (.inl rfl) | exact .inr (.inr rfl)
theorem good2 : Good blk2 := by
  refine ⟨⟨ok_a, ok_b, ⟨by decide, by decide, ⟨ok_c, ok_f, by decide, fun y hy => ?_⟩, ⟨ok_a, ok_b⟩, ⟨ok_b, ok_c⟩, trivial⟩, ok_b, ok_a, ok_c, trivial⟩, by decide, by rw [rows2]; decide, fun ys ly => Nat.le_trans (ly.le (W := ["a", "b", "c"]) names2) (by decide)⟩
  simp only [List.mem_cons, List.not_mem_nil, or_false] at hy
  rcases hy with rfl | rfl
  · exact ok_a
  · exact ok_b
/-- the pair behind n rounds -/
def pr : Nat → Int × Int
  | 0 => (1, 2)
  | n + 1 => ((pr n).2, ((pr n).1 + (pr n).2) % 1000003)
def hb2 : Nat → Th
  | 0 => .worth (.int 2)
  | n + 1 => .note n
def ha2 : Nat → Th
  | 0 => .worth (.int 1)
  | n + 1 => hb2 n
def row2 (n : Nat) : List Int := [(pr n).1, (pr n).2]
def wq2 (n : Nat) : Int := (pr (n + 1)).2
theorem val_b (n : Nat) : valT wq2 (hb2 n) = .int (pr n).2 := by cases n <;> rfl
theorem val_a (n : Nat) : valT wq2 (ha2 n) = .int (pr n).1 := by
  cases n with
  | zero => rfl
  | succ n => exact val_b n
/-- behind i rounds -/
structure F2 (i : Nat) (S : NS) : Prop where
  a : S.heads "a" = some (ha2 i)
  b : S.heads "b" = some (hb2 i)
  c : 0 < i → S.heads "c" = some (.note (i - 1))
  m : S.made = (List.range i).map fun n => (("f" : Str), [ha2 n, hb2 n])
  w : S.worths = []
  p : S.printed = []
theorem F2.tr {i : Nat} {S : NS} {m : List Mark} (F : F2 i S) : F2 i { S with trail := m } := ⟨F.a, F.b, F.c, F.m, F.w, F.p⟩
end PM
namespace K13
open PySem PySem.Spec PyProof.Rows L2 LamX ZX PM ZR
theorem _root_.PM.F2.chain {i : Nat} {S : NS} (F : F2 i S) : Chain S wq2 row2 0 i 0 := by
  refine ⟨by rw [F.w, seg_nil], fun n hn => ⟨"f", [ha2 n, hb2 n], ?_, fun m hm => ?_, fun h0 => ?_, ?_⟩, fun n hn => ?_⟩
  · rw [F.m, List.getElem?_map, List.getElem?_range hn]
    rfl
  · simp only [List.mem_cons, List.not_mem_nil, or_false] at hm
    have kb : ∀ j, Th.note m = hb2 j → m < j := fun j e => by
      cases j with
      | zero => cases e
      | succ j => cases e; exact Nat.lt_succ_self _
    rcases hm with e | e
    · cases n with
      | zero => cases e
      | succ n => exact Nat.lt_succ_of_lt (kb n e)
    · exact kb n e
  · cases n with
    | zero => exact absurd h0 (Nat.lt_irrefl 0)
    | succ n => exact List.mem_cons_of_mem _ List.mem_cons_self
  · show [valT wq2 (ha2 n), valT wq2 (hb2 n)] = _
    rw [val_a, val_b]
    rfl
  · show ((pr n).1 + (pr n).2) % 1000003 = (((pr n).1 + ((pr n).2 + 0)) + 0) % 1000003
    rw [Int.add_zero, Int.add_zero]
section
variable {P : Program} {w : World} {K : PySem.W.Frag} {mg : Str → Option Value} {base : Heap} {fm : Fam P w K mg base} {S S2 : NS} {l l2 : fm.L}
/-- the rows of a run, one by one -/
theorem run_note {b : List Rw} {p n : Nat} {rest : List Nat} {x o : Str} {ps : List Str} (hr : (rowsB b)[p]? = some (.note x o ps)) (h : RunS fm b S l p (n :: rest) S2 l2) : ∃ T : NS, T.heads = setH S.heads x (.note S.made.length) ∧ T.made = S.made ++ [(o, ps.map (heldS S))] ∧ T.worths = S.worths ∧ T.printed = S.printed ∧ RunS fm b T l n rest S2 l2 := by
  obtain ⟨S1, l1, d1, r1⟩ := run_inv hr h
  cases d1
  refine ⟨_, ?_, ?_, ?_, ?_, r1⟩ <;> rfl
theorem run_copy {b : List Rw} {p n : Nat} {rest : List Nat} {x y : Str} (hr : (rowsB b)[p]? = some (.copy x y)) (h : RunS fm b S l p (n :: rest) S2 l2) : ∃ T : NS, T.heads = setH S.heads x (heldS S y) ∧ T.made = S.made ∧ T.worths = S.worths ∧ T.printed = S.printed ∧ RunS fm b T l n rest S2 l2 := by
  obtain ⟨S1, l1, d1, r1⟩ := run_inv hr h
  cases d1
  refine ⟨_, ?_, ?_, ?_, ?_, r1⟩ <;> rfl
theorem run_give {b : List Rw} {p n : Nat} {rest : List Nat} {x : Str} {i : Int} (hr : (rowsB b)[p]? = some (.give x i)) (h : RunS fm b S l p (n :: rest) S2 l2) : ∃ T : NS, T.heads = setH S.heads x (.worth (.int i)) ∧ T.made = S.made ∧ T.worths = S.worths ∧ T.printed = S.printed ∧ RunS fm b T l n rest S2 l2 := by
  obtain ⟨S1, l1, d1, r1⟩ := run_inv hr h
  cases d1
  refine ⟨_, ?_, ?_, ?_, ?_, r1⟩ <;> rfl
theorem run_again {b : List Rw} {p n : Nat} {rest : List Nat} {a : List Rw} (hr : (rowsB b)[p]? = some (.again a)) (h : RunS fm b S l p (n :: rest) S2 l2) : ∃ T : NS, T.heads = S.heads ∧ T.made = S.made ∧ T.worths = S.worths ∧ T.printed = S.printed ∧ RunS fm b T l n rest S2 l2 := by
  obtain ⟨S1, l1, d1, r1⟩ := run_inv hr h
  cases d1
  refine ⟨_, ?_, ?_, ?_, ?_, r1⟩ <;> rfl
theorem run_ask {b : List Rw} {p n : Nat} {rest : List Nat} {x : Str} (hr : (rowsB b)[p]? = some (.ask x)) (h : RunS fm b S l p (n :: rest) S2 l2) : ∃ (T : NS) (fr : List (Nat × V)) (l1 : fm.L), Wo fm S (openS S [] [heldS S x]) [] l fr l1 ∧ T.heads = S.heads ∧ T.made = S.made ∧ T.worths = S.worths ++ fr ∧ T.printed = S.printed ∧ RunS fm b T l1 n rest S2 l2 := by
  obtain ⟨S1, l1, d1, r1⟩ := run_inv hr h
  cases d1 with
  | ask hw hf => refine ⟨_, _, _, hw, ?_, ?_, ?_, ?_, r1⟩ <;> rfl
theorem ne_ac : ("a" : Str) ≠ "c" := by decide +kernel
theorem ne_bc : ("b" : Str) ≠ "c" := by decide +kernel
theorem ne_ab : ("a" : Str) ≠ "b" := by decide +kernel
/-- a round -/
theorem round2 {i : Nat} {rest : List Nat} (F : F2 i S) (h : RunS fm blk2 S l 2 (3 :: 4 :: 5 :: 2 :: rest) S2 l2) : ∃ S', F2 (i + 1) S' ∧ RunS fm blk2 S' l 2 rest S2 l2 := by
  obtain ⟨T1, a1, a2, a3, a4, r1⟩ := run_again rfl h
  obtain ⟨T3, b1, b2, b3, b4, r3⟩ := run_note rfl r1
  have w1 : T1.worths = [] := a3.trans F.w
  have a1a : T1.heads "a" = some (ha2 i) := by rw [a1]; exact F.a
  have a1b : T1.heads "b" = some (hb2 i) := by rw [a1]; exact F.b
  have m1 : T1.made = (List.range i).map fun n => (("f" : Str), [ha2 n, hb2 n]) := a2.trans F.m
  have hml : T1.made.length = i := by rw [m1, List.length_map, List.length_range]
  have w3 : T3.worths = [] := b3.trans w1
  have b3b : T3.heads "b" = some (hb2 i) := by rw [b1, setH_ne ne_bc]; exact a1b
  have b3c : T3.heads "c" = some (.note i) := by rw [b1, setH_same, hml]
  have m3 : T3.made = (List.range (i + 1)).map fun n => (("f" : Str), [ha2 n, hb2 n]) := by
    rw [b2]
    show T1.made ++ [(("f" : Str), [heldS T1 "a", heldS T1 "b"])] = _
    rw [held_of w1 a1a, held_of w1 a1b, List.range_succ, List.map_append, ← m1]
    rfl
  obtain ⟨T4, c1, c2, c3, c4, r4⟩ := run_copy rfl r3
  have w4 : T4.worths = [] := c3.trans w3
  have c4a : T4.heads "a" = some (hb2 i) := by rw [c1, setH_same, held_of w3 b3b]
  have c4c : T4.heads "c" = some (.note i) := by rw [c1, setH_ne (Ne.symm ne_ac)]; exact b3c
  obtain ⟨T5, d1, d2, d3, d4, r5⟩ := run_copy rfl r4
  refine ⟨T5, ⟨?_, ?_, fun _ => ?_, ?_, d3.trans w4, ?_⟩, r5⟩
  · rw [d1, setH_ne ne_ab]
    exact c4a
  · rw [d1, setH_same, held_of w4 c4c]
    rfl
  · rw [d1, setH_ne (Ne.symm ne_bc)]
    exact c4c
  · rw [d2, c2, m3]
  · rw [d4, c4, b4, a4, F.p]
theorem rounds2 {rest : List Nat} : ∀ (n i : Nat) {S : NS}, F2 i S → RunS fm blk2 S l 2 ((List.replicate n [3, 4, 5, 2]).flatten ++ rest) S2 l2 → ∃ S', F2 (i + n) S' ∧ RunS fm blk2 S' l 2 rest S2 l2
  | 0, i, S, F, h => ⟨S, F, h⟩
  | n + 1, i, S, F, h => by
    rw [List.replicate_succ, List.flatten_cons] at h
    obtain ⟨S', F', h'⟩ := round2 F (show RunS fm blk2 S l 2 (3 :: 4 :: 5 :: 2 :: ((List.replicate n [3, 4, 5, 2]).flatten ++ rest)) S2 l2 from h)
    obtain ⟨S3, F3, h3⟩ := rounds2 n (i + 1) F' h'
    exact ⟨S3, by rw [show i + (n + 1) = i + 1 + n by omega]; exact F3, h3⟩
def way2 (r : Nat) : List Nat := 1 :: 2 :: ((List.replicate r [3, 4, 5, 2]).flatten ++ [6, 7, 8])
theorem wayP2 (r : Nat) : WayP blk2 0 (way2 r) := by
  have tail : WayP blk2 2 [6, 7, 8] := .step (r := .again [.note "c" "f" ["a", "b"], .copy "a" "b", .copy "b" "c"]) (ls := [3, 6]) rfl (by decide) rfl (.step (r := .ask "b") (ls := [7]) rfl (by decide) rfl (.step (r := .ask "a") (ls := [8]) rfl (by decide) rfl .done))
  have mid : ∀ n, WayP blk2 2 ((List.replicate n [3, 4, 5, 2]).flatten ++ [6, 7, 8]) := fun n => by
    induction n with
    | zero => exact tail
    | succ n ih =>
      rw [List.replicate_succ, List.flatten_cons]
      exact .step (r := .again [.note "c" "f" ["a", "b"], .copy "a" "b", .copy "b" "c"]) (ls := [3, 6]) rfl (by decide) rfl (.step (r := .note "c" "f" ["a", "b"]) (ls := [4]) rfl (by decide) rfl (.step (r := .copy "a" "b") (ls := [5]) rfl (by decide) rfl (.step (r := .copy "b" "c") (ls := [2]) rfl (by decide) rfl ih)))
  exact .step (r := .give "a" 1) (ls := [1]) rfl (by decide) rfl (.step (r := .give "b" 2) (ls := [2]) rfl (by decide) rfl (mid r))
/-- what stands when it is told -/
structure G2 (r : Nat) (S : NS) : Prop where
  a : S.heads "a" = some (ha2 r)
  b : S.heads "b" = some (hb2 r)
  c : S.heads "c" = some (.note (r - 1))
  m : S.made.length = r
  w : S.worths = seg wq2 0 r
theorem G2.known {r : Nat} {S : NS} (G : G2 r S) {y : Str} {n : Nat} (hn : n < r) (h : S.heads y = some (.note n)) : heldS S y = .worth (.int (wq2 n)) := by
  unfold heldS
  rw [h]
  refine nowS_some (v := .int (wq2 n)) ?_
  rw [G.w, look_seg (Nat.zero_le _), if_pos ⟨Nat.zero_le _, hn⟩]
theorem G2.held_b {r : Nat} {S : NS} (G : G2 r S) (hr : 2 ≤ r) : heldS S "b" = .worth (.int (pr r).2) := by
  obtain ⟨n, rfl⟩ : ∃ n, r = n + 2 := ⟨r - 2, by omega⟩
  exact G.known (n := n + 1) (by omega) G.b
theorem G2.held_a {r : Nat} {S : NS} (G : G2 r S) (hr : 2 ≤ r) : heldS S "a" = .worth (.int (pr r).1) := by
  obtain ⟨n, rfl⟩ : ∃ n, r = n + 2 := ⟨r - 2, by omega⟩
  exact G.known (n := n) (by omega) G.a
theorem G2.held_c {r : Nat} {S : NS} (G : G2 r S) (hr : 2 ≤ r) : heldS S "c" = .worth (.int (pr r).2) := by
  obtain ⟨n, rfl⟩ : ∃ n, r = n + 2 := ⟨r - 2, by omega⟩
  exact G.known (n := n + 1) (by omega) G.c
end
section
variable {P : Program} {w : World} {K : PySem.W.Frag} {mg : Str → Option Value} {base : Heap} {T : Bi mg} {la : Addr} {S2 : NS} {l2 : List (List V)}
theorem told2 {r : Nat} (hr : 2 ≤ r) (h : RunS (FM P w K mg base T la 0) blk2 NS0 ([] : List (List V)) 0 (way2 r) S2 l2) : G2 r S2 ∧ S2.printed = [] ∧ l2 = clls row2 0 r := by
  obtain ⟨T1, a1, a2, a3, a4, r1⟩ := run_give rfl h
  obtain ⟨T3, b1, b2, b3, b4, r3⟩ := run_give rfl r1
  have F3 : F2 0 T3 := by
    refine ⟨?_, ?_, fun h => absurd h (Nat.lt_irrefl 0), ?_, ?_, ?_⟩
    · rw [b1, setH_ne ne_ab, a1, setH_same]
      rfl
    · rw [b1, setH_same]
      rfl
    · rw [b2, a2]
      rfl
    · rw [b3, a3]
      rfl
    · rw [b4, a4]
      rfl
  obtain ⟨T4, F4, r4⟩ := rounds2 (rest := [6, 7, 8]) r 0 F3 r3
  rw [Nat.zero_add] at F4
  obtain ⟨T5, c1, c2, c3, c4, r5⟩ := run_again rfl r4
  have F5 : F2 r T5 := ⟨by rw [c1]; exact F4.a, by rw [c1]; exact F4.b, fun h => by rw [c1]; exact F4.c h, by rw [c2]; exact F4.m, by rw [c3]; exact F4.w, by rw [c4]; exact F4.p⟩
  have hm5 : T5.made.length = r := by rw [F5.m, List.length_map, List.length_range]
  obtain ⟨T6, fr6, l6, hw6, d1, d2, d3, d4, r6⟩ := run_ask rfl r5
  obtain ⟨n, rfl⟩ : ∃ n, r = n + 2 := ⟨r - 2, by omega⟩
  obtain ⟨e6, g6⟩ := workWo F5.chain (show n + 1 < n + 2 by omega) (Nat.zero_le _) (held_of F5.w F5.b) hw6
  have G6 : G2 (n + 2) T6 := ⟨by rw [d1]; exact F5.a, by rw [d1]; exact F5.b, by rw [d1]; exact F5.c (by omega), by rw [d2]; exact hm5, by rw [d3, F5.w, e6]; rfl⟩
  obtain ⟨T7, fr7, l7, hw7, f1, f2, f3, f4, r7⟩ := run_ask rfl r6
  obtain ⟨e7, g7⟩ := noWo (G6.held_a hr) hw7
  obtain ⟨e8, g8⟩ := run_nil r7
  rw [e8]
  refine ⟨⟨by rw [f1]; exact G6.a, by rw [f1]; exact G6.b, by rw [f1]; exact G6.c, by rw [f2]; exact G6.m, ?_⟩, ?_, ?_⟩
  · rw [f3, e7, List.append_nil]
    exact G6.w
  · rw [f4, d4]
    exact F5.p
  · rw [g8, g7]
    exact g6
end
end K13
set_option Elab.async false
set_option linter.all false
set_option maxRecDepth 100000
set_option maxHeartbeats 4000000
/-! The law's _law_turns_right. -/
namespace K13
open PySem PySem.Spec PyProof.Rows L2 LamX ZX PM ZR
abbrev sTurns : Stmt := top 57
def spTurns (TT : List NdefX.NTab) : Sp := fun vs H Q _ => ∃ (p g s : Addr), vs = [.ref p] ∧ PotAt H p g s ∧ NdefX.TabsN TT H ∧ ∀ H', PotAt H' p g s → NdefX.TabsN TT H' → Q (.bl true) H'
def w8 (r : Nat) : List Nat := 0 :: 1 :: 2 :: ((List.replicate r [3, 4, 5, 2]).flatten ++ [6, 7])
theorem w8_len (r : Nat) : (w8 r).length = 4 * r + 5 := by
  show ((List.replicate r [3, 4, 5, 2]).flatten ++ [6, 7]).length + 3 = _
  rw [List.length_append, PyProof.Rows.lm_len_rep_flat]
  show r * 4 + 2 + 3 = _
  omega
theorem way2_w8 (r : Nat) : 0 :: way2 r = w8 r ++ [8] := by
  show 0 :: 1 :: 2 :: ((List.replicate r [3, 4, 5, 2]).flatten ++ [6, 7, 8]) = 0 :: 1 :: 2 :: (((List.replicate r [3, 4, 5, 2]).flatten ++ [6, 7]) ++ [8])
  rw [List.append_assoc]
  rfl
/-- a pair of numbers -/
theorem two_ints (x y : Int) : [V.int x, V.int y] = [x, y].map V.int := rfl
section
variable {P : Program} {w : World} {K : PySem.W.Frag} {mg : Str → Option Value} {base : Heap} {CP CN CR : Addr} {TT : List NdefX.NTab}
abbrev NT2 : List Str := ["_law_pot_here", "_law_rounds", "_law_rows", "_law_block", "_law_calls", "_law_way", "_law_run", "_law_pair", "_law_due", "_law_turn"]
theorem scTurns : FnScope NT2 ["_law_pot_here"] (defScope sTurns) := ⟨rfl, rfl, rfl, by decide +kernel, rfl, by decide +kernel, by decide +kernel⟩
theorem ok_turns {f : Addr} {fd : FuncData} (F : FnP K "_law_turns_right" sTurns f fd) (C : Cx3 P w K mg base CP CN CR TT) : FnOk P w K mg base CX0 30 f fd ["_law_pot_here"] (spTurns TT) := by
  refine F.ok scTurns (fun vs H Q E h => ?_) (fun cdv A0 outer st H vs Q E hr h => ?_)
  · obtain ⟨p, g, s, rfl, _⟩ := h
    rfl
  · obtain ⟨p, g, s, rfl, hP, hT, k⟩ := h
    obtain ⟨fI, fdI, mkP, GI, bI⟩ := C.make
    have T := C.bi
    have hr1 := hr.mono (show 1 ≤ 29 by decide)
    have hr2 := hr.mono (show 2 ≤ 29 by decide)
    have hr3 := hr.mono (show 3 ≤ 29 by decide)
    have hr4 := hr.mono (show 4 ≤ 29 by decide)
    have hr17 := hr.mono (show 17 ≤ 29 by decide)
    have hr27 := hr.mono (show 27 ≤ 29 by decide)
    refine ⟨_, PSs.nox (pss_cut (ps_set (i := 1) scTurns.nd rfl (Or.inl rfl) (pe_op op_add pe_int (pcal C.draw hr1 rfl (pa_cons (pv 0) (pa_cons pe_int pa_nil)))))
    (pss_cons (ps_set (i := 2) scTurns.nd rfl (Or.inl rfl) (pe_tup (pa_cons (pe_tup (pa_cons pe_str (pa_cons pe_str (pa_cons pe_str (pa_cons (pe_tup (pa_cons pe_str (pa_cons pe_str pa_nil))) pa_nil))))) (pa_cons (pe_tup (pa_cons pe_str (pa_cons pe_str (pa_cons pe_str pa_nil)))) (pa_cons (pe_tup (pa_cons pe_str (pa_cons pe_str (pa_cons pe_str pa_nil)))) pa_nil)))))
    (pss_cut (ps_set (i := 3) scTurns.nd rfl (Or.inl rfl) (pe_tup (pa_cons (pe_tup (pa_cons pe_str (pa_cons pe_str (pa_cons pe_int pa_nil)))) (pa_cons (pe_tup (pa_cons pe_str (pa_cons pe_str (pa_cons pe_int pa_nil)))) (pa_cons (pe_tup (pa_cons pe_str (pa_cons (pv 2) pa_nil))) (pa_cons (pe_tup (pa_cons pe_str (pa_cons pe_str pa_nil))) (pa_cons (pe_tup (pa_cons pe_str (pa_cons pe_str pa_nil))) (pa_cons (pe_tup (pa_cons pe_str (pa_cons pe_str pa_nil))) pa_nil))))))))
    (pss_cons (ps_set (i := 4) scTurns.nd rfl (Or.inl rfl) (pe_lst pa_nil))
    (pss_cut (ps_set (i := 5) scTurns.nd rfl (Or.inl rfl) (pe_op op_catT (pe_op op_catT (pe_tup (pa_cons pe_int (pa_cons pe_int (pa_cons pe_int pa_nil)))) (pe_op op_repB (pe_tup (pa_cons pe_int (pa_cons pe_int (pa_cons pe_int (pa_cons pe_int pa_nil))))) (pv 1))) (pe_tup (pa_cons pe_int (pa_cons pe_int (pa_cons pe_int pa_nil))))))
    (pss_cut (ps_set (i := 6) scTurns.nd rfl (Or.inl rfl) (pcal C.told hr rfl (pa_cons (pe_make mkP GI hr17 rfl C.gP bI .nil pass0 (pa_cons (pv 3) pa_nil)) (pa_cons (pv 5) (pa_cons (pe_disp (pps_cons pe_str (pcal C.noting hr1 rfl (pa_cons (pv 4) (pa_cons pe_int pa_nil))) pps_nil) (by rfl) (by rfl) (fun z => by cases z) (by decide)) pa_nil)))))
    (pss_cons (ps_set (i := 7) scTurns.nd rfl (Or.inl rfl) (pe_tup (pa_cons pe_int (pa_cons pe_int pa_nil))))
    (pss_cons (ps_set (i := 8) scTurns.nd rfl (Or.inl rfl) (pe_lst pa_nil))
    (pss_cut (ps_for PassesOwn.never rfl (pi_range1 rfl T.b_range (pa_cons (pv 1) pa_nil)) (pg_name (i := 9) scTurns.nd rfl (Or.inl rfl)) (pss_cons (ps_expr (pe_bm PySem.F.plainAttrs_list PySem.F.slot_list_append PySem.F.type_list_append mt_append (pv 8) (pa_cons (pv 7) pa_nil)))
      (pss_one (ps_set (i := 7) scTurns.nd rfl (Or.inl rfl) (pe_tup (pa_cons (pe_ix ix_tup (pv 7) pe_int (fun _ _ => rfl)) (pa_cons (pe_op op_mod (pe_callTy call_int1 (by rfl) T.b_int (by decide +kernel) (pa_cons (pe_op op_add (pe_ix ix_tup (pv 7) pe_int (fun _ _ => rfl)) (pe_ix ix_tup (pv 7) pe_int (fun _ _ => rfl))) pa_nil)) pe_int) pa_nil)))))))
    (pss_cons (ps_if (PW.pt (pw_or (pt_cmpR (op_neD hr.units) (pv 4) (pv 8) (nomark _)) (pw_or1 (pt_cmpR (op_neD hr.units) (pmc0 C.worked hr2 (pv 6)) (pe_tupRg rfl rfl T.b_tuple (prg_1 rfl T.b_range (pv 1))) (nomark _))))) (pss_one (ps_ret pe_bl)) pss_nil)
    (pss_cons (ps_if (PW.pt (pw_or (pt_cmpR (op_neD hr.units) (pmc C.held hr3 (pv 6) (pa_cons pe_str pa_nil)) (pe_tup (pa_cons pe_str (pa_cons (pe_ix ix_tup (pv 7) pe_int (fun _ _ => rfl)) pa_nil))) (nomark _)) (pw_or (pt_cmpR (op_neD hr.units) (pmc C.held hr3 (pv 6) (pa_cons pe_str pa_nil)) (pe_tup (pa_cons pe_str (pa_cons (pe_ix ix_tup (pv 7) pe_int (fun _ _ => rfl)) pa_nil))) (nomark _)) (pw_or1 (pt_cmpR (op_neD hr.units) (pmc0 C.waiting hr4 (pv 6)) (pe_tup pa_nil) (nomark _)))))) (pss_one (ps_ret pe_bl)) pss_nil)
    (pss_cons (ps_expr (pmc C.step hr27 (pv 6) (pa_cons pe_int pa_nil)))
    (pss_one (ps_ret (pe_and (pe_cmpR (op_eqD hr.units) (pmc0 C.said hr2 (pv 6)) (pe_tup (pa_cons (pe_ix ix_tup (pv 7) pe_int (fun _ _ => rfl)) pa_nil)) (nomark _)) (pe_one (pe_cmpR (op_eqD hr.units) (pv 4) (pv 8) (nomark _)))))))))))))))))), ?_⟩
    -- the rounds
    refine ⟨fun σ1 H1 => ∃ r : Nat, 2 ≤ r ∧ r ≤ 40 ∧ σ1 = [some (.ref p), some (.int (r : Nat)), none, none, none, none, none, none, none, none] ∧ PotAt H1 p g s ∧ NdefX.TabsN TT H1, ?_, ?_⟩
    · refine ⟨_, rfl, p, g, s, 30, rfl, hP, by decide, by decide, fun d H1 d0 d1 hP1 z1 => ⟨_, _, rfl, rfl, (2 + d).toNat, by omega, by omega, ?_, hP1, TabsN.fz hT z1 hP.mks⟩⟩
      rw [show ((2 + d).toNat : Int) = 2 + d by omega]
      rfl
    rintro σ1 H1 ⟨r, r2, r40, rfl, hP1, hT1⟩
    -- the rows, the block
    refine ⟨by show 2 ≤ sizeLine; decide, fun q0 n0 => ⟨by show 4 ≤ sizeLine; decide, fun q1 n1 => ⟨by show 3 ≤ sizeLine; decide, fun q2 n2 => ⟨by show 3 ≤ sizeLine; decide, fun q3 n3 => ⟨by show 3 ≤ sizeLine; decide, fun q4 n4 => ?_⟩⟩⟩⟩⟩
    have t0 : Tv K _ (.ref q0) (.tuple [.str "a", .str "b"]) := tvNew n0 (.cons (.str "a") (.cons (.str "b") .nil))
    have t1 : RV K _ (.ref q1) (.note "c" "f" ["a", "b"]) := tvNew n1 (.cons (.str "note") (.cons (.str "c") (.cons (.str "f") (.cons t0 .nil))))
    have t2 : RV K _ (.ref q2) (.copy "a" "b") := tvNew n2 (.cons (.str "copy") (.cons (.str "a") (.cons (.str "b") .nil)))
    have t3 : RV K _ (.ref q3) (.copy "b" "c") := tvNew n3 (.cons (.str "copy") (.cons (.str "b") (.cons (.str "c") .nil)))
    have p2 := Pt.new (o := .tup [.str "copy", .str "a", .str "b"]) n2
    have p3 := Pt.new (o := .tup [.str "copy", .str "b", .str "c"]) n3
    have t4 : Tv K _ (.ref q4) (.tuple (dB [.note "c" "f" ["a", "b"], .copy "a" "b", .copy "b" "c"])) := tvNew n4 (.cons ((t1.pt p2).pt p3) (.cons (t2.pt p3) (.cons t3 .nil)))
    have sA := ((((same_new (o := .tup [.str "a", .str "b"]) n0).trans (same_new (o := .tup [.str "note", .str "c", .str "f", .ref q0]) n1)).trans (same_new (o := .tup [.str "copy", .str "a", .str "b"]) n2)).trans (same_new (o := .tup [.str "copy", .str "b", .str "c"]) n3)).trans (same_new (o := .tup [.ref q1, .ref q2, .ref q3]) n4)
    have hP2 := hP1.same sA
    have hT2 := hT1.ext sA
    clear t0 t1 t2 t3 p2 p3 sA hP1 hT1
    generalize upd (upd (upd (upd (upd H1 q0 (.tup [.str "a", .str "b"])) q1 (.tup [.str "note", .str "c", .str "f", .ref q0])) q2 (.tup [.str "copy", .str "a", .str "b"])) q3 (.tup [.str "copy", .str "b", .str "c"])) q4 (.tup [.ref q1, .ref q2, .ref q3]) = H2 at t4 hP2 hT2 ⊢
    clear n0 n1 n2 n3 n4
    refine ⟨fun σ4 H4 => ∃ vb, σ4 = [some (.ref p), some (.int (r : Nat)), some (.ref q4), some vb, none, none, none, none, none, none] ∧ Same H2 H4 ∧ BV K H4 vb blk2, ?_, ?_⟩
    · refine ⟨by show 3 ≤ sizeLine; decide, fun a0 m0 => ⟨by show 3 ≤ sizeLine; decide, fun a1 m1 => ⟨_, rfl, by show 2 ≤ sizeLine; decide, fun a3 m3 => ⟨by show 2 ≤ sizeLine; decide, fun a4 m4 => ⟨by show 2 ≤ sizeLine; decide, fun a5 m5 => ⟨by show 2 ≤ sizeLine; decide, fun a6 m6 => ⟨by show 6 ≤ sizeLine; decide, fun ab mb => ?_⟩⟩⟩⟩⟩⟩⟩
      have p0 := Pt.new (o := .tup [.str "give", .str "a", .int 1]) m0
      have p1 := Pt.new (o := .tup [.str "give", .str "b", .int 2]) m1
      have p3 := Pt.new (o := .tup [.str "again", .ref q4]) m3
      have p4 := Pt.new (o := .tup [.str "ask", .str "b"]) m4
      have p5 := Pt.new (o := .tup [.str "ask", .str "a"]) m5
      have p6 := Pt.new (o := .tup [.str "print", .str "c"]) m6
      have u0 : RV K _ (.ref a0) (.give "a" 1) := tvNew m0 (.cons (.str "give") (.cons (.str "a") (.cons (.int 1) .nil)))
      have u1 : RV K _ (.ref a1) (.give "b" 2) := tvNew m1 (.cons (.str "give") (.cons (.str "b") (.cons (.int 2) .nil)))
      have u3 : RV K _ (.ref a3) (.again [.note "c" "f" ["a", "b"], .copy "a" "b", .copy "b" "c"]) := tvNew m3 (.cons (.str "again") (.cons ((t4.pt p0).pt p1) .nil))
      have u4 : RV K _ (.ref a4) (.ask "b") := tvNew m4 (.cons (.str "ask") (.cons (.str "b") .nil))
      have u5 : RV K _ (.ref a5) (.ask "a") := tvNew m5 (.cons (.str "ask") (.cons (.str "a") .nil))
      have u6 : RV K _ (.ref a6) (.prt "c") := tvNew m6 (.cons (.str "print") (.cons (.str "c") .nil))
      refine ⟨.ref ab, rfl, ?_, ?_⟩
      · exact ((((((same_new m0).trans (same_new m1)).trans (same_new m3)).trans (same_new m4)).trans (same_new m5)).trans (same_new m6)).trans (same_new mb)
      · exact tvNew mb (.cons (((((u0.pt p1).pt p3).pt p4).pt p5).pt p6) (.cons ((((u1.pt p3).pt p4).pt p5).pt p6) (.cons (((u3.pt p4).pt p5).pt p6) (.cons ((u4.pt p5).pt p6) (.cons (u5.pt p6) (.cons u6 .nil))))))
    rintro σ4 H4 ⟨vb, rfl, s4, tb⟩
    have hP4 := hP2.same s4
    have hT4 := hT2.ext s4
    clear hP2 hT2 t4 s4
    -- the way
    refine ⟨by decide, fun la nla => ?_⟩
    have sla := same_new (o := .lst []) nla
    have hP5 := hP4.same sla
    have hT5 := hT4.ext sla
    have tb5 := tb.pt sla.pt
    have hla5 : upd H4 la (.lst []) la = some (.lst []) := upd_same
    have nP : PotOff p g s [la] := hP4.off fun b hb => by
      rw [List.mem_singleton.mp hb]
      exact nla
    clear hP4 hT4 tb sla
    generalize upd H4 la (.lst []) = H5 at hP5 hT5 tb5 hla5 ⊢
    refine ⟨fun σ6 H6 => ∃ w6, σ6 = [some (.ref p), some (.int (r : Nat)), some (.ref q4), some vb, some (.ref la), some (.ref w6), none, none, none, none] ∧ Same H5 H6 ∧ SqT K H6 w6 (plV (0 :: way2 r)), ?_, ?_⟩
    · refine ⟨by show 3 ≤ sizeLine; decide, fun w1 m1 => ⟨by show 4 ≤ sizeLine; decide, fun w2 m2 => ⟨_, rfl, w2, r, [.int 3, .int 4, .int 5, .int 2], rfl, rfl, .inl (.inl upd_same), by simp, by omega, by omega, by decide, fun w3 m3 => ?_⟩⟩⟩
      have v1 := same_new (o := .tup [.int 0, .int 1, .int 2]) m1
      have v2 := same_new (o := .tup [.int 3, .int 4, .int 5, .int 2]) m2
      have v3 := same_new (o := .tup (List.replicate (r : Int).toNat [V.int 3, V.int 4, V.int 5, V.int 2]).flatten) m3
      have hfl : ((List.replicate (r : Int).toNat [V.int 3, V.int 4, V.int 5, V.int 2]).flatten).length = r * 4 := by
        rw [PyProof.Rows.lm_len_rep_flat, Int.toNat_natCast]
        rfl
      refine ⟨w1, w3, _, _, rfl, rfl, .inl (.inl (v3 _ _ (v2 _ _ upd_same))), .inl (.inl upd_same), by simp, ?_, fun e => ?_, fun _ w4 m4 => ?_⟩
      · rw [hfl]
        show 3 + r * 4 ≤ 2 ^ 24
        omega
      · rw [e] at hfl
        simp at hfl
        omega
      refine ⟨by show 3 ≤ sizeLine; decide, fun w5 m5 => ?_⟩
      have v4 := same_new (o := .tup ([.int 0, .int 1, .int 2] ++ (List.replicate (r : Int).toNat [V.int 3, V.int 4, V.int 5, V.int 2]).flatten)) m4
      have v5 := same_new (o := .tup [.int 6, .int 7, .int 8]) m5
      refine ⟨w4, w5, _, _, rfl, rfl, .inl (.inl (v5 _ _ upd_same)), .inl (.inl upd_same), by simp, ?_, fun e => (by cases e), fun _ w6 m6 => ?_⟩
      · rw [List.length_append, hfl]
        show 3 + r * 4 + 3 ≤ 2 ^ 24
        omega
      have v6 := same_new (o := .tup ([.int 0, .int 1, .int 2] ++ (List.replicate (r : Int).toNat [V.int 3, V.int 4, V.int 5, V.int 2]).flatten ++ [.int 6, .int 7, .int 8])) m6
      have eway : [V.int 0, V.int 1, V.int 2] ++ (List.replicate (r : Int).toNat [V.int 3, V.int 4, V.int 5, V.int 2]).flatten ++ [V.int 6, V.int 7, V.int 8] = plV (0 :: way2 r) := by
        rw [Int.toNat_natCast]
        unfold plV way2
        rw [List.map_cons, List.map_cons, List.map_cons, List.map_append, List.map_flatten, List.map_replicate]
        rfl
      refine ⟨w6, rfl, ((((v1.trans v2).trans v3).trans v4).trans v5).trans v6, .inl (.inl ?_)⟩
      rw [upd_same, eway]
    rintro σ6 H6 ⟨w6, rfl, s56, hw6⟩
    have hP6 := hP5.same s56
    have hT6 := hT5.ext s56
    have tb6 := tb5.pt s56.pt
    have hla6 := s56 _ _ hla5
    clear hP5 hT5 tb5 hla5 s56
    -- the run
    refine ⟨fun σ7 H7 => ∃ x wa px A F S, σ7 = [some (.ref p), some (.int (r : Nat)), some (.ref q4), some vb, some (.ref la), some (.ref w6), some (.ref x), none, none, none] ∧
      St9 (FM P w K mg base T la 0) CP CN CR TT p g s F ["a", "b", "c"] x A px blk2 wa H7 S (clls row2 0 r) (0 :: way2 r) ∧ G2 r S ∧ S.printed = [] ∧ S.trail.length = 4 * r + 5, ?_, ?_⟩
    · refine ⟨_, rfl, fun px dx npx ndx ned => ⟨px, dx, vb, blk2, rfl, upd_same, tb6.pt ((Pt.new ndx).trans (Pt.new (by rw [upd_ne ned.symm]; exact npx))), good2, fun H7 k7 p7 pr7 pd7 => ⟨rfl, ?_⟩⟩⟩
      have s7 : Same H6 H7 := fun z o e => by
        refine k7 _ _ (ne_of_none e npx) ?_
        rw [upd_ne (ne_of_none e npx), upd_ne (ne_of_none e ndx)]
        exact e
      refine ⟨_, rfl, fun d nd => ⟨_, rfl, la, 0, rfl, (hT6.ext (s7.trans (same_new nd))), fun f c q cl H8 eN T8 nf ncl LF => ?_⟩⟩
      have s8 := same_new (o := .dK []) nd
      have hd8 : H8 d = some (.dK []) := eN _ _ upd_same fun _ z => by cases z
      refine ⟨hd8, [(.inr "f", .ref f)], rfl, by show 1 ≤ 15; decide, ?_⟩
      have e8 : ExtN H6 H8 := (ExtN.of (s7.trans s8)).trans eN
      have md : Mks [d] H8 := fun b hb => by
        rw [List.mem_singleton.mp hb]
        exact .inr ⟨_, hd8⟩
      have z9 : Fz [d] H8 (upd H8 d (.dK (mergeK [] [(.inr "f", .ref f)]))) := Fz.put md List.mem_cons_self (.inr ⟨_, rfl⟩)
      have hd9 : upd H8 d (.dK (mergeK [] [(.inr "f", .ref f)])) d = some (.dK [(.inr "f", .ref f)]) := upd_same
      have nPd : PotOff p g s [d] := (hP6.same s7).off fun b hb => by
        rw [List.mem_singleton.mp hb]
        exact nd
      have lad : la ∉ [d] := fun hm => by
        rw [← List.mem_singleton.mp hm] at nd
        rw [s7 _ _ hla6] at nd
        cases nd
      generalize upd H8 d (.dK (mergeK [] [(.inr "f", .ref f)])) = H9 at z9 hd9 ⊢
      have hP9 := (hP6.ext e8).fz z9 nPd.1 nPd.2.1 nPd.2.2
      have hT9 := TabsN.fz T8 z9 md
      have hC9 : ClAt K la [] H9 := ClAt.fz ⟨[], e8 _ _ hla6 (fun _ z => by cases z), .nil⟩ z9 md lad
      have pr9 := ((PM.PrAt.ext pr7 ((ExtN.of s8).trans eN)).fz z9 md)
      have pd9 := ((PM.PrD.ext pd7 ((ExtN.of s8).trans eN)).fz z9 md)
      have hw9 := (z9.pt md).sq ((ExtN.pt e8).sq hw6)
      have LF9 := LF.fz z9 md
      have hops : opsB blk2 = ([("f" : Str)] : List Str) := rfl
      have hlen : (way2 r).length = 4 * r + 5 := by
        show ((List.replicate r [3, 4, 5, 2]).flatten ++ [6, 7, 8]).length + 2 = _
        rw [List.length_append, PyProof.Rows.lm_len_rep_flat]
        show r * 4 + 3 + 2 = _
        omega
      refine ⟨FM P w K mg base T la 0, ["a", "b", "c"], px, w6, d, [], blk2, _, fun _ => f, way2 r, rfl, pr9, pd9, hw9, wayP2 r, by omega, hd9, fun o ho => ?_, hC9, hC9.mks, by show [la].Nodup; simp, names2, by show 3 < 64; decide, by show 1 ≤ 20; decide, rfl, fun x A F S l' wa H10 z10 R hrun hfr => ?_⟩
      · rw [hops] at ho
        rw [List.mem_singleton.mp ho]
        exact ⟨valV_pos rfl, q, cl, c, LF9⟩
      obtain ⟨G10, h10, el⟩ := told2 r2 hrun
      have htr := run_trail hrun
      rw [hlen] at htr
      rw [el] at R
      have n9 := hP9.off hfr
      refine ⟨x, wa, px, A, F, S, rfl, ⟨R, hP9.fz z10 nP.1 nP.2.1 nP.2.2, TabsN.fz hT9 z10 hC9.mks, ?_⟩, G10, h10, by rw [htr]; show 0 + _ = _; omega⟩
      have app : ∀ {b : Addr}, b ∉ wa :: A.own → b ∉ [la] → b ∉ wa :: (A.own ++ [la]) := fun h1 h2 hm => by
        rcases List.mem_cons.mp hm with e | hm
        · exact h1 (by rw [e]; exact List.mem_cons_self)
        · rcases List.mem_append.mp hm with hm | hm
          · exact h1 (List.mem_cons_of_mem _ hm)
          · exact h2 hm
      exact ⟨app n9.1 nP.1, app n9.2.1 nP.2.1, app n9.2.2 nP.2.2⟩
    rintro σ7 H7 ⟨x, wa, px, A, F, S, rfl, B7, G7, hp7, ht7⟩
    clear hla6 hP6 hT6 tb6 hw6
    -- what is due
    refine ⟨by show 2 ≤ sizeLine; decide, fun pa npa => ⟨by decide, fun du ndu => ?_⟩⟩
    have s1 := same_new (o := .tup [.int 1, .int 2]) npa
    have s2 := same_new (o := .lst []) ndu
    have B9 := B7.same (s1.trans s2)
    have hC9 : ClAt K du [] (upd (upd H7 pa (.tup [.int 1, .int 2])) du (.lst [])) := ⟨[], upd_same, .nil⟩
    have hpa9 : SqT K (upd (upd H7 pa (.tup [.int 1, .int 2])) du (.lst [])) pa [.int 1, .int 2] := .inl (.inl (s2 _ _ upd_same))
    have nd9 := (B7.same s1).R.newN ndu
    have pd9 := (B7.same s1).P.off (M := [du]) fun b hb => by rw [List.mem_singleton.mp hb]; exact ndu
    clear B7 s1 s2
    generalize upd (upd H7 pa (.tup [.int 1, .int 2])) du (.lst []) = H9 at B9 hC9 hpa9 ⊢
    refine ⟨fun σ' H' => ∃ pa y9, σ' = [some (.ref p), some (.int (r : Nat)), some (.ref q4), some vb, some (.ref la), some (.ref w6), some (.ref x), some (.ref pa), some (.ref du), y9] ∧ St9 (FM P w K mg base T la 0) CP CN CR TT p g s F ["a", "b", "c"] x A px blk2 wa H' S (clls row2 0 r) (0 :: way2 r) ∧ ClAt K du (clls row2 0 r) H' ∧ SqT K H' pa [.int (pr r).1, .int (pr r).2], ?_, ?_⟩
    · refine ⟨_, rfl, _, rfl, by omega, by omega, ?_⟩
      refine for_range (fun i σ' H' => ∃ pa y9, σ' = [some (.ref p), some (.int (r : Nat)), some (.ref q4), some vb, some (.ref la), some (.ref w6), some (.ref x), some (.ref pa), some (.ref du), y9] ∧ St9 (FM P w K mg base T la 0) CP CN CR TT p g s F ["a", "b", "c"] x A px blk2 wa H' S (clls row2 0 r) (0 :: way2 r) ∧ ClAt K du (clls row2 0 i) H' ∧ SqT K H' pa [.int (pr i).1, .int (pr i).2]) ⟨pa, _, rfl, B9, by rw [clls_nil]; exact hC9, hpa9⟩ ?_ (fun σ' H' h => ?_)
      · rintro i σ2' H2' hi ⟨pa, y9, rfl, B, ⟨us, hU, hUA⟩, hpa⟩
        have hul : us.length = i := by
          rw [hUA.len]
          unfold clls
          rw [List.length_map, List.length_range', Nat.sub_zero]
        refine ⟨_, rfl, .inl ⟨rfl, _, SqL.of hU⟩, _, rfl, du, us, _, rfl, rfl, hU, by rw [hul]; exact Nat.lt_of_lt_of_le (Nat.lt_of_lt_of_le hi r40) (by decide), ?_⟩
        have mdu : Mks [du] H2' := fun b hb => by
          rw [List.mem_singleton.mp hb]
          exact .inl ⟨_, hU⟩
        have zd : Fz [du] H2' (upd H2' du (.lst (us ++ [.ref pa]))) := Fz.put mdu List.mem_cons_self (.inl ⟨_, rfl⟩)
        have B5 := B.put (o := .lst (us ++ [.ref pa])) (.inl ⟨_, hU⟩) (.inl ⟨_, rfl⟩) nd9 pd9
        have hpa5 : SqT K (upd H2' du (.lst (us ++ [.ref pa]))) pa [.int (pr i).1, .int (pr i).2] := (zd.pt mdu).sq hpa
        have hC5 : ClAt K du (clls row2 0 (i + 1)) (upd H2' du (.lst (us ++ [.ref pa]))) := by
          refine ⟨_, upd_same, ?_⟩
          rw [← clls_snoc (Nat.zero_le i)]
          exact All2.app (hUA.imp fun u ws ⟨t, e, q⟩ => ⟨t, e, (zd.pt mdu).sq q⟩) (.cons ⟨pa, rfl, hpa5⟩ .nil)
        refine ⟨_, rfl, pa, _, 1, _, rfl, rfl, hpa5, rfl, _, rfl, pa, _, 0, _, rfl, rfl, hpa5, rfl, _, rfl, pa, _, 1, _, rfl, rfl, hpa5, rfl, _, _, rfl, rfl, .inl ⟨_, rfl, _, _, rfl, rfl, (by show (0 : Int) < 1000003; decide), by show 2 ≤ sizeLine; decide, fun q nq => ?_⟩⟩
        have sq := same_new (o := .tup [.int (pr i).2, .int (((pr i).1 + (pr i).2) % 1000003)]) nq
        exact ⟨q, _, rfl, B5.same sq, hC5.same sq, .inl (.inl upd_same)⟩
      · obtain ⟨pa, y9, e, B, hC, hpa⟩ := h
        rw [Int.toNat_natCast] at hC hpa
        exact ⟨pa, y9, e, B, hC, hpa⟩
    rintro σ10 H10 ⟨pa, y9, rfl, B10, hC10, hpa10⟩
    clear B9 hC9 hpa9
    -- once each
    have hcl10 : ClAt K la (clls row2 0 r) H10 := B10.R.nt.at_
    obtain ⟨dx, hx10⟩ := B10.R.rx
    rw [clls0] at hcl10 hC10
    refine ⟨_, rfl, _, rfl, _, _, hcl10.dp, hC10.dp, sh_rows _, sh_rows _, _, rfl, ?_⟩
    rw [eq_rows]
    refine ifBF rfl ?_
    refine ⟨_, rfl, x, dx, _, rfl, hx10, rfl, _, F, _, x, A, S, _, px, _, wa, _, rfl, B10.R, fun q2' H14 s3 hq2 => ⟨_, rfl, _, rfl, RgOk.of_le (by decide) (by omega) (by decide) (by omega), fun e2 ne2 => ?_⟩⟩
    rw [G7.w, seg_keys] at hq2
    have s4 := same_new (o := .tup (rgV 0 (r : Int))) ne2
    refine ⟨_, _, dp_ints (s4.pt.sq hq2), dp_ints (ns := (List.range r).map fun (n : Nat) => (n : Int)) (.inl (.inl (by rw [upd_same, rg0]))), sh_ints _, sh_ints _, _, rfl, ifBF (by rw [eq_ints]; rfl) ?_⟩
    have s14 := s3.trans s4
    have hpa14 := s14.pt.sq hpa10
    -- what is held
    refine ⟨_, rfl, x, dx, _, rfl, s14 _ _ hx10, rfl, _, F, _, x, A, S, _, px, _, wa, _, "b", rfl, (B10.same s14).R, by rw [rows2]; simp [namesR], fun u H15 s5 hu => ⟨_, rfl, pa, _, 1, _, rfl, rfl, s5.pt.sq hpa14, rfl, by show 2 ≤ sizeLine; decide, fun e3 ne3 => ?_⟩⟩
    rw [G7.held_b r2] at hu
    obtain ⟨ua, rfl, hu⟩ := hu
    have s6 := same_new (o := .tup [.str "worth", .int (pr r).2]) ne3
    refine ⟨_, _, dp_worth (s6.pt.sq hu), dp_worth (.inl (.inl upd_same)), sh_worth _, sh_worth _, _, rfl, ifBF (by rw [eq_worth]; rfl) ?_⟩
    have s16 := (s14.trans s5).trans s6
    refine ⟨_, rfl, x, dx, _, rfl, s16 _ _ hx10, rfl, _, F, _, x, A, S, _, px, _, wa, _, "a", rfl, (B10.same s16).R, by rw [rows2]; simp [namesR], fun u2 H17 s7 hu2 => ⟨_, rfl, pa, _, 0, _, rfl, rfl, s7.pt.sq (s16.pt.sq hpa10), rfl, by show 2 ≤ sizeLine; decide, fun e4 ne4 => ?_⟩⟩
    rw [G7.held_a r2] at hu2
    obtain ⟨ua2, rfl, hu2⟩ := hu2
    have s8 := same_new (o := .tup [.str "worth", .int (pr r).1]) ne4
    refine ⟨_, _, dp_worth (s8.pt.sq hu2), dp_worth (.inl (.inl upd_same)), sh_worth _, sh_worth _, _, rfl, ifBF (by rw [eq_worth]; rfl) ?_⟩
    have s18 := (s16.trans s7).trans s8
    refine ⟨_, rfl, x, dx, _, rfl, s18 _ _ hx10, rfl, _, F, _, x, A, S, _, px, _, wa, _, rfl, (B10.same s18).R, fun q4' ms is H19 s9 hq4 hM nd lt hperm hpw => ⟨by decide, fun e5 ne5 => ?_⟩⟩
    have eis := wait_none (by rw [G7.m]; exact G7.w) hM lt hperm
    rw [eis] at hq4
    have s10 := same_new (o := .tup []) ne5
    refine ⟨_, _, dp_ints (ns := []) (s10.pt.sq hq4), dp_ints (ns := []) (.inl (.inl upd_same)), sh_ints [], sh_ints [], _, rfl, ifBF (by rw [eq_ints]; rfl) ?_⟩
    have s20 := (s18.trans s9).trans s10
    have B20 := B10.same s20
    have hC20 := hC10.same s20
    have hpa20 := s20.pt.sq hpa10
    clear B10 hC10 hpa10 s3 s4 s5 s6 s7 s8 s9 s10 s14 s16 s18 s20 ne2 ne3 ne4 ne5 hq2 hq4 hM hu hu2 hcl10 hx10 hpa14
    generalize upd H19 e5 (.tup []) = H20 at B20 hC20 hpa20 ⊢
    -- what is printed
    have R20 := B20.R
    rw [way2_w8] at R20
    obtain ⟨dx, hx20⟩ := R20.rx
    refine ⟨_, rfl, x, dx, _, rfl, hx20, rfl, FM P w K mg base T la 0, F, _, x, A, S, _, px, _, wa, w8 r, 8, 0, 9, [9], .prt "c", rfl, R20, rfl, rfl, rfl, by rw [G7.m]; omega, by rw [hp7]; decide, by rw [ht7]; omega, by rw [w8_len]; omega, fun S8 l8 H21 z21 R21 hD => ?_⟩
    obtain ⟨fr, eS, hW⟩ := hD.inv_prt
    obtain ⟨efr, el8⟩ := noWo (G7.held_c r2) hW
    obtain ⟨S9, eS9⟩ : ∃ S9 : NS, S9 = { S8 with trail := S.trail ++ [markS S (.prt "c")] } := ⟨_, rfl⟩
    rw [← eS9, el8] at R21
    have hp9 : S9.printed = [.int (pr r).2] := by
      rw [eS9, eS, efr]
      show S.printed ++ [whatT (heldS { S with worths := S.worths ++ [] } "c")] = _
      have G8 : G2 r { S with worths := S.worths ++ [] } := ⟨G7.a, G7.b, G7.c, G7.m, by show S.worths ++ [] = _; rw [List.append_nil]; exact G7.w⟩
      rw [G8.held_c r2, hp7]
      rfl
    have B21 := B20.step z21 R21
    have hC21 : ClAt K du (((List.range r).map row2).map rowV) H21 := hC20.fz z21 B20.R.mksR fun hm => by
      refine nd9 ?_
      rcases List.mem_cons.mp hm with e | hm
      · rw [e]
        exact List.mem_cons_self
      · exact List.mem_cons_of_mem _ (List.mem_cons_of_mem _ hm)
    have hpa21 := (z21.pt B20.R.mksR).sq hpa20
    have hcl21 : ClAt K la (clls row2 0 r) H21 := B21.R.nt.at_
    rw [clls0] at hcl21
    obtain ⟨dx, hx21⟩ := B21.R.rx
    clear B20 hC20 hpa20 z21 R21 hD eS hW eS9 efr el8
    refine ⟨_, rfl, x, dx, _, rfl, hx21, rfl, _, F, _, x, A, S9, _, px, _, wa, _, rfl, B21.R, fun q1' H22 s1 hq1 => ⟨_, rfl, pa, _, 1, _, rfl, rfl, s1.pt.sq hpa21, rfl, by show 1 ≤ sizeLine; decide, fun e1 ne1 => ?_⟩⟩
    rw [hp9] at hq1
    have s2 := same_new (o := .tup [.int (pr r).2]) ne1
    refine ⟨_, _, dp_ints (ns := [(pr r).2]) (s2.pt.sq hq1), dp_ints (ns := [(pr r).2]) (.inl (.inl upd_same)), sh_ints [_], sh_ints [_], ?_⟩
    rw [eq_ints]
    have s12 := s1.trans s2
    refine ⟨_, rfl, ifB rfl ?_⟩
    refine ⟨_, rfl, _, rfl, _, _, (hcl21.same s12).dp, (hC21.same s12).dp, sh_rows _, sh_rows _, ?_⟩
    rw [eq_rows]
    have B22 := B21.same s12
    exact k _ B22.P B22.T
end
end K13
set_option Elab.async false
set_option linter.all false
set_option maxRecDepth 100000
set_option maxHeartbeats 4000000
/-! The program whose parts are worked out from the left. -/
namespace PM
open PySem PySem.Spec PyProof.Rows L2 ZX ZR
def N3 : List Str := ["one", "two", "six"]
def N4 : List Str := ["one", "two", "six", "top"]
def ix3 (y : Str) : Nat := if y = "one" then 0 else if y = "two" then 1 else if y = "six" then 2 else 3
def blk3 (nm : List Str) (e : Str) : List Rw := [.note "one" "f" [], .note "two" "f" ["one"], .note "six" "f" ["two", "one"], .note "top" "f" nm, .ask e, .prt "top"]
theorem rows3 (nm : List Str) (e : Str) : rowsB (blk3 nm e) = blk3 nm e := rfl
theorem leads3 (nm : List Str) (e : Str) : leadsP (blk3 nm e) = [[1], [2], [3], [4], [5], [6], []] := rfl
theorem N3_4 {y : Str} (h : y ∈ N3) : y ∈ N4 := by
  simp only [N3, List.mem_cons, List.not_mem_nil, or_false] at h
  simp only [N4, List.mem_cons, List.not_mem_nil, or_false]
  rcases h with h | h | h <;> simp [h]
theorem N4_ok {y : Str} (h : y ∈ N4) : NameOk y := by
  simp only [N4, List.mem_cons, List.not_mem_nil, or_false] at h
  rcases h with rfl | rfl | rfl | rfl
  · exact ok_one
  · exact ok_two
  · exact ok_six
  · exact ok_top
theorem names3 {nm : List Str} {e : Str} (hn : ∀ y ∈ nm, y ∈ N3) (he : e ∈ N4) : ∀ x ∈ (rowsB (blk3 nm e)).flatMap namesR, x ∈ N4 := fun x hx => by
  rw [rows3, blk3] at hx
  simp only [List.flatMap_cons, List.flatMap_nil, namesR, List.append_nil, List.mem_append, List.mem_cons, List.not_mem_nil, or_false, false_or] at hx
  rcases hx with rfl | (rfl | rfl) | (rfl | rfl | rfl) | (rfl | hx) | rfl | rfl
  case inr.inr.inr.inl.inr => exact N3_4 (hn x hx)
  case inr.inr.inr.inr.inl => exact he
  all_goals simp [N4]
theorem good3 {nm : List Str} {e : Str} (hl : nm.length ≤ 3) (hn : ∀ y ∈ nm, y ∈ N3) (he : e ∈ N4) : Good (blk3 nm e) := by
  refine ⟨⟨⟨ok_one, ok_f, by decide, fun y h => nomatch h⟩, ⟨ok_two, ok_f, by decide, fun y h => ?_⟩, ⟨ok_six, ok_f, by decide, fun y h => ?_⟩, ⟨ok_top, ok_f, hl, fun y h => N4_ok (N3_4 (hn y h))⟩, N4_ok he, ok_top, trivial⟩, by show 6 ≤ 12; decide, by rw [rows3]; show 6 ≤ 30; decide, fun ys ly => Nat.le_trans (ly.le (names3 hn he)) (by decide)⟩
  · rw [List.mem_singleton.mp h]
    exact ok_one
  · simp only [List.mem_cons, List.not_mem_nil, or_false] at h
    rcases h with rfl | rfl
    · exact ok_two
    · exact ok_one
def wq3 : Nat → Int
  | 0 => 1
  | 1 => 2
  | 2 => 4
  | _ => 0
def row3 : Nat → List Int
  | 0 => []
  | 1 => [1]
  | 2 => [2, 1]
  | _ => []
def md3 (nm : List Str) : List (Str × List Th) := [("f", []), ("f", [.note 0]), ("f", [.note 1, .note 0]), ("f", nm.map fun y => .note (ix3 y))]
structure F3 (nm : List Str) (S : NS) : Prop where
  h : ∀ y ∈ N4, S.heads y = some (.note (ix3 y))
  m : S.made = md3 nm
theorem ix_low {y : Str} (h : y ∈ N3) : ix3 y < 3 := by
  simp only [N3, List.mem_cons, List.not_mem_nil, or_false] at h
  rcases h with rfl | rfl | rfl <;> decide +kernel
/-- how many are worked out, when those of these names are -/
def mxF (nm : List Str) (j : Nat) : Nat := nm.foldl (fun m y => max m (ix3 y + 1)) j
theorem mxF_ok : ∀ (nm : List Str) (j : Nat), j ≤ mxF nm j ∧ (∀ y ∈ nm, ix3 y + 1 ≤ mxF nm j) ∧ (mxF nm j = j ∨ ∃ y ∈ nm, mxF nm j = ix3 y + 1)
  | [], j => ⟨Nat.le_refl _, fun _ h => (nomatch h), .inl rfl⟩
  | y :: nm, j => by
    obtain ⟨h1, h2, h3⟩ := mxF_ok nm (max j (ix3 y + 1))
    show j ≤ mxF nm (max j (ix3 y + 1)) ∧ (∀ z ∈ y :: nm, ix3 z + 1 ≤ mxF nm (max j (ix3 y + 1))) ∧ (mxF nm (max j (ix3 y + 1)) = j ∨ ∃ z ∈ y :: nm, mxF nm (max j (ix3 y + 1)) = ix3 z + 1)
    refine ⟨Nat.le_trans (Nat.le_max_left _ _) h1, fun z hz => ?_, ?_⟩
    · rcases List.mem_cons.mp hz with rfl | hz
      · exact Nat.le_trans (Nat.le_max_right _ _) h1
      · exact h2 z hz
    · rcases h3 with h | ⟨z, hz, h⟩
      · by_cases hm : ix3 y + 1 ≤ j
        · exact .inl (h.trans (Nat.max_eq_left hm))
        · exact .inr ⟨y, List.mem_cons_self, h.trans (Nat.max_eq_right (by omega))⟩
      · exact .inr ⟨z, List.mem_cons_of_mem _ hz, h⟩
theorem mxF_le {nm : List Str} {j : Nat} (hn : ∀ y ∈ nm, y ∈ N3) (hj : j ≤ 3) : mxF nm j ≤ 3 := by
  rcases (mxF_ok nm j).2.2 with h | ⟨y, hy, h⟩
  · rw [h]; exact hj
  · have := ix_low (hn y hy)
    omega
def top3 (nm : List Str) : Int := (nm.map fun y => wq3 (ix3 y)).sum + 1
theorem wq3_b (y : Str) : 0 ≤ wq3 (ix3 y) ∧ wq3 (ix3 y) ≤ 4 := by
  unfold ix3
  repeat' split
  all_goals decide
theorem sum_b : ∀ nm : List Str, 0 ≤ (nm.map fun y => wq3 (ix3 y)).sum ∧ (nm.map fun y => wq3 (ix3 y)).sum ≤ 4 * (nm.length : Nat)
  | [] => ⟨by decide, by decide⟩
  | y :: nm => by
    obtain ⟨h1, h2⟩ := sum_b nm
    obtain ⟨g1, g2⟩ := wq3_b y
    rw [List.map_cons, List.sum_cons, List.length_cons]
    constructor <;> omega
theorem top3_mod {nm : List Str} (hl : nm.length ≤ 3) : ((nm.map fun y => wq3 (ix3 y)).sum + 1) % 1000003 = top3 nm := by
  obtain ⟨h1, h2⟩ := sum_b nm
  unfold top3
  exact Int.emod_eq_of_lt (by omega) (by omega)
end PM
namespace K13
open PySem PySem.Spec PyProof.Rows L2 LamX ZX PM ZR
theorem chain3 {nm : List Str} {S : NS} {j0 : Nat} (F : F3 nm S) (hw : S.worths = seg wq3 0 j0) : Chain S wq3 row3 1 3 j0 := by
  refine ⟨hw, fun n hn => ?_, fun n hn => ?_⟩
  · rw [F.m]
    match n, hn with
    | 0, _ => exact ⟨"f", [], rfl, fun m h => (nomatch h), fun h => absurd h (Nat.lt_irrefl 0), rfl⟩
    | 1, _ => exact ⟨"f", [.note 0], rfl, fun m h => by cases List.mem_singleton.mp h; decide, fun _ => List.mem_cons_self, rfl⟩
    | 2, _ =>
      refine ⟨"f", [.note 1, .note 0], rfl, fun m h => ?_, fun _ => List.mem_cons_self, rfl⟩
      rcases List.mem_cons.mp h with h | h
      · cases h; decide
      · cases List.mem_singleton.mp h; decide
  · match n, hn with
    | 0, _ => rfl
    | 1, _ => rfl
    | 2, _ => rfl
section
variable {P : Program} {w : World} {K : PySem.W.Frag} {mg : Str → Option Value} {base : Heap} {T : Bi mg} {la : Addr}
theorem run_prt {fm : Fam P w K mg base} {S S2 : NS} {l l2 : fm.L} {b : List Rw} {p n : Nat} {rest : List Nat} {x : Str} (hr : (rowsB b)[p]? = some (.prt x)) (h : RunS fm b S l p (n :: rest) S2 l2) : ∃ (T : NS) (fr : List (Nat × V)) (l1 : fm.L), Wo fm S (openS S [] [heldS S x]) [] l fr l1 ∧ T.heads = S.heads ∧ T.made = S.made ∧ T.worths = S.worths ++ fr ∧ T.printed = S.printed ++ [whatT (heldS { S with worths := S.worths ++ fr } x)] ∧ RunS fm b T l1 n rest S2 l2 := by
  obtain ⟨S1, l1, d1, r1⟩ := run_inv hr h
  cases d1 with
  | prt hw hf => refine ⟨_, _, _, hw, ?_, ?_, ?_, ?_, r1⟩ <;> rfl
/-- the top is worked out -/
theorem topWo {nm : List Str} {S : NS} {j0 : Nat} (hl : nm.length ≤ 3) (hn : ∀ y ∈ nm, y ∈ N3) (F : F3 nm S) (hw : S.worths = seg wq3 0 j0) (hj : j0 ≤ 3) {fr : List (Nat × V)} {l l' : List (List V)} (h : Wo (FM P w K mg base T la 1) S (openS S [] [heldS S "top"]) [] l fr l') :
    fr = seg wq3 j0 (mxF nm j0) ++ [(3, .int (top3 nm))] ∧ l'.length = l.length + (mxF nm j0 - j0) + 1 := by
  have c := chain3 F hw
  obtain ⟨m1, m2, m3⟩ := mxF_ok nm j0
  have hx : heldS S "top" = .note 3 := by
    unfold heldS
    rw [F.h "top" (by simp [N4])]
    refine nowS_none ?_
    rw [hw, look_seg (Nat.zero_le _), if_neg]
    rintro ⟨_, h⟩
    have : ix3 "top" = 3 := by decide +kernel
    omega
  have e : openS S [] [heldS S "top"] = [3] := by
    rw [hx]
    have : isOpen S [] (.note 3) = true := by
      have := open_seg (wq := wq3) (j := j0) hw (Nat.le_refl _) 3
      rw [seg_nil, decide_eq_true hj] at this
      exact this
    unfold openS
    rw [List.filter_cons, if_pos this]
    rfl
  rw [e, show ([] : List (Nat × V)) = seg wq3 j0 j0 from (seg_nil j0).symm] at h
  have mem : ∀ m, Th.note m ∈ (nm.map fun y => Th.note (ix3 y)) → ∃ y ∈ nm, m = ix3 y := fun m hm => by
    obtain ⟨y, hy, e⟩ := List.mem_map.mp hm
    cases e
    exact ⟨y, hy, rfl⟩
  obtain ⟨ns, e1, e2⟩ := stepWo (t := 3) (M := 3) (e := mxF nm j0) (o := "f") (ts := nm.map fun y => .note (ix3 y)) (row := row3) hw (by rw [F.m]; rfl) (fun m hm => by
    obtain ⟨y, hy, rfl⟩ := mem m hm
    exact ix_low (hn y hy)) (fun b hb => chainWo c b hb) (fun m hm => by
    obtain ⟨y, hy, rfl⟩ := mem m hm
    exact m2 y hy) (3 - j0) j0 l (Nat.le_refl _) (Nat.le_refl _) m1 (m3.imp id fun ⟨y, hy, e⟩ => ⟨ix3 y, e, List.mem_map_of_mem hy⟩) h
  have ens : ns = nm.map fun y => wq3 (ix3 y) := by
    refine rowV_inj (e1.symm.trans ?_)
    unfold rowV
    rw [List.map_map, List.map_map]
    rfl
  obtain ⟨g1, g2⟩ := e2.inv_nil
  rw [ens, top3_mod hl] at g1
  refine ⟨g1, ?_⟩
  rw [g2, List.length_append, List.length_append]
  unfold clls
  rw [List.length_map, List.length_range']
  rfl
theorem run3 {nm : List Str} {e : Str} {S : NS} {l : List (List V)} (hl : nm.length ≤ 3) (hn : ∀ y ∈ nm, y ∈ N3) (he : e ∈ N4) (h : RunS (FM P w K mg base T la 1) (blk3 nm e) NS0 ([] : List (List V)) 0 [1, 2, 3, 4, 5, 6] S l) :
    ∃ m, m = mxF nm (if e = ("top" : Str) then 0 else ix3 e + 1) ∧ m ≤ 3 ∧ S.worths = seg wq3 0 m ++ [(3, .int (top3 nm))] ∧ S.printed = [.int (top3 nm)] ∧ l.length = m + 1 := by
  obtain ⟨T1, a1, a2, a3, a4, r1⟩ := run_note rfl h
  obtain ⟨T2, b1, b2, b3, b4, r2⟩ := run_note rfl r1
  obtain ⟨T3, c1, c2, c3, c4, r3⟩ := run_note rfl r2
  obtain ⟨T4, d1, d2, d3, d4, r4⟩ := run_note rfl r3
  have n12 : ("one" : Str) ≠ "two" := by decide +kernel
  have n13 : ("one" : Str) ≠ "six" := by decide +kernel
  have n14 : ("one" : Str) ≠ "top" := by decide +kernel
  have n23 : ("two" : Str) ≠ "six" := by decide +kernel
  have n24 : ("two" : Str) ≠ "top" := by decide +kernel
  have n34 : ("six" : Str) ≠ "top" := by decide +kernel
  have w1 : T1.worths = [] := a3
  have w2 : T2.worths = [] := b3.trans w1
  have w3 : T3.worths = [] := c3.trans w2
  have w4 : T4.worths = [] := d3.trans w3
  have h11 : T1.heads "one" = some (.note 0) := by rw [a1, setH_same]; rfl
  have m1 : T1.made = ([(("f" : Str), ([] : List Th))] : List (Str × List Th)) := a2
  have h21 : T2.heads "one" = some (.note 0) := by rw [b1, setH_ne n12]; exact h11
  have h22 : T2.heads "two" = some (.note 1) := by rw [b1, setH_same, m1]; rfl
  have m2 : T2.made = ([(("f" : Str), ([] : List Th)), ("f", [.note 0])] : List (Str × List Th)) := by
    rw [b2, m1]
    show [_] ++ [(("f" : Str), [heldS T1 "one"])] = _
    rw [held_of w1 h11]
    rfl
  have h31 : T3.heads "one" = some (.note 0) := by rw [c1, setH_ne n13]; exact h21
  have h32 : T3.heads "two" = some (.note 1) := by rw [c1, setH_ne n23]; exact h22
  have h33 : T3.heads "six" = some (.note 2) := by rw [c1, setH_same, m2]; rfl
  have m3 : T3.made = ([(("f" : Str), ([] : List Th)), ("f", [.note 0]), ("f", [.note 1, .note 0])] : List (Str × List Th)) := by
    rw [c2, m2]
    show [_, _] ++ [(("f" : Str), [heldS T2 "two", heldS T2 "one"])] = _
    rw [held_of w2 h21, held_of w2 h22]
    rfl
  have h3 : ∀ y ∈ N3, T3.heads y = some (.note (ix3 y)) := fun y hy => by
    simp only [N3, List.mem_cons, List.not_mem_nil, or_false] at hy
    rcases hy with rfl | rfl | rfl
    · exact h31.trans (by rw [show ix3 "one" = 0 by decide +kernel])
    · exact h32.trans (by rw [show ix3 "two" = 1 by decide +kernel])
    · exact h33.trans (by rw [show ix3 "six" = 2 by decide +kernel])
  have F4 : F3 nm T4 := by
    refine ⟨fun y hy => ?_, ?_⟩
    · by_cases ey : y = "top"
      · subst ey
        rw [d1, setH_same, m3, show ix3 "top" = 3 by decide +kernel]
        rfl
      · rw [d1, setH_ne ey]
        refine h3 y ?_
        simp only [N4, List.mem_cons, List.not_mem_nil, or_false] at hy
        simp only [N3, List.mem_cons, List.not_mem_nil, or_false]
        rcases hy with h | h | h | h
        · exact .inl h
        · exact .inr (.inl h)
        · exact .inr (.inr h)
        · exact absurd h ey
    · rw [d2, m3]
      show [_, _, _] ++ [(("f" : Str), nm.map (heldS T3))] = _
      rw [List.map_congr_left (g := fun y => Th.note (ix3 y)) fun y hy => held_of w3 (h3 y (hn y hy))]
      rfl
  have p4 : T4.printed = [] := by rw [d4, c4, b4, a4]; rfl
  obtain ⟨T5, fr5, l5, hw5, e1, e2, e3, e4, r5⟩ := run_ask rfl r4
  have F5 : F3 nm T5 := ⟨fun y hy => by rw [e1]; exact F4.h y hy, e2.trans F4.m⟩
  have p5 : T5.printed = [] := e4.trans p4
  obtain ⟨T6, fr6, l6, hw6, f1, f2, f3, f4, r6⟩ := run_prt rfl r5
  obtain ⟨eS, el⟩ := run_nil r6
  have it : ix3 "top" = 3 := by decide +kernel
  have last : ∀ {S' : NS} {m : Nat}, m ≤ 3 → S'.heads "top" = some (.note 3) → S'.worths = seg wq3 0 m ++ [(3, .int (top3 nm))] → heldS S' "top" = .worth (.int (top3 nm)) := fun {S' m} hm hh hw => by
    unfold heldS
    rw [hh]
    refine nowS_some ?_
    rw [hw, List.lookup_append, look_seg (Nat.zero_le _), if_neg (by omega)]
    rfl
  have ht5 : T5.heads "top" = some (.note 3) := by rw [F5.h "top" (by simp [N4]), it]
  by_cases ee : e = "top"
  · subst ee
    rw [if_pos rfl]
    obtain ⟨g1, g2⟩ := topWo hl hn F4 (j0 := 0) (by rw [w4, seg_nil]) (by decide) hw5
    have hm := mxF_le hn (show 0 ≤ 3 by decide)
    have hw5' : T5.worths = seg wq3 0 (mxF nm 0) ++ [(3, .int (top3 nm))] := by rw [e3, w4, g1]; rfl
    obtain ⟨g3, g4⟩ := noWo (last hm ht5 hw5') hw6
    refine ⟨_, rfl, hm, ?_, ?_, ?_⟩
    · rw [eS, f3, g3, List.append_nil, hw5']
    · rw [eS, f4, p5, g3]
      show [] ++ [whatT (heldS { T5 with worths := T5.worths ++ [] } "top")] = _
      rw [last (S' := { T5 with worths := T5.worths ++ [] }) hm ht5 (by show T5.worths ++ [] = _; rw [List.append_nil, hw5'])]
      rfl
    · rw [el, g4, g2]
      show 0 + _ + 1 = _
      omega
  · rw [if_neg ee]
    have he3 : e ∈ N3 := by
      simp only [N4, List.mem_cons, List.not_mem_nil, or_false] at he
      simp only [N3, List.mem_cons, List.not_mem_nil, or_false]
      rcases he with h | h | h | h
      · exact .inl h
      · exact .inr (.inl h)
      · exact .inr (.inr h)
      · exact absurd h ee
    have hi := ix_low he3
    obtain ⟨g1, g2⟩ := workWo (chain3 F4 (j0 := 0) (by rw [w4, seg_nil])) hi (Nat.zero_le _) (held_of w4 (F4.h e he)) hw5
    have hw5' : T5.worths = seg wq3 0 (ix3 e + 1) := by rw [e3, w4, g1]; rfl
    obtain ⟨g3, g4⟩ := topWo hl hn F5 hw5' hi hw6
    have hm := mxF_le hn (show ix3 e + 1 ≤ 3 from hi)
    have hmm := (mxF_ok nm (ix3 e + 1)).1
    have hall : T5.worths ++ fr6 = seg wq3 0 (mxF nm (ix3 e + 1)) ++ [(3, .int (top3 nm))] := by rw [hw5', g3, ← List.append_assoc, seg_app (Nat.zero_le _) hmm]
    refine ⟨_, rfl, hm, ?_, ?_, ?_⟩
    · rw [eS, f3, hall]
    · rw [eS, f4, last (S' := { T5 with worths := T5.worths ++ fr6 }) hm ht5 hall, p5]
      rfl
    · have hl5 : l5.length = ix3 e + 1 := by
        rw [g2]
        show (clls row3 0 (ix3 e + 1)).length = _
        unfold clls
        rw [List.length_map, List.length_range']
        rfl
      rw [el, g4, hl5]
      omega
end
end K13
set_option Elab.async false
set_option linter.all false
set_option maxRecDepth 100000
set_option maxHeartbeats 4000000
/-! The law's _law_left_right. -/
namespace K13
open PySem PySem.Spec PyProof.Rows L2 LamX ZX PM ZR
abbrev sLeft : Stmt := top 58
theorem leads3_at (nm : List Str) (e : Str) : ∀ i, i < 6 → (leadsP (blk3 nm e))[i]? = some [i + 1]
  | 0, _ => rfl
  | 1, _ => rfl
  | 2, _ => rfl
  | 3, _ => rfl
  | 4, _ => rfl
  | 5, _ => rfl
theorem rows3_at (nm : List Str) (e : Str) (i : Nat) (h : i < 6) : ∃ r, (rowsB (blk3 nm e))[i]? = some r := ⟨_, List.getElem?_eq_getElem (l := blk3 nm e) (by show i < 6; exact h)⟩
/-- some more of the numbers -/
theorem range_more (m k : Nat) : (List.range m).map (fun (n : Nat) => V.int (n : Int)) ++ ((List.range k).filter fun n => decide (m ≤ n)).map (fun (n : Nat) => V.int (n : Int)) = (List.range (max m k)).map fun (n : Nat) => V.int (n : Int) := by
  rw [← List.map_append]
  congr 1
  induction k with
  | zero =>
    rw [Nat.max_zero]
    exact List.append_nil _
  | succ k ih =>
    rw [List.range_succ, List.filter_append, ← List.append_assoc, ih]
    by_cases h : m ≤ k
    · rw [Nat.max_eq_right h, Nat.max_eq_right (Nat.le_succ_of_le h), List.range_succ, List.filter_cons, if_pos (decide_eq_true h)]
      rfl
    · rw [Nat.max_eq_left (by omega), Nat.max_eq_left (by omega), List.filter_cons, if_neg (by rw [decide_eq_false h]; decide)]
      exact List.append_nil _
theorem in_range (m n : Nat) : inV (.int (n : Int)) ((List.range m).map fun (n : Nat) => V.int (n : Int)) = decide (n < m) := by
  rw [inV_ints]
  exact decide_eq_decide.mpr List.mem_range
/-- one text, or none, in a new list -/
theorem pick_lst {H : Hp} {σ : L2.St} {Q : VK} {e : Str} (c : Bool) (i : Nat) (hs : σ[i]? = some (some (.str e))) (h : ∀ l H1, Same H H1 → H l = none → H1 l = some (.lst ((if c = true then [e] else []).map V.str)) → Q (.ref l) H1) : if c = true then tLst (tCons (tVar i) tNil) σ H Q else tLst tNil σ H Q := by
  cases c with
  | true => exact ifB rfl ⟨_, hs, by show 1 ≤ sizeLine; decide, fun l nl => h l _ (same_new nl) nl upd_same⟩
  | false => exact ifBF rfl ⟨by decide, fun l nl => h l _ (same_new nl) nl upd_same⟩
theorem mxF_snoc (L : List Str) (y : Str) : mxF (L ++ [y]) 0 = max (mxF L 0) (ix3 y + 1) := by
  unfold mxF
  rw [List.foldl_append]
  rfl
section
variable {P : Program} {w : World} {K : PySem.W.Frag} {mg : Str → Option Value} {base : Heap} {CP CN CR : Addr} {TT : List NdefX.NTab}
abbrev NL3 : List Str := ["_law_pot_here", "_law_names", "_law_rows", "_law_early", "_law_calls", "_law_run", "_law_turn", "_law_worths", "_law_beneath", "_law_due", "_law_name", "_law_top", "_law_k", "_law_number"]
theorem scLeft : FnScope NL3 ["_law_pot_here"] (defScope sLeft) := ⟨rfl, rfl, rfl, by decide +kernel, rfl, by decide +kernel, by decide +kernel⟩
theorem ok_left {f : Addr} {fd : FuncData} (F : FnP K "_law_left_right" sLeft f fd) (C : Cx3 P w K mg base CP CN CR TT) : FnOk P w K mg base CX0 30 f fd ["_law_pot_here"] (spTurns TT) := by
  refine F.ok scLeft (fun vs H Q E h => ?_) (fun cdv A0 outer st H vs Q E hr h => ?_)
  · obtain ⟨p, g, s, rfl, _⟩ := h
    rfl
  · obtain ⟨p, g, s, rfl, hP, hT, k⟩ := h
    obtain ⟨fI, fdI, mkP, GI, bI⟩ := C.make
    obtain ⟨fR, fdR, mkR, GR, bR, gR⟩ := C.run.ex
    have T := C.bi
    have hu := hu_of hr
    have hr1 := hr.mono (show 1 ≤ 29 by decide)
    have hr2 := hr.mono (show 2 ≤ 29 by decide)
    have hr3 := hr.mono (show 3 ≤ 29 by decide)
    have hr5 := hr.mono (show 5 ≤ 29 by decide)
    have hr17 := hr.mono (show 17 ≤ 29 by decide)
    have hr27 := hr.mono (show 27 ≤ 29 by decide)
    refine ⟨_, PSs.nox (pss_cut (ps_setLcS (i := 1) (own := [("_law_k", 12)]) (g := gName 12) (tt := tYes) rfl scLeft.nd rfl rfl (sw_true rfl rfl rfl (by decide +kernel)) (pi_range1 rfl T.b_range (pa_cons pe_int pa_nil)) (blkOk_by (N := NL3) (sc := defScope sLeft) (by decide +kernel)) (fun _ _ _ _ _ => (pg_name (i := 12) scLeft.nd rfl (Or.inl rfl))) (fun _ _ _ _ _ => pts_nil) (fun _ _ _ _ _ => (pcal C.any hr2 rfl (pa_cons (pv 0) (pa_cons (pe_lst (pa_cons pe_str (pa_cons pe_str (pa_cons pe_str pa_nil)))) pa_nil)))))
    (pss_cut (ps_set (i := 2) scLeft.nd rfl (Or.inl rfl) (pe_lst (pa_cons (pe_tup (pa_cons pe_str (pa_cons pe_str (pa_cons pe_str (pa_cons (pe_tup pa_nil) pa_nil))))) (pa_cons (pe_tup (pa_cons pe_str (pa_cons pe_str (pa_cons pe_str (pa_cons (pe_tup (pa_cons pe_str pa_nil)) pa_nil))))) (pa_cons (pe_tup (pa_cons pe_str (pa_cons pe_str (pa_cons pe_str (pa_cons (pe_tup (pa_cons pe_str (pa_cons pe_str pa_nil))) pa_nil))))) pa_nil)))))
    (pss_cut (ps_expr (pe_bm PySem.F.plainAttrs_list PySem.F.slot_list_append PySem.F.type_list_append mt_append (pv 2) (pa_cons (pe_tup (pa_cons pe_str (pa_cons pe_str (pa_cons pe_str (pa_cons (pe_callTy call_tuple_of (by rfl) T.b_tuple (by decide +kernel) (pa_cons (pv 1) pa_nil)) pa_nil))))) pa_nil)))
    (pss_cut (ps_set (i := 3) scLeft.nd rfl (Or.inl rfl) (pcal C.any hr2 rfl (pa_cons (pv 0) (pa_cons (pe_lst (pa_cons pe_str (pa_cons pe_str (pa_cons pe_str (pa_cons pe_str pa_nil))))) pa_nil))))
    (pss_cons (ps_set (i := 4) scLeft.nd rfl (Or.inl rfl) (pe_lst pa_nil))
    (pss_cut (ps_set (i := 5) scLeft.nd rfl (Or.inl rfl) (pe_make mkR GR hr5 rfl gR bR .nil pass0 (pa_cons (pe_make mkP GI hr17 rfl C.gP bI .nil pass0 (pa_cons (pe_op op_catT (pe_callTy call_tuple_of (by rfl) T.b_tuple (by decide +kernel) (pa_cons (pv 2) pa_nil)) (pe_tup (pa_cons (pe_tup (pa_cons pe_str (pa_cons (pv 3) pa_nil))) (pa_cons (pe_tup (pa_cons pe_str (pa_cons pe_str pa_nil))) pa_nil)))) pa_nil)) (pa_cons (pe_disp (pps_cons pe_str (pcal C.noting hr1 rfl (pa_cons (pv 4) (pa_cons pe_int pa_nil))) pps_nil) (by rfl) (by rfl) (fun z => by cases z) (by decide)) pa_nil))))
    (pss_cut (ps_for PassesOwn.never rfl (pi_range1 rfl T.b_range (pa_cons pe_int pa_nil)) (pg_name (i := 6) scLeft.nd rfl (Or.inl rfl)) (pss_one (ps_expr (pmc C.step hr27 (pv 5) (pa_cons pe_int pa_nil)))))
    (pss_cons (ps_set (i := 7) scLeft.nd rfl (Or.inr rfl) (pe_disp (pps_cons pe_str pe_int pps_nil) (by rfl) (by rfl) (fun z => by cases z) (by decide)))
    (pss_cons (ps_dput hu (pv 7) pe_str (pe_op op_add (pe_dget hu (pv 7) pe_str (fun _ _ => rfl)) pe_int) rfl)
    (pss_cut (ps_dput hu (pv 7) pe_str (pe_op op_add (pe_op op_add (pe_dget hu (pv 7) pe_str (fun _ _ => rfl)) (pe_dget hu (pv 7) pe_str (fun _ _ => rfl))) pe_int) rfl)
    (pss_cut (ps_set (i := 8) scLeft.nd rfl (Or.inl rfl) (pe_disp (pps_cons pe_str (pe_lst (pa_cons pe_int pa_nil)) (pps_cons pe_str (pe_lst (pa_cons pe_int (pa_cons pe_int pa_nil))) (pps_cons pe_str (pe_lst (pa_cons pe_int (pa_cons pe_int (pa_cons pe_int pa_nil)))) pps_nil))) (by rfl) (by rfl) (fun z => by cases z) (by decide)))
    (pss_cons (ps_set (i := 9) scLeft.nd rfl (Or.inr rfl) (pe_lst pa_nil))
    (pss_cut (ps_for PassesOwn.never rfl (pi_list (pe_op op_cat (pe_ifExp (pt_cmpR op_ne (pv 3) pe_str (nomark _)) (pe_lst (pa_cons (pv 3) pa_nil)) (pe_lst pa_nil)) (pv 1))) (pg_name (i := 10) scLeft.nd rfl (Or.inl rfl)) (pss_one (ps_expr (pe_bm PySem.F.plainAttrs_list PySem.F.slot_list_extend PySem.F.type_list_extend mt_extend (pv 9) (pa_cons (pe_lcS (own := [("_law_number", 13)]) (g := gName 13) (tt := tTest (tOp (rIn K true) (tVar 13) (tVar 9))) (te := tVar 13) (by rfl) scLeft.nd (pi_list (pe_dget hu (pv 8) (pv 10) (fun _ _ => rfl))) (blkOk_by (N := NL3) (sc := defScope sLeft) (by decide +kernel)) (fun _ _ _ _ _ => (pg_name (i := 13) scLeft.nd rfl (Or.inl rfl))) (fun _ _ _ _ _ => (pts_one (pt_cmpR op_notIn_seq (pv 13) (pv 9) (by with_unfolding_all rfl)))) (fun _ _ _ _ _ => (pv 13))) pa_nil)))))
    (pss_cut (ps_set (i := 11) scLeft.nd rfl (Or.inl rfl) (pe_op op_add (pe_callB (cr_sum rfl) (by rfl) T.b_sum (by decide +kernel) (pa_cons (pe_lcS (own := [("_law_name", 10)]) (g := gName 10) (tt := tYes) (te := tDGet (tVar 7) (tVar 10)) (by rfl) scLeft.nd (pi_list (pv 1)) (blkOk_by (N := NL3) (sc := defScope sLeft) (by decide +kernel)) (fun _ _ _ _ _ => (pg_name (i := 10) scLeft.nd rfl (Or.inl rfl))) (fun _ _ _ _ _ => pts_nil) (fun _ _ _ _ _ => (pe_dget hu (pv 7) (pv 10) (fun _ _ => rfl)))) pa_nil)) pe_int))
    (pss_one (ps_ret (pe_and (pe_cmpR (op_eqD hr.units) (pmc0 C.worked hr2 (pv 5)) (pe_callTy call_tuple_of (by rfl) T.b_tuple (by decide +kernel) (pa_cons (pe_op op_cat (pv 9) (pe_lst (pa_cons pe_int pa_nil))) pa_nil)) (nomark _)) (pe_and (pe_cmpR (op_eqD hr.units) (pmc0 C.said hr2 (pv 5)) (pe_tup (pa_cons (pv 11) pa_nil)) (nomark _)) (pe_one (pe_cmpR op_eq (pe_callB call_len_seq (by rfl) T.b_len (by decide +kernel) (pa_cons (pv 4) pa_nil)) (pe_op op_add (pe_callB call_len_seq (by rfl) T.b_len (by decide +kernel) (pa_cons (pv 9) pa_nil)) pe_int) (nomark _))))))))))))))))))))), ?_⟩
    have offD : ∀ {H : Hp} {D : Addr}, PotAt H p g s → H D = none → PotOff p g s [D] := fun h n => h.off fun b hb => by
      rw [List.mem_singleton.mp hb]
      exact n
    have pFz : ∀ {H : Hp} {D : Addr} {o : HO}, PotAt H p g s → PotOff p g s [D] → IsM (H D) → IsM (some o) → PotAt (upd H D o) p g s := fun {H D o} h n m i => h.fz (M := [D]) (Fz.put (fun b hb => by rw [List.mem_singleton.mp hb]; exact m) List.mem_cons_self i) n.1 n.2.1 n.2.2
    have tFz : ∀ {H : Hp} {D : Addr} {o : HO}, NdefX.TabsN TT H → IsM (H D) → IsM (some o) → NdefX.TabsN TT (upd H D o) := fun {H D o} h m i => by
      have mD : Mks [D] H := fun b hb => by rw [List.mem_singleton.mp hb]; exact m
      exact TabsN.fz h (Fz.put mD List.mem_cons_self i) mD
    -- the names
    refine ⟨fun σ1 H1 => ∃ (na : Addr) (nm : List Str), σ1 = [some (.ref p), some (.ref na), none, none, none, none, none, none, none, none, none, none, none, none] ∧ H1 na = some (.lst (nm.map V.str)) ∧ nm.length = 3 ∧ (∀ y ∈ nm, y ∈ N3) ∧ PotAt H1 p g s ∧ NdefX.TabsN TT H1 ∧ PotOff p g s [na], ?_, ?_⟩
    · refine lc_into ⟨_, rfl, by decide, by decide, ?_⟩
      rw [lcS]
      intro D hD
      have oD := offD hP hD
      refine lc_range (fun i H' => ∃ nm : List Str, H' D = some (.lst (nm.map V.str)) ∧ nm.length = i ∧ (∀ y ∈ nm, y ∈ N3) ∧ PotAt H' p g s ∧ NdefX.TabsN TT H') ⟨[], upd_same, rfl, fun _ h => (nomatch h), hP.same (same_new hD), hT.ext (same_new hD)⟩ ?_ ?_
      · rintro i H' hi ⟨nm, hD', hl, hn, hP', hT'⟩
        refine ⟨rfl, _, rfl, by show 3 ≤ sizeLine; decide, fun q nq => ?_⟩
        have sq := same_new (o := .lst [.str "one", .str "two", .str "six"]) nq
        have oq := offD hP' nq
        have hPq := hP'.same sq
        refine ⟨p, g, s, q, _, rfl, hPq, upd_same, fun e => oq.1 (by rw [e]; exact List.mem_cons_self), fun e => oq.2.1 (by rw [e]; exact List.mem_cons_self), fun z => (by cases z), by decide, fun x H'' hx hP'' z => ?_⟩
        have hy : ∃ y ∈ N3, x = V.str y := by
          simp only [List.mem_cons, List.not_mem_nil, or_false] at hx
          rcases hx with rfl | rfl | rfl
          · exact ⟨"one", by simp [N3], rfl⟩
          · exact ⟨"two", by simp [N3], rfl⟩
          · exact ⟨"six", by simp [N3], rfl⟩
        obtain ⟨y, hy, rfl⟩ := hy
        have dpg : D ∉ [p, g] := fun hm => by
          simp only [List.mem_cons, List.not_mem_nil, or_false] at hm
          rcases hm with e | e
          · exact oD.1 (by rw [e]; exact List.mem_cons_self)
          · exact oD.2.1 (by rw [e]; exact List.mem_cons_self)
        have hD'' := z.keep _ _ dpg (sq _ _ hD')
        refine ⟨_, hD'', by rw [List.length_map, hl]; exact Nat.lt_of_lt_of_le hi (by decide), nm ++ [y], by rw [upd_same, List.map_append]; rfl, by rw [List.length_append, hl]; rfl, fun u hu => ?_, pFz hP'' oD (.inl ⟨_, hD''⟩) (.inl ⟨_, rfl⟩), tFz (TabsN.fz (hT'.ext sq) z hPq.mks) (.inl ⟨_, hD''⟩) (.inl ⟨_, rfl⟩)⟩
        rcases List.mem_append.mp hu with hu | hu
        · exact hn u hu
        · rw [List.mem_singleton.mp hu]
          exact hy
      · rintro H' ⟨nm, hD', hl, hn, hP', hT'⟩
        exact ⟨D, nm, rfl, hD', hl, hn, hP', hT', oD⟩
    rintro σ1 H1 ⟨na, nm, rfl, hna1, hl3, hn3, hP1, hT1, ona⟩
    -- the rows
    refine ⟨fun σ2 H2 => ∃ (ra : Addr) (r0 r1 r2 : V), σ2 = [some (.ref p), some (.ref na), some (.ref ra), none, none, none, none, none, none, none, none, none, none, none] ∧ Same H1 H2 ∧ H1 ra = none ∧ H2 ra = some (.lst [r0, r1, r2]) ∧ RV K H2 r0 (.note "one" "f" []) ∧ RV K H2 r1 (.note "two" "f" ["one"]) ∧ RV K H2 r2 (.note "six" "f" ["two", "one"]), ?_, ?_⟩
    · refine ⟨by decide, fun e0 n0 => ⟨by show 4 ≤ sizeLine; decide, fun q0 m0 => ⟨by show 1 ≤ sizeLine; decide, fun e1 n1 => ⟨by show 4 ≤ sizeLine; decide, fun q1 m1 => ⟨by show 2 ≤ sizeLine; decide, fun e2 n2 => ⟨by show 4 ≤ sizeLine; decide, fun q2 m2 => ⟨by show 3 ≤ sizeLine; decide, fun ra nra => ?_⟩⟩⟩⟩⟩⟩⟩
      have t0 : Tv K _ (.ref e0) (.tuple []) := tvNew n0 .nil
      have u0 : RV K _ (.ref q0) (.note "one" "f" []) := tvNew m0 (.cons (.str "note") (.cons (.str "one") (.cons (.str "f") (.cons t0 .nil))))
      have t1 : Tv K _ (.ref e1) (.tuple [.str "one"]) := tvNew n1 (.cons (.str "one") .nil)
      have u1 : RV K _ (.ref q1) (.note "two" "f" ["one"]) := tvNew m1 (.cons (.str "note") (.cons (.str "two") (.cons (.str "f") (.cons t1 .nil))))
      have t2 : Tv K _ (.ref e2) (.tuple [.str "two", .str "one"]) := tvNew n2 (.cons (.str "two") (.cons (.str "one") .nil))
      have u2 : RV K _ (.ref q2) (.note "six" "f" ["two", "one"]) := tvNew m2 (.cons (.str "note") (.cons (.str "six") (.cons (.str "f") (.cons t2 .nil))))
      have s6 := ((((same_new n0).trans (same_new m0)).trans (same_new n1)).trans (same_new m1)).trans (same_new (o := .tup [.str "two", .str "one"]) n2)
      have s7 := s6.trans (same_new (o := .tup [.str "note", .str "six", .str "f", .ref e2]) m2)
      exact ⟨ra, .ref q0, .ref q1, .ref q2, rfl, s7.trans (same_new nra), s7.free nra, upd_same, ((((u0.pt (Pt.new n1)).pt (Pt.new m1)).pt (Pt.new n2)).pt (Pt.new m2)).pt (Pt.new nra), ((u1.pt (Pt.new n2)).pt (Pt.new m2)).pt (Pt.new nra), u2.pt (Pt.new nra)⟩
    rintro σ2 H2 ⟨ra, r0, r1, r2, rfl, s2, nra, hra2, v0, v1, v2⟩
    have hna2 := s2 _ _ hna1
    have hP2 := hP1.same s2
    have hT2 := hT1.ext s2
    have ora := offD hP1 nra
    have nar : na ≠ ra := ne_of_none hna1 nra
    clear hna1 hP1 hT1 s2
    refine ⟨fun σ3 H3 => ∃ (r3 : V), σ3 = [some (.ref p), some (.ref na), some (.ref ra), none, none, none, none, none, none, none, none, none, none, none] ∧ PotAt H3 p g s ∧ NdefX.TabsN TT H3 ∧ H3 na = some (.lst (nm.map V.str)) ∧ H3 ra = some (.lst [r0, r1, r2, r3]) ∧ Tvs K H3 [r0, r1, r2, r3] [dR (.note "one" "f" []), dR (.note "two" "f" ["one"]), dR (.note "six" "f" ["two", "one"]), dR (.note "top" "f" nm)], ?_, ?_⟩
    · refine ⟨_, rfl, .inl ⟨rfl, _, SqL.of hra2⟩, _, rfl, na, _, rfl, .inl ⟨SqL.of hna2, fun t nt => ⟨by show 4 ≤ sizeLine; decide, fun q nq => ?_⟩⟩⟩
      have st := same_new (o := .tup (nm.map V.str)) nt
      have sq := same_new (o := .tup [.str "note", .str "top", .str "f", .ref t]) nq
      have tt : Tv K _ (.ref t) (.tuple (nm.map .str)) := tvNew nt Tvs.ofStrs
      have uq : RV K _ (.ref q) (.note "top" "f" nm) := tvNew nq (.cons (.str "note") (.cons (.str "top") (.cons (.str "f") (.cons tt .nil))))
      have s2 := st.trans sq
      have hra3 := s2 _ _ hra2
      refine ⟨ra, _, _, rfl, rfl, hra3, by show 3 < sizeLine; decide, ?_⟩
      have mra : Mks [ra] (upd (upd H2 t (.tup (nm.map V.str))) q (.tup [.str "note", .str "top", .str "f", .ref t])) := fun b hb => by
        rw [List.mem_singleton.mp hb]
        exact .inl ⟨_, hra3⟩
      have zr := Fz.put (o := .lst ([r0, r1, r2] ++ [.ref q])) mra List.mem_cons_self (.inl ⟨_, rfl⟩)
      have pt := zr.pt mra
      refine ⟨.ref q, rfl, pFz (hP2.same s2) ora (.inl ⟨_, hra3⟩) (.inl ⟨_, rfl⟩), tFz (hT2.ext s2) (.inl ⟨_, hra3⟩) (.inl ⟨_, rfl⟩), (upd_ne nar).trans (s2 _ _ hna2), upd_same, .cons ((v0.pt s2.pt).pt pt) (.cons ((v1.pt s2.pt).pt pt) (.cons ((v2.pt s2.pt).pt pt) (.cons (uq.pt pt) .nil)))⟩
    rintro σ3 H3 ⟨r3, rfl, hP3, hT3, hna3, hra3, tv3⟩
    clear hna2 hP2 hT2 hra2 v0 v1 v2
    -- what is asked early
    refine ⟨fun σ4 H4 => ∃ (e : Str), σ4 = [some (.ref p), some (.ref na), some (.ref ra), some (.str e), none, none, none, none, none, none, none, none, none, none] ∧ e ∈ N4 ∧ PotAt H4 p g s ∧ NdefX.TabsN TT H4 ∧ H4 na = some (.lst (nm.map V.str)) ∧ H4 ra = some (.lst [r0, r1, r2, r3]) ∧ Tvs K H4 [r0, r1, r2, r3] [dR (.note "one" "f" []), dR (.note "two" "f" ["one"]), dR (.note "six" "f" ["two", "one"]), dR (.note "top" "f" nm)], ?_, ?_⟩
    · refine ⟨_, rfl, by show 4 ≤ sizeLine; decide, fun q nq => ?_⟩
      have sq := same_new (o := .lst [.str "one", .str "two", .str "six", .str "top"]) nq
      have oq := offD hP3 nq
      have hPq := hP3.same sq
      refine ⟨p, g, s, q, _, rfl, hPq, upd_same, fun e => oq.1 (by rw [e]; exact List.mem_cons_self), fun e => oq.2.1 (by rw [e]; exact List.mem_cons_self), fun z => (by cases z), by decide, fun x H'' hx hP'' z => ?_⟩
      have hy : ∃ y ∈ N4, x = V.str y := by
        simp only [List.mem_cons, List.not_mem_nil, or_false] at hx
        rcases hx with rfl | rfl | rfl | rfl
        · exact ⟨"one", by simp [N4], rfl⟩
        · exact ⟨"two", by simp [N4], rfl⟩
        · exact ⟨"six", by simp [N4], rfl⟩
        · exact ⟨"top", by simp [N4], rfl⟩
      obtain ⟨y, hy, rfl⟩ := hy
      have npg : ∀ {D : Addr}, PotOff p g s [D] → D ∉ [p, g] := fun oD hm => by
        simp only [List.mem_cons, List.not_mem_nil, or_false] at hm
        rcases hm with e | e
        · exact oD.1 (by rw [e]; exact List.mem_cons_self)
        · exact oD.2.1 (by rw [e]; exact List.mem_cons_self)
      exact ⟨y, rfl, hy, hP'', TabsN.fz (hT3.ext sq) z hPq.mks, z.keep _ _ (npg ona) (sq _ _ hna3), z.keep _ _ (npg ora) (sq _ _ hra3), (tv3.pt sq.pt).pt (z.pt hPq.mks)⟩
    rintro σ4 H4 ⟨e, rfl, he4, hP4, hT4, hna4, hra4, tv4⟩
    clear hP3 hT3 hna3 hra3 tv3
    -- the run
    refine ⟨by decide, fun la nla => ?_⟩
    have sla := same_new (o := .lst []) nla
    have hP5 := hP4.same sla
    have hT5 := hT4.ext sla
    have hna5 := sla _ _ hna4
    have hra5 := sla _ _ hra4
    have tv5 := tv4.pt sla.pt
    have hla5 : upd H4 la (.lst []) la = some (.lst []) := upd_same
    have nP : PotOff p g s [la] := offD hP4 nla
    have nal : na ≠ la := ne_of_none hna4 nla
    clear hP4 hT4 hna4 hra4 tv4 sla
    generalize upd H4 la (.lst []) = H5 at hP5 hT5 hna5 hra5 tv5 hla5 ⊢
    refine ⟨fun σ6 H6 => ∃ x wa px A F, σ6 = [some (.ref p), some (.ref na), some (.ref ra), some (.str e), some (.ref la), some (.ref x), none, none, none, none, none, none, none, none] ∧
      St9 (FM P w K mg base T la 1) CP CN CR TT p g s F N4 x A px (blk3 nm e) wa H6 NS0 [] [0] ∧ H6 na = some (.lst (nm.map V.str)) ∧ na ∉ wa :: (A.own ++ [la]), ?_, ?_⟩
    · refine ⟨_, rfl, ra, _, rfl, .inl ⟨SqL.of hra5, fun t1 nt1 => ⟨_, rfl, by show 2 ≤ sizeLine; decide, fun a4 m4 => ⟨by show 2 ≤ sizeLine; decide, fun a5 m5 => ⟨by show 2 ≤ sizeLine; decide, fun t2 nt2 => ?_⟩⟩⟩⟩⟩
      have k1 := same_new (o := .tup [r0, r1, r2, r3]) nt1
      have k4 := same_new (o := .tup [.str "ask", .str e]) m4
      have k5 := same_new (o := .tup [.str "print", .str "top"]) m5
      have k2 := same_new (o := .tup [.ref a4, .ref a5]) nt2
      have u4 : RV K _ (.ref a4) (.ask e) := tvNew m4 (.cons (.str "ask") (.cons (.str e) .nil))
      have u5 : RV K _ (.ref a5) (.prt "top") := tvNew m5 (.cons (.str "print") (.cons (.str "top") .nil))
      refine ⟨t1, t2, [r0, r1, r2, r3], [.ref a4, .ref a5], rfl, rfl, .inl (.inl (k2 _ _ (k5 _ _ (k4 _ _ upd_same)))), .inl (.inl upd_same), (fun z => by cases z), by show 4 + 2 ≤ 2 ^ 24; omega, fun z => (by cases z), fun _ tb ntb => ?_⟩
      have kb := same_new (o := .tup ([r0, r1, r2, r3] ++ [.ref a4, .ref a5])) ntb
      have kA := (((k1.trans k4).trans k5).trans k2)
      have bv : BV K _ (.ref tb) (blk3 nm e) := tvNew ntb (Tvs.app (tv5.pt kA.pt) (.cons ((u4.pt k5.pt).pt k2.pt) (.cons (u5.pt k2.pt) .nil)))
      have kAll := kA.trans kb
      clear k1 k4 k5 k2 u4 u5 kb kA
      generalize upd (upd (upd (upd (upd H5 t1 (.tup [r0, r1, r2, r3])) a4 (.tup [.str "ask", .str e])) a5 (.tup [.str "print", .str "top"])) t2 (.tup [.ref a4, .ref a5])) tb (.tup ([r0, r1, r2, r3] ++ [.ref a4, .ref a5])) = H6 at bv kAll ⊢
      refine fun px dx npx ndx ned => ⟨px, dx, .ref tb, blk3 nm e, rfl, upd_same, bv.pt ((Pt.new ndx).trans (Pt.new (by rw [upd_ne ned.symm]; exact npx))), good3 (by omega) hn3 he4, fun H7 k7 p7 pr7 pd7 => ⟨rfl, ?_⟩⟩
      have s7 : Same H6 H7 := fun z o e => by
        refine k7 _ _ (ne_of_none e npx) ?_
        rw [upd_ne (ne_of_none e npx), upd_ne (ne_of_none e ndx)]
        exact e
      have s57 := kAll.trans s7
      have hP7 := hP5.same s57
      have hT7 := hT5.ext s57
      have hna7 := s57 _ _ hna5
      have hla7 := s57 _ _ hla5
      clear hP5 hT5 hna5 hra5 tv5 hla5 s57 s7 kAll bv
      refine fun d nd => ⟨_, rfl, la, 1, rfl, (hT7.ext (same_new nd)), fun f c q cl H8 eN T8 nf ncl LF => ?_⟩
      have s8 := same_new (o := .dK []) nd
      have hd8 : H8 d = some (.dK []) := eN _ _ upd_same fun _ z => by cases z
      refine ⟨hd8, [(.inr "f", .ref f)], rfl, by show 1 ≤ 15; decide, ?_⟩
      have e8 : ExtN H7 H8 := (ExtN.of s8).trans eN
      have md : Mks [d] H8 := fun b hb => by
        rw [List.mem_singleton.mp hb]
        exact .inr ⟨_, hd8⟩
      have z9 : Fz [d] H8 (upd H8 d (.dK (mergeK [] [(.inr "f", .ref f)]))) := Fz.put md List.mem_cons_self (.inr ⟨_, rfl⟩)
      have hd9 : upd H8 d (.dK (mergeK [] [(.inr "f", .ref f)])) d = some (.dK [(.inr "f", .ref f)]) := upd_same
      have nPd : PotOff p g s [d] := offD hP7 nd
      have lad : la ∉ [d] := fun hm => by
        rw [← List.mem_singleton.mp hm] at nd
        rw [hla7] at nd
        cases nd
      have nad : na ∉ [d] := fun hm => by
        rw [← List.mem_singleton.mp hm] at nd
        rw [hna7] at nd
        cases nd
      generalize upd H8 d (.dK (mergeK [] [(.inr "f", .ref f)])) = H9 at z9 hd9 ⊢
      have hP9 := (hP7.ext e8).fz z9 nPd.1 nPd.2.1 nPd.2.2
      have hT9 := TabsN.fz T8 z9 md
      have hna9 := z9.keep _ _ nad (e8 _ _ hna7 fun _ z => by cases z)
      have hC9 : ClAt K la [] H9 := ClAt.fz ⟨[], e8 _ _ hla7 (fun _ z => by cases z), .nil⟩ z9 md lad
      have pr9 := ((PM.PrAt.ext pr7 e8).fz z9 md)
      have pd9 := ((PM.PrD.ext pd7 e8).fz z9 md)
      have LF9 := LF.fz z9 md
      have hops : opsB (blk3 nm e) = ([("f" : Str), "f", "f", "f"] : List Str) := rfl
      refine fun x dx9 nx ndx9 ned9 => ⟨FM P w K mg base T la 1, N4, x, dx9, px, d, [], blk3 nm e, H9, [(.inr "f", .ref f)], fun _ => f, rfl, upd_same, nx, same_putN (same_new ndx9) nx, pr9, pd9, hd9, fun o ho => ?_, hC9, hC9.mks, by show [la].Nodup; simp, names3 hn3 he4, by decide, by show 1 ≤ 20; decide, rfl, fun A F wa H10 s910 R hfr => ⟨rfl, ?_⟩⟩
      · have eo : o = "f" := by
          rw [hops] at ho
          simpa using ho
        rw [eo]
        exact ⟨valV_pos rfl, q, cl, c, LF9⟩
      have n9 := hP9.off hfr
      have app : ∀ {b : Addr}, b ∉ wa :: A.own → b ∉ [la] → b ∉ wa :: (A.own ++ [la]) := fun h1 h2 hm => by
        rcases List.mem_cons.mp hm with e | hm
        · exact h1 (by rw [e]; exact List.mem_cons_self)
        · rcases List.mem_append.mp hm with hm | hm
          · exact h1 (List.mem_cons_of_mem _ hm)
          · exact h2 hm
      refine ⟨x, wa, px, A, F, rfl, ⟨R, hP9.same s910, hT9.ext s910, app n9.1 nP.1, app n9.2.1 nP.2.1, app n9.2.2 nP.2.2⟩, s910 _ _ hna9, app (fun hm => ?_) fun hm => nal (List.mem_singleton.mp hm)⟩
      rw [hfr _ hm] at hna9
      cases hna9
    rintro σ6 H6 ⟨x, wa, px, A, F, rfl, B6, hna6, offna⟩
    clear hP5 hT5 hna5 hra5 tv5 hla5
    -- six steps
    refine ⟨fun σ7 H7 => ∃ y6 S l, σ7 = [some (.ref p), some (.ref na), some (.ref ra), some (.str e), some (.ref la), some (.ref x), y6, none, none, none, none, none, none, none] ∧
      St9 (FM P w K mg base T la 1) CP CN CR TT p g s F N4 x A px (blk3 nm e) wa H7 S l (List.range 7) ∧ H7 na = some (.lst (nm.map V.str)) ∧ RunS (FM P w K mg base T la 1) (blk3 nm e) NS0 ([] : List (List V)) 0 [1, 2, 3, 4, 5, 6] S l, ?_, ?_⟩
    · refine ⟨_, rfl, by decide, by decide, ?_⟩
      refine for_range (fun i σ' H' => ∃ y6 S l, σ' = [some (.ref p), some (.ref na), some (.ref ra), some (.str e), some (.ref la), some (.ref x), y6, none, none, none, none, none, none, none] ∧
        St9 (FM P w K mg base T la 1) CP CN CR TT p g s F N4 x A px (blk3 nm e) wa H' S l (List.range (i + 1)) ∧ H' na = some (.lst (nm.map V.str)) ∧ S.made.length ≤ i ∧ S.printed.length ≤ i ∧ S.trail.length ≤ i ∧ ∀ S2 l2, RunS (FM P w K mg base T la 1) (blk3 nm e) S l i (List.range' (i + 1) (6 - i)) S2 l2 → RunS (FM P w K mg base T la 1) (blk3 nm e) NS0 ([] : List (List V)) 0 [1, 2, 3, 4, 5, 6] S2 l2) ⟨none, NS0, [], rfl, B6, hna6, Nat.le_refl _, Nat.le_refl _, Nat.le_refl _, fun S2 l2 h => h⟩ ?_ (fun σ' H' h => ?_)
      · rintro i σ' H' hi ⟨y6, S, l, rfl, B, hna, z1, z2, z3, kR⟩
        have hi : i < 6 := hi
        obtain ⟨r, hr0⟩ := rows3_at nm e i hi
        have hls := leads3_at nm e i hi
        have R := B.R
        rw [List.range_succ] at R
        obtain ⟨dx, hx⟩ := R.rx
        refine ⟨_, rfl, x, dx, _, rfl, hx, rfl, FM P w K mg base T la 1, F, _, x, A, S, l, px, _, wa, List.range i, i, 0, i + 1, [i + 1], r, rfl, R, hls, rfl, hr0, by omega, by omega, by omega, by rw [List.length_range]; omega, fun S' l' H'' z R' hD => ?_⟩
        obtain ⟨g1, g2⟩ := hD.sizes
        rw [← List.range_succ, ← List.range_succ] at R'
        refine ⟨_, _, l', rfl, B.step z R', z.keep _ _ offna hna, Nat.le_trans g1 (Nat.succ_le_succ z1), Nat.le_trans g2 (Nat.succ_le_succ z2), ?_, fun S2 l2 h => kR S2 l2 ?_⟩
        · show (S.trail ++ [_]).length ≤ _
          rw [List.length_append]
          exact Nat.succ_le_succ z3
        · rw [show 6 - i = (6 - (i + 1)) + 1 by omega, List.range'_succ]
          exact .step hls List.mem_cons_self hr0 hD h
      · obtain ⟨y6, S, l, e1, B, hna, _, _, _, kR⟩ := h
        exact ⟨y6, S, l, e1, B, hna, kR S l .done⟩
    rintro σ7 H7 ⟨y6, S, l, rfl, B7, hna7, hrun⟩
    obtain ⟨m, em, hm3, hwS, hpS, hlS⟩ := run3 (by omega) hn3 he4 hrun
    clear B6 hna6 hrun
    -- what each is worth
    have n12 : (.inr "one" : Key) ≠ .inr "two" := by decide +kernel
    have n13 : (.inr "one" : Key) ≠ .inr "six" := by decide +kernel
    have n23 : (.inr "two" : Key) ≠ .inr "six" := by decide +kernel
    refine fun wd nwd => ⟨upd_same, [(.inr "one", .int 1)], rfl, by show 1 ≤ 15; decide, ?_⟩
    rw [upd_upd]
    have w1 : upd H7 wd (.dK (mergeK [] [(.inr "one", .int 1)])) wd = some (.dK [(.inr "one", .int 1)]) := upd_same
    refine ⟨_, rfl, wd, _, rfl, DGet.k (k := .inr "one") w1, _, _, rfl, rfl, _, rfl, wd, _, rfl, DPut.k (k := .inr "two") w1 (by show 1 < sizeLine; decide), ?_⟩
    rw [upd_upd]
    obtain ⟨kv2, ekv2⟩ : ∃ kv2 : List (Key × V), kv2 = putK [(.inr "one", .int 1)] (.inr "two") (.int (1 + 1)) := ⟨_, rfl⟩
    rw [← ekv2]
    have hk2 : kv2.length ≤ 2 := by rw [ekv2]; exact Nat.le_trans (length_putK _ _ _) (Nat.le_refl _)
    have g21 : valV kv2 (.inr "one") = some (.int 1) := by rw [ekv2, valV_put, if_neg n12]; rfl
    have g22 : valV kv2 (.inr "two") = some (.int 2) := by rw [ekv2, valV_put, if_pos rfl]; rfl
    refine ⟨fun σ8 H8 => ∃ (wd : Addr) (kv : List (Key × V)), σ8 = [some (.ref p), some (.ref na), some (.ref ra), some (.str e), some (.ref la), some (.ref x), y6, some (.ref wd), none, none, none, none, none, none] ∧ Same H7 H8 ∧ H8 wd = some (.dK kv) ∧ ∀ y ∈ N3, valV kv (.inr y) = some (.int (wq3 (ix3 y))), ?_, ?_⟩
    · have w2 : upd H7 wd (.dK kv2) wd = some (.dK kv2) := upd_same
      have d1 := DGet.k (k := .inr "two") w2
      have d2 := DGet.k (k := .inr "one") w2
      rw [g22] at d1
      rw [g21] at d2
      refine ⟨_, rfl, wd, _, rfl, d1, _, rfl, wd, _, rfl, d2, _, _, rfl, rfl, _, _, rfl, rfl, _, rfl, wd, _, rfl, DPut.k (k := .inr "six") w2 (Nat.lt_of_le_of_lt hk2 (by decide)), ?_⟩
      rw [upd_upd]
      refine ⟨wd, _, rfl, same_putN (Same.refl _) nwd, upd_same, fun y hy => ?_⟩
      simp only [N3, List.mem_cons, List.not_mem_nil, or_false] at hy
      rcases hy with rfl | rfl | rfl
      · rw [valV_put, if_neg n13, g21, show ix3 "one" = 0 by decide +kernel]
        rfl
      · rw [valV_put, if_neg n23, g22, show ix3 "two" = 1 by decide +kernel]
        rfl
      · rw [valV_put, if_pos rfl, show ix3 "six" = 2 by decide +kernel]
        rfl
    rintro σ8 H8 ⟨wd, kv, rfl, s78, hwd8, hkv⟩
    clear w1 ekv2 hk2 g21 g22 nwd
    have B8 := B7.same s78
    have hna8 := s78 _ _ hna7
    clear B7 hna7 s78
    -- what lies beneath
    refine ⟨fun σ9 H9 => ∃ (bd : Addr) (kvb : List (Key × V)), σ9 = [some (.ref p), some (.ref na), some (.ref ra), some (.str e), some (.ref la), some (.ref x), y6, some (.ref wd), some (.ref bd), none, none, none, none, none] ∧ Same H8 H9 ∧ H9 bd = some (.dK kvb) ∧ ∀ y ∈ N3, ∃ a, valV kvb (.inr y) = some (.ref a) ∧ H9 a = some (.lst ((List.range (ix3 y + 1)).map fun (n : Nat) => V.int (n : Int))), ?_, ?_⟩
    · refine fun bd nbd => ⟨by show 1 ≤ sizeLine; decide, fun b0 m0 => ⟨by show 2 ≤ sizeLine; decide, fun b1 m1 => ⟨by show 3 ≤ sizeLine; decide, fun b2 m2 => ?_⟩⟩⟩
      have k0 := same_new (o := .lst [.int 0]) m0
      have k1 := same_new (o := .lst [.int 0, .int 1]) m1
      have k2 := same_new (o := .lst [.int 0, .int 1, .int 2]) m2
      have hb0 := k2 _ _ (k1 _ _ (upd_same (H := upd H8 bd (.dK [])) (a := b0) (o := .lst [.int 0])))
      have hb1 := k2 _ _ (upd_same (H := upd (upd H8 bd (.dK [])) b0 (.lst [.int 0])) (a := b1) (o := .lst [.int 0, .int 1]))
      have hb2 := upd_same (H := upd (upd (upd H8 bd (.dK [])) b0 (.lst [.int 0])) b1 (.lst [.int 0, .int 1])) (a := b2) (o := .lst [.int 0, .int 1, .int 2])
      have hbd := ((k0.trans k1).trans k2) _ _ (upd_same (H := H8) (a := bd) (o := .dK []))
      refine ⟨hbd, [(.inr "one", .ref b0), (.inr "two", .ref b1), (.inr "six", .ref b2)], rfl, by show 3 ≤ 15; decide, ?_⟩
      refine ⟨bd, _, rfl, same_putN (((same_new nbd).trans ((k0.trans k1).trans k2))) nbd, upd_same, fun y hy => ?_⟩
      have ne : ∀ {b : Addr} {xs : List V}, (upd (upd (upd (upd H8 bd (.dK [])) b0 (.lst [.int 0])) b1 (.lst [.int 0, .int 1])) b2 (.lst [.int 0, .int 1, .int 2])) b = some (.lst xs) → b ≠ bd := fun h z => by
        rw [z, hbd] at h
        cases h
      simp only [N3, List.mem_cons, List.not_mem_nil, or_false] at hy
      rcases hy with rfl | rfl | rfl
      · refine ⟨b0, ?_, (upd_ne (ne hb0)).trans (hb0.trans (by rw [show ix3 "one" = 0 by decide +kernel]; rfl))⟩
        show valV (putK (putK (putK ([] : List (Key × V)) (.inr "one" : Key) (.ref b0)) (.inr "two" : Key) (.ref b1)) (.inr "six" : Key) (.ref b2)) _ = _
        rw [valV_put, if_neg n13, valV_put, if_neg n12, valV_put, if_pos rfl]
      · refine ⟨b1, ?_, (upd_ne (ne hb1)).trans (hb1.trans (by rw [show ix3 "two" = 1 by decide +kernel]; rfl))⟩
        show valV (putK (putK (putK ([] : List (Key × V)) (.inr "one" : Key) (.ref b0)) (.inr "two" : Key) (.ref b1)) (.inr "six" : Key) (.ref b2)) _ = _
        rw [valV_put, if_neg n23, valV_put, if_pos rfl]
      · refine ⟨b2, ?_, (upd_ne (ne hb2)).trans (hb2.trans (by rw [show ix3 "six" = 2 by decide +kernel]; rfl))⟩
        show valV (putK (putK (putK ([] : List (Key × V)) (.inr "one" : Key) (.ref b0)) (.inr "two" : Key) (.ref b1)) (.inr "six" : Key) (.ref b2)) _ = _
        rw [valV_put, if_pos rfl]
    rintro σ9 H9 ⟨bd, kvb, rfl, s89, hbd9, hkb⟩
    have B9 := B8.same s89
    have hna9 := s89 _ _ hna8
    have hwd9 := s89 _ _ hwd8
    clear B8 hna8 hwd8 s89
    -- what is due
    refine ⟨by decide, fun du ndu => ?_⟩
    have sdu := same_new (o := .lst []) ndu
    refine ⟨fun σ' H' => ∃ y10, σ' = [some (.ref p), some (.ref na), some (.ref ra), some (.str e), some (.ref la), some (.ref x), y6, some (.ref wd), some (.ref bd), some (.ref du), y10, none, none, none] ∧ Same H9 H' ∧ H' du = some (.lst ((List.range m).map fun (n : Nat) => V.int (n : Int))), ?_, ?_⟩
    · refine ⟨_, rfl, rfl, _, rfl, pick_lst _ 3 rfl fun l1 H10 s10 nl1 hl1 => ⟨_, rfl, ?_⟩⟩
      have hna10 := s10 _ _ (sdu _ _ hna9)
      obtain ⟨L, eL, hL3, hL4, hLm⟩ : ∃ L : List Str, L = (if (!decide (V.str e = V.str "top")) = true then [e] else []) ++ nm ∧ (∀ y ∈ L, y ∈ N3) ∧ L.length ≤ 4 ∧ mxF L 0 = m := by
        refine ⟨_, rfl, ?_⟩
        by_cases ee : e = "top"
        · rw [decide_eq_true (show V.str e = V.str "top" by rw [ee]), if_neg (by decide), List.nil_append]
          rw [if_pos ee] at em
          exact ⟨hn3, by omega, em.symm⟩
        · rw [decide_eq_false (fun z => ee (by injection z)), if_pos (by decide)]
          rw [if_neg ee] at em
          have he3 : e ∈ N3 := by
            simp only [N4, List.mem_cons, List.not_mem_nil, or_false] at he4
            simp only [N3, List.mem_cons, List.not_mem_nil, or_false]
            rcases he4 with h | h | h | h
            · exact .inl h
            · exact .inr (.inl h)
            · exact .inr (.inr h)
            · exact absurd h ee
          refine ⟨fun y hy => ?_, by rw [List.length_append]; show 1 + _ ≤ 4; omega, ?_⟩
          · rcases List.mem_append.mp hy with h | h
            · rw [List.mem_singleton.mp h]
              exact he3
            · exact hn3 y h
          · rw [em]
            show mxF nm (max 0 (ix3 e + 1)) = _
            rw [Nat.zero_max]
      refine ⟨l1, na, _, _, rfl, rfl, hl1, hna10, ?_, fun lb nlb => ?_⟩
      · rw [List.length_map, List.length_map, ← List.length_append, ← eL]
        exact Nat.le_trans hL4 (by decide)
      rw [← List.map_append, ← eL]
      have sb := same_new (o := .lst (L.map V.str)) nlb
      have s9b := (sdu.trans s10).trans sb
      have hdu0 : upd H10 lb (.lst (L.map V.str)) du = some (.lst []) := sb _ _ (s10 _ _ upd_same)
      have hlb0 : upd H10 lb (.lst (L.map V.str)) lb = some (.lst (L.map V.str)) := upd_same
      have lbdu : lb ≠ du := fun z => by
        rw [z, s10 _ _ (upd_same (H := H9) (a := du) (o := .lst []))] at nlb
        cases nlb
      refine ⟨lb, rfl, ⟨_, SqL.of hlb0⟩, ?_⟩
      generalize upd H10 lb (.lst (L.map V.str)) = Hb at s9b hdu0 hlb0 ⊢
      refine for_list (K := K) (a := lb) (xs := L.map V.str) (fun i σ' H' => ∃ y10, σ' = [some (.ref p), some (.ref na), some (.ref ra), some (.str e), some (.ref la), some (.ref x), y6, some (.ref wd), some (.ref bd), some (.ref du), y10, none, none, none] ∧ Same H9 H' ∧ H' lb = some (.lst (L.map V.str)) ∧ H' du = some (.lst ((List.range (mxF (L.take i) 0)).map fun (n : Nat) => V.int (n : Int)))) ⟨_, rfl, s9b, hlb0, hdu0⟩ ?_ ?_ ?_
      · rintro i σ' H' _ ⟨y10, rfl, _, hlb, _⟩
        exact SqL.of hlb
      · rintro i z σ' H' hz ⟨y10, rfl, s9, hlb, hdu⟩
        obtain ⟨y, hy, rfl⟩ : ∃ y, L[i]? = some y ∧ z = V.str y := by
          rw [List.getElem?_map] at hz
          cases e1 : L[i]? with
          | none => rw [e1] at hz; cases hz
          | some y => rw [e1] at hz; exact ⟨y, rfl, (Option.some.inj hz).symm⟩
        have hy3 := hL3 y (List.mem_of_getElem? hy)
        have hmle : mxF (L.take i) 0 ≤ 3 := mxF_le (fun u hu => hL3 u (List.mem_of_mem_take hu)) (by decide)
        obtain ⟨a, ha, hla⟩ := hkb y hy3
        have hg := DGet.k (k := .inr y) (s9 _ _ hbd9)
        rw [ha] at hg
        refine ⟨_, rfl, .inl ⟨rfl, _, SqL.of hdu⟩, lc_into ⟨_, rfl, _, rfl, bd, _, rfl, hg, a, rfl, ⟨_, SqL.of (s9 _ _ hla)⟩, ?_⟩⟩
        refine lc_overF (as := List.range (ix3 y + 1)) (Rel := fun _ (n : Nat) v => v = V.int (n : Int)) (fun n => decide (mxF (L.take i) 0 ≤ n)) it_list (by rw [List.length_map]) (fun _ _ _ _ _ h => h) (by rw [List.length_map, List.length_range]; exact Nat.lt_of_le_of_lt (ix_low hy3) (by decide)) (fun H'' sm _ => SqL.of (sm _ _ (s9 _ _ hla))) ?_ ?_
        · intro j v n hv hn H'' sm pt R N kR kN
          rw [List.getElem?_map, hn] at hv
          cases hv
          refine ⟨rfl, _, rfl, _, rfl, du, _, rfl, .inl (SqL.of (sm _ _ hdu)), rfl, flat_ints _, _, rfl, ?_⟩
          rw [in_range]
          by_cases hle : mxF (L.take i) 0 ≤ n
          · rw [decide_eq_false (by omega)]
            exact ifB rfl ⟨_, rfl, kR (decide_eq_true hle) _ _ (fun _ _ h => h) rfl⟩
          · rw [decide_eq_true (by omega)]
            exact ifBF rfl (kN (decide_eq_false hle) _ fun _ _ h => h)
        · intro D ys H'' sm pt nD hD all
          have ey := All2.map all
          have hdu2 := sm _ _ hdu
          have dD : du ≠ D := ne_of_none hdu nD
          refine ⟨du, D, _, _, rfl, rfl, hdu2, hD, ?_, ?_⟩
          · rw [ey, List.length_map, List.length_map, List.length_range]
            have h1 := List.length_filter_le (fun n => decide (mxF (L.take i) 0 ≤ n)) (List.range (ix3 y + 1))
            rw [List.length_range] at h1
            have h2 := ix_low hy3
            exact Nat.le_trans (show _ ≤ 6 by omega) (by decide)
          rw [ey, range_more]
          have lbd : lb ≠ du := lbdu
          refine ⟨_, rfl, same_putN (s9.trans sm) ndu, (upd_ne lbd).trans (sm _ _ hlb), ?_⟩
          rw [upd_same]
          have hil : i < L.length := (List.getElem?_eq_some_iff.mp hy).1
          have et : L.take (i + 1) = L.take i ++ [y] := by
            rw [List.take_succ, hy]
            rfl
          rw [et, mxF_snoc]
      · rintro σ' H' ⟨y10, rfl, s9, hlb, hdu⟩
        rw [List.length_map, List.take_length, hLm] at hdu
        exact ⟨_, rfl, s9, hdu⟩
    rintro σ10 H10 ⟨y10, rfl, s10, hdu10⟩
    have B10 := B9.same s10
    have hna10 := s10 _ _ hna9
    have hwd10 := s10 _ _ hwd9
    clear B9 hna9 hwd9 s10 sdu hbd9 hkb
    -- the top
    refine ⟨fun σ' H' => σ' = [some (.ref p), some (.ref na), some (.ref ra), some (.str e), some (.ref la), some (.ref x), y6, some (.ref wd), some (.ref bd), some (.ref du), y10, some (.int (top3 nm)), none, none] ∧ Same H10 H', ?_, ?_⟩
    · refine lc_into ⟨_, rfl, na, rfl, ⟨_, SqL.of hna10⟩, ?_⟩
      refine lc_overA (p := none) (as := nm) (zs := nm.map V.str) (Rel := fun _ y v => v = V.int (wq3 (ix3 y))) it_list (by rw [List.length_map]) (fun _ _ _ _ _ h => h) (fun _ h => nomatch h) (by rw [List.length_map, hl3]; decide) (fun H' kq pt => SqL.of (kq.same _ _ hna10)) ?_ ?_
      · intro j z y hz hy H' kq pt R kR
        rw [List.getElem?_map, hy] at hz
        cases hz
        have hg := DGet.k (k := .inr y) (kq.same _ _ hwd10)
        rw [hkv y (hn3 y (List.mem_of_getElem? hy))] at hg
        exact ⟨rfl, _, rfl, _, rfl, wd, _, rfl, hg, kR _ _ (Same.kq fun _ _ h => h) (Pt.refl _) rfl⟩
      · intro D ys H' kq pt nD hD all
        have ey : ys = (nm.map fun y => wq3 (ix3 y)).map V.int := by
          rw [All2.map all, List.map_map]
          rfl
        subst ey
        exact ⟨D, _, rfl, SqL.of hD, _, _, rfl, rfl, rfl, kq.same⟩
    rintro σ11 H11 ⟨rfl, s11⟩
    have B11 := B10.same s11
    have hdu11 := s11 _ _ hdu10
    clear B10 hna10 hwd10 s11 hdu10
    obtain ⟨dx, hx11⟩ := B11.R.rx
    obtain ⟨us, hU, hUA⟩ := (show ClAt K la l H11 from B11.R.nt.at_)
    have hul : us.length = m + 1 := hUA.len.trans hlS
    have ekey : S.worths.map (fun p => V.int (p.1 : Nat)) = (((List.range m).map fun (n : Nat) => (n : Int)) ++ [3]).map V.int := by
      rw [hwS, List.map_append, seg_keys, List.map_append]
      rfl
    refine ⟨_, rfl, x, dx, _, rfl, hx11, rfl, _, F, _, x, A, S, _, px, _, wa, _, rfl, B11.R, fun q H12 s1 hq => ⟨_, rfl, by show 1 ≤ sizeLine; decide, fun l3 n3 => ?_⟩⟩
    rw [ekey] at hq
    have s2 := same_new (o := .lst [.int 3]) n3
    refine ⟨du, l3, _, _, rfl, rfl, s2 _ _ (s1 _ _ hdu11), upd_same, ?_, fun l4 n4 => ?_⟩
    · rw [List.length_map, List.length_range]
      exact Nat.le_trans (show m + 1 ≤ 4 by omega) (by decide)
    have s3 := same_new (o := .lst ((List.range m).map (fun (n : Nat) => V.int (n : Int)) ++ [.int 3])) n4
    refine ⟨l4, _, rfl, .inl ⟨SqL.of upd_same, fun t5 n5 => ?_⟩⟩
    have s4 := same_new (o := .tup ((List.range m).map (fun (n : Nat) => V.int (n : Int)) ++ [.int 3])) n5
    have s14 := ((s1.trans s2).trans s3).trans s4
    refine ⟨_, _, dp_ints (((s2.trans s3).trans s4).pt.sq hq), dp_ints (ns := ((List.range m).map fun (n : Nat) => (n : Int)) ++ [3]) (.inl (.inl (by rw [upd_same, List.map_append, List.map_map]; rfl))), sh_ints _, sh_ints _, _, rfl, ifB (by rw [eq_ints]) ?_⟩
    refine ⟨_, rfl, x, dx, _, rfl, s14 _ _ hx11, rfl, _, F, _, x, A, S, _, px, _, wa, _, rfl, (B11.same s14).R, fun q2 H13 s5 hq2 => ⟨_, rfl, by show 1 ≤ sizeLine; decide, fun e5 n6 => ?_⟩⟩
    rw [hpS] at hq2
    have s6 := same_new (o := .tup [.int (top3 nm)]) n6
    refine ⟨_, _, dp_ints (ns := [top3 nm]) (s6.pt.sq hq2), dp_ints (ns := [top3 nm]) (.inl (.inl upd_same)), sh_ints [_], sh_ints [_], _, rfl, ifB (by rw [eq_ints]) ?_⟩
    have s16 := (s14.trans s5).trans s6
    have B16 := B11.same s16
    refine ⟨_, rfl, la, _, rfl, .inl (SqL.of (s16 _ _ hU)), _, rfl, du, _, rfl, .inl (SqL.of (s16 _ _ hdu11)), _, _, rfl, rfl, rfl, ?_⟩
    rw [hul, List.length_map, List.length_range]
    have e1 : decide (V.int ((m + 1 : Nat) : Int) = V.int ((m : Nat) + 1)) = true := decide_eq_true rfl
    rw [e1]
    exact k _ B16.P B16.T
end
end K13
set_option Elab.async false
set_option linter.all false
set_option maxRecDepth 100000
set_option maxHeartbeats 4000000
/-! The law. -/
namespace K13
open PySem PySem.Spec PyProof.Rows L2 LamX ZX PM ZR
abbrev sLaw : Stmt := top 59
def spLaw (K : PySem.W.Frag) (TT : List NdefX.NTab) : Sp := fun vs H Q _ => ∃ (a : Addr) (ns : List Int), vs = [.ref a] ∧ SqL K H a (ns.map V.int) ∧ ns.length ≤ 63 ∧ NdefX.TabsN TT H ∧ ∀ H', Q (.bl true) H'
section
variable {P : Program} {w : World} {K : PySem.W.Frag} {mg : Str → Option Value} {base : Heap} {CP CN CR : Addr} {TT : List NdefX.NTab}
theorem scLaw : FnScope ["_law_script", "_law_pot_here", "_law_rounds"] ["_law_script"] (defScope sLaw) := ⟨rfl, rfl, rfl, by decide +kernel, rfl, by decide +kernel, by decide +kernel⟩
theorem ok_law {f : Addr} {fd : FuncData} (F : FnP K "law" sLaw f fd) (C : Cx3 P w K mg base CP CN CR TT) (C_pot : Cal P w K mg base "_law_pot" 1 ["_law_script"] (spPot K)) (C_doubled : Cal P w K mg base "_law_doubled_right" 30 ["_law_pot_here", "_law_rounds"] (spDoubled TT))
    (C_turns : Cal P w K mg base "_law_turns_right" 30 ["_law_pot_here"] (spTurns TT)) (C_left : Cal P w K mg base "_law_left_right" 30 ["_law_pot_here"] (spTurns TT)) : FnOk P w K mg base CX0 31 f fd ["_law_script"] (spLaw K TT) := by
  refine F.ok scLaw (fun vs H Q E h => ?_) (fun cdv A0 outer st H vs Q E hr h => ?_)
  · obtain ⟨a, ns, rfl, _⟩ := h
    rfl
  · obtain ⟨a, ns, rfl, hS, hl, hT, k⟩ := h
    have T := C.bi
    have hr1 := hr.mono (show 1 ≤ 30 by decide)
    refine ⟨_, PSs.nox (pss_cons (ps_set (i := 1) scLaw.nd rfl (Or.inl rfl) (pcal C_pot hr1 rfl (pa_cons (pv 0) pa_nil)))
    (pss_cut (ps_set (i := 2) scLaw.nd rfl (Or.inl rfl) (pe_ifExp (pt_cmpR op_eq (pcal C.draw hr1 rfl (pa_cons (pv 1) (pa_cons pe_int pa_nil))) pe_int (nomark _)) (pe_ix ix_list (pe_lst (pa_cons pe_int (pa_cons pe_int (pa_cons pe_int pa_nil)))) (pcal C.draw hr1 rfl (pa_cons (pv 1) (pa_cons pe_int pa_nil))) (fun _ _ => rfl)) (pe_op op_add pe_int (pcal C.draw hr1 rfl (pa_cons (pv 1) (pa_cons pe_int pa_nil))))))
    (pss_one (ps_ret (pe_and (pcal C_doubled hr rfl (pa_cons (pv 1) (pa_cons (pv 2) pa_nil))) (pe_and (pcal C_turns hr rfl (pa_cons (pv 1) pa_nil)) (pe_one (pcal C_left hr rfl (pa_cons (pv 1) pa_nil))))))))), ?_⟩
    refine ⟨_, rfl, a, ns, rfl, hS, hl, fun p g s H1 hP1 s1 _ _ _ => ?_⟩
    have hT1 := hT.ext s1
    refine ⟨fun σ' H' => ∃ r : Nat, σ' = [some (.ref a), some (.ref p), some (.int (r : Nat))] ∧ 2 ≤ r ∧ r ≤ 1500 ∧ PotAt H' p g s ∧ NdefX.TabsN TT H', ?_, ?_⟩
    · refine ⟨_, rfl, p, g, s, 16, rfl, hP1, by decide, by decide, fun d H2 d0 d1 hP2 z2 => ⟨rfl, _, rfl, ?_⟩⟩
      have hT2 := TabsN.fz hT1 z2 hP1.mks
      refine ite2 (fun _ => ?_) (fun _ => ?_)
      · refine ⟨by show 3 ≤ sizeLine; decide, fun q nq => ?_⟩
        have sq := same_new (o := .lst [.int 1500, .int 400, .int 400]) nq
        have hPq := hP2.same sq
        refine ⟨_, rfl, p, g, s, 3, rfl, hPq, by decide, by decide, fun d' H3 d0' d1' hP3 z3 => ?_⟩
        have oq : q ∉ [p, g] := fun hm => by
          have o2 := hP2.off (M := [q]) fun b hb => by rw [List.mem_singleton.mp hb]; exact nq
          simp only [List.mem_cons, List.not_mem_nil, or_false] at hm
          rcases hm with e | e
          · exact o2.1 (by rw [e]; exact List.mem_cons_self)
          · exact o2.2.1 (by rw [e]; exact List.mem_cons_self)
        have hq3 := z3.keep _ _ oq (upd_same (H := H2) (a := q) (o := .lst [.int 1500, .int 400, .int 400]))
        have hT3 := TabsN.fz (hT2.ext sq) z3 hPq.mks
        have hd : d' = 0 ∨ d' = 1 ∨ d' = 2 := by omega
        rcases hd with rfl | rfl | rfl
        · exact ⟨q, _, 0, .int 1500, rfl, rfl, SqL.of hq3, rfl, 1500, rfl, by decide, by decide, hP3, hT3⟩
        · exact ⟨q, _, 1, .int 400, rfl, rfl, SqL.of hq3, rfl, 400, rfl, by decide, by decide, hP3, hT3⟩
        · exact ⟨q, _, 2, .int 400, rfl, rfl, SqL.of hq3, rfl, 400, rfl, by decide, by decide, hP3, hT3⟩
      · refine ⟨_, rfl, p, g, s, 36, rfl, hP2, by decide, by decide, fun d' H3 d0' d1' hP3 z3 => ⟨_, _, rfl, rfl, (5 + d').toNat, ?_, by omega, by omega, hP3, TabsN.fz hT2 z3 hP2.mks⟩⟩
        rw [show ((5 + d').toNat : Int) = 5 + d' by omega]
        rfl
    rintro σ' H2 ⟨r, rfl, r2, r15, hP2, hT2⟩
    refine ⟨_, rfl, _, rfl, p, g, s, r, rfl, hP2, hT2, r2, r15, fun H3 hP3 hT3 => ⟨_, rfl, ifB rfl ⟨_, rfl, p, g, s, rfl, hP3, hT3, fun H4 hP4 hT4 => ⟨_, rfl, ifB rfl ⟨_, rfl, p, g, s, rfl, hP4, hT4, fun H5 _ _ => k H5⟩⟩⟩⟩⟩
end
end K13
set_option Elab.async false
set_option linter.all false
set_option maxRecDepth 100000
set_option maxHeartbeats 4000000
namespace ZX
open PySem PySem.Spec PyProof.Rows L2
/-! ### a Hook: facts, defs, and one Bool more -/
structure SaysB (fa : List He.Fa) (fn : List He.DefD) (ex : PySem.W.Frag → Bool) (K : PySem.W.Frag) : Prop where
  d : He.SaysD fa fn K
  more : ex K = true
abbrev AlB : Type := He.AlD × Bool
def obsB (fa : List He.Fa) (fn : List He.DefD) (ex : PySem.W.Frag → Bool) (K : PySem.W.Frag) : AlB := (He.obsD fa fn K, ex K)
def obsBG (n : Nat) (fa : List He.Fa) (fn : List He.DefD) (ex : PySem.W.Frag → Bool) (g : Addr → Option Obj) : AlB := obsB fa fn ex (He.frG g (He.asD g n))
def valB (fn : List He.DefD) : AlB := (He.valD fn, true)
def hookB (n : Nat) (fa : List He.Fa) (fn : List He.DefD) (ex : PySem.W.Frag → Bool) : PySem.W.Hook where
  α := AlB
  obs := fun s => obsBG n fa fn ex s.heap.get?
  val := fun _ => valB fn
  says := fun _ h => ∃ K : PySem.W.Frag, K.In h ∧ SaysB fa fn ex K
  of := fun _ _ e => ⟨_, He.frG_in, congrArg (fun z : AlB => z.1) e, congrArg (fun z : AlB => z.2) e⟩
  keeps := fun _ _ _ ⟨K, hK, c⟩ k => ⟨K, PySem.W.Frag.In.keeps hK k, c⟩
theorem obsBG_eq {n : Nat} {fa : List He.Fa} {fn : List He.DefD} {ex : PySem.W.Frag → Bool} {g : Addr → Option Obj} {s : Shared} (h : ∀ a, g a = s.heap.get? a) : obsBG n fa fn ex g = (hookB n fa fn ex).obs s := by
  have e : g = s.heap.get? := funext h
  rw [e] <;> rfl
/-! ### own exception classes over one own class over ValueError -/
/-- the class x has the chain x, base, ValueError .. and its own dict -/
def clsB (K : PySem.W.Frag) (base x : Str) : Bool := match K.lookup (He.ga K x) with
  | some ⟨.type "type", _, .cls cd, sl⟩ => (match sl.toList with
    | [_, _, _, _, some (.builtin n), _] => decide (cd.mro = [.ref (He.ga K x), .ref (He.ga K base), .type "ValueError", .type "Exception", .type "BaseException", .type "object"]) && (n == "ValueError.__new__" && (!cd.hasDel && cd.hasDict))
    | _ => false)
  | _ => false
theorem clsB_ok {K : PySem.W.Frag} {base x : Str} (h : clsB K base x = true) : ∃ nm q N bs sn sub ab col dd k0 k1 k2 k3 k5,
    K.lookup (He.ga K x) = some (excClassObj nm q (He.ga K x) N bs [.ref (He.ga K base), .type "ValueError", .type "Exception", .type "BaseException", .type "object"] true sn sub ab col dd k0 k1 k2 k3 k5 "ValueError.__new__") := by
  unfold clsB at h
  split at h
  · rename_i dd cd sl ho
    split at h
    · rename_i k0 k1 k2 k3 n k5 hs
      obtain ⟨h1, h⟩ := Bool.and_eq_true_iff.mp h
      obtain ⟨h2, h⟩ := Bool.and_eq_true_iff.mp h
      obtain ⟨h3, h4⟩ := Bool.and_eq_true_iff.mp h
      have hm := of_decide_eq_true h1
      have hn := eq_of_beq h2
      obtain ⟨nm, bs, mro, ns, qn, hd, sn, sb, ab, col, del⟩ := cd
      dsimp only at hm h3 h4
      subst hm hn h4
      have hdel : del = false := by
        cases del with
        | false => rfl
        | true => cases h3
      subst hdel
      have hsl : sl = #[k0, k1, k2, k3, some (.builtin "ValueError.__new__"), k5] := by
        obtain ⟨l⟩ := sl
        simp only at hs
        rw [hs]
      subst hsl
      exact ⟨nm, qn, ns, bs, sn, sb, ab, col, dd, k0, k1, k2, k3, k5, ho⟩
    · cases h
  · cases h
def opB (a b : Option (Option Value)) : Bool := decide (a = b)
/-- all that the walk asks of such a class, whose __init__ is its own -/
def ecB (K : PySem.W.Frag) (base x : Str) : Bool := clsB K base x && (opB (PySem.W.findIn K (.ref (He.ga K x)) "__setattr__") (some (some (.builtin "object.__setattr__"))) &&
  (PySem.W.keepIn K (.ref (He.ga K x)) && (opB (PySem.W.findIn K (.ref (He.ga K x)) "__init__") (some (some (.ref (He.ma K (He.ga K x) "__init__")))) &&
  (decide (PySem.W.typeIn K (.ref (He.ma K (He.ga K x) "__init__")) = some (.type "function")) && (opB (PySem.W.findIn K (.ref (He.ga K x)) "__getattribute__") (some (some (.builtin "BaseException.__getattribute__"))) &&
  (opB (PySem.W.findIn K (.ref (He.ga K x)) "__getattr__") (some none) && opB (PySem.W.findIn K (.ref (He.ga K x)) "__class__") (some (some (.builtin "object.__class__")))))))))
structure EcC (K : PySem.W.Frag) (base x : Str) : Prop where
  cls : ∃ nm q N bs sn sub ab col dd k0 k1 k2 k3 k5,
    K.lookup (He.ga K x) = some (excClassObj nm q (He.ga K x) N bs [.ref (He.ga K base), .type "ValueError", .type "Exception", .type "BaseException", .type "object"] true sn sub ab col dd k0 k1 k2 k3 k5 "ValueError.__new__")
  sa : PySem.W.findIn K (.ref (He.ga K x)) "__setattr__" = some (some (.builtin "object.__setattr__"))
  kC : PySem.W.keepIn K (.ref (He.ga K x)) = true
  iC : PySem.W.findIn K (.ref (He.ga K x)) "__init__" = some (some (.ref (He.ma K (He.ga K x) "__init__")))
  tI : PySem.W.typeIn K (.ref (He.ma K (He.ga K x) "__init__")) = some (.type "function")
  ga : PySem.W.findIn K (.ref (He.ga K x)) "__getattribute__" = some (some (.builtin "BaseException.__getattribute__"))
  gg : PySem.W.findIn K (.ref (He.ga K x)) "__getattr__" = some none
  kc : PySem.W.findIn K (.ref (He.ga K x)) "__class__" = some (some (.builtin "object.__class__"))
theorem ecB_ok {K : PySem.W.Frag} {base x : Str} (h : ecB K base x = true) : EcC K base x := by
  obtain ⟨h1, h⟩ := Bool.and_eq_true_iff.mp h
  obtain ⟨h2, h⟩ := Bool.and_eq_true_iff.mp h
  obtain ⟨h3, h⟩ := Bool.and_eq_true_iff.mp h
  obtain ⟨h4, h⟩ := Bool.and_eq_true_iff.mp h
  obtain ⟨h5, h⟩ := Bool.and_eq_true_iff.mp h
  obtain ⟨h6, h⟩ := Bool.and_eq_true_iff.mp h
  obtain ⟨h7, h8⟩ := Bool.and_eq_true_iff.mp h
  exact ⟨clsB_ok h1, of_decide_eq_true h2, h3, of_decide_eq_true h4, of_decide_eq_true h5, of_decide_eq_true h6, of_decide_eq_true h7, of_decide_eq_true h8⟩
section
variable {K : PySem.W.Frag} {base x : Str}
theorem EcC.cd (E : EcC K base x) : ∃ cd, PySem.W.clsIn K (He.ga K x) = some cd ∧ cd.mro = [.ref (He.ga K x), .ref (He.ga K base), .type "ValueError", .type "Exception", .type "BaseException", .type "object"] ∧ cd.hasDict = true := by
  obtain ⟨nm, q, N, bs, sn, sub, ab, col, dd, k0, k1, k2, k3, k5, h⟩ := E.cls
  refine ⟨{ name := nm, bases := bs, mro := [.ref (He.ga K x), .ref (He.ga K base), .type "ValueError", .type "Exception", .type "BaseException", .type "object"], ns := N, qualname := q, hasDict := true, slotNames := sn, subclasses := sub, abstract := ab, collection := col, hasDel := false }, ?_, rfl, rfl⟩
  unfold PySem.W.clsIn
  rw [h]
theorem EcC.mro (E : EcC K base x) (v : Value) : PySem.W.mroIn K (He.ga K x) v = some ([Value.ref (He.ga K x), .ref (He.ga K base), .type "ValueError", .type "Exception", .type "BaseException", .type "object"].contains v) := by
  obtain ⟨cd, h, hm, _⟩ := E.cd
  unfold PySem.W.mroIn
  rw [h, Option.bind_some, hm]
  rfl
theorem EcC.exC (E : EcC K base x) : PySem.W.subIn K (.ref (He.ga K x)) (.type "BaseException") = some true := by
  show PySem.W.mroIn K (He.ga K x) (.type "BaseException") = some true
  rw [E.mro]
  simp
theorem EcC.tyC (E : EcC K base x) : PySem.W.typeIn K (.ref (He.ga K x)) = some (.type "type") := by
  obtain ⟨nm, q, N, bs, sn, sub, ab, col, dd, k0, k1, k2, k3, k5, h⟩ := E.cls
  unfold PySem.W.typeIn
  simp only [h, Option.map_some]
theorem EcC.hd (E : EcC K base x) : PySem.W.hasDictIn K (He.ga K x) = true := by
  obtain ⟨cd, h, _, hd⟩ := E.cd
  unfold PySem.W.hasDictIn
  rw [h]
  simpa using hd
theorem EcC.oex (E : EcC K base x) : OexC K (He.ga K x) := by
  obtain ⟨nm, q, N, bs, sn, sub, ab, col, dd, k0, k1, k2, k3, k5, h⟩ := E.cls
  exact ⟨⟨nm, q, N, bs, _, sn, sub, ab, col, dd, k0, k1, k2, k3, k5, h, by simp only [PySem.HandSPX.refsVE]; decide +kernel⟩, E.sa, E.exC, E.tyC, E.kC⟩
theorem EcC.xf (E : EcC K base x) : XfC K (He.ga K x) := ⟨E.ga, E.gg, E.exC, E.hd⟩
theorem EcC.ec (E : EcC K base x) : L2.ExcC K (He.ga K x) := ⟨E.ga, E.gg, E.exC, E.hd, E.kc, by kernel_rfl, by kernel_rfl, by rw [E.mro]; simp⟩
/-- isinstance against a class of the program -/
theorem EcC.kit (E : EcC K base x) {D : Addr} (hD : (PySem.W.clsIn K D).isSome = true) (tD : PySem.W.typeIn K (.ref D) = some (.type "type")) : PySem.W.kitOne K (.ref (He.ga K x)) (.ref D) = some (decide (D = He.ga K x ∨ D = He.ga K base)) := by
  unfold PySem.W.kitOne
  by_cases e : D = He.ga K x
  · subst e
    rw [if_pos (by simp)]
    simp
  · rw [if_neg (by simpa using fun z => e z.symm)]
    have e2 : ((PySem.W.clsIn K D).isSome && PySem.W.typeIn K (.ref D) == some (.type "type")) = true := by
      rw [hD, tD] <;> rfl
    show (if ((PySem.W.clsIn K D).isSome && PySem.W.typeIn K (.ref D) == some (.type "type")) = true then PySem.W.mroIn K (He.ga K x) (.ref D) else none) = _
    rw [if_pos e2, E.mro]
    simp [e]
theorem EcC.kitV (E : EcC K base x) : PySem.W.kitOne K (.ref (He.ga K x)) (.type "ValueError") = some true := by
  unfold PySem.W.kitOne
  rw [if_neg (by simp)]
  show (if PySem.W.kitMeta "ValueError" = true then PySem.W.mroIn K (He.ga K x) (.type "ValueError") else none) = some true
  rw [if_pos (by decide +kernel), E.mro]
  simp
end
end ZX
set_option Elab.async false
set_option linter.all false
set_option maxRecDepth 100000
set_option maxHeartbeats 4000000
/-! The head's Hook: methods that hold their class's cell. -/
namespace ZX
open PySem PySem.Spec PyProof.Rows L2 ZR
abbrev FnS : Type := Option (Str × Str × Arguments × FuncBody × Scope × Addr × List Str × Value × Addr)
/-- what is seen of such a method: its text, and how the names of its closure are -/
def fnObsS (K : PySem.W.Frag) (p : Str × Option Str) : FnS := match K.lookup (He.fAd K p) with
  | some ⟨_, _, .func fd, _⟩ => some (fd.name, fd.qualname, fd.params, fd.body, fd.scope, fd.globals, fd.closure.map (·.1), fd.defaults, fd.builtins)
  | _ => none
def valS (d : He.FnD) : FnS := some (d.name, d.qual, d.params, .stmts d.body, d.scope, mainGlobals, [("__class__" : Str)], .none, builtinsNs)
/-- its cell holds the class x, its code is of the file z -/
def cellB (K : PySem.W.Frag) (d : He.FnD) (x z : Str) : Bool := match K.lookup (He.fAd K d.at_) with
  | some ⟨_, _, .func fd, _⟩ => (match fd.closure, fd.code with
    | [(_, cc)], .ref ca => PySem.W.codeIn K (.ref ca) d.qual && ((match K.lookup cc with
      | some ⟨_, _, .cell (some (.ref D)), _⟩ => decide (D = He.ga K x)
      | _ => false) && (match K.lookup ca with
      | some ⟨_, _, .fields vs, _⟩ => (match (vs[2]? : Option Value) with
        | some (Value.str y _) => decide (y = z)
        | _ => false)
      | _ => false))
    | _, _ => false)
  | _ => false
theorem fnS_ok {K : PySem.W.Frag} {d : He.FnD} {x z : Str} (e : fnObsS K d.at_ = valS d) (c : cellB K d x z = true) (kp : PySem.W.keepIn K (.ref (He.fAd K d.at_)) = true) :
    ∃ (cc ca : Addr) (fd : FuncData), FunC K { name := d.name, qual := d.qual, params := d.params, body := d.body, scope := d.scope, cl := [(("__class__" : Str), cc)], c := ca } (He.ga K x) (He.fAd K d.at_) fd ∧ fd.params = d.params ∧ (∃ oc od osl, K.lookup (He.fAd K d.at_) = some ⟨oc, od, .func fd, osl⟩) ∧
      ∃ ccl cdd vs ccs tf, K.lookup ca = some ⟨ccl, cdd, .fields vs, ccs⟩ ∧ vs[2]? = some (.str z tf) := by
  unfold cellB at c
  unfold fnObsS at e
  cases q : K.lookup (He.fAd K d.at_) with
  | none =>
    rw [q] at c
    cases c
  | some o =>
    obtain ⟨oc, od, dt, osl⟩ := o
    rw [q] at c e
    cases dt with
    | func fd =>
      obtain ⟨n1, n2, n3, n4, n5, n6, n7, n8, n9, n10, n11, n12, n13, n14, n15⟩ := fd
      have e2 : (some (n1, n2, n3, n4, n5, n6, n7.map (·.1), n8, n15) : FnS) = some (d.name, d.qual, d.params, .stmts d.body, d.scope, mainGlobals, [("__class__" : Str)], .none, builtinsNs) := e
      simp only [Option.some.injEq, Prod.mk.injEq] at e2
      obtain ⟨h1, h2, h3, h4, h5, h6, h7, h8, h9⟩ := e2
      subst h1 h2 h3 h4 h5 h6 h8 h9
      dsimp only at c
      split at c
      · rename_i y cc ca
        have hy : y = ("__class__" : Str) := by
          have : [y] = [("__class__" : Str)] := h7
          injection this
        subst hy
        obtain ⟨c1, c⟩ := Bool.and_eq_true_iff.mp c
        obtain ⟨c2, c3⟩ := Bool.and_eq_true_iff.mp c
        split at c2
        · rename_i cl cld D csl hcc
          have hD := of_decide_eq_true c2
          subst hD
          split at c3
          · rename_i ccl cdd vs ccs hca
            split at c3
            · rename_i y tf hv
              have hy := of_decide_eq_true c3
              subst hy
              exact ⟨cc, ca, _, ⟨⟨oc, od, n9, n10, n11, n12, n14, osl, cc, _, _, _, rfl, rfl, q, c1, hcc⟩, kp⟩, rfl, ⟨_, _, _, rfl⟩, _, _, vs, _, tf, hca, hv⟩
            · cases c3
          · cases c3
        · cases c2
      · cases c
    | _ => cases c
theorem FunC_bindsN {K : PySem.W.Frag} {F : NdefX.NF} {D f : Addr} {fd : FuncData} {ps : List Str} (FC : FunC K F D f fd)
    (h : ∀ (kV doc pm : Value) (an : Option Addr) (ct : Value) (us : List Value), us.length = ps.length → bindArgs (PySem.W.fnX F.name F.qual F.params F.body F.scope F.cl .none kV doc pm an (.ref F.c) ct) ⟨us, []⟩ = pure (ps.zip us)) : Binds K fd ps [] := by
  obtain ⟨oc, od, kV, doc, pm, an, ct, osl, cc, cl, cld, csl, hcl, rfl, _⟩ := FC.ex
  exact .all (h kV doc pm an ct)
theorem fnIn_kp {K : PySem.W.Frag} {x qual : Str} {params : Arguments} {body : List Stmt} {scope : Scope} {dvs : List V} {kws : List (Str × V)} {f : Addr} {fd : FuncData} (F : FunD K x qual params body scope dvs kws f fd) : PySem.W.fnIn K f = true := by
  obtain ⟨oc, od, dV, kV, doc, pm, an, cdv, ct, osl, rfl, lk, _⟩ := F.ex
  unfold PySem.W.fnIn
  rw [lk]
/-- what super() asks of the classes x over y -/
def supB (K : PySem.W.Frag) (x y m : Str) : Bool := (PySem.W.clsIn K (He.ga K x)).isSome && (decide (PySem.W.mroIn K (He.ga K x) (.ref (He.ga K x)) = some true) && (decide (PySem.W.nsIn K cStatics "thirdparty.any" = some none) &&
  (opB (PySem.W.ks_superIn K (He.ga K x) (He.ga K x) m) (some (some (.ref (He.ma K (He.ga K y) m)))) && (decide (PySem.W.typeIn K (.ref (He.ma K (He.ga K y) m)) = some (.type "function")) && PySem.W.fnIn K (He.ma K (He.ga K y) m)))))
theorem supS_ok {P : Program} {K : PySem.W.Frag} {d : He.FnD} {ca : Addr} {fd : FuncData} {x y m z : Str} (s : supB K x y m = true) (hf : (P.main.file == z) = true) (ht : (P.main.scope.names.lookup ("super" : Str)).isSome = false) (hp : fd.params = d.params) (hs : ∃ ar, (d.params.posonlyargs ++ d.params.args).head? = some ar ∧ ar.arg = ("self" : Str)) (hk : ∃ oc od osl, K.lookup (He.fAd K d.at_) = some ⟨oc, od, .func fd, osl⟩) (hc : ∃ ccl cdd vs ccs tf, K.lookup ca = some ⟨ccl, cdd, .fields vs, ccs⟩ ∧ vs[2]? = some (.str z tf)) :
    SupC P K (He.fAd K d.at_) ca (He.ga K x) (He.ga K x) (He.ma K (He.ga K y) m) m := by
  obtain ⟨s1, s⟩ := Bool.and_eq_true_iff.mp s
  obtain ⟨s2, s⟩ := Bool.and_eq_true_iff.mp s
  obtain ⟨s3, s⟩ := Bool.and_eq_true_iff.mp s
  obtain ⟨s4, s⟩ := Bool.and_eq_true_iff.mp s
  obtain ⟨s5, s6⟩ := Bool.and_eq_true_iff.mp s
  obtain ⟨oc, od, osl, hk⟩ := hk
  obtain ⟨ccl, cdd, vs, ccs, tf, h1, h2⟩ := hc
  obtain ⟨ar, a1, a2⟩ := hs
  have hcls := Option.isSome_iff_exists.mp s1
  exact ⟨⟨oc, od, fd, osl, ar, hk, by rw [hp]; exact a1, a2⟩, ⟨ccl, cdd, vs, ccs, z, tf, h1, h2, hf⟩, ht, hcls, hcls, of_decide_eq_true s2, of_decide_eq_true s3, of_decide_eq_true s4, of_decide_eq_true s5, s6⟩
/-! ### the Hook -/
/-- the cell of such a method -/
def cellOf (K : PySem.W.Frag) (p : Str × Option Str) : Addr := match K.lookup (He.fAd K p) with
  | some ⟨_, _, .func fd, _⟩ => (match fd.closure with
    | (_, cc) :: _ => cc
    | _ => 0)
  | _ => 0
/-- what an object names, its class's row of classes left out -/
def refsX (o : Obj) : List Addr := match o.data with
  | .cls cd => [cd.ns]
  | _ => He.refsD o
def nxtX (g : Addr → Option Obj) (as : List Addr) : List Addr := as.flatMap fun a => match g a with
  | some o => refsX o
  | none => []
def lvX (g : Addr → Option Obj) : Nat → List Addr
  | 0 => [mainGlobals]
  | n + 1 => nxtX g (lvX g n)
/-- what the module's names reach in n steps, step by step; nothing is looked for twice -/
def asX (g : Addr → Option Obj) : Nat → List Addr → List Addr
  | 0, r => mainGlobals :: r
  | n + 1, r => asX g n (lvX g (n + 1) ++ r)
def asS (g : Addr → Option Obj) (n : Nat) (p : Str × Option Str) : List Addr := cStatics :: cellOf (He.frG g (asX g n [])) p :: asX g n []
structure SaysS (fa : List He.Fa) (fn : List He.DefD) (sn : List He.FnD) (ex : PySem.W.Frag → Bool) (K : PySem.W.Frag) : Prop where
  b : SaysB fa fn ex K
  s : (sn.map fun d => fnObsS K d.at_) = sn.map valS
abbrev AlS : Type := AlB × List FnS
def obsS (fa : List He.Fa) (fn : List He.DefD) (sn : List He.FnD) (ex : PySem.W.Frag → Bool) (K : PySem.W.Frag) : AlS := (obsB fa fn ex K, sn.map fun d => fnObsS K d.at_)
def obsSG (n : Nat) (fa : List He.Fa) (fn : List He.DefD) (sn : List He.FnD) (p : Str × Option Str) (ex : PySem.W.Frag → Bool) (g : Addr → Option Obj) : AlS := obsS fa fn sn ex (He.frG g (asS g n p))
def hookS (n : Nat) (fa : List He.Fa) (fn : List He.DefD) (sn : List He.FnD) (p : Str × Option Str) (ex : PySem.W.Frag → Bool) : PySem.W.Hook where
  α := AlS
  obs := fun s => obsSG n fa fn sn p ex s.heap.get?
  val := fun _ => (valB fn, sn.map valS)
  says := fun _ h => ∃ K : PySem.W.Frag, K.In h ∧ SaysS fa fn sn ex K
  of := fun _ _ e => ⟨_, He.frG_in, ⟨congrArg (fun z : AlS => z.1.1) e, congrArg (fun z : AlS => z.1.2) e⟩, congrArg (fun z : AlS => z.2) e⟩
  keeps := fun _ _ _ ⟨K, hK, c⟩ k => ⟨K, PySem.W.Frag.In.keeps hK k, c⟩
theorem obsSG_eq {n : Nat} {fa : List He.Fa} {fn : List He.DefD} {sn : List He.FnD} {p : Str × Option Str} {ex : PySem.W.Frag → Bool} {g : Addr → Option Obj} {s : Shared} (h : ∀ a, g a = s.heap.get? a) : obsSG n fa fn sn p ex g = (hookS n fa fn sn p ex).obs s := by
  have e : g = s.heap.get? := funext h
  rw [e] <;> rfl
theorem SaysS.def_ {fa : List He.Fa} {fn : List He.DefD} {sn : List He.FnD} {ex : PySem.W.Frag → Bool} {K : PySem.W.Frag} (c : SaysS fa fn sn ex K) (i : Nat) {d : He.FnD} (h : sn[i]? = some d) : fnObsS K d.at_ = valS d := by
  have e : (sn.map fun d => fnObsS K d.at_)[i]? = (sn.map valS)[i]? := by rw [c.s]
  rw [List.getElem?_map, List.getElem?_map, h] at e
  exact Option.some.inj e
end ZX
set_option Elab.async false
set_option linter.all false
set_option maxRecDepth 100000
set_option maxHeartbeats 4000000
/-! The head's Hook: methods that hold their class's cell, and defs with defs within, whose tables are told. -/
namespace ZX
open PySem PySem.Spec PyProof.Rows L2 ZR
structure SaysU (fa : List He.Fa) (fn : List He.DefD) (sn : List He.FnD) (tf : List He.Defn) (ex : PySem.W.Frag → Bool) (h : Heap) (K : PySem.W.Frag) : Prop where
  s : SaysS fa fn sn ex K
  hd : ∀ p ∈ tf, PySem.W.codeHdIn K (He.cT K p).1 (He.cT K p).2 = true
  out : ∀ p ∈ tf, K.lookup (He.cT K p).2 = none
  empty : ∀ p ∈ tf, h.get? (He.cT K p).2 = some { cls := .none, data := .fields #[] }
abbrev AlU : Type := AlS × Bool
def frU (n : Nat) (p : Str × Option Str) (g : Addr → Option Obj) : PySem.W.Frag := He.frT g (asS g n p)
def obsUG (n : Nat) (fa : List He.Fa) (fn : List He.DefD) (sn : List He.FnD) (p : Str × Option Str) (tf : List He.Defn) (ex : PySem.W.Frag → Bool) (g : Addr → Option Obj) : AlU := (obsS fa fn sn ex (frU n p g), He.tabsB g tf (frU n p g))
theorem saysU_of {n : Nat} {fa : List He.Fa} {fn : List He.DefD} {sn : List He.FnD} {p : Str × Option Str} {tf : List He.Defn} {ex : PySem.W.Frag → Bool} {h : Heap} (e : obsUG n fa fn sn p tf ex h.get? = ((valB fn, sn.map valS), true)) : SaysU fa fn sn tf ex h (frU n p h.get?) := by
  have e1 : obsS fa fn sn ex (frU n p h.get?) = (valB fn, sn.map valS) := congrArg (fun z : AlU => z.1) e
  have e2 : He.tabsB h.get? tf (frU n p h.get?) = true := congrArg (fun z : AlU => z.2) e
  have key : ∀ q ∈ tf, PySem.W.codeHdIn (frU n p h.get?) (He.cT (frU n p h.get?) q).1 (He.cT (frU n p h.get?) q).2 = true ∧ ∃ o, h.get? (He.cT (frU n p h.get?) q).2 = some o ∧ He.emptyTab o = true := fun q hq => by
    obtain ⟨h3, h4⟩ := Bool.and_eq_true_iff.mp (List.all_eq_true.mp e2 q hq)
    refine ⟨h3, ?_⟩
    cases z : h.get? (He.cT (frU n p h.get?) q).2 with
    | none =>
      rw [z] at h4
      cases h4
    | some o =>
      rw [z] at h4
      exact ⟨o, rfl, h4⟩
  refine ⟨⟨⟨congrArg (fun z : AlS => z.1.1) e1, congrArg (fun z : AlS => z.1.2) e1⟩, congrArg (fun z : AlS => z.2) e1⟩, fun q hq => (key q hq).1, fun q hq => ?_, fun q hq => ?_⟩
  · obtain ⟨_, o, z, t⟩ := key q hq
    exact He.frT_none z t
  · obtain ⟨_, o, z, t⟩ := key q hq
    rw [z, He.emptyTab_eq t]
def hookU (n : Nat) (fa : List He.Fa) (fn : List He.DefD) (sn : List He.FnD) (p : Str × Option Str) (tf : List He.Defn) (ex : PySem.W.Frag → Bool) : PySem.W.Hook where
  α := AlU
  obs := fun s => obsUG n fa fn sn p tf ex s.heap.get?
  val := fun _ => ((valB fn, sn.map valS), true)
  says := fun _ h => ∃ K : PySem.W.Frag, K.In h ∧ SaysU fa fn sn tf ex h K
  of := fun _ _ e => ⟨_, He.frT_in, saysU_of e⟩
  keeps := fun _ _ _ ⟨K, hK, c⟩ k => ⟨K, PySem.W.Frag.In.keeps hK k, c.s, c.hd, c.out, fun q hq => k _ _ (c.empty q hq)⟩
theorem obsUG_eq {n : Nat} {fa : List He.Fa} {fn : List He.DefD} {sn : List He.FnD} {p : Str × Option Str} {tf : List He.Defn} {ex : PySem.W.Frag → Bool} {g : Addr → Option Obj} {s : Shared} (h : ∀ a, g a = s.heap.get? a) : obsUG n fa fn sn p tf ex g = (hookU n fa fn sn p tf ex).obs s := by
  have e : g = s.heap.get? := funext h
  rw [e] <;> rfl
/-- the code object of a def -/
theorem code_of {K : PySem.W.Frag} {x qual : Str} {params : Arguments} {body : List Stmt} {scope : Scope} {p : He.Defn} {fd : FuncData} (F : FunD K x qual params body scope [] [] (He.fAd K p) fd) :
    ∃ (oc : Value) (od : Option Addr) (dV kV doc pm : Value) (an : Option Addr) (ct : Value) (osl : Array (Option Value)), fd = PySem.W.fnOf x qual params body scope dV kV doc pm an (.ref (He.cT K p).1) ct ∧ K.lookup (He.fAd K p) = some ⟨oc, od, .func fd, osl⟩ ∧ PySem.W.codeIn K (.ref (He.cT K p).1) qual = true := by
  obtain ⟨oc, od, dV, kV, doc, pm, an, cdv, ct, osl, e, lk, hc, _⟩ := F.ex
  obtain ⟨c0, ec⟩ := He.codeIn_ref hc
  subst ec
  have e0 : He.codeOf K p = c0 := He.codeOf_eq lk (by rw [e] <;> rfl)
  exact ⟨oc, od, dV, kV, doc, pm, an, ct, osl, by show _ = PySem.W.fnOf x qual params body scope dV kV doc pm an (.ref (He.codeOf K p)) ct; rw [e0]; exact e, lk, by show PySem.W.codeIn K (.ref (He.codeOf K p)) qual = true; rw [e0]; exact hc⟩
end ZX
set_option Elab.async false
set_option linter.all false
set_option maxRecDepth 100000
set_option maxHeartbeats 0
namespace K13
open PySem PySem.Spec PyProof.Rows L2 ZX
/-! ### the head: facts by names, the run -/
abbrev iNoPlace : Stmt := inClass (top 4) 0
def dD (x : Str) (st : Stmt) : He.DefD := ⟨(x, none), x, x, defArgs st, defBody st, defScope st, [], []⟩
/-- a def with defaults -/
def dV (x : Str) (st : Stmt) (l : List He.Dv) : He.DefD := ⟨(x, none), x, x, defArgs st, defBody st, defScope st, l, []⟩
def dM (x m q : Str) (st : Stmt) : He.DefD := ⟨(x, some m), m, q, defArgs st, defBody st, defScope st, [], []⟩
def fn : List He.DefD := ([dD "is_integer" sIs_integer, dD "is_number_below" sIs_number_below, dD "is_name" sIs_name, dD "is_parts" sIs_parts, dD "is_block" sIs_block, dV "is_row" sIs_row [.int 0], dD "blocks_of" sBlocks_of, dD "names_of" sNames_of, dD "formless_place" sFormless_place, dD "rows_of" sRows_of, dD "all_names" sAll_names, dD "bad_place" sBad_place, dD "block_leads" sBlock_leads, dD "row_leads" sRow_leads, dD "names" sNames, dD "ops" sOps, dD "row_at" sRow_at, dD "nexts" sNexts, dD "is_way" sIsWay, dD "functions_of" sFunctionsOf, dD "place_behind" sPlaceBehind, dD "told" sTold, dD "go_to" sGoTo, dD "_law_pot" sPot, dD "_law_draw" sDraw] : List He.DefD) ++ ([dD "_law_any" sAny, dD "_law_noting" sNoting, dD "_law_doubled_right" sDoubled, dD "_law_turns_right" sTurns, dD "_law_left_right" sLeft, dD "law" sLaw, dM "Program" "__init__" "Program.__init__" sProgramInit, dM "NoPlace" "__init__" "NoPlace.__init__" iNoPlace, dM "Holding" "__init__" "Holding.__init__" sHInit, dM "Holding" "do" "Holding.do" sHDo, dM "Notes" "held" "Holding.held" sHHeld, dM "Notes" "waiting" "Holding.waiting" sHWaiting, dM "Notes" "worked" "Holding.worked" sHWorked, dM "Notes" "said" "Holding.said" sHSaid, dM "Notes" "_put_off" "Holding._put_off" sHPutOff, dM "Notes" "_numbers" "Holding._numbers" sHNumbers, dM "Notes" "_now" "Holding._now" sHNow, dM "Notes" "_open" "Holding._open" sHOpen, dM "Notes" "_worth" "Holding._worth" sHWorth, dM "Notes" "_work_out" "Holding._work_out" sHWorkOut, dM "Notes" "_worked_out" "Holding._worked_out" sHWorkedOut, dM "Notes" "_met" "Holding._met" sHMet, dM "Run" "__init__" "Run.__init__" sRInit, dM "Run" "step" "Run.step" sRStep, dM "Run" "place" "Run.place" sRPlace] : List He.DefD) ++ ([dM "Run" "waiting" "Run.waiting" sRWaiting, dM "Run" "held" "Run.held" sRHeld, dM "Run" "worked" "Run.worked" sRWorked, dM "Run" "said" "Run.said" sRSaid] : List He.DefD)
def fa : List He.Fa := ([.glo "is_integer", .glo "is_number_below", .glo "is_name", .glo "is_parts", .glo "is_block", .glo "is_row", .glo "blocks_of", .glo "names_of", .glo "formless_place", .glo "rows_of", .glo "all_names", .glo "bad_place", .glo "block_leads", .glo "row_leads", .glo "names", .glo "ops", .glo "row_at", .glo "nexts", .glo "is_way", .glo "functions_of", .glo "place_behind", .glo "told", .glo "go_to", .glo "_law_pot", .glo "_law_draw"] : List He.Fa) ++ ([.glo "_law_any", .glo "_law_noting", .glo "_law_doubled_right", .glo "_law_turns_right", .glo "_law_left_right", .glo "law", .glo "Program", .glo "ASKING", .glo "WRITING", .glo "NOTHING", .glo "PileError", .glo "NoPlace", .glo "Holding", .glo "Notes", .glo "Run", .free "abs", .free "all", .free "bool", .free "enumerate", .free "int", .free "isinstance", .free "len", .free "list", .free "range", .free "set"] : List He.Fa) ++ ([.free "sorted", .free "str", .free "sum", .free "tuple", .free "zip", .free "ValueError", .free "dict", .free "super", .int "MOST_ROWS_IN_BLOCK" 12, .int "MOST_ROWS" 30, .int "MOST_DEEP" 4, .int "MOST_NAMES" 8, .int "MOST_PARTS" 3, .int "MOST_LETTERS" 8, .cls "Program", .mkr "Program", .noat "Program" "block", .noat "Program" "_rows", .noat "Program" "_leads", .noat "Program" "_names", .cls "Notes", .mkr "Notes", .noat "Notes" "functions", .noat "Notes" "heads", .noat "Notes" "made"] : List He.Fa) ++ ([.noat "Notes" "worths", .noat "Notes" "order", .noat "Notes" "printed", .noat "Notes" "trail", .cls "Run", .mkr "Run", .noat "Run" "_functions", .noat "Run" "_program", .noat "Run" "_notes", .noat "Run" "_way", .meth "Notes" "do", .meth "Notes" "held", .meth "Notes" "waiting", .meth "Notes" "worked", .meth "Notes" "said", .meth "Notes" "_put_off", .meth "Notes" "_numbers", .meth "Notes" "_now", .meth "Notes" "_open", .meth "Notes" "_worth", .meth "Notes" "_work_out", .meth "Notes" "_worked_out", .meth "Notes" "_met", .meth "Run" "step", .meth "Run" "place"] : List He.Fa) ++ ([.meth "Run" "waiting", .meth "Run" "held", .meth "Run" "worked", .meth "Run" "said"] : List He.Fa)
def excs : List Str := ["NoPlace"]
/-- what is asked of a class of objects -/
def objB (K : PySem.W.Frag) (x : Str) : Bool := opB (PySem.W.findIn K (.ref (He.ga K x)) "__class__") (some (some (.builtin "object.__class__"))) && (opB (PySem.W.specialIn K (.builtin "object.__class__") "__get__") (some (some (.builtin "getset_descriptor.__get__"))) && (decide (PySem.W.takesIn K (.builtin "object.__class__") = some true) && (decide (PySem.W.mroIn K (He.ga K x) (.type "object") = some true) && ((PySem.W.clsIn K (He.ga K x)).isSome && (decide (PySem.W.typeIn K (.ref (He.ga K x)) = some (.type "type")) && (decide (PySem.W.mroIn K (He.ga K x) (.type "int") = some false) && (decide (PySem.W.mroIn K (He.ga K x) (.type "tuple") = some false) && (opB (PySem.W.findIn K (.ref (He.ga K x)) "__ne__") (some (some (.builtin "object.__ne__"))) && decide (PySem.W.mroIn K (He.ga K x) (.type "str") = some false)))))))))
/-- a method that holds its class -/
def sd_sNInit : He.FnD := ⟨("Notes", some "__init__"), "__init__", "Notes.__init__", defArgs sNInit, defBody sNInit, defScope sNInit⟩
/-- a method that holds its class -/
def sd_sNDo : He.FnD := ⟨("Notes", some "do"), "do", "Notes.do", defArgs sNDo, defBody sNDo, defScope sNDo⟩
def tups (K : PySem.W.Frag) : Bool := true && He.tupB K "ASKING" [.str "ask", .str "print"] && He.tupB K "WRITING" [.str "note", .str "copy", .str "give", .str "drop"] && He.tupB K "NOTHING" [.str "worth", .int 0] && cellB K sd_sNInit "Notes" "/claim/cut.py" && PySem.W.keepIn K (.ref (He.fAd K sd_sNInit.at_)) && supB K "Notes" "Holding" "__init__" && cellB K sd_sNDo "Notes" "/claim/cut.py" && PySem.W.keepIn K (.ref (He.fAd K sd_sNDo.at_)) && supB K "Notes" "Holding" "do"
def sn : List He.FnD := [sd_sNInit, sd_sNDo]
def ex (K : PySem.W.Frag) : Bool := ((excs.all fun x => ecB K "PileError" x) && [("Program" : Str), ("Notes" : Str), ("Run" : Str)].all fun x => objB K x) && tups K
abbrev R : PySem.W.OpenRow := PySem.W.OpenLaw.row PySem.Challenge.rw_putoffpiles_k13_whole_each_note_once_and
def tf : List He.Defn := [("_law_noting", none)]
abbrev hk : PySem.W.Hook := hookU 5 fa fn sn ("Notes", some "__init__") tf ex
def ob (s : PySem.W.SharedT) : AlU := obsUG 5 fa fn sn ("Notes", some "__init__") tf ex (HandSHeadRun.getT s)
theorem ob_eq (s : PySem.W.SharedT) : ob s = hk.obs s.abs := obsUG_eq (HandSHeadRun.getT_eq s)
def loose : List Str := (["PileError", "BadProgram", "NoPlace", "NoFunctions", "IsOver", "BadStep", "NoName", "NoNote", "NothingDone", "NoWay", "Program", "Holding", "Notes", "Run", "_wall", "is_integer", "is_number_below", "is_name", "is_parts", "is_block", "is_row", "blocks_of", "names_of", "formless_place", "rows_of"] : List Str) ++ (["all_names", "bad_place", "block_leads", "row_leads", "names", "ops", "row_at", "nexts", "is_way", "functions_of", "place_behind", "told", "go_to", "_law_pot", "_law_draw", "_law_any", "_law_noting", "_law_doubled_right", "_law_turns_right", "_law_left_right", "MOST_ROWS_IN_BLOCK", "MOST_ROWS", "MOST_DEEP", "MOST_NAMES", "MOST_PARTS"] : List Str) ++ (["MOST_LETTERS", "ASKING", "WRITING", "NOTHING"] : List Str)
theorem run (w : World) : HandSHeadRun.RunEq R (PySem.W.view R.prog [59]) hk ob 20000 loose w := by
  intro os
  kernel_rfl
end K13
set_option Elab.async false
set_option linter.all false
set_option maxRecDepth 100000
set_option maxHeartbeats 4000000
namespace K13
open PySem PySem.Spec PyProof.Rows L2 ZX PM ZR
section
variable {P : Program} {w : World} {K : PySem.W.Frag} {h : Heap} {mg : Str → Option Value} {base : Heap}
theorem glo (X : K.In h) (G : h.Ns mainGlobals mg) (c : SaysB fa fn ex K) (i : Nat) (x : Str) (e : fa[i]? = some (.glo x)) : mg x = some (.ref (He.ga K x)) := He.glo_ok X G (c.d.fact i (f := .glo x) e)
theorem free (X : K.In h) (G : h.Ns mainGlobals mg) (c : SaysB fa fn ex K) (i : Nat) (x : Str) (e : fa[i]? = some (.free x)) : mg x = none := He.free_ok X G (c.d.fact i (f := .free x) e)
theorem bi_of (X : K.In h) (G : h.Ns mainGlobals mg) (c : SaysB fa fn ex K) : Bi mg := { b_abs := free X G c 40 _ rfl, b_all := free X G c 41 _ rfl, b_bool := free X G c 42 _ rfl, b_enumerate := free X G c 43 _ rfl, b_int := free X G c 44 _ rfl, b_isinstance := free X G c 45 _ rfl, b_len := free X G c 46 _ rfl, b_list := free X G c 47 _ rfl, b_range := free X G c 48 _ rfl, b_set := free X G c 49 _ rfl, b_sorted := free X G c 50 _ rfl, b_str := free X G c 51 _ rfl, b_sum := free X G c 52 _ rfl, b_tuple := free X G c 53 _ rfl, b_zip := free X G c 54 _ rfl, m_MOST_ROWS_IN_BLOCK := He.int_ok X G (c.d.fact 58 (f := .int "MOST_ROWS_IN_BLOCK" 12) rfl), m_MOST_ROWS := He.int_ok X G (c.d.fact 59 (f := .int "MOST_ROWS" 30) rfl), m_MOST_DEEP := He.int_ok X G (c.d.fact 60 (f := .int "MOST_DEEP" 4) rfl), m_MOST_NAMES := He.int_ok X G (c.d.fact 61 (f := .int "MOST_NAMES" 8) rfl), m_MOST_PARTS := He.int_ok X G (c.d.fact 62 (f := .int "MOST_PARTS" 3) rfl), m_MOST_LETTERS := He.int_ok X G (c.d.fact 63 (f := .int "MOST_LETTERS" 8) rfl) }
theorem exc_of (c : SaysB fa fn ex K) {x : Str} (hx : x ∈ excs) : EcC K "PileError" x := ecB_ok (List.all_eq_true.mp (Bool.and_eq_true_iff.mp (Bool.and_eq_true_iff.mp (show (((excs.all fun x => ecB K "PileError" x) && _) && tups K) = true from c.more)).1).1 x hx)
theorem tups_of (c : SaysB fa fn ex K) : (true && He.tupB K "ASKING" [.str "ask", .str "print"] && He.tupB K "WRITING" [.str "note", .str "copy", .str "give", .str "drop"] && He.tupB K "NOTHING" [.str "worth", .int 0] && cellB K sd_sNInit "Notes" "/claim/cut.py" && PySem.W.keepIn K (.ref (He.fAd K sd_sNInit.at_)) && supB K "Notes" "Holding" "__init__" && cellB K sd_sNDo "Notes" "/claim/cut.py" && PySem.W.keepIn K (.ref (He.fAd K sd_sNDo.at_)) && supB K "Notes" "Holding" "do") = true := (Bool.and_eq_true_iff.mp (show (_ && tups K) = true from c.more)).2
theorem tup_ASKING (X : K.In h) (G : h.Ns mainGlobals mg) (c : SaysB fa fn ex K) : ∃ a, mg "ASKING" = some (.ref a) ∧ ∀ H, SqT K H a [.str "ask", .str "print"] := ⟨_, glo X G c 32 _ rfl, fun H => He.tupB_ok (vs := [.str "ask", .str "print"]) ((Bool.and_eq_true_iff.mp ((Bool.and_eq_true_iff.mp ((Bool.and_eq_true_iff.mp ((Bool.and_eq_true_iff.mp ((Bool.and_eq_true_iff.mp ((Bool.and_eq_true_iff.mp ((Bool.and_eq_true_iff.mp ((Bool.and_eq_true_iff.mp ((Bool.and_eq_true_iff.mp (tups_of c)).1)).1)).1)).1)).1)).1)).1)).1)).2) H⟩
theorem tup_WRITING (X : K.In h) (G : h.Ns mainGlobals mg) (c : SaysB fa fn ex K) : ∃ a, mg "WRITING" = some (.ref a) ∧ ∀ H, SqT K H a [.str "note", .str "copy", .str "give", .str "drop"] := ⟨_, glo X G c 33 _ rfl, fun H => He.tupB_ok (vs := [.str "note", .str "copy", .str "give", .str "drop"]) ((Bool.and_eq_true_iff.mp ((Bool.and_eq_true_iff.mp ((Bool.and_eq_true_iff.mp ((Bool.and_eq_true_iff.mp ((Bool.and_eq_true_iff.mp ((Bool.and_eq_true_iff.mp ((Bool.and_eq_true_iff.mp ((Bool.and_eq_true_iff.mp (tups_of c)).1)).1)).1)).1)).1)).1)).1)).2) H⟩
theorem tup_NOTHING (X : K.In h) (G : h.Ns mainGlobals mg) (c : SaysB fa fn ex K) : ∃ a, mg "NOTHING" = some (.ref a) ∧ ∀ H, SqT K H a [.str "worth", .int 0] := ⟨_, glo X G c 34 _ rfl, fun H => He.tupB_ok (vs := [.str "worth", .int 0]) ((Bool.and_eq_true_iff.mp ((Bool.and_eq_true_iff.mp ((Bool.and_eq_true_iff.mp ((Bool.and_eq_true_iff.mp ((Bool.and_eq_true_iff.mp ((Bool.and_eq_true_iff.mp ((Bool.and_eq_true_iff.mp (tups_of c)).1)).1)).1)).1)).1)).1)).2) H⟩
theorem cell_sNInit (c : SaysB fa fn ex K) : cellB K sd_sNInit "Notes" "/claim/cut.py" = true := (Bool.and_eq_true_iff.mp ((Bool.and_eq_true_iff.mp ((Bool.and_eq_true_iff.mp ((Bool.and_eq_true_iff.mp ((Bool.and_eq_true_iff.mp ((Bool.and_eq_true_iff.mp (tups_of c)).1)).1)).1)).1)).1)).2
theorem keep_sNInit (c : SaysB fa fn ex K) : PySem.W.keepIn K (.ref (He.fAd K sd_sNInit.at_)) = true := (Bool.and_eq_true_iff.mp ((Bool.and_eq_true_iff.mp ((Bool.and_eq_true_iff.mp ((Bool.and_eq_true_iff.mp ((Bool.and_eq_true_iff.mp (tups_of c)).1)).1)).1)).1)).2
theorem sup_sNInit (c : SaysB fa fn ex K) : supB K "Notes" "Holding" "__init__" = true := (Bool.and_eq_true_iff.mp ((Bool.and_eq_true_iff.mp ((Bool.and_eq_true_iff.mp ((Bool.and_eq_true_iff.mp (tups_of c)).1)).1)).1)).2
theorem cell_sNDo (c : SaysB fa fn ex K) : cellB K sd_sNDo "Notes" "/claim/cut.py" = true := (Bool.and_eq_true_iff.mp ((Bool.and_eq_true_iff.mp ((Bool.and_eq_true_iff.mp (tups_of c)).1)).1)).2
theorem keep_sNDo (c : SaysB fa fn ex K) : PySem.W.keepIn K (.ref (He.fAd K sd_sNDo.at_)) = true := (Bool.and_eq_true_iff.mp ((Bool.and_eq_true_iff.mp (tups_of c)).1)).2
theorem sup_sNDo (c : SaysB fa fn ex K) : supB K "Notes" "Holding" "do" = true := (Bool.and_eq_true_iff.mp (tups_of c)).2
structure ObjProgram (K : PySem.W.Frag) : Prop where
  c : Cls K (He.ga K "Program")
  m : Mk K (He.ga K "Program") (He.ma K (He.ga K "Program") "__init__")
  ga : PySem.W.findIn K (.ref (He.ga K "Program")) "__class__" = some (some (.builtin "object.__class__"))
  gn : PySem.W.specialIn K (.builtin "object.__class__") "__get__" = some (some (.builtin "getset_descriptor.__get__"))
  gt : PySem.W.takesIn K (.builtin "object.__class__") = some true
  gm : PySem.W.mroIn K (He.ga K "Program") (.type "object") = some true
  isC : (PySem.W.clsIn K (He.ga K "Program")).isSome = true
  tyC : PySem.W.typeIn K (.ref (He.ga K "Program")) = some (.type "type")
  gi : PySem.W.mroIn K (He.ga K "Program") (.type "int") = some false
  tu : PySem.W.mroIn K (He.ga K "Program") (.type "tuple") = some false
  ne : PySem.W.findIn K (.ref (He.ga K "Program")) "__ne__" = some (some (.builtin "object.__ne__"))
  st : PySem.W.mroIn K (He.ga K "Program") (.type "str") = some false
  n_block : NoAttr K (He.ga K "Program") "block"
  n__rows : NoAttr K (He.ga K "Program") "_rows"
  n__leads : NoAttr K (He.ga K "Program") "_leads"
  n__names : NoAttr K (He.ga K "Program") "_names"
theorem objProgram_of (c : SaysB fa fn ex K) : ObjProgram K := by
  have hex := (Bool.and_eq_true_iff.mp (Bool.and_eq_true_iff.mp (show (((excs.all fun x => ecB K "PileError" x) && [("Program" : Str), ("Notes" : Str), ("Run" : Str)].all fun x => objB K x) && tups K) = true from c.more)).1).2
  have h := List.all_eq_true.mp hex "Program" (by simp)
  obtain ⟨h1, h⟩ := Bool.and_eq_true_iff.mp h
  obtain ⟨h2, h⟩ := Bool.and_eq_true_iff.mp h
  obtain ⟨h3, h⟩ := Bool.and_eq_true_iff.mp h
  obtain ⟨h4, h⟩ := Bool.and_eq_true_iff.mp h
  obtain ⟨h5, h⟩ := Bool.and_eq_true_iff.mp h
  obtain ⟨h6, h⟩ := Bool.and_eq_true_iff.mp h
  obtain ⟨h7, h⟩ := Bool.and_eq_true_iff.mp h
  obtain ⟨h8, h⟩ := Bool.and_eq_true_iff.mp h
  obtain ⟨h9, h10⟩ := Bool.and_eq_true_iff.mp h
  exact ⟨He.cls_ok (c.d.fact 64 (f := .cls "Program") rfl), He.mkr_ok (c.d.fact 65 (f := .mkr "Program") rfl), of_decide_eq_true h1, of_decide_eq_true h2, of_decide_eq_true h3, of_decide_eq_true h4, h5, of_decide_eq_true h6, of_decide_eq_true h7, of_decide_eq_true h8, of_decide_eq_true h9, of_decide_eq_true h10, He.noat_ok (c.d.fact 66 (f := .noat "Program" "block") rfl), He.noat_ok (c.d.fact 67 (f := .noat "Program" "_rows") rfl), He.noat_ok (c.d.fact 68 (f := .noat "Program" "_leads") rfl), He.noat_ok (c.d.fact 69 (f := .noat "Program" "_names") rfl)⟩
structure ObjNotes (K : PySem.W.Frag) : Prop where
  c : Cls K (He.ga K "Notes")
  m : Mk K (He.ga K "Notes") (He.ma K (He.ga K "Notes") "__init__")
  ga : PySem.W.findIn K (.ref (He.ga K "Notes")) "__class__" = some (some (.builtin "object.__class__"))
  gn : PySem.W.specialIn K (.builtin "object.__class__") "__get__" = some (some (.builtin "getset_descriptor.__get__"))
  gt : PySem.W.takesIn K (.builtin "object.__class__") = some true
  gm : PySem.W.mroIn K (He.ga K "Notes") (.type "object") = some true
  isC : (PySem.W.clsIn K (He.ga K "Notes")).isSome = true
  tyC : PySem.W.typeIn K (.ref (He.ga K "Notes")) = some (.type "type")
  gi : PySem.W.mroIn K (He.ga K "Notes") (.type "int") = some false
  tu : PySem.W.mroIn K (He.ga K "Notes") (.type "tuple") = some false
  ne : PySem.W.findIn K (.ref (He.ga K "Notes")) "__ne__" = some (some (.builtin "object.__ne__"))
  st : PySem.W.mroIn K (He.ga K "Notes") (.type "str") = some false
  n_functions : NoAttr K (He.ga K "Notes") "functions"
  n_heads : NoAttr K (He.ga K "Notes") "heads"
  n_made : NoAttr K (He.ga K "Notes") "made"
  n_worths : NoAttr K (He.ga K "Notes") "worths"
  n_order : NoAttr K (He.ga K "Notes") "order"
  n_printed : NoAttr K (He.ga K "Notes") "printed"
  n_trail : NoAttr K (He.ga K "Notes") "trail"
theorem objNotes_of (c : SaysB fa fn ex K) : ObjNotes K := by
  have hex := (Bool.and_eq_true_iff.mp (Bool.and_eq_true_iff.mp (show (((excs.all fun x => ecB K "PileError" x) && [("Program" : Str), ("Notes" : Str), ("Run" : Str)].all fun x => objB K x) && tups K) = true from c.more)).1).2
  have h := List.all_eq_true.mp hex "Notes" (by simp)
  obtain ⟨h1, h⟩ := Bool.and_eq_true_iff.mp h
  obtain ⟨h2, h⟩ := Bool.and_eq_true_iff.mp h
  obtain ⟨h3, h⟩ := Bool.and_eq_true_iff.mp h
  obtain ⟨h4, h⟩ := Bool.and_eq_true_iff.mp h
  obtain ⟨h5, h⟩ := Bool.and_eq_true_iff.mp h
  obtain ⟨h6, h⟩ := Bool.and_eq_true_iff.mp h
  obtain ⟨h7, h⟩ := Bool.and_eq_true_iff.mp h
  obtain ⟨h8, h⟩ := Bool.and_eq_true_iff.mp h
  obtain ⟨h9, h10⟩ := Bool.and_eq_true_iff.mp h
  exact ⟨He.cls_ok (c.d.fact 70 (f := .cls "Notes") rfl), He.mkr_ok (c.d.fact 71 (f := .mkr "Notes") rfl), of_decide_eq_true h1, of_decide_eq_true h2, of_decide_eq_true h3, of_decide_eq_true h4, h5, of_decide_eq_true h6, of_decide_eq_true h7, of_decide_eq_true h8, of_decide_eq_true h9, of_decide_eq_true h10, He.noat_ok (c.d.fact 72 (f := .noat "Notes" "functions") rfl), He.noat_ok (c.d.fact 73 (f := .noat "Notes" "heads") rfl), He.noat_ok (c.d.fact 74 (f := .noat "Notes" "made") rfl), He.noat_ok (c.d.fact 75 (f := .noat "Notes" "worths") rfl), He.noat_ok (c.d.fact 76 (f := .noat "Notes" "order") rfl), He.noat_ok (c.d.fact 77 (f := .noat "Notes" "printed") rfl), He.noat_ok (c.d.fact 78 (f := .noat "Notes" "trail") rfl)⟩
structure ObjRun (K : PySem.W.Frag) : Prop where
  c : Cls K (He.ga K "Run")
  m : Mk K (He.ga K "Run") (He.ma K (He.ga K "Run") "__init__")
  ga : PySem.W.findIn K (.ref (He.ga K "Run")) "__class__" = some (some (.builtin "object.__class__"))
  gn : PySem.W.specialIn K (.builtin "object.__class__") "__get__" = some (some (.builtin "getset_descriptor.__get__"))
  gt : PySem.W.takesIn K (.builtin "object.__class__") = some true
  gm : PySem.W.mroIn K (He.ga K "Run") (.type "object") = some true
  isC : (PySem.W.clsIn K (He.ga K "Run")).isSome = true
  tyC : PySem.W.typeIn K (.ref (He.ga K "Run")) = some (.type "type")
  gi : PySem.W.mroIn K (He.ga K "Run") (.type "int") = some false
  tu : PySem.W.mroIn K (He.ga K "Run") (.type "tuple") = some false
  ne : PySem.W.findIn K (.ref (He.ga K "Run")) "__ne__" = some (some (.builtin "object.__ne__"))
  st : PySem.W.mroIn K (He.ga K "Run") (.type "str") = some false
  n__functions : NoAttr K (He.ga K "Run") "_functions"
  n__program : NoAttr K (He.ga K "Run") "_program"
  n__notes : NoAttr K (He.ga K "Run") "_notes"
  n__way : NoAttr K (He.ga K "Run") "_way"
theorem objRun_of (c : SaysB fa fn ex K) : ObjRun K := by
  have hex := (Bool.and_eq_true_iff.mp (Bool.and_eq_true_iff.mp (show (((excs.all fun x => ecB K "PileError" x) && [("Program" : Str), ("Notes" : Str), ("Run" : Str)].all fun x => objB K x) && tups K) = true from c.more)).1).2
  have h := List.all_eq_true.mp hex "Run" (by simp)
  obtain ⟨h1, h⟩ := Bool.and_eq_true_iff.mp h
  obtain ⟨h2, h⟩ := Bool.and_eq_true_iff.mp h
  obtain ⟨h3, h⟩ := Bool.and_eq_true_iff.mp h
  obtain ⟨h4, h⟩ := Bool.and_eq_true_iff.mp h
  obtain ⟨h5, h⟩ := Bool.and_eq_true_iff.mp h
  obtain ⟨h6, h⟩ := Bool.and_eq_true_iff.mp h
  obtain ⟨h7, h⟩ := Bool.and_eq_true_iff.mp h
  obtain ⟨h8, h⟩ := Bool.and_eq_true_iff.mp h
  obtain ⟨h9, h10⟩ := Bool.and_eq_true_iff.mp h
  exact ⟨He.cls_ok (c.d.fact 79 (f := .cls "Run") rfl), He.mkr_ok (c.d.fact 80 (f := .mkr "Run") rfl), of_decide_eq_true h1, of_decide_eq_true h2, of_decide_eq_true h3, of_decide_eq_true h4, h5, of_decide_eq_true h6, of_decide_eq_true h7, of_decide_eq_true h8, of_decide_eq_true h9, of_decide_eq_true h10, He.noat_ok (c.d.fact 81 (f := .noat "Run" "_functions") rfl), He.noat_ok (c.d.fact 82 (f := .noat "Run" "_program") rfl), He.noat_ok (c.d.fact 83 (f := .noat "Run" "_notes") rfl), He.noat_ok (c.d.fact 84 (f := .noat "Run" "_way") rfl)⟩
end
theorem scNoPlace : FnScope ["self"] ["self"] (defScope iNoPlace) := ⟨rfl, rfl, rfl, by decide +kernel, rfl, by decide +kernel, by decide +kernel⟩
theorem ok_NoPlace {P : Program} {w : World} {K : PySem.W.Frag} {mg : Str → Option Value} {base : Heap} {f : Addr} {fd : FuncData} (F : FunD K "__init__" "NoPlace.__init__" (defArgs iNoPlace) (defBody iNoPlace) (defScope iNoPlace) [] [] f fd) : FnOk P w K mg base CX0 1 f fd ["self"] spP := by
  refine F.ok scNoPlace (fun vs H Q E h => ?_) (fun cdv A outer s H vs Q E' hr h => ?_)
  · obtain ⟨a, rfl, _⟩ := h
    rfl
  · obtain ⟨a, rfl, k⟩ := h
    exact ⟨_, PSs.nox (pss_one ps_pass), k⟩
def nmT : Nat → Nat → Str := fun _ _ => "_law_noting.<locals>._law_f"
theorem facts {P : Program} {w : World} {K : PySem.W.Frag} {h : Heap} {mg : Str → Option Value} {f : Addr} (X : K.In h) (G : h.Ns mainGlobals mg) (hfile : (P.main.file == ("/claim/cut.py" : Str)) = true) (htop : (P.main.scope.names.lookup ("super" : Str)).isSome = false) (hfa : mg ("law" : Str) = some (.ref f)) (cs : SaysU fa fn sn tf ex h K) :
    ∃ fd : FuncData, (∀ (s : Shared) (v : Value), BindsTo s fd ⟨[v], []⟩ [("_law_script", v)]) ∧ ∀ base : Heap, K.In base → base.Ns mainGlobals mg → (∀ p ∈ tf, LamX.TabB base mg (He.cT K p).1 (He.cT K p).2) → FnOk P w K mg base CX0 31 f fd ["_law_script"] (spLaw K [((He.cT K ("_law_noting", none)).2, nmT)]) := by
  have cu := cs
  have cs := cs.s
  have c := cs.b
  obtain ⟨f_law, F_law⟩ := c.d.def_ 30 (d := dD "law" sLaw) rfl
  have e := hfa.symm.trans (He.glo_ok X G (c.d.fact 30 (f := .glo "law") rfl))
  cases e
  have b := FunD.bindsA (ps := ["_law_script"]) F_law fun _ _ _ _ _ _ us hl => match us, hl with | [_], _ => rfl
  refine ⟨f_law, fun s v => b s [v] rfl, fun base _ _ TB => ?_⟩
  have bi := bi_of X G c
  have oP := objProgram_of c
  have oN := objNotes_of c
  have oR := objRun_of c
  have asking : Asking K mg := tup_ASKING X G c
  have writing : TupC K mg "WRITING" [.str "note", .str "copy", .str "give", .str "drop"] := tup_WRITING X G c
  have nothing : TupC K mg "NOTHING" [.str "worth", .int 0] := tup_NOTHING X G c

  obtain ⟨f_is_integer, F_is_integer⟩ := c.d.def_ 0 (d := dD "is_integer" sIs_integer) rfl
  obtain ⟨f_is_number_below, F_is_number_below⟩ := c.d.def_ 1 (d := dD "is_number_below" sIs_number_below) rfl
  obtain ⟨f_is_name, F_is_name⟩ := c.d.def_ 2 (d := dD "is_name" sIs_name) rfl
  obtain ⟨f_is_parts, F_is_parts⟩ := c.d.def_ 3 (d := dD "is_parts" sIs_parts) rfl
  obtain ⟨f_is_block, F_is_block⟩ := c.d.def_ 4 (d := dD "is_block" sIs_block) rfl
  obtain ⟨f_is_row, F_is_row⟩ := c.d.def_ 5 (d := dV "is_row" sIs_row [.int 0]) rfl
  obtain ⟨f_blocks_of, F_blocks_of⟩ := c.d.def_ 6 (d := dD "blocks_of" sBlocks_of) rfl
  obtain ⟨f_names_of, F_names_of⟩ := c.d.def_ 7 (d := dD "names_of" sNames_of) rfl
  obtain ⟨f_formless_place, F_formless_place⟩ := c.d.def_ 8 (d := dD "formless_place" sFormless_place) rfl
  obtain ⟨f_rows_of, F_rows_of⟩ := c.d.def_ 9 (d := dD "rows_of" sRows_of) rfl
  obtain ⟨f_all_names, F_all_names⟩ := c.d.def_ 10 (d := dD "all_names" sAll_names) rfl
  obtain ⟨f_bad_place, F_bad_place⟩ := c.d.def_ 11 (d := dD "bad_place" sBad_place) rfl
  obtain ⟨f_block_leads, F_block_leads⟩ := c.d.def_ 12 (d := dD "block_leads" sBlock_leads) rfl
  obtain ⟨f_row_leads, F_row_leads⟩ := c.d.def_ 13 (d := dD "row_leads" sRow_leads) rfl
  obtain ⟨f_names, F_names⟩ := c.d.def_ 14 (d := dD "names" sNames) rfl
  obtain ⟨f_ops, F_ops⟩ := c.d.def_ 15 (d := dD "ops" sOps) rfl
  obtain ⟨f_row_at, F_row_at⟩ := c.d.def_ 16 (d := dD "row_at" sRow_at) rfl
  obtain ⟨f_nexts, F_nexts⟩ := c.d.def_ 17 (d := dD "nexts" sNexts) rfl
  obtain ⟨f_is_way, F_is_way⟩ := c.d.def_ 18 (d := dD "is_way" sIsWay) rfl
  obtain ⟨f_functions_of, F_functions_of⟩ := c.d.def_ 19 (d := dD "functions_of" sFunctionsOf) rfl
  obtain ⟨f_place_behind, F_place_behind⟩ := c.d.def_ 20 (d := dD "place_behind" sPlaceBehind) rfl
  obtain ⟨f_told, F_told⟩ := c.d.def_ 21 (d := dD "told" sTold) rfl
  obtain ⟨f_go_to, F_go_to⟩ := c.d.def_ 22 (d := dD "go_to" sGoTo) rfl
  obtain ⟨f__law_pot, F__law_pot⟩ := c.d.def_ 23 (d := dD "_law_pot" sPot) rfl
  obtain ⟨f__law_draw, F__law_draw⟩ := c.d.def_ 24 (d := dD "_law_draw" sDraw) rfl
  obtain ⟨f__law_any, F__law_any⟩ := c.d.def_ 25 (d := dD "_law_any" sAny) rfl
  obtain ⟨f__law_noting, F__law_noting⟩ := c.d.def_ 26 (d := dD "_law_noting" sNoting) rfl
  obtain ⟨f__law_doubled_right, F__law_doubled_right⟩ := c.d.def_ 27 (d := dD "_law_doubled_right" sDoubled) rfl
  obtain ⟨f__law_turns_right, F__law_turns_right⟩ := c.d.def_ 28 (d := dD "_law_turns_right" sTurns) rfl
  obtain ⟨f__law_left_right, F__law_left_right⟩ := c.d.def_ 29 (d := dD "_law_left_right" sLeft) rfl
  obtain ⟨f_init, F_init⟩ := c.d.def_ 31 (d := dM "Program" "__init__" "Program.__init__" sProgramInit) rfl
  have pc : PrC K (He.ga K "Program") := ⟨oP.c, oP.n_block, oP.n__rows, oP.n__leads, oP.n__names⟩
  have nc : NtC K (He.ga K "Notes") := ⟨oN.c, oN.n_functions, oN.n_heads, oN.n_made, oN.n_worths, oN.n_order, oN.n_printed, oN.n_trail⟩
  have rc : RnC K (He.ga K "Run") := ⟨oR.c, oR.n__functions, oR.n__program, oR.n__notes, oR.n__way⟩
  have bdict : mg "dict" = none := free X G c 56 _ rfl
  have bsuper : mg "super" = none := free X G c 57 _ rfl
  have gP : mg "Program" = some (.ref (He.ga K "Program")) := glo X G c 31 _ rfl
  have e_NoPlace := exc_of c (x := "NoPlace") (by simp [excs])
  obtain ⟨f_NoPlace, F_NoPlace⟩ := c.d.def_ 32 (d := dM "NoPlace" "__init__" "NoPlace.__init__" iNoPlace) rfl
  have g_NoPlace : mg "NoPlace" = some (.ref (He.ga K "NoPlace")) := glo X G c 36 _ rfl
  have n_NoPlace : NoP P w K mg base (He.ga K "NoPlace") (He.ma K (He.ga K "NoPlace") "__init__") f_NoPlace ["self"] := ⟨e_NoPlace.oex, e_NoPlace.iC, e_NoPlace.tI, ok_NoPlace F_NoPlace, FunD.bindsN (ps := ["self"]) F_NoPlace fun _ _ _ _ _ _ us hl => match us, hl with | [_], _ => rfl, g_NoPlace⟩
  have C_is_integer : Cal P w K mg base "is_integer" 1 ["thing"] (spIsInt K) := ⟨_, f_is_integer, ok_is_integer F_is_integer bi, glo X G c 0 _ rfl, F_is_integer.kp, FunD.bindsN (ps := ["thing"]) F_is_integer fun _ _ _ _ _ _ us hl => match us, hl with | [_], _ => rfl⟩
  have C_is_number_below : Cal P w K mg base "is_number_below" 2 ["limit", "thing"] (spBelow K) := ⟨_, f_is_number_below, ok_below F_is_number_below bi C_is_integer, glo X G c 1 _ rfl, F_is_number_below.kp, FunD.bindsN (ps := ["limit", "thing"]) F_is_number_below fun _ _ _ _ _ _ us hl => match us, hl with | [_, _], _ => rfl⟩
  have C_is_name : Cal P w K mg base "is_name" 1 ["thing"] (spIsName) := ⟨_, f_is_name, ok_is_name F_is_name bi, glo X G c 2 _ rfl, F_is_name.kp, FunD.bindsN (ps := ["thing"]) F_is_name fun _ _ _ _ _ _ us hl => match us, hl with | [_], _ => rfl⟩
  have C_is_parts : Cal P w K mg base "is_parts" 2 ["thing"] (spIsParts K) := ⟨_, f_is_parts, ok_is_parts F_is_parts bi C_is_name, glo X G c 3 _ rfl, F_is_parts.kp, FunD.bindsN (ps := ["thing"]) F_is_parts fun _ _ _ _ _ _ us hl => match us, hl with | [_], _ => rfl⟩
  have C_is_block : Cal P w K mg base "is_block" 1 ["deep", "thing"] (spIsBlock K) := ⟨_, f_is_block, ok_is_block F_is_block bi, glo X G c 4 _ rfl, F_is_block.kp, FunD.bindsN (ps := ["deep", "thing"]) F_is_block fun _ _ _ _ _ _ us hl => match us, hl with | [_, _], _ => rfl⟩
  have B_is_row : L2.Binds K f_is_row ["deep", "thing", "many"] [] := by
    obtain ⟨ds, hv, hb⟩ := FunD.binds1 (ps := ["deep", "thing", "many"]) F_is_row 3 1 (fun h => by cases h) rfl fun _ _ _ _ _ _ _ us its hl hi => match us, hl, its, hi with | [_, _, _], _, [_], _ => ⟨_, rfl, rfl⟩
    cases hv
    exact hb
  have C_is_row : Cal P w K mg base "is_row" 3 ["deep", "thing", "many"] (spIsRow K) := ⟨_, f_is_row, ok_is_row F_is_row bi asking C_is_integer C_is_number_below C_is_name C_is_parts C_is_block, glo X G c 5 _ rfl, F_is_row.kp, B_is_row⟩
  have C_blocks_of : Cal P w K mg base "blocks_of" 1 ["row"] (spBlocksOf K) := ⟨_, f_blocks_of, ok_blocks_of F_blocks_of bi, glo X G c 6 _ rfl, F_blocks_of.kp, FunD.bindsN (ps := ["row"]) F_blocks_of fun _ _ _ _ _ _ us hl => match us, hl with | [_], _ => rfl⟩
  have C_names_of : Cal P w K mg base "names_of" 2 ["row"] (spNamesOf K) := ⟨_, f_names_of, ok_names_of F_names_of bi asking, glo X G c 7 _ rfl, F_names_of.kp, FunD.bindsN (ps := ["row"]) F_names_of fun _ _ _ _ _ _ us hl => match us, hl with | [_], _ => rfl⟩
  have C_formless_place : Cal P w K mg base "formless_place" 4 ["block", "many"] (spFormless K) := ⟨_, f_formless_place, ok_formless F_formless_place bi C_is_row C_blocks_of, glo X G c 8 _ rfl, F_formless_place.kp, FunD.bindsN (ps := ["block", "many"]) F_formless_place fun _ _ _ _ _ _ us hl => match us, hl with | [_, _], _ => rfl⟩
  have C0_rows_of : Cal P w K mg base "rows_of" 1 ["block"] (spRowsOf K 0) := ⟨_, f_rows_of, ok_rows_of0 _, glo X G c 9 _ rfl, F_rows_of.kp, FunD.bindsN (ps := ["block"]) F_rows_of fun _ _ _ _ _ _ us hl => match us, hl with | [_], _ => rfl⟩
  have C1_rows_of : Cal P w K mg base "rows_of" 2 ["block"] (spRowsOf K 1) := ⟨_, f_rows_of, ok_rows_of1 F_rows_of bi C_blocks_of C0_rows_of, glo X G c 9 _ rfl, F_rows_of.kp, FunD.bindsN (ps := ["block"]) F_rows_of fun _ _ _ _ _ _ us hl => match us, hl with | [_], _ => rfl⟩
  have C2_rows_of : Cal P w K mg base "rows_of" 3 ["block"] (spRowsOf K 2) := ⟨_, f_rows_of, ok_rows_of1 F_rows_of bi C_blocks_of C1_rows_of, glo X G c 9 _ rfl, F_rows_of.kp, FunD.bindsN (ps := ["block"]) F_rows_of fun _ _ _ _ _ _ us hl => match us, hl with | [_], _ => rfl⟩
  have C3_rows_of : Cal P w K mg base "rows_of" 4 ["block"] (spRowsOf K 3) := ⟨_, f_rows_of, ok_rows_of1 F_rows_of bi C_blocks_of C2_rows_of, glo X G c 9 _ rfl, F_rows_of.kp, FunD.bindsN (ps := ["block"]) F_rows_of fun _ _ _ _ _ _ us hl => match us, hl with | [_], _ => rfl⟩
  have C4_rows_of : Cal P w K mg base "rows_of" 5 ["block"] (spRowsOf K 4) := ⟨_, f_rows_of, ok_rows_of1 F_rows_of bi C_blocks_of C3_rows_of, glo X G c 9 _ rfl, F_rows_of.kp, FunD.bindsN (ps := ["block"]) F_rows_of fun _ _ _ _ _ _ us hl => match us, hl with | [_], _ => rfl⟩
  have C_all_names : Cal P w K mg base "all_names" 3 ["rows"] (spAllNames K) := ⟨_, f_all_names, ok_all_names F_all_names bi C_names_of, glo X G c 10 _ rfl, F_all_names.kp, FunD.bindsN (ps := ["rows"]) F_all_names fun _ _ _ _ _ _ us hl => match us, hl with | [_], _ => rfl⟩
  have C_bad_place : Cal P w K mg base "bad_place" 6 ["block", "many"] (spBad K) := ⟨_, f_bad_place, ok_bad_place F_bad_place bi C_formless_place C4_rows_of C_all_names, glo X G c 11 _ rfl, F_bad_place.kp, FunD.bindsN (ps := ["block", "many"]) F_bad_place fun _ _ _ _ _ _ us hl => match us, hl with | [_, _], _ => rfl⟩
  have R0 : Cal P w K mg base "row_leads" 6 ["row", "place", "behind"] (spRowLeads K 0) := ⟨_, f_row_leads, ok_row_leads0 _, glo X G c 13 _ rfl, F_row_leads.kp, FunD.bindsN (ps := ["row", "place", "behind"]) F_row_leads fun _ _ _ _ _ _ us hl => match us, hl with | [_, _, _], _ => rfl⟩
  have B0 : Cal P w K mg base "block_leads" 7 ["block", "place", "behind"] (spBlockLeads K 0) := ⟨_, f_block_leads, ok_block_leads1 F_block_leads bi (by decide) C4_rows_of R0, glo X G c 12 _ rfl, F_block_leads.kp, FunD.bindsN (ps := ["block", "place", "behind"]) F_block_leads fun _ _ _ _ _ _ us hl => match us, hl with | [_, _, _], _ => rfl⟩
  have R1 : Cal P w K mg base "row_leads" 8 ["row", "place", "behind"] (spRowLeads K 1) := ⟨_, f_row_leads, ok_row_leads1 F_row_leads bi (by decide) C4_rows_of B0, glo X G c 13 _ rfl, F_row_leads.kp, FunD.bindsN (ps := ["row", "place", "behind"]) F_row_leads fun _ _ _ _ _ _ us hl => match us, hl with | [_, _, _], _ => rfl⟩
  have B1 : Cal P w K mg base "block_leads" 9 ["block", "place", "behind"] (spBlockLeads K 1) := ⟨_, f_block_leads, ok_block_leads1 F_block_leads bi (by decide) C4_rows_of R1, glo X G c 12 _ rfl, F_block_leads.kp, FunD.bindsN (ps := ["block", "place", "behind"]) F_block_leads fun _ _ _ _ _ _ us hl => match us, hl with | [_, _, _], _ => rfl⟩
  have R2 : Cal P w K mg base "row_leads" 10 ["row", "place", "behind"] (spRowLeads K 2) := ⟨_, f_row_leads, ok_row_leads1 F_row_leads bi (by decide) C4_rows_of B1, glo X G c 13 _ rfl, F_row_leads.kp, FunD.bindsN (ps := ["row", "place", "behind"]) F_row_leads fun _ _ _ _ _ _ us hl => match us, hl with | [_, _, _], _ => rfl⟩
  have B2 : Cal P w K mg base "block_leads" 11 ["block", "place", "behind"] (spBlockLeads K 2) := ⟨_, f_block_leads, ok_block_leads1 F_block_leads bi (by decide) C4_rows_of R2, glo X G c 12 _ rfl, F_block_leads.kp, FunD.bindsN (ps := ["block", "place", "behind"]) F_block_leads fun _ _ _ _ _ _ us hl => match us, hl with | [_, _, _], _ => rfl⟩
  have R3 : Cal P w K mg base "row_leads" 12 ["row", "place", "behind"] (spRowLeads K 3) := ⟨_, f_row_leads, ok_row_leads1 F_row_leads bi (by decide) C4_rows_of B2, glo X G c 13 _ rfl, F_row_leads.kp, FunD.bindsN (ps := ["row", "place", "behind"]) F_row_leads fun _ _ _ _ _ _ us hl => match us, hl with | [_, _, _], _ => rfl⟩
  have B3 : Cal P w K mg base "block_leads" 13 ["block", "place", "behind"] (spBlockLeads K 3) := ⟨_, f_block_leads, ok_block_leads1 F_block_leads bi (by decide) C4_rows_of R3, glo X G c 12 _ rfl, F_block_leads.kp, FunD.bindsN (ps := ["block", "place", "behind"]) F_block_leads fun _ _ _ _ _ _ us hl => match us, hl with | [_, _, _], _ => rfl⟩
  have R4 : Cal P w K mg base "row_leads" 14 ["row", "place", "behind"] (spRowLeads K 4) := ⟨_, f_row_leads, ok_row_leads1 F_row_leads bi (by decide) C4_rows_of B3, glo X G c 13 _ rfl, F_row_leads.kp, FunD.bindsN (ps := ["row", "place", "behind"]) F_row_leads fun _ _ _ _ _ _ us hl => match us, hl with | [_, _, _], _ => rfl⟩
  have B4 : Cal P w K mg base "block_leads" 15 ["block", "place", "behind"] (spBlockLeads K 4) := ⟨_, f_block_leads, ok_block_leads1 F_block_leads bi (by decide) C4_rows_of R4, glo X G c 12 _ rfl, F_block_leads.kp, FunD.bindsN (ps := ["block", "place", "behind"]) F_block_leads fun _ _ _ _ _ _ us hl => match us, hl with | [_, _, _], _ => rfl⟩
  have C_is_way : Cal P w K mg base "is_way" 3 ["program", "thing"] (spIsWay K (He.ga K "Program")) := ⟨_, f_is_way, ok_is_way F_is_way bi pc C_is_number_below, glo X G c 18 _ rfl, F_is_way.kp, FunD.bindsN (ps := ["program", "thing"]) F_is_way fun _ _ _ _ _ _ us hl => match us, hl with | [_, _], _ => rfl⟩
  have C_names : Cal P w K mg base "names" 1 ["program"] (spNames K (He.ga K "Program")) := ⟨_, f_names, ok_names F_names bi pc, glo X G c 14 _ rfl, F_names.kp, FunD.bindsN (ps := ["program"]) F_names fun _ _ _ _ _ _ us hl => match us, hl with | [_], _ => rfl⟩
  have C_ops : Cal P w K mg base "ops" 1 ["program"] (spOps K (He.ga K "Program")) := ⟨_, f_ops, ok_ops F_ops bi pc, glo X G c 15 _ rfl, F_ops.kp, FunD.bindsN (ps := ["program"]) F_ops fun _ _ _ _ _ _ us hl => match us, hl with | [_], _ => rfl⟩
  have C_row_at : CalX P w K mg base "row_at" 3 ["program", "place"] (spRowAt K (He.ga K "Program") (He.ga K "NoPlace")) := ⟨_, f_row_at, ok_row_at F_row_at bi pc n_NoPlace C_is_number_below, glo X G c 16 _ rfl, F_row_at.kp, FunD.bindsN (ps := ["program", "place"]) F_row_at fun _ _ _ _ _ _ us hl => match us, hl with | [_, _], _ => rfl⟩
  have C_nexts : CalX P w K mg base "nexts" 3 ["program", "place"] (spNexts K (He.ga K "Program") (He.ga K "NoPlace")) := ⟨_, f_nexts, ok_nexts F_nexts bi pc n_NoPlace C_is_number_below, glo X G c 17 _ rfl, F_nexts.kp, FunD.bindsN (ps := ["program", "place"]) F_nexts fun _ _ _ _ _ _ us hl => match us, hl with | [_, _], _ => rfl⟩
  have C_functions_of : Cal P w K mg base "functions_of" 1 ["wanted", "functions"] (spFunctionsOf K) := ⟨_, f_functions_of, ok_functions_of F_functions_of bi bdict, glo X G c 19 _ rfl, F_functions_of.kp, FunD.bindsN (ps := ["wanted", "functions"]) F_functions_of fun _ _ _ _ _ _ us hl => match us, hl with | [_, _], _ => rfl⟩
  have C_place_behind : Cal P w K mg base "place_behind" 4 ["program", "place", "which"] (spPlaceBehind K (He.ga K "Program")) := ⟨_, f_place_behind, ok_place_behind F_place_behind bi C_nexts C_is_number_below, glo X G c 20 _ rfl, F_place_behind.kp, FunD.bindsN (ps := ["program", "place", "which"]) F_place_behind fun _ _ _ _ _ _ us hl => match us, hl with | [_, _, _], _ => rfl⟩
  obtain ⟨f_Holding___init__, F_Holding___init__⟩ := c.d.def_ 33 (d := dM "Holding" "__init__" "Holding.__init__" sHInit) rfl
  obtain ⟨f_Holding_do, F_Holding_do⟩ := c.d.def_ 34 (d := dM "Holding" "do" "Holding.do" sHDo) rfl
  obtain ⟨f_Notes_held, F_Notes_held⟩ := c.d.def_ 35 (d := dM "Notes" "held" "Holding.held" sHHeld) rfl
  obtain ⟨f_Notes_waiting, F_Notes_waiting⟩ := c.d.def_ 36 (d := dM "Notes" "waiting" "Holding.waiting" sHWaiting) rfl
  obtain ⟨f_Notes_worked, F_Notes_worked⟩ := c.d.def_ 37 (d := dM "Notes" "worked" "Holding.worked" sHWorked) rfl
  obtain ⟨f_Notes_said, F_Notes_said⟩ := c.d.def_ 38 (d := dM "Notes" "said" "Holding.said" sHSaid) rfl
  obtain ⟨f_Notes__put_off, F_Notes__put_off⟩ := c.d.def_ 39 (d := dM "Notes" "_put_off" "Holding._put_off" sHPutOff) rfl
  obtain ⟨f_Notes__numbers, F_Notes__numbers⟩ := c.d.def_ 40 (d := dM "Notes" "_numbers" "Holding._numbers" sHNumbers) rfl
  obtain ⟨f_Notes__now, F_Notes__now⟩ := c.d.def_ 41 (d := dM "Notes" "_now" "Holding._now" sHNow) rfl
  obtain ⟨f_Notes__open, F_Notes__open⟩ := c.d.def_ 42 (d := dM "Notes" "_open" "Holding._open" sHOpen) rfl
  obtain ⟨f_Notes__worth, F_Notes__worth⟩ := c.d.def_ 43 (d := dM "Notes" "_worth" "Holding._worth" sHWorth) rfl
  obtain ⟨f_Notes__work_out, F_Notes__work_out⟩ := c.d.def_ 44 (d := dM "Notes" "_work_out" "Holding._work_out" sHWorkOut) rfl
  obtain ⟨f_Notes__worked_out, F_Notes__worked_out⟩ := c.d.def_ 45 (d := dM "Notes" "_worked_out" "Holding._worked_out" sHWorkedOut) rfl
  obtain ⟨f_Notes__met, F_Notes__met⟩ := c.d.def_ 46 (d := dM "Notes" "_met" "Holding._met" sHMet) rfl
  obtain ⟨f_Run___init__, F_Run___init__⟩ := c.d.def_ 47 (d := dM "Run" "__init__" "Run.__init__" sRInit) rfl
  obtain ⟨f_Run_step, F_Run_step⟩ := c.d.def_ 48 (d := dM "Run" "step" "Run.step" sRStep) rfl
  obtain ⟨f_Run_place, F_Run_place⟩ := c.d.def_ 49 (d := dM "Run" "place" "Run.place" sRPlace) rfl
  obtain ⟨f_Run_waiting, F_Run_waiting⟩ := c.d.def_ 50 (d := dM "Run" "waiting" "Run.waiting" sRWaiting) rfl
  obtain ⟨f_Run_held, F_Run_held⟩ := c.d.def_ 51 (d := dM "Run" "held" "Run.held" sRHeld) rfl
  obtain ⟨f_Run_worked, F_Run_worked⟩ := c.d.def_ 52 (d := dM "Run" "worked" "Run.worked" sRWorked) rfl
  obtain ⟨f_Run_said, F_Run_said⟩ := c.d.def_ 53 (d := dM "Run" "said" "Run.said" sRSaid) rfl
  have M_now : ∀ (fm : Fam P w K mg base) (F : List (Str × Addr)) (ns : List Str), ns.length < 64 → MCal P w K mg base (He.ga K "Notes") "_now" (1) ["self", "thing"] (spNow fm (He.ga K "Notes") F ns) := fun fm F ns hn => ⟨oN.c, _, f_Notes__now, ok_now F_Notes__now nc, He.meth_ok (c.d.fact 92 (f := .meth "Notes" "_now") rfl), FunD.bindsN (ps := ["self", "thing"]) F_Notes__now fun _ _ _ _ _ _ us hl => match us, hl with | [_, _], _ => rfl⟩
  have M_held : ∀ (fm : Fam P w K mg base) (F : List (Str × Addr)) (ns : List Str), ns.length < 64 → MCal P w K mg base (He.ga K "Notes") "held" (2) ["self", "name"] (spHeld fm (He.ga K "Notes") F ns) := fun fm F ns hn => ⟨oN.c, _, f_Notes_held, ok_held F_Notes_held nc nothing (M_now fm F ns hn), He.meth_ok (c.d.fact 86 (f := .meth "Notes" "held") rfl), FunD.bindsN (ps := ["self", "name"]) F_Notes_held fun _ _ _ _ _ _ us hl => match us, hl with | [_, _], _ => rfl⟩
  have M_open : ∀ (fm : Fam P w K mg base) (F : List (Str × Addr)) (ns : List Str), ns.length < 64 → MCal P w K mg base (He.ga K "Notes") "_open" (1) ["self", "things", "fresh"] (spOpen fm (He.ga K "Notes") F ns) := fun fm F ns hn => ⟨oN.c, _, f_Notes__open, ok_open F_Notes__open nc, He.meth_ok (c.d.fact 93 (f := .meth "Notes" "_open") rfl), FunD.bindsN (ps := ["self", "things", "fresh"]) F_Notes__open fun _ _ _ _ _ _ us hl => match us, hl with | [_, _, _], _ => rfl⟩
  have M_worth : ∀ (fm : Fam P w K mg base) (F : List (Str × Addr)) (ns : List Str), ns.length < 64 → MCal P w K mg base (He.ga K "Notes") "_worth" (2) ["self", "thing", "fresh"] (spWorth fm (He.ga K "Notes") F ns) := fun fm F ns hn => ⟨oN.c, _, f_Notes__worth, ok_worth F_Notes__worth nc (M_now fm F ns hn), He.meth_ok (c.d.fact 94 (f := .meth "Notes" "_worth") rfl), FunD.bindsN (ps := ["self", "thing", "fresh"]) F_Notes__worth fun _ _ _ _ _ _ us hl => match us, hl with | [_, _, _], _ => rfl⟩
  have M_wo : ∀ (fm : Fam P w K mg base) (F : List (Str × Addr)) (ns : List Str), ns.length < 64 → MCal P w K mg base (He.ga K "Notes") "_worked_out" (fm.lev + 3) ["self", "thing"] (spWorkedOut fm (He.ga K "Notes") F ns) := fun fm F ns hn => ⟨oN.c, _, f_Notes__worked_out, ok_worked_out F_Notes__worked_out bi nc (M_open fm F ns hn) (M_worth fm F ns hn), He.meth_ok (c.d.fact 96 (f := .meth "Notes" "_worked_out") rfl), FunD.bindsN (ps := ["self", "thing"]) F_Notes__worked_out fun _ _ _ _ _ _ us hl => match us, hl with | [_, _], _ => rfl⟩
  have M_nu : MCal P w K mg base (He.ga K "Notes") "_numbers" (1) ["self", "kept"] (spNumbers) := ⟨oN.c, _, f_Notes__numbers, ok_numbers F_Notes__numbers bi, He.meth_ok (c.d.fact 91 (f := .meth "Notes" "_numbers") rfl), FunD.bindsN (ps := ["self", "kept"]) F_Notes__numbers fun _ _ _ _ _ _ us hl => match us, hl with | [_, _], _ => rfl⟩
  have M_work : ∀ (fm : Fam P w K mg base) (F : List (Str × Addr)) (ns : List Str), ns.length < 64 → MCal P w K mg base (He.ga K "Notes") "_work_out" (fm.lev + 4) ["self", "thing"] (spWorkOut fm (He.ga K "Notes") F ns) := fun fm F ns hn => ⟨oN.c, _, f_Notes__work_out, ok_work_out F_Notes__work_out bi nc (M_wo fm F ns hn) M_nu, He.meth_ok (c.d.fact 95 (f := .meth "Notes" "_work_out") rfl), FunD.bindsN (ps := ["self", "thing"]) F_Notes__work_out fun _ _ _ _ _ _ us hl => match us, hl with | [_, _], _ => rfl⟩
  have M_po : ∀ (fm : Fam P w K mg base) (F : List (Str × Addr)) (ns : List Str), ns.length < 64 → MCal P w K mg base (He.ga K "Notes") "_put_off" (1) ["self", "op", "parts"] (spPutOff fm (He.ga K "Notes") F ns) := fun fm F ns hn => ⟨oN.c, _, f_Notes__put_off, ok_put_off F_Notes__put_off bi nc, He.meth_ok (c.d.fact 90 (f := .meth "Notes" "_put_off") rfl), FunD.bindsN (ps := ["self", "op", "parts"]) F_Notes__put_off fun _ _ _ _ _ _ us hl => match us, hl with | [_, _, _], _ => rfl⟩
  have M_met : ∀ (fm : Fam P w K mg base) (F : List (Str × Addr)) (ns : List Str), ns.length < 64 → MCal P w K mg base (He.ga K "Notes") "_met" (2) ["self"] (spMet fm (He.ga K "Notes") F ns) := fun fm F ns hn => ⟨oN.c, _, f_Notes__met, ok_met F_Notes__met bi nc bi.b_sorted hn (M_now fm F ns hn), He.meth_ok (c.d.fact 97 (f := .meth "Notes" "_met") rfl), FunD.bindsN (ps := ["self"]) F_Notes__met fun _ _ _ _ _ _ us hl => match us, hl with | [_], _ => rfl⟩
  have M_waiting : ∀ (fm : Fam P w K mg base) (F : List (Str × Addr)) (ns : List Str), ns.length < 64 → MCal P w K mg base (He.ga K "Notes") "waiting" (3) ["self"] (spWaiting fm (He.ga K "Notes") F ns) := fun fm F ns hn => ⟨oN.c, _, f_Notes_waiting, ok_waiting F_Notes_waiting bi nc bi.b_sorted (M_met fm F ns hn) M_nu, He.meth_ok (c.d.fact 87 (f := .meth "Notes" "waiting") rfl), FunD.bindsN (ps := ["self"]) F_Notes_waiting fun _ _ _ _ _ _ us hl => match us, hl with | [_], _ => rfl⟩
  have M_worked : ∀ (fm : Fam P w K mg base) (F : List (Str × Addr)) (ns : List Str), ns.length < 64 → MCal P w K mg base (He.ga K "Notes") "worked" (1) ["self"] (spWorked fm (He.ga K "Notes") F ns) := fun fm F ns hn => ⟨oN.c, _, f_Notes_worked, ok_worked F_Notes_worked bi nc, He.meth_ok (c.d.fact 88 (f := .meth "Notes" "worked") rfl), FunD.bindsN (ps := ["self"]) F_Notes_worked fun _ _ _ _ _ _ us hl => match us, hl with | [_], _ => rfl⟩
  have M_said : ∀ (fm : Fam P w K mg base) (F : List (Str × Addr)) (ns : List Str), ns.length < 64 → MCal P w K mg base (He.ga K "Notes") "said" (1) ["self"] (spSaid fm (He.ga K "Notes") F ns) := fun fm F ns hn => ⟨oN.c, _, f_Notes_said, ok_said F_Notes_said bi nc, He.meth_ok (c.d.fact 89 (f := .meth "Notes" "said") rfl), FunD.bindsN (ps := ["self"]) F_Notes_said fun _ _ _ _ _ _ us hl => match us, hl with | [_], _ => rfl⟩
  obtain ⟨cc_sNInit, ca_sNInit, fd_sNInit, FC_sNInit, hp_sNInit, hk_sNInit, hc_sNInit⟩ := fnS_ok (x := "Notes") (z := "/claim/cut.py") (cs.def_ 0 (d := sd_sNInit) rfl) (cell_sNInit c) (keep_sNInit c)
  have S_sNInit : SupC P K (He.fAd K sd_sNInit.at_) ca_sNInit (He.ga K "Notes") (He.ga K "Notes") (He.ma K (He.ga K "Holding") "__init__") "__init__" := supS_ok (y := "Holding") (sup_sNInit c) hfile htop hp_sNInit ⟨_, rfl, rfl⟩ hk_sNInit hc_sNInit
  obtain ⟨cc_sNDo, ca_sNDo, fd_sNDo, FC_sNDo, hp_sNDo, hk_sNDo, hc_sNDo⟩ := fnS_ok (x := "Notes") (z := "/claim/cut.py") (cs.def_ 1 (d := sd_sNDo) rfl) (cell_sNDo c) (keep_sNDo c)
  have S_sNDo : SupC P K (He.fAd K sd_sNDo.at_) ca_sNDo (He.ga K "Notes") (He.ga K "Notes") (He.ma K (He.ga K "Holding") "do") "do" := supS_ok (y := "Holding") (sup_sNDo c) hfile htop hp_sNDo ⟨_, rfl, rfl⟩ hk_sNDo hc_sNDo
  have bHI : Binds K f_Holding___init__ ["self", "functions"] [] := FunD.bindsN (ps := ["self", "functions"]) F_Holding___init__ fun _ _ _ _ _ _ us hl => match us, hl with | [_, _], _ => rfl
  have bHD : Binds K f_Holding_do ["self", "row"] [] := FunD.bindsN (ps := ["self", "row"]) F_Holding_do fun _ _ _ _ _ _ us hl => match us, hl with | [_, _], _ => rfl
  have bNI : Binds K fd_sNInit ["self", "functions"] [] := FunC_bindsN (ps := ["self", "functions"]) FC_sNInit fun _ _ _ _ _ us hl => match us, hl with | [_, _], _ => rfl
  have bND : Binds K fd_sNDo ["self", "row"] [] := FunC_bindsN (ps := ["self", "row"]) FC_sNDo fun _ _ _ _ _ us hl => match us, hl with | [_, _], _ => rfl
  have nm : NtM P w K mg base (He.ga K "Notes") := ⟨fun fm F ns hn => ⟨oN.c, _, fd_sNDo, ok_ndo FC_sNDo bi nc writing S_sNDo bsuper (ok_hdo F_Holding_do bi nc asking (Nat.le_of_lt (Nat.lt_trans hn (by decide))) (M_work fm F ns hn) (M_held fm F ns hn) (M_po fm F ns hn)) bHD, He.meth_ok (c.d.fact 85 (f := .meth "Notes" "do") rfl), bND⟩, M_waiting, ⟨_, fd_sNInit, oN.m, ok_ninit FC_sNInit nc S_sNInit bsuper (ok_hinit F_Holding___init__ nc) bHI, bNI, glo X G c 38 _ rfl⟩⟩
  have nm2 : NtM2 P w K mg base (He.ga K "Notes") := ⟨M_held, M_worked, M_said⟩
  have M_place : MCal P w K mg base (He.ga K "Run") "place" (1) ["self"] (spRPlace P w K mg base (He.ga K "Program") (He.ga K "Notes") (He.ga K "Run")) := ⟨oR.c, _, f_Run_place, ok_rplace F_Run_place rc, He.meth_ok (c.d.fact 99 (f := .meth "Run" "place") rfl), FunD.bindsN (ps := ["self"]) F_Run_place fun _ _ _ _ _ _ us hl => match us, hl with | [_], _ => rfl⟩
  have M_rwaiting : MCal P w K mg base (He.ga K "Run") "waiting" (4) ["self"] (spRWaiting P w K mg base (He.ga K "Program") (He.ga K "Notes") (He.ga K "Run")) := ⟨oR.c, _, f_Run_waiting, ok_rwaiting F_Run_waiting rc nm, He.meth_ok (c.d.fact 100 (f := .meth "Run" "waiting") rfl), FunD.bindsN (ps := ["self"]) F_Run_waiting fun _ _ _ _ _ _ us hl => match us, hl with | [_], _ => rfl⟩
  have M_rheld : MCal P w K mg base (He.ga K "Run") "held" (3) ["self", "name"] (spRHeld P w K mg base (He.ga K "Program") (He.ga K "Notes") (He.ga K "Run")) := ⟨oR.c, _, f_Run_held, ok_rheld F_Run_held rc nm2 C_names, He.meth_ok (c.d.fact 101 (f := .meth "Run" "held") rfl), FunD.bindsN (ps := ["self", "name"]) F_Run_held fun _ _ _ _ _ _ us hl => match us, hl with | [_, _], _ => rfl⟩
  have M_rworked : MCal P w K mg base (He.ga K "Run") "worked" (2) ["self"] (spRWorked P w K mg base (He.ga K "Program") (He.ga K "Notes") (He.ga K "Run")) := ⟨oR.c, _, f_Run_worked, ok_rworked F_Run_worked rc nm2, He.meth_ok (c.d.fact 102 (f := .meth "Run" "worked") rfl), FunD.bindsN (ps := ["self"]) F_Run_worked fun _ _ _ _ _ _ us hl => match us, hl with | [_], _ => rfl⟩
  have M_rsaid : MCal P w K mg base (He.ga K "Run") "said" (2) ["self"] (spRSaid P w K mg base (He.ga K "Program") (He.ga K "Notes") (He.ga K "Run")) := ⟨oR.c, _, f_Run_said, ok_rsaid F_Run_said rc nm2, He.meth_ok (c.d.fact 103 (f := .meth "Run" "said") rfl), FunD.bindsN (ps := ["self"]) F_Run_said fun _ _ _ _ _ _ us hl => match us, hl with | [_], _ => rfl⟩
  have M_step : MCal P w K mg base (He.ga K "Run") "step" (27) ["self", "which"] (spRStep P w K mg base (He.ga K "Program") (He.ga K "Notes") (He.ga K "Run")) := ⟨oR.c, _, f_Run_step, ok_rstep (CE := He.ga K "NoPlace") F_Run_step rc nm C_place_behind C_row_at, He.meth_ok (c.d.fact 98 (f := .meth "Run" "step") rfl), FunD.bindsN (ps := ["self", "which"]) F_Run_step fun _ _ _ _ _ _ us hl => match us, hl with | [_, _], _ => rfl⟩
  have rm : RnM P w K mg base (He.ga K "Program") (He.ga K "Notes") (He.ga K "Run") := ⟨_, f_Run___init__, oR.m, ok_rinit F_Run___init__ rc nm C_ops C_functions_of, FunD.bindsN (ps := ["self", "program", "functions"]) F_Run___init__ fun _ _ _ _ _ _ us hl => match us, hl with | [_, _, _], _ => rfl, glo X G c 39 _ rfl⟩
  have C_go_to : Cal P w K mg base "go_to" 28 ["run", "place"] (spGoTo P w K mg base (He.ga K "Program") (He.ga K "Notes") (He.ga K "Run")) := ⟨_, f_go_to, ok_go_to (CE := He.ga K "NoPlace") F_go_to rc C_nexts M_step M_place, glo X G c 22 _ rfl, F_go_to.kp, FunD.bindsN (ps := ["run", "place"]) F_go_to fun _ _ _ _ _ _ us hl => match us, hl with | [_, _], _ => rfl⟩
  have C_told : Cal P w K mg base "told" 29 ["program", "way", "functions"] (spTold P w K mg base (He.ga K "Program") (He.ga K "Notes") (He.ga K "Run")) := ⟨_, f_told, ok_told F_told C_is_way rm C_go_to, glo X G c 21 _ rfl, F_told.kp, FunD.bindsN (ps := ["program", "way", "functions"]) F_told fun _ _ _ _ _ _ us hl => match us, hl with | [_, _, _], _ => rfl⟩
  have C__law_pot : Cal P w K mg base "_law_pot" 1 ["_law_script"] (spPot K) := ⟨_, f__law_pot, ok_pot F__law_pot bi, glo X G c 23 _ rfl, F__law_pot.kp, FunD.bindsN (ps := ["_law_script"]) F__law_pot fun _ _ _ _ _ _ us hl => match us, hl with | [_], _ => rfl⟩
  have C__law_draw : Cal P w K mg base "_law_draw" 1 ["_law_pot_here", "_law_many"] (spDraw) := ⟨_, f__law_draw, ok_draw F__law_draw bi, glo X G c 24 _ rfl, F__law_draw.kp, FunD.bindsN (ps := ["_law_pot_here", "_law_many"]) F__law_draw fun _ _ _ _ _ _ us hl => match us, hl with | [_, _], _ => rfl⟩
  have C__law_any : Cal P w K mg base "_law_any" 2 ["_law_pot_here", "_law_items"] (spAny) := ⟨_, f__law_any, ok_any F__law_any bi C__law_draw, glo X G c 25 _ rfl, F__law_any.kp, FunD.bindsN (ps := ["_law_pot_here", "_law_items"]) F__law_any fun _ _ _ _ _ _ us hl => match us, hl with | [_, _], _ => rfl⟩
  obtain ⟨oc9, od9, dV9, kV9, doc9, pm9, an9, ct9, osl9, e9, lk9, hc9⟩ := code_of (p := ("_law_noting", none)) F__law_noting
  have bN : Binds K f__law_noting ["_law_calls", "_law_step"] [] := FunD.bindsN (ps := ["_law_calls", "_law_step"]) F__law_noting fun _ _ _ _ _ _ us hl => match us, hl with | [_, _], _ => rfl
  have kN := F__law_noting.kp
  subst e9
  have C__law_noting : Cal P w K mg base "_law_noting" 1 ["_law_calls", "_law_step"] (spNoting [((He.cT K ("_law_noting", none)).2, nmT)]) := ⟨_, _, ok_noting (nm := nmT) lk9 hc9 (TB ("_law_noting", none) (by simp [tf])) (by simp) (fun p hp _ => by rw [List.mem_singleton.mp hp]) (fun _ _ => rfl), glo X G c 26 _ rfl, kN, bN⟩
  have cx : Cx3 P w K mg base (He.ga K "Program") (He.ga K "Notes") (He.ga K "Run") [((He.cT K ("_law_noting", none)).2, nmT)] := {
    bi := bi
    gP := gP
    make := ⟨_, f_init, oP.m, ok_init F_init bi pc C_bad_place C4_rows_of C_all_names B4, FunD.bindsN (ps := ["self", "block"]) F_init fun _ _ _ _ _ _ us hl => match us, hl with | [_, _], _ => rfl⟩
    draw := C__law_draw
    any := C__law_any
    noting := C__law_noting
    told := C_told
    run := rm
    waiting := M_rwaiting
    worked := M_rworked
    said := M_rsaid
    held := M_rheld
    place := M_place
    step := M_step }
  have C__law_doubled_right : Cal P w K mg base "_law_doubled_right" 30 ["_law_pot_here", "_law_rounds"] (spDoubled [((He.cT K ("_law_noting", none)).2, nmT)]) := ⟨_, f__law_doubled_right, ok_doubled F__law_doubled_right cx, glo X G c 27 _ rfl, F__law_doubled_right.kp, FunD.bindsN (ps := ["_law_pot_here", "_law_rounds"]) F__law_doubled_right fun _ _ _ _ _ _ us hl => match us, hl with | [_, _], _ => rfl⟩
  have C__law_turns_right : Cal P w K mg base "_law_turns_right" 30 ["_law_pot_here"] (spTurns [((He.cT K ("_law_noting", none)).2, nmT)]) := ⟨_, f__law_turns_right, ok_turns F__law_turns_right cx, glo X G c 28 _ rfl, F__law_turns_right.kp, FunD.bindsN (ps := ["_law_pot_here"]) F__law_turns_right fun _ _ _ _ _ _ us hl => match us, hl with | [_], _ => rfl⟩
  have C__law_left_right : Cal P w K mg base "_law_left_right" 30 ["_law_pot_here"] (spTurns [((He.cT K ("_law_noting", none)).2, nmT)]) := ⟨_, f__law_left_right, ok_left F__law_left_right cx, glo X G c 29 _ rfl, F__law_left_right.kp, FunD.bindsN (ps := ["_law_pot_here"]) F__law_left_right fun _ _ _ _ _ _ us hl => match us, hl with | [_], _ => rfl⟩
  exact ok_law F_law cx C__law_pot C__law_doubled_right C__law_turns_right C__law_left_right
end K13
open PySem PySem.W PySem.Calls PyProof.Rows
theorem PySem.Challenge.cw_putoffpiles_k13_whole_each_note_once_and_holds : PySem.Challenge.rw_putoffpiles_k13_whole_each_note_once_and.Holds := by
  w_on; o_law
  refine HandSHeadRun.head_any (r := OpenLaw.row PySem.Challenge.rw_putoffpiles_k13_whole_each_note_once_and) (q := view (OpenLaw.row PySem.Challenge.rw_putoffpiles_k13_whole_each_note_once_and).prog [59]) (H := K13.hk) (ob := K13.ob) (M := 20000) (loose := K13.loose) (d := HandSHeadRun.topDef (OpenLaw.row PySem.Challenge.rw_putoffpiles_k13_whole_each_note_once_and).prog 59) (kwd := []) K13.ob_eq
    (by kernel_rfl) (fun s => by kernel_rfl) K13.run (by kernel_rfl) (by kernel_rfl) (by kernel_rfl) (by rfl) (by first | assumption | decide +kernel) (by decide +kernel) ⟨rfl, rfl, rfl, rfl, rfl, by decide +kernel⟩ ?hw ?hc
  case hw => w_witness2
  case hc =>
    refine LamX.walk_ofTsE (l := PySem.Challenge.rw_putoffpiles_k13_whole_each_note_once_and) (n := 63) (k := 31) (x := "_law_script") (CX := fun _ => L2.CX0) rfl (by decide) (by kernel_rfl) ⟨rfl, by decide, by decide⟩ ?F (fun _ _ _ _ _ z => z)
    intro w mg fa h Y G hmg0
    obtain ⟨K, KX, c⟩ := Y
    have hmg : mg ("law" : PySem.Str) = some (.ref fa) := by
      have e : (HandSHeadRun.topDef (OpenLaw.row PySem.Challenge.rw_putoffpiles_k13_whole_each_note_once_and).prog 59).name = ("law" : PySem.Str) := by kernel_rfl
      rw [← e]
      exact hmg0
    obtain ⟨fd, hb, hF⟩ := K13.facts (P := (PySem.Challenge.rw_putoffpiles_k13_whole_each_note_once_and).prog) (w := w) KX G (by kernel_rfl) (by kernel_rfl) hmg c
    refine ⟨K, KX, fd, K13.tf.map (He.cT K), K13.spLaw K [((He.cT K ("_law_noting", none)).2, K13.nmT)], fun p hp => ?_, fun p hp => ?_, fun p hp => ?_, hb, fun H a ns hl _ hT hS => ⟨a, ns, rfl, hS, hl, fun p hp => ?_, fun _ => rfl⟩, fun base hK hG hTB => hF base hK hG fun p hp => hTB _ (List.mem_map_of_mem hp)⟩
    · obtain ⟨q, hq, rfl⟩ := List.mem_map.mp hp
      exact c.empty q hq
    · obtain ⟨q, hq, rfl⟩ := List.mem_map.mp hp
      exact c.out q hq
    · obtain ⟨q, hq, rfl⟩ := List.mem_map.mp hp
      exact PySem.W.codeHd_of_K KX (c.hd q hq)
    · rw [List.mem_singleton.mp hp]
      exact NdefX.TabN.nil (hT _ (List.mem_map_of_mem List.mem_cons_self))
