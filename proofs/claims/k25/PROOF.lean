import PyProof.Rows.All
import Wide.All
import OpenK.AllK
import Wide.FinOn
import KE.KExcIs
import KE.KEqDict
import PyProof.NeKinds
import HandS.ForMost
import HandS.Exc
import HandS.ExcInit
import HandS.ExcField
import HandS.IsInst
import HandS.DeepEq
import HandS.ExcIs
import HandS.SetFor
import KE.KDictLaw
import HandS.Style
import HandS.Star
import KE.GoesMore
import HandS.Walk
import HandS.Set
import HandS.Strs
import HandS.SetBool
import HandS.OwnEq
import HandS.Defaults
import HandS.HeadHook2
import PySem.Challenge.RW_putoffpiles_k25_whole_rings_judged
import HandS.RevTup
import PyProof.Rows.SortShellAny
import HandS.ExcValue
import HandS.TryOnly
import HandS.TryMany
import HandS.TupAny
import HandS.Zip
import HandS.WordsDict
import HandS.WideBits
import KE.KDictDisplayH
import HandS.Head0
import HandS.Head1
import HandS.Head2
import HandS.HeadEnd
import HandS.HeadHook1
set_option Elab.async false
set_option linter.all false
set_option maxRecDepth 100000
set_option maxHeartbeats 2000000
/-! Rules of my own: an own exception as a value (made, its field read, isinstance), and != of a thing and itself. -/
namespace ZX
open PySem PySem.Spec PyProof.Rows L2

/-- C(e, ..) as a value, C's own __init__ keeping sp -/
def tMkV (C : Addr) (sp : Sp) (ta : TA) : TE := fun σ H Q => ta σ H fun vs H1 => vs.length ≤ 1000 ∧ ∀ a, H1 a = none → sp (.ref a :: vs) (upd H1 a (exo a C none)) (fun v H2 => v = .non ∧ Q (.ref a) H2) (fun _ _ _ => False)
section
variable {X : Cx} {o e : Expr} {es : List Expr} {to te : TE} {ta : TA} {f x : Str} {p p' p1 p2 pos : Pos} {C fI : Addr} {k : Nat} {fd : FuncData} {ps : List Str} {sp : Sp}
theorem run_oex {pins : List (Addr × Obj)} {s1 : Shared} {σ : L2.St} {H1 : Hp} {Q : VK} {us : List Value} {vs : List V} (T : OexC X.K C) (iC : PySem.W.findIn X.K (.ref C) "__init__" = some (some (.ref fI))) (tI : PySem.W.typeIn X.K (.ref fI) = some (.type "function"))
    (F1 : FnOk X.prog X.w X.K X.mg X.base CX0 k fI fd ps sp) (hr : Room (k + 1) X.A) (hb : Binds X.K fd ps []) (I1 : Inv X pins σ H1 s1) (r1 : Vals vs us) (hz : vs.length ≤ 1000)
    (q1 : ∀ a, H1 a = none → sp (.ref a :: vs) (upd H1 a (exo a C none)) (fun v H2 => v = .non ∧ Q (.ref a) H2) (fun _ _ _ => False)) :
    wpAny (model X.prog X.w) X.A (call (.ref C) us) (EP X pins σ Q) X.xe s1 := by
  obtain ⟨nm, q, N, bs, bm, sn, sub, ab, col, dd, k0, k1, k2, k3, k5, hC, hbm⟩ := T.cls
  obtain ⟨hp, g, dr, tk, os⟩ := s1
  have hsz : hp.objs.size ≤ hp.objs.size + 1 := Nat.le_succ _
  have hn : H1 (hp.objs.size + 1) = none := I1.hok.fresh hsz
  have hq := q1 (hp.objs.size + 1) hn
  have kk : ∀ b o, hp.get? b = some o → ((hp.push (PySem.W.kdv_tup us)).push (PySem.HandSPX.excO C hp.objs.size)).get? b = some o := fun b o e => Heap.get?_push_of_some _ (Heap.get?_push_of_some _ e)
  have hget : ((hp.push (PySem.W.kdv_tup us)).push (PySem.HandSPX.excO C hp.objs.size)).get? (hp.objs.size + 1) = some (PySem.HandSPX.excO C hp.objs.size) := by heap_get
  have I2 : Inv X pins σ (upd H1 (hp.objs.size + 1) (exo (hp.objs.size + 1) C none)) ⟨(hp.push (PySem.W.kdv_tup us)).push (PySem.HandSPX.excO C hp.objs.size), g, dr, tk, os⟩ :=
    I1.laid (t' := tk) (a := hp.objs.size + 1) (o := exo (hp.objs.size + 1) C none) (h' := (hp.push (PySem.W.kdv_tup us)).push (PySem.HandSPX.excO C hp.objs.size)) kk hsz (exo_ok hget)
  have hq2 : sp (.ref (hp.objs.size + 1) :: (vs ++ [])) (upd H1 (hp.objs.size + 1) (exo (hp.objs.size + 1) C none)) (fun v H2 => v = .non ∧ Q (.ref (hp.objs.size + 1)) H2) (fun _ _ _ => False) := by
    rw [List.append_nil]
    exact hq
  have r2 : Vals (V.ref (hp.objs.size + 1) :: (vs ++ [])) (Value.ref (hp.objs.size + 1) :: (us ++ [])) := .cons rfl (r1.append .nil)
  have hl : (Value.ref (hp.objs.size + 1) :: us ++ []).length = ps.length := by
    have e := r2.length
    rw [F1.len _ _ _ _ hq2] at e
    exact e.symm
  have hus : us.length ≤ sizeLine := by
    rw [← Paired.length r1, sizeLine_eq]
    omega
  have hbz := hb ⟨(hp.push (PySem.W.kdv_tup us)).push (PySem.HandSPX.excO C hp.objs.size), g, dr, tk, os⟩ (Value.ref (hp.objs.size + 1) :: us) I2.kIn hl
  rw [List.cons_append] at hbz
  refine wpAny_call (PySem.HandSPX.call_own F.excBase_ValueError (fun Y => PySem.HandSPX.refsVE_contains Y bm hbm) (I1.kIn _ _ hC) (PySem.W.looks_findIn I1.kIn iC) (fun self => PySem.W.bind_fn I1.kIn self tI) hus
    (codeAny_mono (F1.run _ X.stack _ _ ⟨Value.ref (hp.objs.size + 1) :: us, []⟩ (Value.ref (hp.objs.size + 1) :: (us ++ [])) _ _ (fun _ _ _ => False) (hr.make C us []) (I2.env0.make C us []) hbz r2 hq2) fun r s' hq' => ?_))
  cases r with
  | error er => exact False.elim hq'
  | ok fl =>
    cases fl with
    | ret u =>
      obtain ⟨v, H2, os2, bare2, un2, hok2, rv, ev, q2⟩ := hq'
      subst ev
      obtain ⟨h2, g2, d2, t2, os'⟩ := s'
      exact ⟨rv, .ref _, H2, I2.call' (ch := []) os2 un2 hok2 bare2 (fun b z => absurd z (by simp)), rfl, q2⟩
    | next => exact False.elim hq'
    | brk => exact False.elim hq'
    | cont => exact False.elim hq'
theorem pe_oex (T : OexC X.K C) (iC : PySem.W.findIn X.K (.ref C) "__init__" = some (some (.ref fI))) (tI : PySem.W.typeIn X.K (.ref fI) = some (.type "function"))
    (F1 : FnOk X.prog X.w X.K X.mg X.base CX0 k fI fd ps sp) (hr : Room (k + 1) X.A) (hb : Binds X.K fd ps []) (hg : Gl X x) (hm : X.mg x = some (.ref C)) (ha : PA X (e :: es) ta)
    (hdb : (x == ("__debug__" : Str)) = false := by decide) (he : starEach (e :: es) X.env = (false, eval e X.env) :: starEach es X.env := by rfl) (hpl : (backTo pos (starEach es X.env)).any (·.1) = false := by rfl) :
    PE X (.Call (.Name x p) (e :: es) [] pos) (tMkV C sp ta) := by
  refine ⟨fun pins s σ H Q I h => ?_⟩
  refine wpAny_Call_Name_kw (ld_glob I hg hm ?_ hdb)
  refine PySem.W.callWith_K (h₀ := X.base) I.ok.mod.kin T.kC (thn (ha.run pos pins s σ H _ I h) fun us s1 ⟨vs, H1, I1, r1, hz, q1⟩ => ⟨I1.kIn, ?_⟩) he hpl
  exact run_oex T iC tI F1 hr hb I1 r1 hz q1
theorem pe_oex0 (T : OexC X.K C) (iC : PySem.W.findIn X.K (.ref C) "__init__" = some (some (.ref fI))) (tI : PySem.W.typeIn X.K (.ref fI) = some (.type "function"))
    (F1 : FnOk X.prog X.w X.K X.mg X.base CX0 k fI fd ps sp) (hr : Room (k + 1) X.A) (hb : Binds X.K fd ps []) (hg : Gl X x) (hm : X.mg x = some (.ref C))
    (hdb : (x == ("__debug__" : Str)) = false := by decide) :
    PE X (.Call (.Name x p) [] [] pos) (tMkV C sp tNil) := by
  refine ⟨fun pins s σ H Q I h => ?_⟩
  refine wpAny_Call_Name_kw (ld_glob I hg hm ?_ hdb)
  exact PySem.W.callWith_K0 I.kIn T.kC (run_oex (us := []) (vs := []) T iC tI F1 hr hb I .nil h.1 h.2)

/-- e.f of an exception that stands as a value -/
def tXv (K : PySem.W.Frag) (f : Str) (te : TE) : TE := fun σ H Q => te σ H fun x H1 => ∃ (a C dd : Addr) (fs : List (Str × V)) (v : V), x = .ref a ∧ XfC K C ∧ PySem.W.findIn K (.ref C) f = some none ∧ H1 a = some (exo a C (some dd)) ∧ H1 dd = some (exd dd fs) ∧ fs.lookup f = some v ∧ Q v H1
theorem pe_xv (he : PE X e te) (hb : attributeBase e f X.env (eval e X.env) = eval e X.env := by rfl) : PE X (.Attribute e f pos) (tXv X.K f te) := by
  refine ⟨fun pins s σ H Q I h => ?_⟩
  refine attr_of hb (thn (he.run pins s σ H _ I h) fun u s1 hh => ?_)
  obtain ⟨x, H1, I1, rx, a, C, dd, fs, v, ex, T, hno, ea, ed, l, q⟩ := hh
  subst ex
  obtain rfl : u = Value.ref a := rx
  obtain ⟨t1, ha⟩ := exo_at I1.hok ea
  obtain ⟨mA, hns, hr⟩ := exd_at I1.hok ed
  obtain ⟨od, ho, hl⟩ := lookIn_ns hns
  obtain ⟨u, hu, ru⟩ := RelO.some_of (v := v) (o := mA f) (by rw [← l]; exact hr f)
  have J : PySem.W.InstAt s1.heap a _ C (some od) := ⟨ha, rfl, rfl, ho⟩
  exact HandSPX.exc_get I1.kIn J T.ga T.gg T.exC (PySem.W.findObj_own T.hdC hno rfl (by rw [hl, hu])) (handed_of ru) ⟨v, H1, I1.tok _, ru, q⟩

/-- isinstance(e, c), e an exception that stands as a value -/
def rIsV (K : PySem.W.Frag) : List V → Hp → VK → Prop := fun xs H Q => ∃ (a D : Addr) (c : V) (cv : Value) (b : Bool), xs = [.ref a, c] ∧ L2.ExcC K D ∧ ((H a = some (exo a D none)) ∨ ∃ dd fs, H a = some (exo a D (some dd)) ∧ H dd = some (exd dd fs)) ∧ ClsV c cv ∧ PySem.W.kitOne K (.ref D) cv = some b ∧ Q (.bl b) H
theorem call_isV : CallR X (.builtin "isinstance") (rIsV X.K) := by
  intro pins s σ H xs us Q I r h
  obtain ⟨a, D, c, cv, b, rfl, C, ha, hc, e, q⟩ := h
  obtain ⟨u1, u2, rfl, r1, r2⟩ := vals2 r
  have ec := hc.eq r2
  subst ec
  cases (show u1 = Value.ref a from r1)
  have hcl : (PySem.W.clsIn X.K D).isSome = true := by
    obtain ⟨cd, hc, _⟩ := PySem.W.any_some C.hd
    exact Option.isSome_iff_exists.mpr ⟨cd, hc⟩
  rcases ha with ha | ⟨dd, fs, ha, hd⟩
  · obtain ⟨t1, hg⟩ := exo_at I.hok ha
    have J : PySem.W.InstAt s.heap a _ D none := ⟨hg, rfl, rfl, trivial⟩
    exact PySem.W.kia_one (PySem.W.kitx_exc hcl C.hg C.hk C.hs C.ha C.hn C.ht C.hm) I.kIn J e (fun z => nomatch z) fun tk => ⟨.bl b, H, I.kept (t' := tk) fun _ _ z => z, rfl, q⟩
  · obtain ⟨t1, hg⟩ := exo_at I.hok ha
    obtain ⟨mA, hns, hr⟩ := exd_at I.hok hd
    obtain ⟨od, ho, hl⟩ := lookIn_ns hns
    have J : PySem.W.InstAt s.heap a _ D (some od) := ⟨hg, rfl, rfl, ho⟩
    exact PySem.W.kia_one (PySem.W.kitx_exc hcl C.hg C.hk C.hs C.ha C.hn C.ht C.hm) I.kIn J e (fun z => nomatch z) fun tk => ⟨.bl b, H, I.kept (t' := tk) fun _ _ z => z, rfl, q⟩

/-- x != x: False, x a number, a flag, None, a text, a list, a tuple, a dict -/
def Selfy (H : Hp) : V → Prop
  | .non => True
  | .bl _ => True
  | .int _ => True
  | .str _ => True
  | .ref a => (∃ xs, H a = some (.lst xs)) ∨ (∃ xs, H a = some (.tup xs)) ∨ ∃ kvs, H a = some (.dK kvs)
  | _ => False
def rNeS : R2 := fun x y H Q => x = y ∧ Selfy H x ∧ Q (.bl false) H
theorem keqHits_self {κ : Type} [DecidableEq κ] {A : Around} {s : Shared} {kb : List (κ × Value)} : ∀ l : List (κ × Value), (∀ p ∈ l, ∃ y, valueAt kb p.1 = some y ∧ y = p.2) → PySem.W.KeqHits A s kb l true
  | [], _ => .nil
  | (k, v) :: r, h => by
    obtain ⟨y, hy, e⟩ := h (k, v) List.mem_cons_self
    subst e
    show PySem.W.KeqHits A s kb ((k, y) :: r) (true && true)
    exact .hit hy (SeqAt.EqAt.same _) (keqHits_self r fun p hp => h p (List.mem_cons_of_mem _ hp))
theorem op_neS (hu : X.A.units < cLine) : OpR X (compareOp .NotEq) rNeS := by
  intro pins s σ H x y v u Q I rx ry h
  obtain ⟨rfl, hs, q⟩ := h
  cases x with
  | non => exact op_ne pins s σ H .non .non v u Q I rx ry ⟨rfl, by simpa using q⟩
  | bl b => exact op_ne pins s σ H (.bl b) (.bl b) v u Q I rx ry ⟨rfl, by simpa using q⟩
  | int i => exact op_ne pins s σ H (.int i) (.int i) v u Q I rx ry ⟨rfl, by simpa using q⟩
  | str x => exact op_ne pins s σ H (.str x) (.str x) v u Q I rx ry ⟨rfl, by simpa using q⟩
  | ref a =>
    cases (show v = Value.ref a from rx)
    cases (show u = Value.ref a from ry)
    rcases hs with ⟨xs, ha⟩ | ⟨xs, ha⟩ | ⟨kvs, ha⟩
    · obtain ⟨_, its, n, r, hg⟩ := (show ObjOk X.prog X.w H s.heap a (.lst xs) from I.hok a _ ha)
      have hl : s.heap.IsList a its.toArray := ⟨_, hg, rfl, n, rfl⟩
      refine SeqAt.RcNeAt.lists (e := fun _ => true) hl hl rfl hu (fun j h1 h2 => SeqAt.EqAt.same _) X.prog X.w _ _ ?_
      rw [show ((List.range its.toArray.size).all fun _ => true) = true from List.all_eq_true.mpr fun _ _ => rfl]
      exact ⟨.bl false, H, I, rfl, q⟩
    · obtain ⟨_, its, r, ob, h1, h2, h3⟩ := (show ObjOk X.prog X.w H s.heap a (.tup xs) from I.hok a _ ha)
      have hl : s.heap.IsTuple a its.toArray := ⟨ob, h1, h2, h3⟩
      refine SeqAt.RcNeAt.tuples (e := fun _ => true) hl hl hu (fun j h1 h2 => SeqAt.EqAt.same _) X.prog X.w _ _ ?_
      rw [show ((List.range (min its.toArray.size its.toArray.size)).all fun _ => true) = true from List.all_eq_true.mpr fun _ _ => rfl]
      simp only [beq_self_eq_true, Bool.and_true, Bool.not_true]
      exact ⟨.bl false, H, I, rfl, q⟩
    · obtain ⟨_, ya, va, ra, da⟩ := (show ObjOk X.prog X.w H s.heap a (.dK kvs) from I.hok a _ ha)
      refine PySem.W.keq_ne (knd := mixKind X.prog X.w) (r := true) ya ya da da hu (fun _ => keqHits_self va fun p hp => ?_) ?_
      · obtain ⟨_, _, _, _, _, _, _, _, nd⟩ := da
        exact ⟨p.2, PySem.valueAt_of_mem nd hp, rfl⟩
      · simp only [beq_self_eq_true, Bool.and_true, Bool.not_true]
        exact ⟨.bl false, H, I, rfl, q⟩
  | _ => exact hs.elim
end

/-! ### calls of own defs, cuts, counts -/
/-- a def that may be called by its name -/
structure Cal (P : Program) (w : World) (K : PySem.W.Frag) (mg : Str → Option Value) (base : Heap) (x : Str) (k : Nat) (ps : List Str) (sp : Sp) : Prop where
  ex : ∃ (f : Addr) (fd : FuncData), FnOk P w K mg base CX0 k f fd ps sp ∧ mg x = some (.ref f) ∧ PySem.W.keepIn K (.ref f) = true ∧ Binds K fd ps []
section
variable {X : Cx} {e : Expr} {es : List Expr} {t : TA} {x : Str} {p pos : Pos} {k : Nat} {ps : List Str} {sp : Sp}
theorem pcal (C : Cal X.prog X.w X.K X.mg X.base x k ps sp) (hr : Room k X.A) (hg : Gl X x) (ha : PA X (e :: es) t)
    (hdb : (x == ("__debug__" : Str)) = false := by decide) (he : starEach (e :: es) X.env = (false, eval e X.env) :: starEach es X.env := by rfl) (hpl : (backTo pos (starEach es X.env)).any (·.1) = false := by rfl) :
    PE X (.Call (.Name x p) (e :: es) [] pos) (tCall sp [] E0 t) := by
  obtain ⟨f, fd, G, g, kp, b⟩ := C.ex
  exact pe_call G hr hg g kp b .nil pass0 ha hdb he hpl
def tCut (t u : TS) : TS := fun D σ H => ∃ Mid : L2.St → Hp → Prop, t { D with nx := Mid } σ H ∧ ∀ σ' H', Mid σ' H' → u D σ' H'
theorem pss_cut {st : Stmt} {rest : List Stmt} {t u : TS} (h1 : PS X st t) (h2 : PSs X rest u) : PSs X (st :: rest) (tCut t u) := by
  refine ⟨fun pins s σ H D I h => ?_⟩
  obtain ⟨Mid, hm, hu⟩ := h
  refine wpAny_execs_cons (thn (h1.run pins s σ H { D with nx := Mid } I hm) fun f s1 q => ?_)
  cases f with
  | next =>
    obtain ⟨σ', H', I', q⟩ := q
    exact h2.run pins s1 σ' H' D I' (hu σ' H' q)
  | ret v => exact q
  | brk => exact q
  | cont => exact q
/-- % and // by a positive number that is not written -/
theorem op_modP : OpR X (binaryOp .Mod) (rI (fun _ j => 0 < j) fun i j => .int (i % j)) := op_mod
theorem op_fdivP : OpR X (binaryOp .FloorDiv) (rI CDiv fun i j => .int (i / j)) := op_fdiv
end
/-- only the object at p may have changed -/
def Ch (p : Addr) (H H' : Hp) : Prop := ∀ b, b ≠ p → H' b = H b
theorem Ch.refl (p : Addr) (H : Hp) : Ch p H H := fun _ _ => rfl
theorem Ch.upd {p : Addr} {H H' : Hp} (c : Ch p H H') (o : HO) : Ch p H (upd H' p o) := fun b hb => by
  rw [upd_ne hb]
  exact c b hb
theorem Ch.trans {p : Addr} {H H1 H2 : Hp} (a : Ch p H H1) (b : Ch p H1 H2) : Ch p H H2 := fun c hc => (b c hc).trans (a c hc)
/-- all that was tracked but p stands -/
def Kp (p : Addr) (H H' : Hp) : Prop := ∀ b o, b ≠ p → H b = some o → H' b = some o
theorem Ch.kp {p : Addr} {H H' : Hp} (c : Ch p H H') : Kp p H H' := fun b o hb e => by
  rw [c b hb]
  exact e
theorem Kp.refl (p : Addr) (H : Hp) : Kp p H H := fun _ _ _ e => e
theorem Kp.trans {p : Addr} {H H1 H2 : Hp} (a : Kp p H H1) (b : Kp p H1 H2) : Kp p H H2 := fun c o hc e => b c o hc (a c o hc e)
theorem Kp.new {p a : Addr} {H H' : Hp} {o : HO} (k : Kp p H H') (n : H' a = none) : Kp p H (upd H' a o) := fun b u hb e => by
  have z := k b u hb e
  rw [upd_ne (ne_of_none z n)]
  exact z
theorem Kp.seq {K : PySem.W.Frag} {p : Addr} {H H' : Hp} {a : Addr} {xs : List V} (e : Kp p H H') (ne : a ≠ p) (h : SqL K H a xs) : SqL K H' a xs := by
  rcases h with (h | ⟨o, h⟩) | h
  · exact .inl (.inl (e _ _ ne h))
  · exact .inl (.inr ⟨o, e _ _ ne h⟩)
  · exact .inr h
/-- xs.count(y): flat things -/
def rCntV (K : PySem.W.Frag) : V → List V → Hp → VK → Prop := fun x xs H Q => ∃ (p : Addr) (ys : List V) (y : V), x = .ref p ∧ xs = [y] ∧ SqL K H p ys ∧ flatV y = true ∧ ys.all flatV = true ∧ Q (.int (ys.countP fun z => eqV z y)) H
theorem countP_eqU {y : V} : ∀ {ys : List V} {us : List Value}, Vals ys us → ys.all flatV = true → us.countP (eqU y) = ys.countP fun z => eqV z y
  | _, _, .nil, _ => rfl
  | z :: ys, u :: us, .cons r t, h => by
    have h' : (flatV z && ys.all flatV) = true := h
    obtain ⟨h1, h2⟩ := Bool.and_eq_true_iff.mp h'
    rw [List.countP_cons, List.countP_cons, countP_eqU t h2, eqU_of r h1]
theorem mt_lcountV {X : Cx} : MtR X "list.count" (rCntV X.K) := by
  intro pins s σ H x xs v us Q I rx rxs h
  obtain ⟨p, ys, y, rfl, rfl, hs, fy, fys, q⟩ := h
  cases rx
  obtain ⟨u, rfl, ru⟩ := rxs.one
  obtain ⟨its, rv, ⟨⟨cls, dd, data, sl⟩, n, ho, hc, hdn, hd⟩, hlen⟩ := I.list hs
  simp only at hc hd
  subst hc hd
  refine call_meets PySem.F.slot_list_count ⟨_, ho, rfl⟩ PySem.F.entry_list_count (PySem.F.args_list_count_2 _ _)
    (SeqAt.list_countAt p its.toArray n dd sl u (eqU y)) ⟨ho, fun z hz => mem_eqAt ru fy rv fys z (by simpa using hz), ?_⟩
  have ec : its.toArray.toList.countP (eqU y) = ys.countP fun z => eqV z y := countP_eqU rv fys
  refine ⟨.int (ys.countP fun z => eqV z y), H, I.tok _, ⟨s.toks, ?_⟩, q⟩
  show Value.int ((its.toArray.toList.countP (eqU y) : Nat) : Int) s.toks = _
  rw [ec]
end ZX
set_option Elab.async false
set_option linter.all false
set_option maxRecDepth 100000
set_option maxHeartbeats 2000000
/-! Rules of my own: t[::-1] of a tuple. -/
namespace ZR
open PySem PySem.Spec PyProof.Rows L2
section
variable {prog : Program} {w : World} {A : Around} {E : Value → Shared → Prop} {s : Shared}
theorem places_rev (n : Nat) : Builtin.Slice.sliceAdjust none none (-1) (n : Int) = ((n : Int) - 1, -1) ∧ Builtin.Slice.slicePlaces ((n : Int) - 1) (-1) (-1) = n := by
  constructor
  · unfold Builtin.Slice.sliceAdjust
    simp
  · unfold Builtin.Slice.slicePlaces
    simp
    omega
theorem fm_congr {α β : Type} {f g : α → Option β} : ∀ {l : List α}, (∀ x ∈ l, f x = g x) → l.filterMap f = l.filterMap g
  | [], _ => rfl
  | x :: l, h => by
    rw [List.filterMap_cons, List.filterMap_cons, h x List.mem_cons_self, fm_congr fun y hy => h y (List.mem_cons_of_mem _ hy)]
theorem pick_take {α : Type} (r : List α) : ∀ k, (List.range k).filterMap (fun m => r[m]?) = r.take k
  | 0 => rfl
  | k + 1 => by
    rw [List.range_succ, List.filterMap_append, pick_take r k, List.take_add_one]
    cases h : r[k]? <;> simp [h]
theorem pick_rev (xs : Array Value) : ((List.range xs.size).filterMap fun (m : Nat) => xs[(((xs.size : Int) - 1) + (m : Int) * (-1)).toNat]?) = xs.toList.reverse := by
  have e : (List.range xs.size).filterMap (fun (m : Nat) => xs[(((xs.size : Int) - 1) + (m : Int) * (-1)).toNat]?) = (List.range xs.size).filterMap (fun m => xs.toList.reverse[m]?) := by
    refine fm_congr fun m hm => ?_
    have hm' : m < xs.size := List.mem_range.mp hm
    have h1 : (((xs.size : Int) - 1) + (m : Int) * (-1)).toNat = xs.size - 1 - m := by omega
    rw [h1, List.getElem?_reverse (by simpa using hm'), Array.getElem?_toList, Array.length_toList]
  rw [e, pick_take]
  exact List.take_of_length_le (by simp)
theorem applied_rev {sl : Addr} {n : Nat} {u : Tok} {Q : Int × Int × Nat → Shared → Prop} (hs : s.heap.IsSliceOf sl .none .none (.int (-1) u)) (h : Q ((n : Int) - 1, -1, n) s) :
    wpAny (model prog w) A (Builtin.Slice.sliceApplied (.ref sl) (pure (n : Int))) Q E s := by
  obtain ⟨os, hos, hcs, hds⟩ := id hs
  unfold Builtin.Slice.sliceApplied Builtin.Slice.sliceFields
  refine wpAny_bind (wpAny_bind (wpAny_field hos hds (x := .none) rfl (wpAny_bind (wpAny_field hos hds (x := .none) rfl (wpAny_bind (wpAny_field hos hds (x := .int (-1) u) rfl (wpAny_pure ?_)))))))
  refine wpAny_bind (slicePart_int ?_)
  show wpAny _ _ (if ((-1 : Int) == 0) = true then _ else _) _ _ s
  rw [if_neg (by decide)]
  refine wpAny_bind (slicePart_none (wpAny_bind (slicePart_none (wpAny_bind (wpAny_pure ?_)))))
  show wpAny _ _ (match Builtin.Slice.sliceAdjust none none (-1) (n : Int) with | (lo, hi) => pure (lo, (-1 : Int), Builtin.Slice.slicePlaces lo hi (-1))) _ _ s
  rw [(places_rev n).1]
  show wpAny _ _ (pure ((n : Int) - 1, (-1 : Int), Builtin.Slice.slicePlaces ((n : Int) - 1) (-1) (-1))) _ _ s
  rw [(places_rev n).2]
  exact wpAny_pure h
theorem getItem_tuple_rev {t sl : Addr} {items : Array Value} {u : Tok} {Q : Value → Shared → Prop} (ht : IsTup s.heap t items) (hs : s.heap.IsSliceOf sl .none .none (.int (-1) u))
    (h : Q (.ref s.heap.objs.size) { s with heap := s.heap.push { cls := .type "tuple", data := .seq items.toList.reverse.toArray } }) (hsz : items.size ≤ sizeLine) : wpAny (model prog w) A (getItem (.ref t) (.ref sl)) Q E s := by
  have hok : sizeOk (.seq items.toList.reverse.toArray) := by
    show items.toList.reverse.toArray.size ≤ sizeLine
    rw [List.size_toArray, List.length_reverse, Array.length_toList]
    exact hsz
  obtain ⟨os, hos, hcs, hds⟩ := id hs
  have hTs : s.TypeIs (.ref sl) "slice" := ⟨os, hos, hcs⟩
  unfold getItem
  try with_reducible refine wpAny_holding ?_
  first | refine wpAny_bind (wpAny_pure ?_) | skip
  refine wpAny_bind (wpAny_sequenceKey ht.typeIs (by decide) ?_)
  refine wpAny_bind (wpAny_callSpecial?_slot (name := Str.ofString "__getitem__") ht.typeIs PyProof.Rows.slot_tuple_getitem
    (wpAny_call_entry PyProof.Rows.slot_tuple_getitem ht.typeIs entry_tuple_getitem ?_ (args_tuple_getitem _ _)))
  show wpAny _ _ (Builtin.Tuple.tupleItemsOf (.ref t) >>= _) _ _ s
  refine wpAny_bind (tupleItemsOf_ ht ?_)
  refine wpAny_bind (wpAny_typeOf hTs ?_)
  rw [if_pos (by decide)]
  refine wpAny_bind (applied_rev hs ?_)
  have hno : ¬ ((((items.size : Int) - 1) == 0 && (-1 : Int) == 1 && items.size == items.size) = true) := by simp
  show wpAny _ _ (if ((((items.size : Int) - 1) == 0 && (-1 : Int) == 1 && items.size == items.size) = true) then _ else _) _ _ s
  rw [if_neg hno, pick_rev]
  first
    | exact wpAny_bind (m := Builtin.Tuple.tupleExact _) (wpAny_newObj_type (wpAny_pure ⟨_, rfl, wpAny_pure h⟩) hok)
    | exact wpAny_bind (m := Builtin.Tuple.tupleExact _) (wpAny_newObj_type (wpAny_bind (wpAny_pure (wpAny_pure ⟨_, rfl, wpAny_pure h⟩))) hok)
    | exact wpAny_bind (wpAny_bind (m := Builtin.Tuple.tupleExact _) (wpAny_newObj_type (wpAny_pure (wpAny_pure ⟨_, rfl, wpAny_pure h⟩)) hok))
end
/-- t[::-1] of a tuple: a new tuple -/
def tRevT (K : PySem.W.Frag) (te : TE) : TE := fun σ H Q => te σ H fun x H1 => ∃ a xs, x = .ref a ∧ SqT K H1 a xs ∧ ∀ p, H1 p = none → Q (.ref p) (upd H1 p (.tup xs.reverse))
section
variable {X : Cx}
theorem pe_revT {e : Expr} {te : TE} {k : Nat} {p1 p2 p3 pos : Pos} (he : PE X e te) : PE X (.Subscript e (.Slice none none (some (.UnaryOp .USub (.Constant (.int 1) k p1) p2)) p3) pos) (tRevT X.K te) := by
  refine ⟨fun pins s σ H Q I h => ?_⟩
  refine Subscript_ (thn (he.run pins s σ H _ I h) fun v s1 ⟨x, H1, I1, r1, q1⟩ => ?_)
  obtain ⟨a, xs, ex, hx, q⟩ := q1
  subst ex
  cases r1
  have hst : PE X (.UnaryOp .USub (.Constant (.int 1) k p1) p2) (tUn (rU fun i => .int (-i)) (tC (.int 1))) := pe_un un_neg pe_int
  refine wpAny_Slice (thn (po_none.run pins s1 σ H1 (fun o H2 => o = none ∧ H2 = H1) I1 ⟨rfl, rfl⟩) fun vl s2 ⟨l, H2, I2, pl, el, e2⟩ => ?_)
  subst el e2
  refine thn (po_none.run pins s2 σ H2 (fun o H3 => o = none ∧ H3 = H2) I2 ⟨rfl, rfl⟩) fun vu s3 ⟨u, H3, I3, pu, eu, e3⟩ => ?_
  subst eu e3
  have hst2 : PO X (some (.UnaryOp .USub (.Constant (.int 1) k p1) p2)) (tPart (tUn (rU fun i => .int (-i)) (tC (.int 1)))) := po_some hst
  refine thn (hst2.run pins s3 σ H3 (fun o H4 => o = some (-1) ∧ H4 = H3) I3 ⟨1, rfl, -1, rfl, rfl, rfl⟩) fun vs s4 ⟨o, H4, I4, ps, eo, e4⟩ => ?_
  subst eo e4
  cases pl
  cases pu
  obtain ⟨u, rfl⟩ : ∃ u, vs = Value.int (-1) u := by
    cases ps with
    | int i t => exact ⟨_, rfl⟩
  have I5 : Inv X pins σ H4 { s4 with heap := s4.heap.push { cls := .type "slice", data := .fields #[.none, .none, .int (-1) u] } } := I4.kept (t' := s4.toks) fun b ob q => Heap.get?_push_of_some _ q
  obtain ⟨its, r, ht, hz⟩ := I5.tuple hx
  have hlen := r.length
  show wpAny (model X.prog X.w) X.A (subscriptTail e (.Slice none none (some (.UnaryOp .USub (.Constant (.int 1) k p1) p2)) p3) (.ref a) (.ref s4.heap.objs.size)) (EP X pins σ Q) X.xe { s4 with heap := s4.heap.push { cls := .type "slice", data := .fields #[.none, .none, .int (-1) u] } }
  refine tail_any (ops := [.ref a, .ref s4.heap.objs.size]) ht.typeIs PyProof.Rows.slot_tuple_getitem.lookup ?_ (by with_unfolding_all rfl)
  refine getItem_tuple_rev ht (Heap.IsSliceOf.new _ _ _ _) ?_ (by rw [List.size_toArray]; omega)
  refine ⟨.ref _, _, I5.laid (t' := s4.toks) (o := .tup xs.reverse) (fun b ob q => Heap.get?_push_of_some _ q) (Nat.le_refl _) ?_, rfl, q _ (I5.hok.fresh (Nat.le_refl _))⟩
  exact ⟨by rw [List.length_reverse]; exact hz, its.reverse, r.reverse, IsTup.new _ _⟩
end
end ZR
set_option Elab.async false
set_option linter.all false
set_option maxRecDepth 100000
set_option maxHeartbeats 2000000
/-! Rules of my own: for i, x in enumerate(t), t a tuple. -/
namespace ZR
open PySem PySem.Spec PyProof.Rows L2
open AutoSeq1 (wpAny_loadPart')
set_option maxHeartbeats 1000000 in
theorem meets_enum_tup (l : Addr) (items : Array Value) (n : Nat) (dct : Option Addr) (sl : Array (Option Value)) :
    Meets (Builtin.«enumerate.__new__» ⟨[.type "enumerate", .ref l], []⟩) (fun _ R s => s.heap.get? l = some { cls := .type "tuple", dict := dct, data := .seq items n, slots := sl } ∧
      R (.ok (.ret (.ref (s.heap.push { cls := .type "tuple_iterator", data := .fields #[.ref l, .int 0 0] }).objs.size)))
        { s with heap := (s.heap.push { cls := .type "tuple_iterator", data := .fields #[.ref l, .int 0 0] }).push { cls := .type "enumerate", data := .fields #[.none, .bool false, .ref s.heap.objs.size, rawInt 0, .none, .none] } }) :=
  .of_wp fun prog w A R s h => by
    obtain ⟨hp, g, d, tk, os⟩ := s; obtain ⟨hl, h⟩ := h
    have hsub := sub_enumerate
    have hL : Heap.IsTuple (Shared.heap ⟨hp, g, d, tk, os⟩) l items := ⟨_, hl, rfl, n, rfl⟩
    wp_walk using wpAny_loadPart' hl
    refine wpAny_stack_any fun st => wpAny_pure ?_
    split
    · rename_i c _ _ _ _ _
      cases (c == Value.type "enumerate")
      · wp_walk using wpAny_loadPart' hl, wpAny_pyIter_tuple hL
        exact ⟨_, rfl, h⟩
      · wp_walk using wpAny_loadPart' hl, wpAny_pyIter_tuple hL
        exact ⟨_, rfl, h⟩
    · wp_walk using wpAny_loadPart' hl, wpAny_pyIter_tuple hL
      exact ⟨_, rfl, h⟩
section
variable {prog : Program} {w : World} {A : Around} {E : Value → Shared → Prop} {s : Shared}
theorem call_enum_tup {l : Addr} {items : Array Value} {Q : Value → Shared → Prop} (hL : IsTup s.heap l items)
    (h : ∀ h', IsEnum h' (s.heap.objs.size + 1) s.heap.objs.size 0 .none → h'.IsTupleIter s.heap.objs.size l 0 →
      (∀ b o, s.heap.get? b = some o → h'.get? b = some o) → Q (.ref (s.heap.objs.size + 1)) { s with heap := h' }) :
    wpAny (model prog w) A (call (.type "enumerate") [.ref l]) Q E s := by
  obtain ⟨⟨c, dct, dt, sl⟩, hl, hc, n, hd⟩ := hL
  replace hc : c = .type "tuple" := hc
  replace hd : dt = .seq items n := hd
  subst hc hd
  refine callType_new F.called_enumerate (by decide) (F.typeCall_enumerate_1 _) (F.newCall_enumerate_1 _) (fun obj => F.args_object_init_2 obj _) F.entry_enumerate_new
    (meets_enum_tup l items n dct sl) ⟨hl, ?_⟩
  have hz : (s.heap.push { cls := .type "tuple_iterator", data := .fields #[.ref l, .int 0 0] }).objs.size = s.heap.objs.size + 1 := Heap.size_push ..
  show _ ∧ _
  rw [hz]
  have he : IsEnum ((s.heap.push { cls := .type "tuple_iterator", data := .fields #[.ref l, .int 0 0] }).push
      { cls := .type "enumerate", data := .fields #[.none, .bool false, .ref s.heap.objs.size, rawInt 0, .none, .none] }) (s.heap.objs.size + 1) s.heap.objs.size 0 .none := by
    have := Heap.get?_push_size (s.heap.push { cls := .type "tuple_iterator", data := .fields #[.ref l, .int 0 0] })
      (o := { cls := .type "enumerate", data := .fields #[.none, .bool false, .ref s.heap.objs.size, rawInt 0, .none, .none] }) rfl
    rw [hz] at this
    exact this
  exact ⟨⟨_, he, rfl⟩, h _ he ⟨_, Heap.get?_push_of_some _ (Heap.get?_push_size _ rfl), rfl, rfl⟩ fun b o x => Heap.get?_push_of_some _ (Heap.get?_push_of_some _ x)⟩
end
/-- the tuple at a, each item in a new pair with its number -/
def Itet (K : PySem.W.Frag) (a : Addr) : It :=
  ⟨fun i H => ∃ (xs : List V) (x : V), SqT K H a xs ∧ xs[i]? = some x, fun i H v H' => ∃ T x, v = .ref T ∧ H T = none ∧ H' = upd H T (.tup [.int (i : Nat), x]) ∧ ∀ xs, SqT K H a xs → xs[i]? = some x, fun i H => ∃ xs : List V, SqT K H a xs ∧ xs.length = i⟩
theorem turn_enumT {P : Program} {w : World} {K : PySem.W.Frag} {elts : List Expr} {kk : Nat} {tpos : Pos} (a e it : Addr) :
    Turn P w K (.Tuple elts kk tpos) (Itet K a) [e, it] e (fun i h => (∃ old, IsEnum h e it ((i : Nat) : Int) old) ∧ h.IsTupleIter it a i ∧ e ≠ it) where
  mem := by simp
  obj := fun i h st b hb => by
    obtain ⟨⟨old, he⟩, ⟨o, ho, hc, hd⟩, _⟩ := st
    have e' : b = e ∨ b = it := by simpa using hb
    rcases e' with z | z
    · rw [z]; exact ⟨_, he, fun v q => nomatch q⟩
    · rw [z]; exact ⟨o, ho, fun v q => by rw [hd] at q; cases q⟩
  keep := fun i h h' st k => let ⟨⟨old, he⟩, hi, hne⟩ := st; ⟨⟨old, k e (by simp) _ he⟩, hi.at fun o q => k it (by simp) o q, hne⟩
  item := by
    intro X hP hw hK hc i pins s σ H E I hf st hg
    subst hP hw hK
    obtain ⟨⟨old, he⟩, hit, hne⟩ := st
    obtain ⟨xs, x, hq, hx⟩ := hg
    obtain ⟨its, rv, p, hz⟩ := I.tuple hq
    obtain ⟨u, hu, ru⟩ := rv.get hx
    have hel : e < s.heap.objs.size := Heap.lt_size he
    have hil : it < s.heap.objs.size := by obtain ⟨_, q, _⟩ := hit; exact Heap.lt_size q
    have hae : a ≠ e := fun z => by
      obtain ⟨o, ho, hc, _⟩ := p
      rw [z] at ho
      have he' : s.heap.get? e = some _ := he
      rw [he'] at ho
      cases ho
      injection hc with q
      exact absurd q (by decide)
    have hai : a ≠ it := fun z => by
      obtain ⟨o, ho, hc, _⟩ := p
      obtain ⟨o2, ho2, hc2, _⟩ := hit
      rw [z, ho2] at ho
      cases ho
      rw [hc2] at hc
      injection hc with q
      exact absurd q (by decide)
    have D := Draws.tuple (prog := X.prog) (w := X.w) (A := X.A.in1) (I.ok.hd hc) it a hai its.toArray
    have hlt : i < its.toArray.size := by
      rw [List.size_toArray]
      exact (List.getElem?_eq_some_iff.mp hu).1
    refine wpAny_pyNext_enum_itemD D he ⟨hit, p⟩ hlt hne (by simp [hae.symm, hne]) fun x' h' tk hx' ho st' hT hsz hk => ?_
    have ex : x' = u := by
      have z : its.toArray[i]? = some x' := hx'
      rw [List.getElem?_toArray, hu] at z
      exact (Option.some.inj z).symm
    subst ex
    refine ⟨_, rfl, wpAny_letOwnedTupleGo_enum (s := { s with heap := h', toks := tk + 1 }) ho fun h'' he' sb => ?_⟩
    have hT2 : h''.get? s.heap.objs.size = some { cls := .type "tuple", data := .seq #[.int i tk, x'] } := (sb.2 _ (Nat.ne_of_gt hel)).trans hT
    have new : ObjOk X.prog X.w (upd H s.heap.objs.size (.tup [.int (i : Nat), x])) h'' s.heap.objs.size (.tup [.int (i : Nat), x]) :=
      ⟨by show 2 ≤ sizeLine; decide, [.int i tk, x'], .cons ⟨_, rfl⟩ (.cons ru .nil), ⟨_, hT2, rfl, _, rfl⟩⟩
    have I1 : Inv X pins σ (upd H s.heap.objs.size (.tup [.int (i : Nat), x])) { s with heap := h'', toks := tk + 1 } :=
      I.turnedNew (ch := [e, it]) (fun b ob hb q => (sb.2 b (fun z => hb (by simp [z]))).trans (hk b ob (fun z => hb (by simp [z])) (fun z => hb (by simp [z])) q)) hf (Nat.le_refl _) new
    refine ⟨.ref s.heap.objs.size, _, I1, rfl, ⟨_, x, rfl, I.hok.fresh (Nat.le_refl _), rfl, fun ys hy => ?_⟩, ⟨⟨x', ?_⟩, st'.1.at fun o q => (sb.2 it (Ne.symm hne)).trans q, hne⟩, fun b hb => ?_⟩
    · rw [I.tuple_inj hy hq]
      exact hx
    · have e1 : ((i + 1 : Nat) : Int) = (i : Int) + 1 := by omega
      rw [e1]; exact he'
    · have hb' : b < s.heap.objs.size := by
        have e' : b = e ∨ b = it := by simpa using hb
        rcases e' with z | z
        · rw [z]; exact hel
        · rw [z]; exact hil
      rw [upd_ne (Nat.ne_of_lt hb')]
      exact (hf b hb).1
  done := by
    intro X hP hw hK hc i pins s σ H E I hf st hg
    subst hP hw hK
    obtain ⟨⟨old, he⟩, hit, hne⟩ := st
    obtain ⟨xs, hq, hx⟩ := hg
    obtain ⟨its, rv, p, hz⟩ := I.tuple hq
    obtain ⟨f0, f1, f2, f3, f4, f5⟩ := hf it (by simp)
    have hl := rv.length
    have hai : a ≠ it := fun z => by
      obtain ⟨o, ho, hc, _⟩ := p
      obtain ⟨o2, ho2, hc2, _⟩ := hit
      rw [z, ho2] at ho
      cases ho
      rw [hc2] at hc
      injection hc with q
      exact absurd q (by decide)
    have D := Draws.tuple (prog := X.prog) (w := X.w) (A := X.A.in1) (I.ok.hd hc) it a hai its.toArray
    have hsz : its.toArray.size = i := by
      rw [List.size_toArray, ← hl]
      exact hx
    refine wpAny_pyNext_enum_endD D he (by rw [hsz]; exact ⟨hit, p⟩) fun h' eb => ?_
    exact ⟨rfl, I.turned (t' := s.toks) (fun b o hb q => eb b o hb q) f0 f1 f3 f4 f5⟩
  self := fun A i s Q E st h => let ⟨⟨_, he⟩, _⟩ := st; wpAny_pyIter_enum he h
def iEnumT (K : PySem.W.Frag) (ta : TA) : TI := fun σ H R => ta σ H fun vs H1 => ∃ a xs, vs = [.ref a] ∧ SqT K H1 a xs ∧ R (Itet K a) H1
theorem pi_enumT {X : Cx} {e : Expr} {ta : TA} {p pos tpos : Pos} {elts : List Expr} {kk : Nat} (hg : Gl X "enumerate") (hm : X.mg "enumerate" = none) (ha : PA X [e] ta) (hs : starEach [e] X.env = [(false, eval e X.env)] := by rfl) :
    PI X (.Tuple elts kk tpos) (.Call (.Name "enumerate" p) [e] [] pos) (iEnumT X.K ta) := by
  refine ⟨fun pins s σ H R I h => ?_⟩
  refine Call_ (ld_blt I hg hm boot_enumerate (PyProof.Rows.callWith_type1 (thn (ha.run pos pins s σ H _ I h) fun us s1 ⟨vs, H1, I1, r1, q1⟩ => ?_) hs rfl))
  obtain ⟨a, xs, ex, hq, q⟩ := q1
  subst ex
  cases r1 with
  | cons r rr =>
    cases rr
    cases r
    obtain ⟨its, rv, p', hz⟩ := I1.tuple hq
    refine call_enum_tup p' fun h' he hit hk => wpAny_pyIter_enum he ?_
    have I2 : Inv X pins σ H1 { s1 with heap := h' } := I1.kept (t' := s1.toks) hk
    refine ⟨s1.heap.objs.size + 1, [s1.heap.objs.size + 1, s1.heap.objs.size], _, _, H1, rfl, I2, turn_enumT a (s1.heap.objs.size + 1) s1.heap.objs.size, ⟨⟨.none, he⟩, hit, Nat.succ_ne_self _⟩, fun b hb => ?_, q⟩
    have hle : s1.heap.objs.size ≤ b := by
      have e' : b = s1.heap.objs.size + 1 ∨ b = s1.heap.objs.size := by simpa using hb
      rcases e' with z | z
      · rw [z]; exact Nat.le_add_right _ _
      · rw [z]; exact Nat.le_refl _
    exact I1.fpOk hle (I1.hok.fresh hle)
theorem walk_enumT {K : PySem.W.Frag} {a : Addr} {xs : List V} : Walk (Itet K a) xs.length (fun H => SqT K H a xs) (YPair (fun i => some (.int (i : Nat))) (fun i => xs[i]?)) := by
  refine ⟨fun i _ hi q => ⟨xs, xs[i], q, by simp [hi]⟩, fun _ q => ⟨xs, q, rfl⟩, fun i H v H' _ q y => ?_⟩
  obtain ⟨T, x, h1, h2, h3, h4⟩ := y
  exact ⟨T, .int (i : Nat), x, h1, h2, h3, rfl, h4 xs q⟩
end ZR
set_option Elab.async false
set_option linter.all false
set_option maxRecDepth 100000
set_option maxHeartbeats 4000000
/-! Rules of my own: sets of texts, made by a comprehension of one or two walks, or of a list, and sorted. -/
namespace ZR
open PySem PySem.Spec PyProof.Rows L2
/-- the text of an entry -/
def txt (e : Int × Value) : Str := match e.2 with
  | .str x _ => x
  | _ => Str.empty
/-- entries and table of a set of the texts ks (in some order) -/
structure Tx (w : World) (es : Array (Int × Value)) (t : SetTable) (ks : List Str) : Prop where
  pm : (es.toList.map txt).Perm ks
  gd : ∀ e ∈ es.toList, ∃ x u, e = (hashStr w x, Value.str x u)
  nd : ks.Nodup
  sm : es.size < scanBound
  ft : t.fits es.size = true
  ri : Ris t.place.toList
  ld : w.params.followText "set-order" = true ∨ t.led = true
def SetS (w : World) (h : Heap) (a : Addr) (ks : List Str) : Prop := ∃ o es ep t, h.get? a = some o ∧ o.ExactSet ∧ o.data = .set es ep t ∧ Tx w es t ks
/-- ks with x -/
def ins (x : Str) (ks : List Str) : List Str := if x ∈ ks then ks else ks ++ [x]
theorem SetS.at {w : World} {h h' : Heap} {a : Addr} {ks : List Str} (R : SetS w h a ks) (k : ∀ o, h.get? a = some o → h'.get? a = some o) : SetS w h' a ks := by
  obtain ⟨o, es, ep, t, ho, r⟩ := R
  exact ⟨o, es, ep, t, k o ho, r⟩
section
variable {P : Program} {w : World} {es : Array (Int × Value)} {t : SetTable} {ks : List Str}
theorem Tx.len (T : Tx w es t ks) : es.size = ks.length := by
  rw [← T.pm.length_eq, List.length_map, Array.length_toList]
theorem Tx.elems (T : Tx w es t ks) : ElemsOf (PySem.strKind P w) es.toList := fun e he => by
  obtain ⟨x, u, rfl⟩ := T.gd e he
  exact ⟨⟨x, strKind_is _ _ _ _, rfl⟩, rfl⟩
theorem Tx.mem (T : Tx w es t ks) (x : Str) : x ∈ ks ↔ ∃ e ∈ es.toList, (PySem.strKind P w).is x e.2 = true := by
  rw [← T.pm.mem_iff, List.mem_map]
  constructor
  · rintro ⟨e, he, q⟩
    obtain ⟨y, u, rfl⟩ := T.gd e he
    have e2 : y = x := q
    subst e2
    exact ⟨_, he, strKind_is _ _ _ _⟩
  · rintro ⟨e, he, q⟩
    obtain ⟨y, u, rfl⟩ := T.gd e he
    obtain ⟨u', e2⟩ := Value.isStrOf_shape (show Value.isStrOf x (Value.str y u) = true from q)
    have e3 : y = x := by
      injection e2
    exact ⟨_, he, show y = x from e3⟩
/-- a new text is laid -/
theorem Tx.lay (T : Tx w es t ks) {x : Str} (hx : x ∉ ks) (u : Tok) (room : ks.length + 1 < scanBound) : Tx w (layNew t es (hashStr w x) (.str x u)).1 (layNew t es (hashStr w x) (.str x u)).2.1 (ks ++ [x]) := by
  have p0 := layNew_perm t es (hashStr w x) (.str x u)
  rw [Array.toList_push] at p0
  refine ⟨?_, fun e he => ?_, ?_, ?_, layNew_fits t es _ _, layNew_ris t es _ _ T.ri, T.ld.imp id fun z => by rw [layNew_led t es _ _]; exact z⟩
  · have q := p0.map txt
    rw [List.map_append] at q
    exact q.trans (T.pm.append_right _)
  · rcases List.mem_append.mp (p0.mem_iff.mp he) with z | z
    · exact T.gd e z
    · exact ⟨x, u, List.mem_singleton.mp z⟩
  · exact List.nodup_append.mpr ⟨T.nd, by simp, fun a ha b hb e => hx (by rw [← List.mem_singleton.mp hb, ← e]; exact ha)⟩
  · rw [← Array.length_toList, p0.length_eq, List.length_append, Array.length_toList, T.len]
    exact room
/-- the table is laid anew -/
theorem Tx.relay (T : Tx w es t ks) (n : Nat) : Tx w (relayAll t es n).1 (relayAll t es n).2.1 ks := by
  have p0 := relayAll_perm t es n
  refine ⟨(p0.map txt).trans T.pm, fun e he => T.gd e (p0.mem_iff.mp he), T.nd, ?_, relayAll_fits t es n, relayAll_ris t es n, T.ld.imp id fun z => by rw [relayAll_led t es n]; exact z⟩
  rw [← Array.length_toList, p0.length_eq, Array.length_toList]
  exact T.sm
end
section
variable {P : Program} {w : World} {A : Around} {E : Value → Shared → Prop} {s : Shared} {a : Addr} {ks : List Str}
theorem put_at {h : Heap} {o : Obj} {es es' : Array (Int × Value)} {ep : Nat} {t t' : SetTable} (ho : h.get? a = some o) (hd : o.data = .set es ep t) :
    (h.update a (Obj.putSet es' t')).get? a = some { o with data := .set es' (ep + 1) t' } := by
  have q := Heap.get?_update_self (Obj.putSet es' t') ho (by rw [putSet_of es' t' hd]; rfl)
  rw [putSet_of es' t' hd] at q
  exact q
theorem putS_ok {o : Obj} {es es1 : Array (Int × Value)} {ep : Nat} {t t1 : SetTable} {Q : Unit → Shared → Prop} (ho : s.heap.get? a = some o) (hex : o.ExactSet) (hd : o.data = .set es ep t) (T : Tx w es1 t1 ks)
    (h : ∀ h' o', h'.get? a = some o' → o'.ExactSet → (∃ e', o'.data = .set es1 e' t1) → Heap.SameBut a s.heap h' → Q () { s with heap := h' }) : wpAny (model P w) A (storeSet a es1 t1) Q E s :=
  wpAny_storeSet_of ho hd (h _ _ (put_at ho hd) hex ⟨_, rfl⟩ (Heap.SameBut.update s.heap a _)) (fits_of_scanBound T.sm)
theorem gave_ok {b : Bool} {Q : Unit → Shared → Prop} (q : Q () s) : wpAny (model P w) A (match b with | true => rule "set.scan.the-table-gave-way" | false => pure ()) Q E s := by
  cases b
  · exact wpAny_pure q
  · exact wpAny_rule q
theorem addS_tail {g : Bool → Sem Unit} (hg : ∀ (b : Bool) (s₁ : Shared) (Q' : Unit → Shared → Prop), Q' () s₁ → wpAny (model P w) A (g b) Q' E s₁)
    {o : Obj} {es es1 : Array (Int × Value)} {ep : Nat} {t t1 : SetTable} {wd : Bool} {R : Option Bool → Shared → Prop} (ho : s.heap.get? a = some o) (hex : o.ExactSet) (hd : o.data = .set es ep t) (T : Tx w es1 t1 ks)
    (hR : ∀ h', Heap.SameBut a s.heap h' → SetS w h' a ks → R (some true) { s with heap := h' }) :
    wpAny (model P w) A (do
        storeSet a es1 t1
        if (!wd && t1.tooFull) = true then do
            g (relayAll t1 es1 (SetTable.grown es1.size)).2.2
            storeSet a (relayAll t1 es1 (SetTable.grown es1.size)).1 (relayAll t1 es1 (SetTable.grown es1.size)).2.1
            pure (some true)
          else pure (some true)) R E s := by
  refine wpAny_bind (putS_ok ho hex hd T fun h1 o1 ho1 hex1 ⟨e1, hd1⟩ sb1 => ?_)
  split
  · refine wpAny_bind (hg _ _ _ ?_)
    refine wpAny_bind (putS_ok (s := { s with heap := h1 }) ho1 hex1 hd1 (T.relay _) fun h2 o2 ho2 hex2 ⟨e2, hd2⟩ sb2 => ?_)
    exact wpAny_pure (hR h2 (sb1.trans sb2) ⟨o2, _, e2, _, ho2, hex2, hd2, T.relay _⟩)
  · exact wpAny_pure (hR h1 sb1 ⟨o1, es1, e1, t1, ho1, hex1, hd1, T⟩)
/-- set.add of a text, behind its hash -/
theorem addS_hashed {x : Str} {u : Tok} {Q : Bool → Shared → Prop} (R : SetS w s.heap a ks) (room : ks.length + 1 < scanBound)
    (hQ : ∀ (h' : Heap) (b : Bool), Heap.SameBut a s.heap h' → SetS w h' a (ins x ks) → Q b { s with heap := h' }) :
    wpAny (model P w) A (setAddHashed a (.str x u) ((PySem.strKind P w).hash x)) Q E s := by
  obtain ⟨o, es, ep, t, ho, hex, hd, T⟩ := R
  have hkey : (PySem.strKind P w).is x (.str x u) = true := strKind_is _ _ _ _
  have hsc : (Value.str x u).scannable = true := rfl
  have hel : ElemsOf (PySem.strKind P w) es.toList := T.elems
  unfold setAddHashed setAddHashedIn
  refine wpAny_holding (wpAny_bind (wpAny_setState_of ho hd T.ft ?_))
  dsimp only
  rw [byScan_of hsc T.sm hel]
  simp only [↓reduceIte]
  unfold setAddByScan
  refine wpAny_bind (wpAny_bind (wpAny_rule (wpAny_bind (wpAny_setScan_of hkey ho hd T.ft hel ?_))))
  by_cases hx : x ∈ ks
  · have hf : ∃ j, List.findIdx? (fun e => (PySem.strKind P w).is x e.2) es.toList = some j := by
      cases q : List.findIdx? (fun e => (PySem.strKind P w).is x e.2) es.toList with
      | some j => exact ⟨j, rfl⟩
      | none =>
        obtain ⟨e, he, z⟩ := (T.mem (P := P) x).mp hx
        have c := List.findIdx?_eq_none_iff.mp q e he
        rw [z] at c
        cases c
    obtain ⟨j, hj⟩ := hf
    rw [hj]
    dsimp only
    refine wpAny_pure (wpAny_pure ?_)
    have q : SetS w s.heap a (ins x ks) := by
      unfold ins
      rw [if_pos hx]
      exact ⟨o, es, ep, t, ho, hex, hd, T⟩
    exact hQ s.heap _ (Heap.SameBut.refl a s.heap) q
  · have hf : List.findIdx? (fun e => (PySem.strKind P w).is x e.2) es.toList = none := by
      refine List.findIdx?_eq_none_iff.mpr fun e he => ?_
      cases z : (PySem.strKind P w).is x e.2 with
      | false => rfl
      | true => exact absurd ((T.mem (P := P) x).mpr ⟨e, he, z⟩) hx
    rw [hf]
    dsimp only
    have T1 : Tx w (layNew t es ((PySem.strKind P w).hash x) (.str x u)).1 (layNew t es ((PySem.strKind P w).hash x) (.str x u)).2.1 (ks ++ [x]) := T.lay hx u room
    have ei : ins x ks = ks ++ [x] := if_neg hx
    generalize layNew t es ((PySem.strKind P w).hash x) (.str x u) = Z at T1 ⊢
    obtain ⟨es1, t1, wd, gv⟩ := Z
    dsimp only at T1 ⊢
    refine wpAny_bind (gave_ok ?_)
    have fin : ∀ h', Heap.SameBut a s.heap h' → SetS w h' a (ks ++ [x]) → wpAny (model P w) A (pure true) Q E { s with heap := h' } := fun h' sb r => wpAny_pure (hQ h' true sb (by rw [ei]; exact r))
    split
    · refine wpAny_bind ?_
      rw [hashByValue_scannable 8 hsc]
      refine wpAny_pure ?_
      refine addS_tail ?_ ho hex hd (ks := ks ++ [x]) ?_ ?_
      · intro b s₁ Q' q
        exact gave_ok q
      · split
        · exact T1
        · exact ⟨T1.pm, T1.gd, T1.nd, T1.sm, SetTable.fits_plain_off T1.ft, T1.ri, T1.ld⟩
      · intro h' sb r
        exact fin h' sb r
    · refine wpAny_bind (wpAny_pure ?_)
      simp only [↓reduceIte]
      refine addS_tail ?_ ho hex hd (ks := ks ++ [x]) T1 ?_
      · intro b s₁ Q' q
        exact gave_ok q
      · intro h' sb r
        exact fin h' sb r
end
end ZR
set_option Elab.async false
set_option linter.all false
set_option maxRecDepth 100000
set_option maxHeartbeats 4000000
/-! Rules of my own: {e for t0 in i0 for t1 in i1}, e a text. -/
namespace ZR
open PySem PySem.Spec PyProof.Rows L2
/-! ### sets of texts as tracked things -/
def SetTO (w : World) (a : Addr) (ks : List Str) : HO := .ext fun h => SetS w h a ks
theorem setTO_new {w : World} {P : Program} {H : Hp} {h : Heap} {a : Addr} {ks : List Str} (R : SetS w h a ks) : ObjOk P w H h a (SetTO w a ks) := by
  have ⟨o, _, _, _, ho, _⟩ := R
  exact ⟨R, ⟨o, ho⟩, fun h1 h2 p k => SetS.at p k⟩
theorem setTO_get {X : Cx} {pins : List (Addr × Obj)} {σ : L2.St} {H : Hp} {s : Shared} {a : Addr} {ks : List Str} (I : Inv X pins σ H s) (ha : H a = some (SetTO X.w a ks)) : SetS X.w s.heap a ks := (I.hok a _ ha).1
theorem setS_fresh {h : Heap} (w : World) : SetS w (h.push { cls := .type "set", dict := none, data := .set #[] 0 (.fresh 0 0 (!w.params.followText "set-order")) }) h.objs.size [] :=
  ⟨_, #[], 0, _, Heap.get?_push_size _ rfl, ⟨rfl, rfl, rfl⟩, rfl, .refl _, fun e he => by simp at he, List.nodup_nil, by decide, by rfl, List.Pairwise.nil, by
    show _ ∨ (!w.params.followText "set-order") = true
    cases w.params.followText "set-order"
    · exact .inr rfl
    · exact .inl rfl⟩
section
variable {X : Cx} {pins : List (Addr × Obj)} {σ : L2.St} {H : Hp} {s : Shared} {E : Value → Shared → Prop} {D : Addr} {ks : List Str} {x : Str} {u : Tok} {Q : Value → Shared → Prop}
/-- set.add of a text to a tracked set -/
theorem addT_ok (I : Inv X pins σ H s) (hD : H D = some (SetTO X.w D ks)) (room : ks.length + 1 < scanBound) (h : ∀ s', Inv X pins σ (upd H D (SetTO X.w D (ins x ks))) s' → Q .none s') :
    wpAny (model X.prog X.w) X.A (call (.builtin "set.add") [.ref D, .str x u]) Q E s := by
  have R := setTO_get I hD
  have hT : s.TypeIs (.ref D) "set" := by
    obtain ⟨o, _, _, _, ho, hex, _⟩ := R
    exact ⟨o, ho, hex.1⟩
  refine wpAny_call_entry F.slot_set_add hT F.entry_set_add ?_ (F.args_set_add_2 _ _)
  unfold Builtin.«set.add» Builtin.Frozenset.oneOther
  simp only [List.isEmpty_nil, bind_assoc]
  unfold Builtin.Frozenset.addrOf setAdd
  refine wpAny_bind (wpAny_pure ?_)
  try dsimp only
  refine wpAny_bind (wpAny_pure ?_)
  try dsimp only
  refine wpAny_bind (wpAny_holding (wpAny_bind ((PySem.strKind X.prog X.w).pyHash (k := x) (strKind_is _ _ _ _) ?_)))
  refine addS_hashed (s := { s with toks := s.toks + 1 }) R room fun h' b sb r => ?_
  show wpAny _ _ (ret Value.none) _ _ _
  refine wpAny_pure ⟨_, rfl, ?_⟩
  obtain ⟨o, es, ep, t, ho, rr⟩ := id r
  exact h _ (I.write (e := D) (t' := s.toks + 1) (by rw [hD]; trivial) (.inl rfl) (fun b u hb hu => (sb.2 b hb).trans hu) ⟨o, ho⟩ (setTO_new r))
end
/-! ### the comprehension's code -/
abbrev SC2 (elt t0 i0 t1 i1 : Expr) (sc : Scope) (pos : Pos) : Expr := .SetComp elt [⟨t0, i0, [], 0⟩, ⟨t1, i1, [], 0⟩] sc pos
section
variable {elt t0 i0 t1 i1 : Expr} {sc : Scope} {pos : Pos} {it acc : Value} {env : Env}
theorem turn_0 : compTurn (SC2 elt t0 i0 t1 i1 sc pos) 0 it acc env = (do
    standAt i0.pos
    match ← pyNext it with
    | none => pure (.done .next)
    | some v =>
      letOwnedTupleGo t0 it v
      assign t0 env v
      let x ← eval i1 env
      standAt i1.pos
      let x ← foldedSetIterable i1 env x
      let _ ← runOwn (.compStart (SC2 elt t0 i0 t1 i1 sc pos) 1 (← holding [x] (pyIter x)) acc env) env
      again (.compLoop (SC2 elt t0 i0 t1 i1 sc pos) 0 it acc env)) := by rfl
theorem turn_1 : compTurn (SC2 elt t0 i0 t1 i1 sc pos) 1 it acc env = (do
    standAt i1.pos
    match ← pyNext it with
    | none => pure (.done .next)
    | some v =>
      letOwnedTupleGo t1 it v
      assign t1 env v
      (do let v ← eval elt env; standAt elt.pos; let _ ← call (.builtin "set.add") [acc, v])
      again (.compLoop (SC2 elt t0 i0 t1 i1 sc pos) 1 it acc env)) := by rfl
end
section
variable {prog : Program} {w : World} {A : Around} {R : Result → Shared → Prop} {s : Shared} {elt t0 i0 t1 i1 : Expr} {sc : Scope} {pos : Pos} {it acc : Value} {env : Env}
/-- what is wished where the block raises -/
abbrev Nt (prog : Program) (w : World) (A : Around) (env : Env) (R : Result → Shared → Prop) : Value → Shared → Prop := notedBy (model prog w) A env fun e s' => R (.error e) s'
theorem loop_0 (hs : ∀ x, foldedSetIterable i1 env x = pure x) (I : Nat → Shared → Prop)
    (turn : ∀ n s, I n s → wpAny (model prog w) A (pyNext it) (fun r s1 => match r with
      | none => R (.ok .next) s1
      | some v => wpAny (model prog w) A (letOwnedTupleGo t0 it v) (fun _ s2 => wpAny (model prog w) A (assign t0 env v) (fun _ s3 => wpAny (model prog w) A (eval i1 env) (fun x s4 => wpAny (model prog w) A (pyIter x) (fun it1 s5 =>
          codeAny (model prog w) A (.compStart (SC2 elt t0 i0 t1 i1 sc pos) 1 it1 acc env) (fun r s' => (∃ f, r = .ok f) ∧ ∃ m, m < n ∧ I m s') s5)
        (Nt prog w A env R) s4) (Nt prog w A env R) s3) (Nt prog w A env R) s2) (Nt prog w A env R) s1) (Nt prog w A env R) s)
    (n : Nat) (h : I n s) : codeAny (model prog w) A (.compLoop (SC2 elt t0 i0 t1 i1 sc pos) 0 it acc env) R s := by
  refine codeAny_loop rfl I (fun n s hI => ?_) n h
  show wpAny _ A ((compTurn (SC2 elt t0 i0 t1 i1 sc pos) 0 it acc env).onRaise (fun x => do noteFrame x env; theTreesLotGoes x)) _ _ s
  refine wpAny_noted ?_
  rw [turn_0]
  refine wpAny_bind (wpAny_standAt (wpAny_bind (wpAny_mono (turn n s hI) (fun r s1 h1 => ?_) fun _ _ z => z)))
  cases r with
  | none => exact wpAny_pure h1
  | some v =>
    refine wpAny_bind (wpAny_mono h1 (fun _ s2 h2 => wpAny_bind (wpAny_mono h2 (fun _ s3 h3 => wpAny_bind (wpAny_mono h3 (fun x s4 h4 => ?_) fun _ _ z => z)) fun _ _ z => z)) fun _ _ z => z)
    refine wpAny_bind (wpAny_standAt (wpAny_bind (wpAny_of_eq (hs x) (wpAny_bind (wpAny_holding (wpAny_mono h4 (fun it1 s5 h5 => ?_) fun _ _ z => z))))))
    refine wpAny_bind (wpAny_runOwn ?_)
    rw [Around.mark_none]
    refine codeAny_mono h5 fun r s' hr => ?_
    obtain ⟨⟨f, rfl⟩, hm⟩ := hr
    first
      | exact wpAny_pure ⟨rfl, hm⟩
      | exact wpAny_bind (wpAny_pure (wpAny_pure ⟨rfl, hm⟩))
theorem loop_1 (I : Nat → Shared → Prop)
    (turn : ∀ n s, I n s → wpAny (model prog w) A (pyNext it) (fun r s1 => match r with
      | none => R (.ok .next) s1
      | some v => wpAny (model prog w) A (letOwnedTupleGo t1 it v) (fun _ s2 => wpAny (model prog w) A (assign t1 env v) (fun _ s3 => wpAny (model prog w) A (eval elt env) (fun x s4 =>
          wpAny (model prog w) A (call (.builtin "set.add") [acc, x]) (fun _ s' => ∃ m, m < n ∧ I m s')
        (Nt prog w A env R) s4) (Nt prog w A env R) s3) (Nt prog w A env R) s2) (Nt prog w A env R) s1) (Nt prog w A env R) s)
    (n : Nat) (h : I n s) : codeAny (model prog w) A (.compLoop (SC2 elt t0 i0 t1 i1 sc pos) 1 it acc env) R s := by
  refine codeAny_loop rfl I (fun n s hI => ?_) n h
  show wpAny _ A ((compTurn (SC2 elt t0 i0 t1 i1 sc pos) 1 it acc env).onRaise (fun x => do noteFrame x env; theTreesLotGoes x)) _ _ s
  refine wpAny_noted ?_
  rw [turn_1]
  refine wpAny_bind (wpAny_standAt (wpAny_bind (wpAny_mono (turn n s hI) (fun r s1 h1 => ?_) fun _ _ z => z)))
  cases r with
  | none => exact wpAny_pure h1
  | some v =>
    refine wpAny_bind (wpAny_mono h1 (fun _ s2 h2 => wpAny_bind (wpAny_mono h2 (fun _ s3 h3 => ?_) fun _ _ z => z)) fun _ _ z => z)
    refine wpAny_bind (wpAny_bind (wpAny_mono h3 (fun x s4 h4 => wpAny_bind (wpAny_standAt (wpAny_bind (wpAny_mono h4 (fun _ s' hm => ?_) fun _ _ z => z)))) fun _ _ z => z))
    first
      | exact wpAny_pure (wpAny_pure ⟨rfl, hm⟩)
      | exact wpAny_pure ⟨rfl, hm⟩
theorem start_1 (h0 : codeAny (model prog w) A (.compLoop (SC2 elt t0 i0 t1 i1 sc pos) 1 it acc env) R s)
    (h : wpAny (model prog w) A (pyIter it) (fun it' s' => codeAny (model prog w) A (.compLoop (SC2 elt t0 i0 t1 i1 sc pos) 1 it' acc env) R s') (Nt prog w A env R) s) :
    codeAny (model prog w) A (.compStart (SC2 elt t0 i0 t1 i1 sc pos) 1 it acc env) R s := by
  refine codeAny_of_tree ?_
  show wpAny _ _ ((compStart (SC2 elt t0 i0 t1 i1 sc pos) 1 it acc env).onRaise (fun x => do noteFrame x env; standAt theWindowsPlace)) _ _ s
  refine wpAny_notedAt ?_
  unfold compStart
  show wpAny _ _ (ask >>= _) _ _ s
  refine wpAny_bind (wpAny_askSetting (wpAny_ite ?_))
  split
  · first
      | exact wpAny_bind (wpAny_pure (wpAny_pure (And.intro rfl h0)))
      | exact wpAny_pure (And.intro rfl h0)
  · first
      | exact wpAny_bind (wpAny_rule (wpAny_bind (wpAny_standAt (wpAny_bind (wpAny_mono h (fun it' s' h' => wpAny_pure (And.intro rfl h')) fun _ _ x => x)))))
      | (refine wpAny_bind (wpAny_rule ?_); show wpAny _ _ (standAt i1.pos >>= _) _ _ s; exact wpAny_bind (wpAny_standAt (wpAny_bind (wpAny_mono h (fun it' s' h' => wpAny_pure (And.intro rfl h')) fun _ _ x => x))))
end
end ZR
set_option Elab.async false
set_option linter.all false
set_option maxRecDepth 100000
set_option maxHeartbeats 4000000
namespace ZR
open PySem PySem.Spec PyProof.Rows L2
theorem wipe_keep {x : Option V} {i : Nat} : ∀ {vs : List Nat} {σ : L2.St}, σ[i]? = some x → ¬ i ∈ vs → (wipe σ vs)[i]? = some x
  | [], σ, h, _ => h
  | v :: vs, σ, h, n => by
    show ((wipe σ vs).set v none)[i]? = some x
    have hne : v ≠ i := fun e => n (by rw [e]; exact List.mem_cons_self)
    rw [List.getElem?_set_ne hne]
    exact wipe_keep h fun z => n (List.mem_cons_of_mem _ z)
/-! ### one turn of a walk within a block -/
/-- between two turns -/
def Mid (Y : Cx) (fpw : List Addr) (tn : Nat → Heap → Prop) (π : List (Addr × Obj)) (σ0 : L2.St) (W : Nat → Nat → Hp → Prop) (n : Nat) (s : Shared) : Prop :=
  ∃ i H, Inv Y π σ0 H s ∧ tn i s.heap ∧ (∀ b ∈ fpw, H b = none) ∧ W i n H
theorem walk_turn {Y : Cx} {tg : Expr} {J : It} {fpw : List Addr} {it : Addr} {tn : Nat → Heap → Prop} {π : List (Addr × Obj)} {σ0 : L2.St} {vs : List Nat} {g : TG} {W : Nat → Nat → Hp → Prop} {rest : L2.St → Hp → (Hp → Prop) → Prop} {Qs : Hp → Prop}
    (hc : Y.calm = true) (hx : Y.xe = fun _ _ => False) (T : Turn Y.prog Y.w Y.K tg J fpw it tn) (pg : PG Y tg g) (hst : ∀ H, (∀ b ∈ fpw, H b = none) → ∀ b ∈ fpw, FpOk Y π H b)
    (turn : ∀ i m H, W i m H → (J.stop i H ∧ Qs H) ∨ (J.go i H ∧ ∃ Nx : Hp → Prop, (∀ H', Nx H' → ∃ m', m' < m ∧ W (i + 1) m' H') ∧ ∀ x H', J.yld i H x H' → g x σ0 H' fun σ2 H2 => wipe σ2 vs = σ0 ∧ rest σ2 H2 Nx))
    {n : Nat} {s : Shared} (hK : Mid Y fpw tn π σ0 W n s) {Rn Rb : Shared → Prop} {N : Value → Shared → Prop}
    (hstop : ∀ H s', Inv Y π σ0 H s' → Qs H → Rn s')
    (hgo : ∀ σ8 H8 s8 h7 (Nx : Hp → Prop), Inv Y (π ++ pinsAt fpw h7) σ8 H8 s8 → wipe σ8 vs = σ0 → rest σ8 H8 Nx →
      (∀ σ9 H' s', Inv Y (π ++ pinsAt fpw h7) σ9 H' s' → σ0.length = σ9.length → (∀ (j : Nat) v, σ0[j]? = some (some v) → σ9[j]? = some (some v)) → Nx H' → ∃ m, m < n ∧ Mid Y fpw tn π σ0 W m s') → Rb s8) :
    wpAny (model Y.prog Y.w) Y.A (pyNext (.ref it)) (fun r s1 => match r with
      | none => Rn s1
      | some v => wpAny (model Y.prog Y.w) Y.A (letOwnedTupleGo tg (.ref it) v) (fun _ s2 => wpAny (model Y.prog Y.w) Y.A (assign tg Y.env v) (fun _ s3 => Rb s3) N s2) N s1) N s := by
  obtain ⟨i, H, I, st, hn, w⟩ := hK
  rcases turn i n H w with ⟨stop, q⟩ | ⟨go, Nx, hNx, step⟩
  · refine thnF (T.done Y rfl rfl rfl hc i π s σ0 H (fun _ _ => False) I (hst H hn) st stop) fun r s1 ⟨hr, I1⟩ => ?_
    subst hr
    exact hstop H s1 I1 q
  · refine thnF (T.item Y rfl rfl rfl hc i π s σ0 H (fun _ _ => False) I (hst H hn) st go) fun r s1 ⟨u, hr, h1⟩ => ?_
    subst hr
    refine thnF h1 fun _ s2 ⟨x, H2, I2, r2, y2, st2, n2⟩ => ?_
    have P2 := I2.pinned (hst H2 n2) (T.obj _ _ st2)
    have pr := pg.run _ s2 σ0 H2 x u _ P2 r2 (step x H2 y2)
    rw [hx] at pr
    refine thnF pr fun _ s3 ⟨σ8, H8, I8, hw8, q8⟩ => ?_
    refine hgo σ8 H8 s3 s2.heap Nx I8 hw8 q8 fun σ9 H' s' I' hl hk nx => ?_
    obtain ⟨m', hm, w'⟩ := hNx H' nx
    have pin : ∀ b ∈ fpw, ∀ o, s2.heap.get? b = some o → s'.heap.get? b = some o ∧ H' b = none := fun b hb o e =>
      let z := I'.pin (b, o) (List.mem_append_right _ (List.mem_append_right _ (mem_pinsAt hb e)))
      ⟨z.1, z.2.1⟩
    refine ⟨m', hm, i + 1, H', (I'.unpinned (pins := π)).weak hl hk, T.keep _ _ _ st2 fun b hb o e => (pin b hb o e).1, fun b hb => ?_, w'⟩
    obtain ⟨o, e, _⟩ := T.obj _ _ st2 b hb
    exact (pin b hb o e).2
/-! ### the comprehension -/
/-- {elt for tg in iter for tg1 in iter1}, elt a text; vs: the block's names, vs1: those of the second target -/
def tSc2 (w : World) (wi : TI) (g : TG) (wi1 : TI) (g1 : TG) (te : TE) (vs vs1 : List Nat) : TE := fun σ H Q => wi σ H fun J H1 => ∀ D, H1 D = none → ∃ W : Nat → Nat → Hp → Prop, (∃ m, W 0 m (upd H1 D (SetTO w D []))) ∧ ∀ i m H, W i m H →
  (J.stop i H ∧ Q (.ref D) H) ∨ (J.go i H ∧ ∃ Nx : Hp → Prop, (∀ H', Nx H' → ∃ m', m' < m ∧ W (i + 1) m' H') ∧ ∀ x H', J.yld i H x H' → g x (wipe σ vs) H' fun σ2 H2 => wipe σ2 vs = wipe σ vs ∧
    wi1 σ2 H2 fun J1 H4 => ∃ W1 : Nat → Nat → Hp → Prop, (∃ k, W1 0 k H4) ∧ ∀ j k H, W1 j k H → (J1.stop j H ∧ Nx H) ∨ (J1.go j H ∧ ∃ Nx1 : Hp → Prop, (∀ H', Nx1 H' → ∃ k', k' < k ∧ W1 (j + 1) k' H') ∧
      ∀ x H', J1.yld j H x H' → g1 x (wipe σ2 vs1) H' fun σ3 H5 => wipe σ3 vs1 = wipe σ2 vs1 ∧ te σ3 H5 fun y H6 => ∃ (z : Str) (ks : List Str), y = .str z ∧ H6 D = some (SetTO w D ks) ∧ ks.length + 1 < scanBound ∧ Nx1 (upd H6 D (SetTO w D (ins z ks)))))
section
variable {X : Cx}
theorem pe_sc2 {elt tg iter tg1 iter1 : Expr} {scope : Scope} {own : List (Str × Nat)} {vs1 : List Nat} {pos : Pos} {wi wi1 : TI} {g g1 : TG} {te : TE} (hc : X.calm = true) (hN : X.N.Nodup) (hi : PI X tg iter wi) (ok : BlkOk X.N X.env.scope scope own) (hv : ∀ i ∈ vs1, i ∈ own.map (·.2))
    (hg : ∀ (s : Shared) (H : Hp) (C : Addr) (cl : List (Str × Addr)) (fp : List Addr), PG (X.blk s H scope (compEnvC scope cl C X.env) fp) tg g)
    (hi1 : ∀ (s : Shared) (H : Hp) (C : Addr) (cl : List (Str × Addr)) (fp : List Addr), PI (X.blk s H scope (compEnvC scope cl C X.env) fp) tg1 iter1 wi1)
    (hg1 : ∀ (s : Shared) (H : Hp) (C : Addr) (cl : List (Str × Addr)) (fp : List Addr), PG (X.blk s H scope (compEnvC scope cl C X.env) fp) tg1 g1)
    (he : ∀ (s : Shared) (H : Hp) (C : Addr) (cl : List (Str × Addr)) (fp : List Addr), PE (X.blk s H scope (compEnvC scope cl C X.env) fp) elt te)
    (hs : ∀ x, foldedSetIterable iter X.env x = pure x := by intro _; rfl) (hs1 : ∀ env x, foldedSetIterable iter1 env x = pure x := by intro _ _; rfl) :
    PE X (.SetComp elt [⟨tg, iter, [], 0⟩, ⟨tg1, iter1, [], 0⟩] scope pos) (tSc2 X.w wi g wi1 g1 te (own.map (·.2)) vs1) := by
  refine ⟨fun pins s σ H Q I h => ?_⟩
  rw [PpSet.eval_SetComp]
  have hfree : ∀ y ∈ scope.names, y.2 = .free → ∃ c, X.env.cells.lookup y.1 = some c := fun y hy e => (ok.free y hy e).elim (fun k => I.ok.has _ (.inl k)) fun k => I.ok.has _ (.inr k)
  refine wpAny_comprehension_free (use := none) rfl hs (closure_ok hfree) ok.kind (fun y hy e => by rw [ok.uniq y hy, e])
    (thn (hi.run pins s σ H _ I h) fun xv s1 hx => thn hx fun itv s2 ⟨it, fp, tn, J, H2, e, I2, T, st2, f2, q⟩ => ?_)
  subst e
  refine PpSet.newSet_ok (newEnv_comp ?_)
  -- the new set
  generalize hD : s2.heap.objs.size = D
  obtain ⟨W, ⟨m0, w0⟩, turn⟩ := q D (I2.hok.fresh (Nat.le_of_eq hD))
  generalize hS : ({ s2 with heap := s2.heap.push { cls := .type "set", dict := none, data := .set #[] 0 (.fresh 0 0 (!X.w.params.followText "set-order")) } } : Shared) = s3
  have kp : ∀ b o, s2.heap.get? b = some o → s3.heap.get? b = some o := fun b o e => by
    rw [← hS]
    exact Heap.get?_push_of_some _ e
  have sz3 : s3.heap.objs.size = s2.heap.objs.size + 1 := by
    rw [← hS]
    exact Heap.size_push _ _
  have I3 : Inv X pins σ (upd H2 D (SetTO X.w D [])) s3 := by
    rw [← hS]
    refine I2.laid (t' := s2.toks) (fun b o e => Heap.get?_push_of_some _ e) (Nat.le_of_eq hD) ?_
    rw [← hD]
    exact setTO_new (setS_fresh X.w)
  have f3 : ∀ b ∈ fp, FpOk X pins (upd H2 D (SetTO X.w D [])) b ∧ b < s3.heap.objs.size := fun b hb => by
    obtain ⟨o, e, _⟩ := T.obj _ _ st2 b hb
    have hlt := Heap.lt_size e
    refine ⟨⟨?_, (f2 b hb).2⟩, by rw [sz3]; exact Nat.lt_succ_of_lt hlt⟩
    rw [upd_ne (by rw [← hD]; exact Nat.ne_of_lt hlt)]
    exact (f2 b hb).1
  have st3 : tn 0 s3.heap := T.keep _ _ _ st2 fun b _ o e => kp b o e
  have I4 := block_start I3 ok hN f3
  generalize hcl : cellsFrom (s3.heap.objs.size + 1) scope.names (cloFrom X.env.cells scope.names []) = cl at I4
  have pg := hg s3 (upd H2 D (SetTO X.w D [])) s3.heap.objs.size cl fp
  have pi1 := hi1 s3 (upd H2 D (SetTO X.w D [])) s3.heap.objs.size cl fp
  have pg1 := hg1 s3 (upd H2 D (SetTO X.w D [])) s3.heap.objs.size cl fp
  have pe := he s3 (upd H2 D (SetTO X.w D [])) s3.heap.objs.size cl fp
  show codeAny (model X.prog X.w) X.A (.compStart (SC2 elt tg iter tg1 iter1 scope pos) 0 (.ref it) (.ref D) (compEnvC scope cl s3.heap.objs.size X.env)) (compPost (model X.prog X.w) X.A X.xe none (EP X pins σ Q) (.ref D) s3.heap.objs.size) { s3 with heap := pushCells (s3.heap.push { cls := .type "dict", data := .dict #[] }) scope.names }
  have nfp : ∀ b ∈ fp, (upd H2 D (SetTO X.w D [])) b = none := fun b hb => (f3 b hb).1.1
  generalize hce : compEnvC scope cl s3.heap.objs.size X.env = ce at I4 pg pi1 pg1 pe ⊢
  have cL : ce.locals = s3.heap.objs.size := by
    subst hce
    rfl
  generalize hH3 : upd H2 D (SetTO X.w D []) = H3 at I3 I4 pg pi1 pg1 pe w0 nfp f3
  generalize hs4 : ({ s3 with heap := pushCells (s3.heap.push { cls := .type "dict", data := .dict #[] }) scope.names } : Shared) = s4 at I4 ⊢
  have st4 : tn 0 s4.heap := T.keep _ _ _ st3 fun b _ o e => by
    rw [← hs4]
    exact pushCells_keeps _ _ _ _ (Heap.get?_push_of_some _ e)
  have stat : ∀ {σ' : L2.St} {H' : Hp} {s' : Shared} {π : List (Addr × Obj)} {fpw : List Addr}, Inv (X.blk s3 H3 scope ce fp) [] σ' H' s' → (∀ b ∈ fp, H' b = none) → ∀ b ∈ fp, FpOk (X.blk s3 H3 scope ce fp) [] H' b := fun {σ' H' s' _ _} I' hn b hb =>
    ⟨hn b hb, (I'.ok.exf b hb).1, I'.ok.exfs b hb, .inl hb, fun x c e => (I'.ok.exf b hb).2 x c e, fun p hp => absurd (show p ∈ ([] : List (Addr × Obj)) ++ [] from hp) (by simp)⟩
  have stat0 : ∀ H', (∀ b ∈ fp, H' b = none) → ∀ b ∈ fp, FpOk (X.blk s3 H3 scope ce fp) [] H' b := fun H' hn b hb =>
    ⟨hn b hb, (I4.ok.exf b hb).1, I4.ok.exfs b hb, .inl hb, fun x c e => (I4.ok.exf b hb).2 x c e, fun p hp => absurd (show p ∈ ([] : List (Addr × Obj)) ++ [] from hp) (by simp)⟩
  have loop : codeAny (model X.prog X.w) X.A (.compLoop (SC2 elt tg iter tg1 iter1 scope pos) 0 (.ref it) (.ref D) ce) (compPost (model X.prog X.w) X.A X.xe none (EP X pins σ Q) (.ref D) s3.heap.objs.size) s4 := by
    refine loop_0 (hs1 _) (Mid (X.blk s3 H3 scope ce fp) fp tn [] (wipe σ (own.map (·.2))) W) (fun n s5 hM => ?_) m0 ⟨0, H3, I4, st4, nfp, w0⟩
    refine walk_turn (Y := X.blk s3 H3 scope ce fp) hc rfl T pg stat0 turn hM (fun H5 s6 I6 qq => ?_) (fun σ8 H8 s8 h7 Nx I8 hw8 q8 back => ?_)
    · have I7 : Inv X pins σ H5 s6 := I3.call' (ch := fp) I6.os I6.base I6.hok I6.bare fun b hb => ⟨(f3 b hb).1.2.2.2.1, (f3 b hb).1.2.1, (f3 b hb).1.2.2.2.2.1, (f3 b hb).1.2.2.2.2.2⟩
      have nC : H5 s3.heap.objs.size = none := by
        have z : H5 ce.locals = none := I6.free
        rw [cL] at z
        exact z
      obtain ⟨m, hn, _⟩ := I6.loc
      have hn : s6.heap.Ns ce.locals m := hn
      rw [cL] at hn
      obtain ⟨f0, f1, f2, f3, f4, f5⟩ := I3.fpOk (Nat.le_refl _) nC
      exact ⟨m, hn, fun h'' sb => ⟨.ref D, H5, I7.turned (t' := s6.toks) (fun b o hb e => (sb.2 b hb).trans e) f0 f1 f3 f4 f5, rfl, qq⟩⟩
    · refine thnF (pi1.run _ s8 σ8 H8 _ I8 q8) fun xv1 s9 hx1 => thnF hx1 fun itv1 s10 ⟨it1, fp1, tn1, J1, H4, e1, I10, T1, st10, f10, W1, ⟨k0, w1⟩, turn1⟩ => ?_
      subst e1
      have I10' := I10.weak (σ' := wipe σ8 vs1) (wipe_length ..) fun j v e => (wipe_some e).1
      refine start_1 ?_ (T1.self _ 0 _ _ _ st10 ?_)
      all_goals
        refine loop_1 (Mid (X.blk s3 H3 scope ce fp) fp1 tn1 _ (wipe σ8 vs1) W1) (fun k s11 hM1 => ?_) k0 ⟨0, H4, I10', st10, fun b hb => (f10 b hb).1, w1⟩
        refine walk_turn (Y := X.blk s3 H3 scope ce fp) hc rfl T1 pg1 (fun H' hn b hb => ⟨hn b hb, (f10 b hb).2⟩) turn1 hM1 (fun H5 s6 I6 qq => ?_) (fun σ9 H9 s12 h8 Nx1 I9 hw9 q9 back1 => ?_)
        · refine ⟨⟨_, rfl⟩, back _ _ _ I6 ?_ ?_ qq⟩
          · have z := congrArg List.length hw8
            rw [wipe_length, wipe_length] at z
            rw [wipe_length, wipe_length, z]
          · intro j v e
            rw [← hw8] at e
            obtain ⟨e1, e2⟩ := wipe_some e
            exact wipe_keep e1 fun z => e2 (hv j z)
        · refine thnF (pe.run _ s12 σ9 H9 _ I9 q9) fun z s13 ⟨yv, H10, I11, r10, zz, ks, ey, hD10, hz10, nx⟩ => ?_
          subst ey
          obtain ⟨u, hu⟩ : ∃ u, z = Value.str zz u := r10
          subst hu
          exact addT_ok (X := X.blk s3 H3 scope ce fp) I11 hD10 hz10 fun s14 I14 => back1 _ _ _ I14 (by have z := congrArg List.length hw9; rw [wipe_length, wipe_length] at z; rw [wipe_length, z]) (fun j v e => (wipe_some (by rw [hw9]; exact e)).1) nx
  exact PpSet.codeAny_compStart_set loop (T.self X.A 0 _ _ _ st4 loop)
end
end ZR
set_option Elab.async false
set_option linter.all false
set_option maxRecDepth 100000
set_option maxHeartbeats 4000000
/-! Comprehensions whose words are not opened by themselves. -/
namespace ZR
open PySem PySem.Spec PyProof.Rows L2
@[irreducible] def tLcS (wi : TI) (g : TG) (tt : TT) (te : TE) (vs : List Nat) : TE := tLc wi g tt te vs
theorem lcS : @tLcS = @tLc := by
  funext wi g tt te vs
  unfold tLcS
  rfl
@[irreducible] def tSc2S (w : World) (wi : TI) (g : TG) (wi1 : TI) (g1 : TG) (te : TE) (vs vs1 : List Nat) : TE := tSc2 w wi g wi1 g1 te vs vs1
theorem sc2S : @tSc2S = @tSc2 := by
  funext w wi g wi1 g1 te vs vs1
  unfold tSc2S
  rfl
section
variable {X : Cx}
theorem pe_lcS {elt tg iter : Expr} {ifs : List Expr} {scope : Scope} {own : List (Str × Nat)} {pos : Pos} {wi : TI} {g : TG} {tt : TT} {te : TE} (hc : X.calm = true) (hN : X.N.Nodup) (hi : PI X tg iter wi) (ok : BlkOk X.N X.env.scope scope own)
    (hg : ∀ (s : Shared) (H : Hp) (C : Addr) (cl : List (Str × Addr)) (fp : List Addr), PG (X.blk s H scope (compEnvC scope cl C X.env) fp) tg g) (ht : ∀ (s : Shared) (H : Hp) (C : Addr) (cl : List (Str × Addr)) (fp : List Addr), PTs (X.blk s H scope (compEnvC scope cl C X.env) fp) ifs tt)
    (he : ∀ (s : Shared) (H : Hp) (C : Addr) (cl : List (Str × Addr)) (fp : List Addr), PE (X.blk s H scope (compEnvC scope cl C X.env) fp) elt te) (hs : ∀ x, foldedSetIterable iter X.env x = pure x := by intro _; rfl) :
    PE X (.ListComp elt [⟨tg, iter, ifs, 0⟩] scope pos) (tLcS wi g tt te (own.map (·.2))) := by
  rw [lcS]
  exact pe_lc hc hN hi ok hg ht he hs
theorem ps_setLcS {i : Nat} {y : Str} {py : Pos} {elt tg iter : Expr} {ifs : List Expr} {scope : Scope} {own : List (Str × Nat)} {pos spos : Pos} {wi : TI} {g : TG} {tt : TT} {te : TE} (hc : X.calm = true) (hN : X.N.Nodup) (hy : X.N[i]? = some y) (hyl : X.env.scope.names.lookup y = some .local)
    (hsw : swapsWith (.ListComp elt [⟨tg, iter, ifs, 0⟩] scope pos) (some (.Name y py)) spos.line X.env = pure true) (hi : PI X tg iter wi) (ok : BlkOk X.N X.env.scope scope own)
    (hg : ∀ (s : Shared) (H : Hp) (C : Addr) (cl : List (Str × Addr)) (fp : List Addr), PG (X.blk s H scope (compEnvC scope cl C X.env) fp) tg g) (ht : ∀ (s : Shared) (H : Hp) (C : Addr) (cl : List (Str × Addr)) (fp : List Addr), PTs (X.blk s H scope (compEnvC scope cl C X.env) fp) ifs tt)
    (he : ∀ (s : Shared) (H : Hp) (C : Addr) (cl : List (Str × Addr)) (fp : List Addr), PE (X.blk s H scope (compEnvC scope cl C X.env) fp) elt te) (hs : ∀ x, foldedSetIterable iter X.env x = pure x := by intro _; rfl) :
    PS X (.Assign [.Name y py] (.ListComp elt [⟨tg, iter, ifs, 0⟩] scope pos) spos) (tAsg (tLcS wi g tt te (own.map (·.2))) (gName i)) := by
  rw [lcS]
  exact ps_setLc hc hN hy hyl hsw hi ok hg ht he hs
theorem pe_sc2S {elt tg iter tg1 iter1 : Expr} {scope : Scope} {own : List (Str × Nat)} {vs1 : List Nat} {pos : Pos} {wi wi1 : TI} {g g1 : TG} {te : TE} (hc : X.calm = true) (hN : X.N.Nodup) (hi : PI X tg iter wi) (ok : BlkOk X.N X.env.scope scope own) (hv : ∀ i ∈ vs1, i ∈ own.map (·.2))
    (hg : ∀ (s : Shared) (H : Hp) (C : Addr) (cl : List (Str × Addr)) (fp : List Addr), PG (X.blk s H scope (compEnvC scope cl C X.env) fp) tg g)
    (hi1 : ∀ (s : Shared) (H : Hp) (C : Addr) (cl : List (Str × Addr)) (fp : List Addr), PI (X.blk s H scope (compEnvC scope cl C X.env) fp) tg1 iter1 wi1)
    (hg1 : ∀ (s : Shared) (H : Hp) (C : Addr) (cl : List (Str × Addr)) (fp : List Addr), PG (X.blk s H scope (compEnvC scope cl C X.env) fp) tg1 g1)
    (he : ∀ (s : Shared) (H : Hp) (C : Addr) (cl : List (Str × Addr)) (fp : List Addr), PE (X.blk s H scope (compEnvC scope cl C X.env) fp) elt te)
    (hs : ∀ x, foldedSetIterable iter X.env x = pure x := by intro _; rfl) (hs1 : ∀ env x, foldedSetIterable iter1 env x = pure x := by intro _ _; rfl) :
    PE X (.SetComp elt [⟨tg, iter, [], 0⟩, ⟨tg1, iter1, [], 0⟩] scope pos) (tSc2S X.w wi g wi1 g1 te (own.map (·.2)) vs1) := by
  rw [sc2S]
  exact pe_sc2 hc hN hi ok hv hg hi1 hg1 he hs hs1
/-! cuts -/
def tCutE (te : TE) : TE := fun σ H Q => ∃ M : VK, te σ H M ∧ ∀ v H', M v H' → Q v H'
theorem pe_cut {e : Expr} {te : TE} (h : PE X e te) : PE X e (tCutE te) := ⟨fun pins s σ H Q I ⟨M, h1, h2⟩ => thn (h.run pins s σ H M I h1) fun u s' ⟨v, H', I', r, q⟩ => ⟨v, H', I', r, h2 v H' q⟩⟩
def tCutT (tt : TT) : TT := fun σ H Q => ∃ M : Bool → Hp → Prop, tt σ H M ∧ ∀ b H', M b H' → Q b H'
theorem pt_cut {e : Expr} {tt : TT} (h : PT X e tt) : PT X e (tCutT tt) := ⟨fun pins s σ H Q I ⟨M, h1, h2⟩ => thn (h.run pins s σ H M I h1) fun b s' ⟨H', I', q⟩ => ⟨H', I', h2 b H' q⟩⟩
def tCutS (t : TS) : TS := fun D σ H => ∃ Mid : L2.St → Hp → Prop, t { D with nx := Mid } σ H ∧ ∀ σ' H', Mid σ' H' → D.nx σ' H'
theorem ps_cut {st : Stmt} {t : TS} (h : PS X st t) : PS X st (tCutS t) := by
  refine ⟨fun pins s σ H D I ⟨Mid, h1, h2⟩ => thn (h.run pins s σ H { D with nx := Mid } I h1) fun f s1 q => ?_⟩
  cases f with
  | next =>
    obtain ⟨σ', H', I', q⟩ := q
    exact ⟨σ', H', I', h2 σ' H' q⟩
  | ret v => exact q
  | brk => exact q
  | cont => exact q
end
end ZR
set_option Elab.async false
set_option linter.all false
set_option maxRecDepth 100000
set_option maxHeartbeats 4000000
/-! Programs: rows and blocks as own data, how they stand in the heap, their numbering. -/
namespace PM
open PySem PySem.Spec PyProof.Rows L2 ZX
inductive Rw where
  | note (x o : Str) (ps : List Str)
  | copy (x y : Str)
  | give (x : Str) (i : Int)
  | ask (x : Str)
  | prt (x : Str)
  | either (a b : List Rw)
  | again (a : List Rw)
mutual
def dR : Rw → PyData
  | .note x o ps => .tuple [.str "note", .str x, .str o, .tuple (ps.map .str)]
  | .copy x y => .tuple [.str "copy", .str x, .str y]
  | .give x i => .tuple [.str "give", .str x, .int i]
  | .ask x => .tuple [.str "ask", .str x]
  | .prt x => .tuple [.str "print", .str x]
  | .either a b => .tuple [.str "either", .tuple (dB a), .tuple (dB b)]
  | .again a => .tuple [.str "again", .tuple (dB a)]
def dB : List Rw → List PyData
  | [] => []
  | r :: b => dR r :: dB b
end
mutual
/-- a row and those within -/
def rowsR : Rw → List Rw
  | .either a b => .either a b :: (rowsB a ++ rowsB b)
  | .again a => .again a :: rowsB a
  | .note x o ps => [.note x o ps]
  | .copy x y => [.copy x y]
  | .give x i => [.give x i]
  | .ask x => [.ask x]
  | .prt x => [.prt x]
def rowsB : List Rw → List Rw
  | [] => []
  | r :: b => rowsR r ++ rowsB b
end
/-- the blocks within a row -/
def inner : Rw → List (List Rw)
  | .either a b => [a, b]
  | .again a => [a]
  | _ => []
def namesR : Rw → List Str
  | .note x _ ps => x :: ps
  | .copy x y => [x, y]
  | .give x _ => [x]
  | .ask x => [x]
  | .prt x => [x]
  | _ => []
mutual
/-- the next places of a row's rows -/
def leadsR : Rw → Nat → Nat → List (List Nat)
  | .either a b, p, e => [if a.isEmpty then e else p + 1, if b.isEmpty then e else p + 1 + (rowsB a).length] :: (leadsB a (p + 1) e ++ leadsB b (p + 1 + (rowsB a).length) e)
  | .again a, p, e => [if a.isEmpty then p else p + 1, e] :: leadsB a (p + 1) p
  | .note _ _ _, _, e => [[e]]
  | .copy _ _, _, e => [[e]]
  | .give _ _, _, e => [[e]]
  | .ask _, _, e => [[e]]
  | .prt _, _, e => [[e]]
def leadsB : List Rw → Nat → Nat → List (List Nat)
  | [], _, _ => []
  | r :: b, p, e => leadsR r p (if b.isEmpty then e else p + (rowsR r).length) ++ leadsB b (p + (rowsR r).length) e
end
mutual
/-- how deep blocks stand within -/
def depR : Rw → Nat
  | .either a b => max (depB a) (depB b) + 1
  | .again a => depB a + 1
  | .note _ _ _ => 0
  | .copy _ _ => 0
  | .give _ _ => 0
  | .ask _ => 0
  | .prt _ => 0
def depB : List Rw → Nat
  | [] => 0
  | r :: b => max (depR r) (depB b)
end
theorem rowsR_eq (r : Rw) : rowsR r = r :: (inner r).flatMap rowsB := by
  cases r <;> simp [rowsR, inner]
theorem dB_eq : ∀ b : List Rw, dB b = b.map dR
  | [] => rfl
  | r :: b => by rw [dB, dB_eq b]; rfl
theorem rowsB_eq : ∀ b : List Rw, rowsB b = b.flatMap rowsR
  | [] => rfl
  | r :: b => by rw [rowsB, rowsB_eq b]; rfl
theorem rowsR_pos (r : Rw) : 0 < (rowsR r).length := by
  rw [rowsR_eq]
  exact Nat.succ_pos _
mutual
theorem leadsR_len : ∀ (r : Rw) (p e : Nat), (leadsR r p e).length = (rowsR r).length
  | .either a b, p, e => by simp [leadsR, rowsR, leadsB_len a, leadsB_len b]
  | .again a, p, e => by simp [leadsR, rowsR, leadsB_len a]
  | .note _ _ _, _, _ => rfl
  | .copy _ _, _, _ => rfl
  | .give _ _, _, _ => rfl
  | .ask _, _, _ => rfl
  | .prt _, _, _ => rfl
theorem leadsB_len : ∀ (b : List Rw) (p e : Nat), (leadsB b p e).length = (rowsB b).length
  | [], _, _ => rfl
  | r :: b, p, e => by simp [leadsB, rowsB, leadsR_len r, leadsB_len b]
end
/-! ### in the heap -/
mutual
/-- a thing of tuples, texts, numbers, flags -/
inductive Tv (K : PySem.W.Frag) (H : Hp) : V → PyData → Prop
  | non : Tv K H .non .none
  | bl (b : Bool) : Tv K H (.bl b) (.bool b)
  | int (i : Int) : Tv K H (.int i) (.int i)
  | str (x : Str) : Tv K H (.str x) (.str x)
  | tup {a : Addr} {xs : List V} {ds : List PyData} : SqT K H a xs → Tvs K H xs ds → Tv K H (.ref a) (.tuple ds)
inductive Tvs (K : PySem.W.Frag) (H : Hp) : List V → List PyData → Prop
  | nil : Tvs K H [] []
  | cons {v : V} {vs : List V} {d : PyData} {ds : List PyData} : Tv K H v d → Tvs K H vs ds → Tvs K H (v :: vs) (d :: ds)
end
/-- all tuples stand -/
def Pt (H H' : Hp) : Prop := ∀ b xs, Rd H b (.tup xs) → Rd H' b (.tup xs)
theorem Pt.refl (H : Hp) : Pt H H := fun _ _ h => h
theorem Pt.trans {H H1 H2 : Hp} (a : Pt H H1) (b : Pt H1 H2) : Pt H H2 := fun c o h => b c o (a c o h)
theorem _root_.L2.Same.pt {H H' : Hp} (s : Same H H') : Pt H H' := fun b xs h => h.elim (fun h => .inl (s _ _ h)) fun ⟨o, h⟩ => .inr ⟨o, s _ _ h⟩
/-- a list changes -/
theorem Pt.lst {H : Hp} {a : Addr} {xs : List V} {o : HO} (h : H a = some (.lst xs)) : Pt H (upd H a o) := fun b ys hb => by
  have ne : b ≠ a := fun e => by
    subst e
    rcases hb with hb | ⟨o, hb⟩ <;> rw [h] at hb <;> cases hb
  exact hb.elim (fun h => .inl (by rw [upd_ne ne]; exact h)) fun ⟨o, h⟩ => .inr ⟨o, by rw [upd_ne ne]; exact h⟩
theorem Pt.new {H : Hp} {a : Addr} {o : HO} (h : H a = none) : Pt H (upd H a o) := Same.pt fun b u e => by
  rw [upd_ne (ne_of_none e h)]
  exact e
theorem Kp.pt {p : Addr} {H H' : Hp} {xs : List V} (h : H p = some (.lst xs)) (k : Kp p H H') : Pt H H' := fun b ys hb => by
  have ne : b ≠ p := fun e => by
    subst e
    rcases hb with hb | ⟨o, hb⟩ <;> rw [h] at hb <;> cases hb
  exact hb.elim (fun h => .inl (k _ _ ne h)) fun ⟨o, h⟩ => .inr ⟨o, k _ _ ne h⟩
section
variable {K : PySem.W.Frag} {H H' : Hp}
theorem Pt.sq {a : Addr} {xs : List V} (p : Pt H H') (h : SqT K H a xs) : SqT K H' a xs := h.imp (p _ _) id
mutual
theorem Tv.pt (p : Pt H H') : ∀ {v : V} {d : PyData}, Tv K H v d → Tv K H' v d
  | _, _, .non => .non
  | _, _, .bl b => .bl b
  | _, _, .int i => .int i
  | _, _, .str x => .str x
  | _, _, .tup h t => .tup (p.sq h) (Tvs.pt p t)
theorem Tvs.pt (p : Pt H H') : ∀ {vs : List V} {ds : List PyData}, Tvs K H vs ds → Tvs K H' vs ds
  | _, _, .nil => .nil
  | _, _, .cons h t => .cons (Tv.pt p h) (Tvs.pt p t)
end
mutual
theorem Tv.dp : ∀ {v : V} {d : PyData}, Tv K H v d → Dp K H v d
  | _, _, .non => .non
  | _, _, .bl b => .bl b
  | _, _, .int i => .int i
  | _, _, .str x => .str x
  | _, _, .tup h t => .tup h (Tvs.dp t)
theorem Tvs.dp : ∀ {vs : List V} {ds : List PyData}, Tvs K H vs ds → DpAll K H vs ds
  | _, _, .nil => .nil
  | _, _, .cons h t => .cons (Tv.dp h) (Tvs.dp t)
end
theorem Tvs.len : ∀ {vs : List V} {ds : List PyData}, Tvs K H vs ds → vs.length = ds.length
  | _, _, .nil => rfl
  | _, _, .cons _ t => congrArg Nat.succ (Tvs.len t)
theorem Tvs.app : ∀ {vs : List V} {ds : List PyData} {us : List V} {es : List PyData}, Tvs K H vs ds → Tvs K H us es → Tvs K H (vs ++ us) (ds ++ es)
  | _, _, _, _, .nil, t => t
  | _, _, _, _, .cons h t, u => .cons h (Tvs.app t u)
theorem Tvs.get : ∀ {vs : List V} {ds : List PyData} {i : Nat} {d : PyData}, Tvs K H vs ds → ds[i]? = some d → ∃ v, vs[i]? = some v ∧ Tv K H v d
  | _, _, i, _, .nil, e => by simp at e
  | _, _, 0, _, .cons h t, e => by
    cases e
    exact ⟨_, rfl, h⟩
  | _, _, i + 1, _, .cons h t, e => Tvs.get (i := i) t e
theorem Tvs.strs : ∀ {vs : List V} {ps : List Str}, Tvs K H vs (ps.map .str) → vs = ps.map V.str
  | _, [], .nil => rfl
  | _, _ :: _, .cons h t => by
    cases h
    rw [List.map_cons, Tvs.strs t]
theorem Tvs.ofStrs : ∀ {ps : List Str}, Tvs K H (ps.map V.str) (ps.map .str)
  | [] => .nil
  | _ :: _ => .cons (.str _) Tvs.ofStrs
end
abbrev RV (K : PySem.W.Frag) (H : Hp) (v : V) (r : Rw) : Prop := Tv K H v (dR r)
abbrev BV (K : PySem.W.Frag) (H : Hp) (v : V) (b : List Rw) : Prop := Tv K H v (.tuple (dB b))
abbrev RVs (K : PySem.W.Frag) (H : Hp) (vs : List V) (b : List Rw) : Prop := Tvs K H vs (dB b)
end PM
set_option Elab.async false
set_option linter.all false
set_option maxRecDepth 100000
set_option maxHeartbeats 4000000
/-! List comprehensions over things that stand, by what each item gives. -/
namespace PM
open PySem PySem.Spec PyProof.Rows L2 ZX ZR
theorem ifD {p A B : Prop} [Decidable p] (h : p) (a : A) : if decide p = true then A else B := by
  rw [decide_eq_true h]
  exact a
theorem ifDF {p A B : Prop} [Decidable p] (h : ¬ p) (b : B) : if decide p = true then A else B := by
  rw [decide_eq_false h]
  exact b
theorem ifB {c : Bool} {A B : Prop} (h : c = true) (a : A) : if c = true then A else B := by
  rw [h]
  exact a
theorem ifBF {c : Bool} {A B : Prop} (h : c = false) (b : B) : if c = true then A else B := by
  rw [h]
  exact b
/-- all that was tracked, but what stands at p, stands -/
def Kq (p : Option Addr) (H H' : Hp) : Prop := ∀ b o, some b ≠ p → H b = some o → H' b = some o
section
variable {p : Option Addr} {H H1 H2 : Hp}
theorem Kq.refl : Kq p H H := fun _ _ _ h => h
theorem Kq.trans (a : Kq p H H1) (b : Kq p H1 H2) : Kq p H H2 := fun c o n h => b c o n (a c o n h)
theorem Kq.new {a : Addr} {o : HO} (k : Kq p H H1) (h : H a = none) : Kq p H (upd H1 a o) := fun b u n e => by
  rw [upd_ne (ne_of_none e h)]
  exact k b u n e
theorem _root_.L2.Same.kq (s : Same H H1) : Kq p H H1 := fun b o _ h => s b o h
theorem Kq.same (k : Kq none H H1) : Same H H1 := fun b o h => k b o (fun z => nomatch z) h
theorem Kp.kq {p : Addr} (k : Kp p H H1) : Kq (some p) H H1 := fun b o n h => k b o (fun z => n (by rw [z])) h
theorem Kq.kp {p : Addr} (k : Kq (some p) H H1) : Kp p H H1 := fun b o n h => k b o (fun z => n (by injection z)) h
end
/-- J walks over zs as long as St holds -/
structure IterOf (J : It) (zs : List V) (St : Hp → Prop) : Prop where
  stop : ∀ H, St H → J.stop zs.length H
  go : ∀ i H, St H → i < zs.length → J.go i H
  yld : ∀ i H v H', St H → i < zs.length → J.yld i H v H' → H' = H ∧ zs[i]? = some v
theorem it_list {K : PySem.W.Frag} {a : Addr} {xs : List V} : IterOf (Itl K a) xs fun H => SqL K H a xs :=
  ⟨fun H h => ⟨xs, h, Nat.le_refl _⟩, fun i H h l => ⟨xs, xs[i], h, List.getElem?_eq_getElem l⟩, fun i H v H' h _ y => ⟨y.1, y.2 xs h⟩⟩
theorem it_tup {K : PySem.W.Frag} {a : Addr} {xs : List V} : IterOf (Itt K a) xs fun H => SqT K H a xs :=
  ⟨fun H h => ⟨xs, h, Nat.le_refl _⟩, fun i H h l => ⟨xs, xs[i], h, List.getElem?_eq_getElem l⟩, fun i H v H' h _ y => ⟨y.1, y.2 xs h⟩⟩
/-- the letters of a text -/
def letters (x : Str) : List V := x.cps.toList.map fun c => .str ⟨#[c]⟩
theorem letters_len (x : Str) : (letters x).length = x.cps.size := by rw [letters, List.length_map, Array.length_toList]
theorem it_str {x : Str} : IterOf (Its x) (letters x) fun _ => True :=
  ⟨fun H _ => Nat.le_of_eq (letters_len x).symm, fun i H _ l => by
    show i < x.cps.size
    rw [← letters_len]
    exact l, fun i H v H' _ _ y => by
    obtain ⟨e, c, hc, rfl⟩ := y
    refine ⟨e, ?_⟩
    rw [letters, List.getElem?_map, Array.getElem?_toList, hc]
    rfl⟩
theorem it_range {lo : Int} {n : Nat} : IterOf (Itr lo n) ((List.range n).map fun i => V.int (lo + (i : Nat))) fun _ => True := by
  refine ⟨fun H _ => ?_, fun i H _ l => ?_, fun i H v H' _ l y => ?_⟩
  · show n ≤ _
    simp
  · have l' := l
    rw [List.length_map, List.length_range] at l'
    exact l'
  · obtain ⟨e, rfl⟩ := y
    refine ⟨e, ?_⟩
    rw [List.length_map, List.length_range] at l
    rw [List.getElem?_map, List.getElem?_range l]
    rfl
/-- pairwise -/
inductive All2 {α β : Type} (R : α → β → Prop) : List α → List β → Prop
  | nil : All2 R [] []
  | cons {a : α} {b : β} {as : List α} {bs : List β} : R a b → All2 R as bs → All2 R (a :: as) (b :: bs)
theorem All2.imp {α β : Type} {R S : α → β → Prop} (f : ∀ a b, R a b → S a b) : ∀ {as : List α} {bs : List β}, All2 R as bs → All2 S as bs
  | _, _, .nil => .nil
  | _, _, .cons h t => .cons (f _ _ h) (All2.imp f t)
theorem All2.snoc {α β : Type} {R : α → β → Prop} {a : α} {b : β} (r : R a b) : ∀ {as : List α} {bs : List β}, All2 R as bs → All2 R (as ++ [a]) (bs ++ [b])
  | _, _, .nil => .cons r .nil
  | _, _, .cons h t => .cons h (All2.snoc r t)
theorem All2.len {α β : Type} {R : α → β → Prop} : ∀ {as : List α} {bs : List β}, All2 R as bs → as.length = bs.length
  | _, _, .nil => rfl
  | _, _, .cons _ t => congrArg Nat.succ (All2.len t)
theorem All2.map {α β : Type} {f : α → β} : ∀ {as : List α} {bs : List β}, All2 (fun a b => b = f a) as bs → bs = as.map f
  | _, _, .nil => rfl
  | _, _, .cons h t => by rw [h, All2.map t]; rfl
section
variable {J : It} {zs : List V} {St : Hp → Prop} {g : TG} {te : TE} {vs : List Nat} {σ : L2.St} {H1 : Hp} {Q : VK} {p : Option Addr} {Rel : Hp → V → V → Prop}
theorem lc_into {wi : TI} {tt : TT} {H : Hp} (h : wi σ H fun J H1 => tLcS (fun _ _ R => R J H1) g tt te vs σ H1 Q) : tLcS wi g tt te vs σ H Q := by
  rw [lcS] at *
  exact h
/-- [e for t in i]: no item raises; the one for c gives something that Rel tells of c, and changes nothing that stood but p -/
theorem lc_overA {α : Type} {as : List α} {Rel : Hp → α → V → Prop} (O : IterOf J zs St) (hz : as.length = zs.length) (hRel : ∀ c y H H', Pt H H' → Rel H c y → Rel H' c y) (hp : ∀ a, p = some a → ∃ o, H1 a = some o) (hlen : zs.length < sizeLine)
    (st : ∀ H', Kq p H1 H' → Pt H1 H' → St H')
    (step : ∀ (i : Nat) x c, zs[i]? = some x → as[i]? = some c → ∀ H', Kq p H1 H' → Pt H1 H' → ∀ R : VK, (∀ y H'', Kq p H' H'' → Pt H' H'' → Rel H'' c y → R y H'') → g x (wipe σ vs) H' fun σ2 H2 => wipe σ2 vs = wipe σ vs ∧ te σ2 H2 R)
    (fin : ∀ D ys H', Kq p H1 H' → Pt H1 H' → H1 D = none → H' D = some (.lst ys) → All2 (Rel H') as ys → Q (.ref D) H') :
    tLcS (fun _ _ R => R J H1) g tYes te vs σ H1 Q := by
  rw [lcS]
  intro D hD
  refine ⟨fun i m H => m = zs.length - i ∧ i ≤ zs.length ∧ Kq p H1 H ∧ Pt H1 H ∧ ∃ ys, H D = some (.lst ys) ∧ All2 (Rel H) (as.take i) ys, ⟨zs.length, rfl, Nat.zero_le _, Kq.refl.new hD, Pt.new hD, [], upd_same, by rw [List.take_zero]; exact .nil⟩, ?_⟩
  rintro i m H ⟨rfl, hi, kq, pt, ys, hys, all⟩
  have hst := st H kq pt
  by_cases hlt : i < zs.length
  · refine .inr ⟨O.go i H hst hlt, fun H' => i + 1 ≤ zs.length ∧ Kq p H1 H' ∧ Pt H1 H' ∧ ∃ ys, H' D = some (.lst ys) ∧ All2 (Rel H') (as.take (i + 1)) ys, fun H' h => ⟨zs.length - (i + 1), by omega, rfl, h⟩, fun x H' y => ?_⟩
    obtain ⟨rfl, hx⟩ := O.yld i H x H' hst hlt y
    have hia : i < as.length := by omega
    have hc : as[i]? = some as[i] := List.getElem?_eq_getElem hia
    have hDp : some D ≠ p := fun e => by
      obtain ⟨o, ho⟩ := hp D e.symm
      rw [hD] at ho
      cases ho
    show g x (wipe σ vs) H' fun σ2 H2 => wipe σ2 vs = wipe σ vs ∧ tYes σ2 H2 fun b H3 => if b = true then te σ2 H3 _ else _
    refine step i x as[i] hx hc H' kq pt _ fun y H'' k2 p2 r => ?_
    have hD2 := k2 D _ hDp hys
    have pD : Pt H'' (upd H'' D (.lst (ys ++ [y]))) := Pt.lst hD2
    have ptk : as.take (i + 1) = as.take i ++ [as[i]] := by
      rw [List.take_succ, hc]
      rfl
    have hl2 : ys.length < sizeLine := by
      rw [← all.len, List.length_take]
      omega
    refine ⟨ys, hD2, hl2, hlt, (kq.trans k2).new hD, (pt.trans p2).trans pD, ys ++ [y], upd_same, ?_⟩
    rw [ptk]
    exact All2.snoc (hRel _ _ _ _ pD r) (all.imp fun a b q => hRel _ _ _ _ (p2.trans pD) q)
  · have e : i = zs.length := by omega
    subst e
    rw [← hz, List.take_length] at all
    exact .inl ⟨O.stop H hst, fin D ys H kq pt hD hys all⟩
theorem lc_over (O : IterOf J zs St) (hRel : ∀ x y H H', Pt H H' → Rel H x y → Rel H' x y) (hp : ∀ a, p = some a → ∃ o, H1 a = some o) (hlen : zs.length < sizeLine)
    (st : ∀ H', Kq p H1 H' → Pt H1 H' → St H')
    (step : ∀ x ∈ zs, ∀ H', Kq p H1 H' → Pt H1 H' → ∀ R : VK, (∀ y H'', Kq p H' H'' → Pt H' H'' → Rel H'' x y → R y H'') → g x (wipe σ vs) H' fun σ2 H2 => wipe σ2 vs = wipe σ vs ∧ te σ2 H2 R)
    (fin : ∀ D ys H', Kq p H1 H' → Pt H1 H' → H1 D = none → H' D = some (.lst ys) → All2 (Rel H') zs ys → Q (.ref D) H') :
    tLcS (fun _ _ R => R J H1) g tYes te vs σ H1 Q :=
  lc_overA (as := zs) O rfl hRel hp hlen st (fun i x c hx hc => by
    rw [hx] at hc
    cases hc
    exact step x (List.mem_of_getElem? hx)) fin
end
end PM
namespace PM
open PySem PySem.Spec PyProof.Rows L2 ZX
section
variable {K : PySem.W.Frag} {H H' : Hp}
theorem Tv.tupI {v : V} {ds : List PyData} (h : Tv K H v (.tuple ds)) : ∃ a xs, v = .ref a ∧ SqT K H a xs ∧ Tvs K H xs ds := by
  cases h with
  | tup h t => exact ⟨_, _, rfl, h, t⟩
theorem Tv.strI {v : V} {x : Str} (h : Tv K H v (.str x)) : v = .str x := by
  cases h
  rfl
theorem Tv.intI {v : V} {i : Int} (h : Tv K H v (.int i)) : v = .int i := by
  cases h
  rfl
theorem tyT {a : Addr} {xs : List V} (h : SqT K H a xs) : TyX K H (.ref a) (.type "tuple") := by
  rcases h with (h | ⟨o, h⟩) | ⟨o, its, n, h, c, _⟩
  · exact .base (.tup h)
  · exact .fTuple h
  · exact .kTuple h c
theorem Tvs.all {R : V → PyData → Prop} (f : ∀ v d, Tv K H v d → R v d) : ∀ {vs : List V} {ds : List PyData}, Tvs K H vs ds → All2 R vs ds
  | _, _, .nil => .nil
  | _, _, .cons h t => .cons (f _ _ h) (Tvs.all f t)
theorem Tvs.snocI : ∀ {ds : List PyData} {vs : List V} {d : PyData}, Tvs K H vs (ds ++ [d]) → ∃ us u, vs = us ++ [u] ∧ Tvs K H us ds ∧ Tv K H u d
  | [], _, _, .cons h .nil => ⟨[], _, rfl, .nil, h⟩
  | _ :: _, _, _, .cons h t => by
    obtain ⟨us, u, rfl, h1, h2⟩ := Tvs.snocI t
    exact ⟨_ :: us, u, rfl, .cons h h1, h2⟩
theorem Tvs.rev : ∀ {vs : List V} {ds : List PyData}, Tvs K H vs ds → Tvs K H vs.reverse ds.reverse
  | _, _, .nil => .nil
  | _, _, .cons h t => by
    rw [List.reverse_cons, List.reverse_cons]
    exact Tvs.app (Tvs.rev t) (.cons h .nil)
theorem Tvs.ofAll2 {α : Type} {f : α → PyData} : ∀ {as : List α} {vs : List V}, All2 (fun a v => Tv K H v (f a)) as vs → Tvs K H vs (as.map f)
  | _, _, .nil => .nil
  | _, _, .cons h t => .cons h (Tvs.ofAll2 t)
theorem Tvs.ofAll : ∀ {vs : List V} {ds : List PyData}, All2 (fun v d => Tv K H v d) vs ds → Tvs K H vs ds
  | _, _, .nil => .nil
  | _, _, .cons h t => .cons h (Tvs.ofAll t)
end
/-! ### programs' form -/
def NameOk (x : Str) : Prop := 1 ≤ x.length ∧ x.length ≤ 8 ∧ ∀ c ∈ x.cps.toList, 97 ≤ c ∧ c ≤ 122
mutual
/-- a row that may stand in a block so deep -/
def okR : Nat → Rw → Prop
  | _, .note x o ps => NameOk x ∧ NameOk o ∧ ps.length ≤ 3 ∧ ∀ y ∈ ps, NameOk y
  | _, .copy x y => NameOk x ∧ NameOk y
  | _, .give x _ => NameOk x
  | _, .ask x => NameOk x
  | _, .prt x => NameOk x
  | d, .either a b => d < 4 ∧ a.length ≤ 12 ∧ b.length ≤ 12 ∧ okB (d + 1) a ∧ okB (d + 1) b
  | d, .again a => d < 4 ∧ a.length ≤ 12 ∧ okB (d + 1) a
def okB : Nat → List Rw → Prop
  | _, [] => True
  | d, r :: b => okR d r ∧ okB d b
end
end PM
namespace PM
open PySem PySem.Spec PyProof.Rows L2 ZX
theorem neS {a b : String} (h : decide (Str.ofString a = Str.ofString b) = false) : ¬ V.str (Str.ofString a) = V.str (Str.ofString b) := fun e => by
  injection e with e
  rw [e] at h
  simp at h
theorem same_new {H : Hp} {a : Addr} {o : HO} (n : H a = none) : Same H (upd H a o) := fun b u e => by
  rw [upd_ne (ne_of_none e n)]
  exact e
theorem at0 {x : V} {tl : List V} : atI (x :: tl) 0 = some x := at_of (j := 0) rfl rfl
/-- xs[1:] of a tuple that begins so -/
theorem cut1 {x : V} {tl : List V} : cutV (x :: tl) (some 1) none = tl := by
  have h1 : HT.sIx (x :: tl).length 0 (some 1) = 1 := by
    rw [show (some (1 : Int)) = some ((1 : Nat) : Int) from rfl, HT.sIx_nat]
    show min 1 (tl.length + 1) = 1
    omega
  have h2 : HT.sIx (x :: tl).length (x :: tl).length none = tl.length + 1 := rfl
  unfold cutV
  rw [h1, h2, List.drop_succ_cons, List.drop_zero]
  exact List.take_of_length_le (by omega)
theorem cut1_ne {x : V} {tl : List V} : ¬ (HT.sIx (x :: tl).length 0 (some 1) = 0 ∧ HT.sIx (x :: tl).length (x :: tl).length none = (x :: tl).length) := by
  rintro ⟨h, _⟩
  have h1 : HT.sIx (x :: tl).length 0 (some 1) = 1 := by
    rw [show (some (1 : Int)) = some ((1 : Nat) : Int) from rfl, HT.sIx_nat]
    show min 1 (tl.length + 1) = 1
    omega
  rw [h1] at h
  cases h
def wordR : Rw → Str
  | .note _ _ _ => "note"
  | .copy _ _ => "copy"
  | .give _ _ => "give"
  | .ask _ => "ask"
  | .prt _ => "print"
  | .either _ _ => "either"
  | .again _ => "again"
def argsR : Rw → List PyData
  | .note x o ps => [.str x, .str o, .tuple (ps.map .str)]
  | .copy x y => [.str x, .str y]
  | .give x i => [.str x, .int i]
  | .ask x => [.str x]
  | .prt x => [.str x]
  | .either a b => [.tuple (dB a), .tuple (dB b)]
  | .again a => [.tuple (dB a)]
theorem dR_eq (r : Rw) : dR r = .tuple (.str (wordR r) :: argsR r) := by
  cases r <;> rfl
theorem argsR_len (r : Rw) : 1 ≤ (argsR r).length ∧ (argsR r).length ≤ 3 := by
  cases r <;> exact ⟨by simp [argsR], by simp [argsR]⟩
section
variable {K : PySem.W.Frag} {H : Hp} {v : V}
theorem Tv.rowI {r : Rw} (h : Tv K H v (dR r)) : ∃ a tl, v = .ref a ∧ SqT K H a (.str (wordR r) :: tl) ∧ Tvs K H tl (argsR r) := by
  rw [dR_eq] at h
  obtain ⟨a, xs, rfl, hS, ht⟩ := h.tupI
  cases ht with
  | cons h1 t => cases h1 with
    | str _ => exact ⟨_, _, rfl, hS, t⟩
theorem Tvs.one {vs : List V} {d : PyData} (h : Tvs K H vs [d]) : ∃ v, vs = [v] ∧ Tv K H v d := by
  cases h with
  | cons h1 t => cases t with
    | nil => exact ⟨_, rfl, h1⟩
theorem Tvs.two {vs : List V} {d e : PyData} (h : Tvs K H vs [d, e]) : ∃ v u, vs = [v, u] ∧ Tv K H v d ∧ Tv K H u e := by
  cases h with
  | cons h1 t =>
    obtain ⟨u, rfl, h2⟩ := t.one
    exact ⟨_, _, rfl, h1, h2⟩
theorem Tvs.three {vs : List V} {d e f : PyData} (h : Tvs K H vs [d, e, f]) : ∃ v u t, vs = [v, u, t] ∧ Tv K H v d ∧ Tv K H u e ∧ Tv K H t f := by
  cases h with
  | cons h1 t =>
    obtain ⟨u, z, rfl, h2, h3⟩ := t.two
    exact ⟨_, _, _, rfl, h1, h2, h3⟩
end
end PM
set_option Elab.async false
set_option linter.all false
set_option maxRecDepth 100000
set_option maxHeartbeats 4000000
/-! List comprehensions with a word that holds between the turns. -/
namespace PM
open PySem PySem.Spec PyProof.Rows L2 ZX ZR
section
variable {J : It} {zs : List V} {St : Hp → Prop} {g : TG} {te : TE} {vs : List Nat} {σ : L2.St} {H1 : Hp} {Q : VK} {p : Option Addr}
theorem lc_overI {α : Type} {as : List α} {Rel : Hp → α → V → Prop} (Iv : Hp → Prop) (O : IterOf J zs St) (hz : as.length = zs.length) (hRel : ∀ c y H H', Pt H H' → Rel H c y → Rel H' c y) (hp : ∀ a, p = some a → ∃ o, H1 a = some o) (hlen : zs.length < sizeLine)
    (h0 : ∀ D, H1 D = none → Iv (upd H1 D (.lst []))) (hup : ∀ D H' o, H1 D = none → Iv H' → Iv (upd H' D o))
    (st : ∀ H', Kq p H1 H' → Pt H1 H' → Iv H' → St H')
    (step : ∀ (i : Nat) x c, zs[i]? = some x → as[i]? = some c → ∀ H', Kq p H1 H' → Pt H1 H' → Iv H' → ∀ R : VK, (∀ y H'', Kq p H' H'' → Pt H' H'' → Iv H'' → Rel H'' c y → R y H'') → g x (wipe σ vs) H' fun σ2 H2 => wipe σ2 vs = wipe σ vs ∧ te σ2 H2 R)
    (fin : ∀ D ys H', Kq p H1 H' → Pt H1 H' → Iv H' → H1 D = none → H' D = some (.lst ys) → All2 (Rel H') as ys → Q (.ref D) H') :
    tLcS (fun _ _ R => R J H1) g tYes te vs σ H1 Q := by
  rw [lcS]
  intro D hD
  refine ⟨fun i m H => m = zs.length - i ∧ i ≤ zs.length ∧ Kq p H1 H ∧ Pt H1 H ∧ Iv H ∧ ∃ ys, H D = some (.lst ys) ∧ All2 (Rel H) (as.take i) ys, ⟨zs.length, rfl, Nat.zero_le _, Kq.refl.new hD, Pt.new hD, h0 D hD, [], upd_same, by rw [List.take_zero]; exact .nil⟩, ?_⟩
  rintro i m H ⟨rfl, hi, kq, pt, iv, ys, hys, all⟩
  have hst := st H kq pt iv
  by_cases hlt : i < zs.length
  · refine .inr ⟨O.go i H hst hlt, fun H' => i + 1 ≤ zs.length ∧ Kq p H1 H' ∧ Pt H1 H' ∧ Iv H' ∧ ∃ ys, H' D = some (.lst ys) ∧ All2 (Rel H') (as.take (i + 1)) ys, fun H' h => ⟨zs.length - (i + 1), by omega, rfl, h⟩, fun x H' y => ?_⟩
    obtain ⟨rfl, hx⟩ := O.yld i H x H' hst hlt y
    have hia : i < as.length := by omega
    have hc : as[i]? = some as[i] := List.getElem?_eq_getElem hia
    have hDp : some D ≠ p := fun e => by
      obtain ⟨o, ho⟩ := hp D e.symm
      rw [hD] at ho
      cases ho
    show g x (wipe σ vs) H' fun σ2 H2 => wipe σ2 vs = wipe σ vs ∧ tYes σ2 H2 fun b H3 => if b = true then te σ2 H3 _ else _
    refine step i x as[i] hx hc H' kq pt iv _ fun y H'' k2 p2 iv2 r => ?_
    have hD2 := k2 D _ hDp hys
    have pD : Pt H'' (upd H'' D (.lst (ys ++ [y]))) := Pt.lst hD2
    have ptk : as.take (i + 1) = as.take i ++ [as[i]] := by
      rw [List.take_succ, hc]
      rfl
    have hl2 : ys.length < sizeLine := by
      rw [← all.len, List.length_take]
      omega
    refine ⟨ys, hD2, hl2, hlt, (kq.trans k2).new hD, (pt.trans p2).trans pD, hup D _ _ hD iv2, ys ++ [y], upd_same, ?_⟩
    rw [ptk]
    exact All2.snoc (hRel _ _ _ _ pD r) (all.imp fun a b q => hRel _ _ _ _ (p2.trans pD) q)
  · have e : i = zs.length := by omega
    subst e
    rw [← hz, List.take_length] at all
    exact .inl ⟨O.stop H hst, fin D ys H kq pt iv hD hys all⟩
end
end PM
set_option Elab.async false
set_option linter.all false
set_option maxRecDepth 100000
set_option maxHeartbeats 4000000
namespace K25
open PySem PySem.Spec PyProof.Rows L2 ZX PM ZR
def top (i : Nat) : Stmt := PySem.Challenge.pw_putoffpiles_k25_whole_rings_judged.main.body.getD i (.Pass ⟨0, 0, 0, 0⟩)
/-- a def with one default behind its other parameters -/
abbrev FnPD (K : PySem.W.Frag) (x : Str) (st : Stmt) (dvs : List V) (f : Addr) (fd : FuncData) : Prop := FunD K x x (defArgs st) (defBody st) (defScope st) dvs [] f fd
abbrev FnP (K : PySem.W.Frag) (x : Str) (st : Stmt) (f : Addr) (fd : FuncData) : Prop := FunD K x x (defArgs st) (defBody st) (defScope st) [] [] f fd
/-- the built-ins' names, the numbers -/
structure Bi (mg : Str → Option Value) : Prop where
  b_abs : mg "abs" = none
  b_all : mg "all" = none
  b_bool : mg "bool" = none
  b_enumerate : mg "enumerate" = none
  b_int : mg "int" = none
  b_isinstance : mg "isinstance" = none
  b_len : mg "len" = none
  b_list : mg "list" = none
  b_range : mg "range" = none
  b_set : mg "set" = none
  b_sorted : mg "sorted" = none
  b_str : mg "str" = none
  b_sum : mg "sum" = none
  b_tuple : mg "tuple" = none
  b_zip : mg "zip" = none
  m_MOST_ROWS_IN_BLOCK : ∃ t, mg "MOST_ROWS_IN_BLOCK" = some (.int 12 t)
  m_MOST_ROWS : ∃ t, mg "MOST_ROWS" = some (.int 30 t)
  m_MOST_DEEP : ∃ t, mg "MOST_DEEP" = some (.int 4 t)
  m_MOST_NAMES : ∃ t, mg "MOST_NAMES" = some (.int 8 t)
  m_MOST_PARTS : ∃ t, mg "MOST_PARTS" = some (.int 3 t)
  m_MOST_LETTERS : ∃ t, mg "MOST_LETTERS" = some (.int 8 t)
/-- the words that ask, a tuple of the top -/
def Asking (K : PySem.W.Frag) (mg : Str → Option Value) : Prop := ∃ a, mg "ASKING" = some (.ref a) ∧ ∀ H, SqT K H a [V.str "ask", V.str "print"]
abbrev sIs_integer : Stmt := top 14
abbrev sIs_number_below : Stmt := top 15
abbrev sIs_name : Stmt := top 16
abbrev sIs_parts : Stmt := top 18
abbrev sIs_block : Stmt := top 19
abbrev sIs_row : Stmt := top 20
abbrev sBlocks_of : Stmt := top 21
abbrev sNames_of : Stmt := top 22
abbrev sFormless_place : Stmt := top 23
abbrev sRows_of : Stmt := top 24
abbrev sAll_names : Stmt := top 25
abbrev sBad_place : Stmt := top 26
abbrev sBlock_leads : Stmt := top 27
abbrev sRow_leads : Stmt := top 28
abbrev sProgramInit : Stmt := inClass (top 29) 0
abbrev sProgramEq : Stmt := inClass (top 29) 1
abbrev sNames : Stmt := top 30
abbrev sRow_at : Stmt := top 32
abbrev sNexts : Stmt := top 33
/-! ### promises -/
inductive NumV (K : PySem.W.Frag) (H : Hp) : V → Bool → Prop
  | int (i : Int) : NumV K H (.int i) true
  | bl (b : Bool) : NumV K H (.bl b) false
  | oth {v : V} {t : Value} (h : TyX K H v t) (e : PySem.W.kitOne K t (.type "int") = some false) : NumV K H v false
def spIsInt (K : PySem.W.Frag) : Sp := fun vs H Q _ => ∃ v b, vs = [v] ∧ NumV K H v b ∧ Q (.bl b) H
def spBelow (K : PySem.W.Frag) : Sp := fun vs H Q _ => ∃ m v, vs = [.int m, v] ∧ ((∃ i, v = .int i ∧ Q (.bl (decide (0 ≤ i) && decide (i < m))) H) ∨ (NumV K H v false ∧ Q (.bl false) H))
def spIsName : Sp := fun vs H Q _ => ∃ x, vs = [.str x] ∧ NameOk x ∧ ∀ H', Same H H' → Q (.bl true) H'
def spIsParts (K : PySem.W.Frag) : Sp := fun vs H Q _ => ∃ (v : V) (ps : List Str), vs = [v] ∧ Tv K H v (.tuple (ps.map .str)) ∧ ps.length ≤ 3 ∧ (∀ y ∈ ps, NameOk y) ∧ ∀ H', Same H H' → Q (.bl true) H'
def spIsBlock (K : PySem.W.Frag) : Sp := fun vs H Q _ => ∃ (d : Int) (v : V) (ds : List PyData), vs = [.int d, v] ∧ Tv K H v (.tuple ds) ∧ ds.length ≤ 12 ∧ d ≤ 4 ∧ Q (.bl true) H
section
variable {P : Program} {w : World} {K : PySem.W.Frag} {mg : Str → Option Value} {base : Heap}
theorem scIs_integer : FnScope ["thing"] ["thing"] (defScope sIs_integer) := ⟨rfl, rfl, rfl, by decide +kernel, rfl, by decide +kernel, by decide +kernel⟩
theorem ok_is_integer {f : Addr} {fd : FuncData} (F : FnP K "is_integer" sIs_integer f fd) (T : Bi mg) : FnOk P w K mg base CX0 1 f fd ["thing"] (spIsInt K) := by
  refine F.ok scIs_integer (fun vs H Q E h => ?_) (fun cdv A outer s H vs Q E hr h => ?_)
  · obtain ⟨v, b, rfl, _⟩ := h
    rfl
  · obtain ⟨v, b, rfl, hn, k⟩ := h
    refine ⟨_, PSs.nox (pss_one (ps_ret (pe_and (pe_callB call_isi (by rfl) T.b_isinstance (by decide +kernel) (pa_cons (pv 0) (pa_cons (pe_bltn (v := .ty "int") (by rfl) T.b_int (by decide +kernel) rfl) pa_nil))) (pe_one (pe_not (pe_callB call_isi (by rfl) T.b_isinstance (by decide +kernel) (pa_cons (pv 0) (pa_cons (pe_bltn (v := .ty "bool") (by rfl) T.b_bool (by decide +kernel) rfl) pa_nil)))))))), ?_⟩
    cases hn with
    | int i => exact ⟨_, rfl, _, _, _, _, true, rfl, .ty "int", .base (.int i), rfl, _, rfl, _, rfl, _, _, _, _, false, rfl, .ty "bool", .base (.int i), rfl, _, rfl, k⟩
    | bl c => exact ⟨_, rfl, _, _, _, _, true, rfl, .ty "int", .base (.bl c), rfl, _, rfl, _, rfl, _, _, _, _, true, rfl, .ty "bool", .base (.bl c), rfl, _, rfl, k⟩
    | oth ht e => exact ⟨_, rfl, _, _, _, _, false, rfl, .ty "int", ht, e, _, rfl, k⟩
theorem scIs_number_below : FnScope ["limit", "thing"] ["limit", "thing"] (defScope sIs_number_below) := ⟨rfl, rfl, rfl, by decide +kernel, rfl, by decide +kernel, by decide +kernel⟩
theorem ok_below {f : Addr} {fd : FuncData} (F : FnP K "is_number_below" sIs_number_below f fd) (T : Bi mg) (C1 : Cal P w K mg base "is_integer" 1 ["thing"] (spIsInt K)) : FnOk P w K mg base CX0 2 f fd ["limit", "thing"] (spBelow K) := by
  refine F.ok scIs_number_below (fun vs H Q E h => ?_) (fun cdv A outer s H vs Q E hr h => ?_)
  · obtain ⟨m, v, rfl, _⟩ := h
    rfl
  · obtain ⟨m, v, rfl, h⟩ := h
    refine ⟨_, PSs.nox (pss_one (ps_ret (pe_and (pcal C1 hr rfl (pa_cons (pv 1) pa_nil)) (pe_one (pe_chain op_le op_lt pe_int (pv 1) (pv 0)))))), ?_⟩
    rcases h with ⟨i, rfl, k⟩ | ⟨hn, k⟩
    · refine ⟨_, rfl, _, true, rfl, .int i, true, rfl, _, rfl, _, _, rfl, rfl, _, rfl, ?_⟩
      refine ite2 (fun e => ?_) (fun e => ?_)
      · rw [e] at k
        exact ⟨_, rfl, _, _, rfl, rfl, k⟩
      · rw [Bool.eq_false_iff.mpr e] at k
        exact k
    · exact ⟨_, rfl, _, false, rfl, hn, false, rfl, k⟩
theorem le_a {c : Nat} (h : 97 ≤ c) : ¬ (⟨#[c]⟩ : Str).cps.toList < (Str.ofString "a").cps.toList := by
  intro z
  have z' : [c] < [97] := z
  cases z' with
  | rel h2 => exact absurd h (by have : c < 97 := h2; omega)
  | cons h2 => cases h2
theorem le_z {c : Nat} (h : c ≤ 122) : ¬ (Str.ofString "z").cps.toList < (⟨#[c]⟩ : Str).cps.toList := by
  intro z
  have z' : [122] < [c] := z
  cases z' with
  | rel h2 => exact absurd h (by have : 122 < c := h2; omega)
  | cons h2 => cases h2
theorem scIs_name : FnScope ["thing", "sign"] ["thing"] (defScope sIs_name) := ⟨rfl, rfl, rfl, by decide +kernel, rfl, by decide +kernel, by decide +kernel⟩
theorem ok_is_name {f : Addr} {fd : FuncData} (F : FnP K "is_name" sIs_name f fd) (T : Bi mg) : FnOk P w K mg base CX0 1 f fd ["thing"] spIsName := by
  refine F.ok scIs_name (fun vs H Q E h => ?_) (fun cdv A outer s H vs Q E hr h => ?_)
  · obtain ⟨x, rfl, _⟩ := h
    rfl
  · obtain ⟨x, rfl, ⟨n1, n8, nc⟩, k⟩ := h
    obtain ⟨t8, m8⟩ := T.m_MOST_LETTERS
    refine ⟨_, PSs.nox (pss_cons (ps_if (PW.pt (pw_or (pt_not (pt_val (pe_callB call_isi (by rfl) T.b_isinstance (by decide +kernel) (pa_cons (pv 0) (pa_cons (pe_bltn (v := .ty "str") (by rfl) T.b_str (by decide +kernel) rfl) pa_nil))))) (pw_or1 (pt_not (pt_chain op_le op_le pe_int (pe_callB call_len_str (by rfl) T.b_len (by decide +kernel) (pa_cons (pv 0) pa_nil)) (pe_glob (v := .int 8) rfl m8 ⟨_, rfl⟩)))))) (pss_one (ps_ret pe_bl)) pss_nil)
    (pss_one (ps_ret (pe_callB (cr_all rfl) (by rfl) T.b_all (by decide +kernel) (pa_cons (pe_lcS (own := [("sign", 1)]) (g := gName 1) (tt := tYes) (by rfl) scIs_name.nd (pi_str (pv 0)) (blkOk_by (N := ["thing", "sign"]) (sc := defScope sIs_name) (by decide +kernel)) (fun _ _ _ _ _ => (pg_name (i := 1) scIs_name.nd rfl (Or.inl rfl))) (fun _ _ _ _ _ => pts_nil) (fun _ _ _ _ _ => (pe_chain op_le_str op_le_str pe_str (pv 1) pe_str))) pa_nil))))), ?_⟩
    have hz : x.length ≤ sizeLine := Nat.le_trans n8 (by decide)
    refine ⟨_, rfl, _, _, _, _, true, rfl, .ty "str", .base (.str x), rfl, true, rfl, _, rfl, _, rfl, hz, _, _, rfl, rfl, _, rfl, ifD (by omega) ⟨_, _, rfl, rfl, _, rfl, ?_⟩⟩
    rw [decide_eq_true (show (x.length : Int) ≤ 8 by omega)]
    refine lc_into ?_
    refine ⟨_, rfl, _, rfl, ?_⟩
    refine lc_over (p := none) (Rel := fun _ _ y => y = .bl true) it_str (fun _ _ _ _ _ h => h) (fun _ h => nomatch h) ?_ (fun _ _ _ => trivial) ?_ ?_
    · rw [letters_len]
      exact Nat.lt_of_le_of_lt n8 (by decide)
    · intro z hz H' _ _ R k
      obtain ⟨c, hc, rfl⟩ := List.mem_map.mp hz
      obtain ⟨c1, c2⟩ := nc c hc
      have ha : ¬ (⟨#[c]⟩ : Str).cps.toList < (Str.ofString "a").cps.toList := le_a c1
      have hb : ¬ (Str.ofString "z").cps.toList < (⟨#[c]⟩ : Str).cps.toList := le_z c2
      have e1 : (!decide ((⟨#[c]⟩ : Str).cps.toList < (Str.ofString "a").cps.toList)) = true := by rw [decide_eq_false ha]; rfl
      have e2 : (!decide ((Str.ofString "z").cps.toList < (⟨#[c]⟩ : Str).cps.toList)) = true := by rw [decide_eq_false hb]; rfl
      refine ⟨rfl, _, rfl, _, _, rfl, rfl, _, rfl, ifB e1 ⟨_, _, rfl, rfl, ?_⟩⟩
      rw [e2]
      exact k _ _ Kq.refl (Pt.refl _) rfl
    · intro D ys H' kq _ _ hD all
      have e := All2.map all
      subst e
      refine ⟨D, (letters x).map fun _ => true, rfl, SqL.of (by rw [hD, List.map_map]; rfl), ?_⟩
      have ha : ((letters x).map fun _ => true).all id = true := by simp
      rw [ha]
      exact k _ kq.same
end
end K25
set_option Elab.async false
set_option linter.all false
set_option maxRecDepth 100000
set_option maxHeartbeats 4000000
namespace K25
open PySem PySem.Spec PyProof.Rows L2 ZX PM ZR
def spIsRow (K : PySem.W.Frag) : Sp := fun vs H Q _ => ∃ (d : Nat) (v : V) (r : Rw) (m : Int), vs = [.int d, v, .int m] ∧ RV K H v r ∧ okR d r ∧ ∀ H', Same H H' → Q (.bl true) H'
def spBlocksOf (K : PySem.W.Frag) : Sp := fun vs H Q _ => ∃ (v : V) (r : Rw), vs = [v] ∧ RV K H v r ∧ ∀ a ys H', Same H H' → SqT K H' a ys → Tvs K H' ys ((inner r).map fun b => .tuple (dB b)) → Q (.ref a) H'
section
variable {P : Program} {w : World} {K : PySem.W.Frag} {mg : Str → Option Value} {base : Heap}
theorem scIs_parts : FnScope ["thing", "part"] ["thing"] (defScope sIs_parts) := ⟨rfl, rfl, rfl, by decide +kernel, rfl, by decide +kernel, by decide +kernel⟩
theorem ok_is_parts {f : Addr} {fd : FuncData} (F : FnP K "is_parts" sIs_parts f fd) (T : Bi mg) (C1 : Cal P w K mg base "is_name" 1 ["thing"] spIsName) : FnOk P w K mg base CX0 2 f fd ["thing"] (spIsParts K) := by
  refine F.ok scIs_parts (fun vs H Q E h => ?_) (fun cdv A outer s H vs Q E hr h => ?_)
  · obtain ⟨v, ps, rfl, _⟩ := h
    rfl
  · obtain ⟨v, ps, rfl, tv, hl, hn, k⟩ := h
    obtain ⟨a, xs, rfl, hS, ht⟩ := tv.tupI
    have hx := Tvs.strs ht
    subst hx
    obtain ⟨t3, m3⟩ := T.m_MOST_PARTS
    refine ⟨_, PSs.nox (pss_one (ps_ret (pe_and (pe_callB call_isi (by rfl) T.b_isinstance (by decide +kernel) (pa_cons (pv 0) (pa_cons (pe_bltn (v := .ty "tuple") (by rfl) T.b_tuple (by decide +kernel) rfl) pa_nil))) (pe_and (pe_cmpR op_le (pe_callB call_len_seq (by rfl) T.b_len (by decide +kernel) (pa_cons (pv 0) pa_nil)) (pe_glob (v := .int 3) rfl m3 ⟨_, rfl⟩) (nomark _)) (pe_one (pe_callB (cr_all rfl) (by rfl) T.b_all (by decide +kernel) (pa_cons (pe_lcS (own := [("part", 1)]) (g := gName 1) (tt := tYes) (by rfl) scIs_parts.nd (pi_tup (pv 0)) (blkOk_by (N := ["thing", "part"]) (sc := defScope sIs_parts) (by decide +kernel)) (fun _ _ _ _ _ => (pg_name (i := 1) scIs_parts.nd rfl (Or.inl rfl))) (fun _ _ _ _ _ => pts_nil) (fun _ _ _ _ _ => (pcal C1 hr rfl (pa_cons (pv 1) pa_nil)))) pa_nil))))))), ?_⟩
    refine ⟨_, rfl, _, _, _, _, true, rfl, .ty "tuple", tyT hS, rfl, _, rfl, _, rfl, a, _, rfl, .inr hS, _, _, rfl, rfl, _, rfl, ?_⟩
    refine ifD (by rw [List.length_map]; omega) ?_
    refine lc_into ?_
    refine ⟨_, rfl, _, rfl, ⟨_, hS⟩, ?_⟩
    refine lc_over (p := none) (Rel := fun _ _ y => y = .bl true) it_tup (fun _ _ _ _ _ h => h) (fun _ h => nomatch h) ?_ (fun H' _ pt => pt.sq hS) ?_ ?_
    · rw [List.length_map]
      exact Nat.lt_of_le_of_lt hl (by decide)
    · intro z hz H' _ _ R k
      obtain ⟨y, hy, rfl⟩ := List.mem_map.mp hz
      exact ⟨rfl, _, rfl, y, rfl, hn y hy, fun H'' sm => k _ _ (Same.kq sm) (Same.pt sm) rfl⟩
    · intro D ys H' kq _ _ hD all
      have e := All2.map all
      subst e
      refine ⟨D, ps.map fun _ => true, rfl, SqL.of (by rw [hD, List.map_map, List.map_map]; rfl), ?_⟩
      have ha : (ps.map fun _ => true).all id = true := by simp
      rw [ha]
      exact k _ kq.same
theorem scIs_block : FnScope ["deep", "thing"] ["deep", "thing"] (defScope sIs_block) := ⟨rfl, rfl, rfl, by decide +kernel, rfl, by decide +kernel, by decide +kernel⟩
theorem ok_is_block {f : Addr} {fd : FuncData} (F : FnP K "is_block" sIs_block f fd) (T : Bi mg) : FnOk P w K mg base CX0 1 f fd ["deep", "thing"] (spIsBlock K) := by
  refine F.ok scIs_block (fun vs H Q E h => ?_) (fun cdv A outer s H vs Q E hr h => ?_)
  · obtain ⟨d, v, ds, rfl, _⟩ := h
    rfl
  · obtain ⟨d, v, ds, rfl, tv, hl, hd, k⟩ := h
    obtain ⟨a, xs, rfl, hS, ht⟩ := tv.tupI
    obtain ⟨t12, m12⟩ := T.m_MOST_ROWS_IN_BLOCK
    obtain ⟨t4, m4⟩ := T.m_MOST_DEEP
    refine ⟨_, PSs.nox (pss_one (ps_ret (pe_and (pe_callB call_isi (by rfl) T.b_isinstance (by decide +kernel) (pa_cons (pv 1) (pa_cons (pe_bltn (v := .ty "tuple") (by rfl) T.b_tuple (by decide +kernel) rfl) pa_nil))) (pe_and (pe_cmpR op_le (pe_callB call_len_seq (by rfl) T.b_len (by decide +kernel) (pa_cons (pv 1) pa_nil)) (pe_glob (v := .int 12) rfl m12 ⟨_, rfl⟩) (nomark _)) (pe_one (pe_cmpR op_le (pv 0) (pe_glob (v := .int 4) rfl m4 ⟨_, rfl⟩) (nomark _))))))), ?_⟩
    refine ⟨_, rfl, _, _, _, _, true, rfl, .ty "tuple", tyT hS, rfl, _, rfl, _, rfl, a, _, rfl, .inr hS, _, _, rfl, rfl, _, rfl, ?_⟩
    refine ifD (by rw [ht.len]; omega) ⟨_, rfl, _, _, rfl, rfl, ?_⟩
    show Q (.bl (decide (d ≤ 4))) H
    rw [decide_eq_true hd]
    exact k
end
end K25
set_option Elab.async false
set_option linter.all false
set_option maxRecDepth 100000
set_option maxHeartbeats 4000000
namespace K25
open PySem PySem.Spec PyProof.Rows L2 ZX PM ZR
section
variable {P : Program} {w : World} {K : PySem.W.Frag} {mg : Str → Option Value} {base : Heap}
theorem dB_le {b : List Rw} {n : Nat} (h : b.length ≤ n) : (dB b).length ≤ n := by
  rw [dB_eq, List.length_map]
  exact h
theorem scIs_row : FnScope ["deep", "thing", "many", "word", "rest"] ["deep", "thing", "many"] (defScope sIs_row) := ⟨rfl, rfl, rfl, by decide +kernel, rfl, by decide +kernel, by decide +kernel⟩
theorem ok_is_row {f : Addr} {fd : FuncData} (F : FnPD K "is_row" sIs_row [.int 0] f fd) (T : Bi mg) (hA : Asking K mg) (C_is_integer : Cal P w K mg base "is_integer" 1 ["thing"] (spIsInt K)) (C_is_number_below : Cal P w K mg base "is_number_below" 2 ["limit", "thing"] (spBelow K)) (C_is_name : Cal P w K mg base "is_name" 1 ["thing"] spIsName)
    (C_is_parts : Cal P w K mg base "is_parts" 2 ["thing"] (spIsParts K)) (C_is_block : Cal P w K mg base "is_block" 1 ["deep", "thing"] (spIsBlock K)) : FnOk P w K mg base CX0 3 f fd ["deep", "thing", "many"] (spIsRow K) := by
  refine F.ok scIs_row (fun vs H Q E h => ?_) (fun cdv A outer s H vs Q E hr h => ?_)
  · obtain ⟨d, v, r, m, rfl, _⟩ := h
    rfl
  · obtain ⟨d, v, r, m, rfl, tv, ok, k⟩ := h
    have hr_is_integer := hr.mono (show 1 ≤ 2 by decide)
    have hr_is_name := hr_is_integer
    have hr_is_block := hr_is_integer
    have hr_is_parts := hr
    have hr_is_number_below := hr
    obtain ⟨aA, mA, hAs⟩ := hA
    obtain ⟨a, tl, rfl, hS, ht⟩ := tv.rowI
    refine ⟨_, PSs.nox (pss_cons (ps_if (PW.pt (pw_or (pt_not (pt_val (pe_callB call_isi (by rfl) T.b_isinstance (by decide +kernel) (pa_cons (pv 1) (pa_cons (pe_bltn (v := .ty "tuple") (by rfl) T.b_tuple (by decide +kernel) rfl) pa_nil))))) (pw_or (pt_not (pt_truth (pv 1) (by intro _; rfl))) (pw_or1 (pt_not (pt_val (pe_callB call_isi (by rfl) T.b_isinstance (by decide +kernel) (pa_cons (pe_ix ix_tup (pv 1) pe_int (fun _ _ => rfl)) (pa_cons (pe_bltn (v := .ty "str") (by rfl) T.b_str (by decide +kernel) rfl) pa_nil))))))))) (pss_one (ps_ret pe_bl)) pss_nil)
    (pss_cut (ps_par (by rfl) scIs_row.nd (i := 3) (j := 4) rfl rfl (by decide) rfl rfl (pa_cons (pe_ix ix_tup (pv 1) pe_int (fun _ _ => rfl)) (pa_cons (pe_slice sl_tup (pv 1) (po_some pe_int) po_none) pa_nil)) (by rfl))
    (pss_cons (ps_if (pt_cmpR op_eq (pv 3) pe_str (nomark _)) (pss_one (ps_ret (pe_and (pe_cmpR op_eq (pe_callB call_len_seq (by rfl) T.b_len (by decide +kernel) (pa_cons (pv 4) pa_nil)) pe_int (nomark _)) (pe_and (pcal C_is_name hr_is_name rfl (pa_cons (pe_ix ix_tup (pv 4) pe_int (fun _ _ => rfl)) pa_nil)) (pe_and (pcal C_is_name hr_is_name rfl (pa_cons (pe_ix ix_tup (pv 4) pe_int (fun _ _ => rfl)) pa_nil)) (pe_one (pcal C_is_parts hr_is_parts rfl (pa_cons (pe_ix ix_tup (pv 4) pe_int (fun _ _ => rfl)) pa_nil)))))))) pss_nil)
    (pss_cons (ps_if (pt_cmpR op_eq (pv 3) pe_str (nomark _)) (pss_one (ps_ret (pe_and (pe_cmpR op_eq (pe_callB call_len_seq (by rfl) T.b_len (by decide +kernel) (pa_cons (pv 4) pa_nil)) pe_int (nomark _)) (pe_and (pcal C_is_name hr_is_name rfl (pa_cons (pe_ix ix_tup (pv 4) pe_int (fun _ _ => rfl)) pa_nil)) (pe_one (pcal C_is_name hr_is_name rfl (pa_cons (pe_ix ix_tup (pv 4) pe_int (fun _ _ => rfl)) pa_nil))))))) pss_nil)
    (pss_cons (ps_if (pt_cmpR op_eq (pv 3) pe_str (nomark _)) (pss_one (ps_ret (pe_and (pe_cmpR op_eq (pe_callB call_len_seq (by rfl) T.b_len (by decide +kernel) (pa_cons (pv 4) pa_nil)) pe_int (nomark _)) (pe_and (pcal C_is_name hr_is_name rfl (pa_cons (pe_ix ix_tup (pv 4) pe_int (fun _ _ => rfl)) pa_nil)) (pe_one (pcal C_is_integer hr_is_integer rfl (pa_cons (pe_ix ix_tup (pv 4) pe_int (fun _ _ => rfl)) pa_nil))))))) pss_nil)
    (pss_cons (ps_if (pt_cmpR op_in_seq (pv 3) (pe_glob (v := .ref _) rfl mA rfl) (by with_unfolding_all rfl)) (pss_one (ps_ret (pe_and (pe_cmpR op_eq (pe_callB call_len_seq (by rfl) T.b_len (by decide +kernel) (pa_cons (pv 4) pa_nil)) pe_int (nomark _)) (pe_one (pcal C_is_name hr_is_name rfl (pa_cons (pe_ix ix_tup (pv 4) pe_int (fun _ _ => rfl)) pa_nil)))))) pss_nil)
    (pss_cons (ps_if (pt_cmpR op_eq (pv 3) pe_str (nomark _)) (pss_one (ps_ret (pe_and (pe_cmpR op_eq (pe_callB call_len_seq (by rfl) T.b_len (by decide +kernel) (pa_cons (pv 4) pa_nil)) pe_int (nomark _)) (pe_one (pcal C_is_number_below hr_is_number_below rfl (pa_cons (pv 2) (pa_cons (pe_ix ix_tup (pv 4) pe_int (fun _ _ => rfl)) pa_nil))))))) pss_nil)
    (pss_cons (ps_if (pt_cmpR op_eq (pv 3) pe_str (nomark _)) (pss_one (ps_ret (pe_and (pe_cmpR op_eq (pe_callB call_len_seq (by rfl) T.b_len (by decide +kernel) (pa_cons (pv 4) pa_nil)) pe_int (nomark _)) (pe_and (pcal C_is_block hr_is_block rfl (pa_cons (pe_op op_add (pv 0) pe_int) (pa_cons (pe_ix ix_tup (pv 4) pe_int (fun _ _ => rfl)) pa_nil))) (pe_one (pcal C_is_block hr_is_block rfl (pa_cons (pe_op op_add (pv 0) pe_int) (pa_cons (pe_ix ix_tup (pv 4) pe_int (fun _ _ => rfl)) pa_nil)))))))) pss_nil)
    (pss_one (ps_ret (pe_and (pe_cmpR op_eq (pv 3) pe_str (nomark _)) (pe_and (pe_cmpR op_eq (pe_callB call_len_seq (by rfl) T.b_len (by decide +kernel) (pa_cons (pv 4) pa_nil)) pe_int (nomark _)) (pe_one (pcal C_is_block hr_is_block rfl (pa_cons (pe_op op_add (pv 0) pe_int) (pa_cons (pe_ix ix_tup (pv 4) pe_int (fun _ _ => rfl)) pa_nil)))))))))))))))), ?_⟩
    refine ⟨_, rfl, _, _, _, _, true, rfl, .ty "tuple", tyT hS, rfl, true, rfl, _, rfl, true, .inr (.inl ⟨_, hS, rfl⟩), _, rfl, _, _, _, _, rfl, rfl, hS, at0, _, _, _, _, true, rfl, .ty "str", .base (.str _), rfl, true, rfl, ?_⟩
    refine ⟨fun σ' H' => ∃ p, σ' = [some (.int d), some (.ref a), some (.int m), some (.str (wordR r)), some (.ref p)] ∧ Same H H' ∧ SqT K H' p tl ∧ Tvs K H' tl (argsR r), ?_, ?_⟩
    · refine ⟨_, rfl, _, _, _, _, rfl, rfl, hS, at0, _, rfl, 1, rfl, a, _, rfl, hS, cut1_ne, fun p np => ⟨_, _, rfl, p, rfl, same_new np, ?_, ht.pt (Pt.new np)⟩⟩
      rw [cut1]
      exact .inl (.inl upd_same)
    · rintro σ' H' ⟨p, rfl, sm, hp, ht⟩
      cases r with
      | note x o ps =>
        obtain ⟨n1, n2, l3, n3⟩ := ok
        obtain ⟨v1, v2, v3, rfl, t1, t2, t3⟩ := ht.three
        cases t1.strI
        cases t2.strI
        exact ⟨_, rfl, rfl, _, rfl, ifD rfl ⟨_, rfl, p, _, rfl, .inr hp, rfl, _, rfl, ifD rfl ⟨_, rfl, _, _, _, _, rfl, rfl, hp, rfl, x, rfl, n1, fun H1 s1 => ⟨_, rfl, _, rfl, _, _, _, _, rfl, rfl, (Same.pt s1).sq hp, rfl, o, rfl, n2, fun H2 s2 => ⟨_, rfl, _, rfl, _, _, _, _, rfl, rfl, ((Same.pt s1).trans (Same.pt s2)).sq hp, rfl, _, ps, rfl, t3.pt ((Same.pt s1).trans (Same.pt s2)), l3, n3, fun H3 s3 => k H3 (((sm.trans s1).trans s2).trans s3)⟩⟩⟩⟩⟩
      | copy x y =>
        obtain ⟨n1, n2⟩ := ok
        obtain ⟨v1, v2, rfl, t1, t2⟩ := ht.two
        cases t1.strI
        cases t2.strI
        refine ⟨_, rfl, rfl, _, rfl, ifDF (neS (a := "copy") (b := "note") (by decide +kernel)) ?_⟩
        exact ⟨_, rfl, rfl, _, rfl, ifD rfl ⟨_, rfl, p, _, rfl, .inr hp, rfl, _, rfl, ifD rfl ⟨_, rfl, _, _, _, _, rfl, rfl, hp, rfl, x, rfl, n1, fun H1 s1 => ⟨_, rfl, _, rfl, _, _, _, _, rfl, rfl, (Same.pt s1).sq hp, rfl, y, rfl, n2, fun H2 s2 => k H2 ((sm.trans s1).trans s2)⟩⟩⟩⟩
      | give x i =>
        have n1 : NameOk x := ok
        obtain ⟨v1, v2, rfl, t1, t2⟩ := ht.two
        cases t1.strI
        cases t2.intI
        refine ⟨_, rfl, rfl, _, rfl, ifDF (neS (a := "give") (b := "note") (by decide +kernel)) ?_⟩
        refine ⟨_, rfl, rfl, _, rfl, ifDF (neS (a := "give") (b := "copy") (by decide +kernel)) ?_⟩
        exact ⟨_, rfl, rfl, _, rfl, ifD rfl ⟨_, rfl, p, _, rfl, .inr hp, rfl, _, rfl, ifD rfl ⟨_, rfl, _, _, _, _, rfl, rfl, hp, rfl, x, rfl, n1, fun H1 s1 => ⟨_, rfl, _, rfl, _, _, _, _, rfl, rfl, (Same.pt s1).sq hp, rfl, _, _, rfl, .int i, k H1 (sm.trans s1)⟩⟩⟩⟩
      | ask x =>
        have n1 : NameOk x := ok
        obtain ⟨v1, rfl, t1⟩ := ht.one
        cases t1.strI
        refine ⟨_, rfl, rfl, _, rfl, ifDF (neS (a := "ask") (b := "note") (by decide +kernel)) ?_⟩
        refine ⟨_, rfl, rfl, _, rfl, ifDF (neS (a := "ask") (b := "copy") (by decide +kernel)) ?_⟩
        refine ⟨_, rfl, rfl, _, rfl, ifDF (neS (a := "ask") (b := "give") (by decide +kernel)) ?_⟩
        exact ⟨_, rfl, aA, _, rfl, .inr (hAs _), rfl, rfl, _, rfl, ifB (show inV (V.str (Str.ofString "ask")) [V.str (Str.ofString "ask"), V.str (Str.ofString "print")] = true by decide +kernel) ⟨_, rfl, p, _, rfl, .inr hp, rfl, _, rfl, ifD rfl ⟨_, rfl, _, _, _, _, rfl, rfl, hp, rfl, x, rfl, n1, fun H1 s1 => k H1 (sm.trans s1)⟩⟩⟩
      | prt x =>
        have n1 : NameOk x := ok
        obtain ⟨v1, rfl, t1⟩ := ht.one
        cases t1.strI
        refine ⟨_, rfl, rfl, _, rfl, ifDF (neS (a := "print") (b := "note") (by decide +kernel)) ?_⟩
        refine ⟨_, rfl, rfl, _, rfl, ifDF (neS (a := "print") (b := "copy") (by decide +kernel)) ?_⟩
        refine ⟨_, rfl, rfl, _, rfl, ifDF (neS (a := "print") (b := "give") (by decide +kernel)) ?_⟩
        exact ⟨_, rfl, aA, _, rfl, .inr (hAs _), rfl, rfl, _, rfl, ifB (show inV (V.str (Str.ofString "print")) [V.str (Str.ofString "ask"), V.str (Str.ofString "print")] = true by decide +kernel) ⟨_, rfl, p, _, rfl, .inr hp, rfl, _, rfl, ifD rfl ⟨_, rfl, _, _, _, _, rfl, rfl, hp, rfl, x, rfl, n1, fun H1 s1 => k H1 (sm.trans s1)⟩⟩⟩
      | either b1 b2 =>
        obtain ⟨d4, l1, l2, _, _⟩ := ok
        obtain ⟨v1, v2, rfl, t1, t2⟩ := ht.two
        refine ⟨_, rfl, rfl, _, rfl, ifDF (neS (a := "either") (b := "note") (by decide +kernel)) ?_⟩
        refine ⟨_, rfl, rfl, _, rfl, ifDF (neS (a := "either") (b := "copy") (by decide +kernel)) ?_⟩
        refine ⟨_, rfl, rfl, _, rfl, ifDF (neS (a := "either") (b := "give") (by decide +kernel)) ?_⟩
        refine ⟨_, rfl, aA, _, rfl, .inr (hAs _), rfl, rfl, _, rfl, ifBF (show inV (V.str (Str.ofString "either")) [V.str (Str.ofString "ask"), V.str (Str.ofString "print")] = false by decide +kernel) ?_⟩
        refine ⟨_, rfl, rfl, _, rfl, ifDF (neS (a := "either") (b := "call") (by decide +kernel)) ?_⟩
        exact ⟨_, rfl, rfl, _, rfl, ifD rfl ⟨_, rfl, p, _, rfl, .inr hp, rfl, _, rfl, ifD rfl ⟨_, rfl, _, _, rfl, rfl, _, rfl, _, _, _, _, rfl, rfl, hp, rfl, _, _, _, rfl, t1, dB_le l1, by omega, ⟨_, rfl, _, rfl, _, _, rfl, rfl, _, rfl, _, _, _, _, rfl, rfl, hp, rfl, _, _, _, rfl, t2, dB_le l2, by omega, k H' sm⟩⟩⟩⟩
      | again b1 =>
        obtain ⟨d4, l1, _⟩ := ok
        obtain ⟨v1, rfl, t1⟩ := ht.one
        refine ⟨_, rfl, rfl, _, rfl, ifDF (neS (a := "again") (b := "note") (by decide +kernel)) ?_⟩
        refine ⟨_, rfl, rfl, _, rfl, ifDF (neS (a := "again") (b := "copy") (by decide +kernel)) ?_⟩
        refine ⟨_, rfl, rfl, _, rfl, ifDF (neS (a := "again") (b := "give") (by decide +kernel)) ?_⟩
        refine ⟨_, rfl, aA, _, rfl, .inr (hAs _), rfl, rfl, _, rfl, ifBF (show inV (V.str (Str.ofString "again")) [V.str (Str.ofString "ask"), V.str (Str.ofString "print")] = false by decide +kernel) ?_⟩
        refine ⟨_, rfl, rfl, _, rfl, ifDF (neS (a := "again") (b := "call") (by decide +kernel)) ?_⟩
        refine ⟨_, rfl, rfl, _, rfl, ifDF (neS (a := "again") (b := "either") (by decide +kernel)) ?_⟩
        exact ⟨_, rfl, rfl, _, rfl, ifD rfl ⟨_, rfl, p, _, rfl, .inr hp, rfl, _, rfl, ifD rfl ⟨_, rfl, _, _, rfl, rfl, _, rfl, _, _, _, _, rfl, rfl, hp, rfl, _, _, _, rfl, t1, dB_le l1, by omega, k H' sm⟩⟩⟩
end
end K25
set_option Elab.async false
set_option linter.all false
set_option maxRecDepth 100000
set_option maxHeartbeats 4000000
namespace PM
open PySem PySem.Spec PyProof.Rows L2 ZX
theorem _root_.L2.Same.put {H H' : Hp} {l : Addr} {o : HO} (s : Same H H') (n : H l = none) : Same H (upd H' l o) := fun b u e => by
  rw [upd_ne (ne_of_none e n)]
  exact s b u e
theorem fm_take {α β : Type} {f : α → List β} {l : List α} {i : Nat} {x : α} (h : l[i]? = some x) : (l.take (i + 1)).flatMap f = (l.take i).flatMap f ++ f x := by
  rw [List.take_succ, h, List.flatMap_append]
  simp
theorem fm_le {α β : Type} {f : α → List β} (l : List α) (i : Nat) : ((l.take i).flatMap f).length ≤ (l.flatMap f).length := by
  have e : (l.take i ++ l.drop i).flatMap f = l.flatMap f := by rw [List.take_append_drop]
  rw [← e, List.flatMap_append, List.length_append]
  exact Nat.le_add_right _ _
theorem fm_le1 {α β : Type} {f : α → List β} {l : List α} {i : Nat} {x : α} (h : l[i]? = some x) : ((l.take i).flatMap f ++ f x).length ≤ (l.flatMap f).length := by
  rw [← fm_take h]
  exact fm_le l (i + 1)
theorem depB_mem {r : Rw} : ∀ {b : List Rw}, r ∈ b → depR r ≤ depB b
  | _ :: b, h => by
    rcases List.mem_cons.mp h with h | h
    · subst h
      exact Nat.le_max_left _ _
    · exact Nat.le_trans (depB_mem h) (Nat.le_max_right _ _)
theorem dep_inner {r : Rw} {c : List Rw} (h : c ∈ inner r) : depB c < depR r := by
  cases r with
  | either a b =>
    simp [inner] at h
    rcases h with rfl | rfl
    · exact Nat.lt_succ_of_le (Nat.le_max_left _ _)
    · exact Nat.lt_succ_of_le (Nat.le_max_right _ _)
  | again a =>
    simp [inner] at h
    subst h
    exact Nat.lt_succ_self _
  | _ => simp [inner] at h
theorem inner_args (r : Rw) (h : inner r ≠ []) : argsR r = (inner r).map fun b => .tuple (dB b) := by
  cases r <;> simp [inner] at h <;> rfl
theorem word_inner (r : Rw) : (inner r).isEmpty = !((wordR r == Str.ofString "either") || (wordR r == Str.ofString "again")) := by
  cases r with
  | note _ _ _ => exact (by decide +kernel : true = !(Str.ofString "note" == Str.ofString "either" || Str.ofString "note" == Str.ofString "again"))
  | copy _ _ => exact (by decide +kernel : true = !(Str.ofString "copy" == Str.ofString "either" || Str.ofString "copy" == Str.ofString "again"))
  | give _ _ => exact (by decide +kernel : true = !(Str.ofString "give" == Str.ofString "either" || Str.ofString "give" == Str.ofString "again"))
  | ask _ => exact (by decide +kernel : true = !(Str.ofString "ask" == Str.ofString "either" || Str.ofString "ask" == Str.ofString "again"))
  | prt _ => exact (by decide +kernel : true = !(Str.ofString "print" == Str.ofString "either" || Str.ofString "print" == Str.ofString "again"))
  | either _ _ => exact (by decide +kernel : false = !(Str.ofString "either" == Str.ofString "either" || Str.ofString "either" == Str.ofString "again"))
  | again _ => exact (by decide +kernel : false = !(Str.ofString "again" == Str.ofString "either" || Str.ofString "again" == Str.ofString "again"))
section
variable {K : PySem.W.Frag} {H : Hp}
theorem Tvs.nthR {vs : List V} {b : List Rw} {i : Nat} {x : V} (t : Tvs K H vs (dB b)) (h : vs[i]? = some x) : ∃ r, b[i]? = some r ∧ RV K H x r := by
  have hl : i < vs.length := (List.getElem?_eq_some_iff.mp h).1
  rw [t.len, dB_eq, List.length_map] at hl
  obtain ⟨v, hv, tv⟩ := Tvs.get (i := i) (d := dR b[i]) t (by rw [dB_eq, List.getElem?_map, List.getElem?_eq_getElem hl]; rfl)
  rw [h] at hv
  cases hv
  exact ⟨_, List.getElem?_eq_getElem hl, tv⟩
theorem Tvs.nthB {vs : List V} {bs : List (List Rw)} {i : Nat} {x : V} (t : Tvs K H vs (bs.map fun b => .tuple (dB b))) (h : vs[i]? = some x) : ∃ c, bs[i]? = some c ∧ BV K H x c := by
  have hl : i < vs.length := (List.getElem?_eq_some_iff.mp h).1
  rw [t.len, List.length_map] at hl
  obtain ⟨v, hv, tv⟩ := Tvs.get (i := i) (d := .tuple (dB bs[i])) t (by rw [List.getElem?_map, List.getElem?_eq_getElem hl]; rfl)
  rw [h] at hv
  cases hv
  exact ⟨_, List.getElem?_eq_getElem hl, tv⟩
end
end PM
namespace K25
open PySem PySem.Spec PyProof.Rows L2 ZX PM ZR
def spRowsOf (K : PySem.W.Frag) (n : Nat) : Sp := fun vs H Q _ => ∃ (v : V) (b : List Rw), vs = [v] ∧ BV K H v b ∧ depB b < n ∧ (rowsB b).length ≤ 1000 ∧ ∀ l us H', Same H H' → H l = none → H' l = some (.lst us) → Tvs K H' us ((rowsB b).map dR) → Q (.ref l) H'
def spNamesOf (K : PySem.W.Frag) : Sp := fun vs H Q _ => ∃ (v : V) (r : Rw), vs = [v] ∧ RV K H v r ∧ (namesR r).length ≤ 4 ∧ ∀ l H', Same H H' → H l = none → H' l = some (.lst ((namesR r).map V.str)) → Q (.ref l) H'
section
variable {P : Program} {w : World} {K : PySem.W.Frag} {mg : Str → Option Value} {base : Heap}
theorem scBlocks_of : FnScope ["row"] ["row"] (defScope sBlocks_of) := ⟨rfl, rfl, rfl, by decide +kernel, rfl, by decide +kernel, by decide +kernel⟩
theorem ok_blocks_of {f : Addr} {fd : FuncData} (F : FnP K "blocks_of" sBlocks_of f fd) (T : Bi mg) : FnOk P w K mg base CX0 1 f fd ["row"] (spBlocksOf K) := by
  refine F.ok scBlocks_of (fun vs H Q E h => ?_) (fun cdv A outer s H vs Q E hr h => ?_)
  · obtain ⟨v, r, rfl, _⟩ := h
    rfl
  · obtain ⟨v, r, rfl, tv, k⟩ := h
    obtain ⟨a, tl, rfl, hS, ht⟩ := tv.rowI
    refine ⟨_, PSs.nox (pss_one (ps_ret (pe_ifExp (pt_cmpR op_in_seq (pe_ix ix_tup (pv 0) pe_int (fun _ _ => rfl)) (pe_tup (pa_cons pe_str (pa_cons pe_str pa_nil))) (by with_unfolding_all rfl)) (pe_slice sl_tup (pv 0) (po_some pe_int) po_none) (pe_tup pa_nil)))), ?_⟩
    refine ⟨_, rfl, _, _, _, _, rfl, rfl, hS, at0, by decide, fun t nt => ?_⟩
    have pt := Pt.new (o := .tup [V.str "either", V.str "again"]) nt
    have ei : inV (V.str (wordR r)) [V.str "either", V.str "again"] = !(inner r).isEmpty := by
      rw [word_inner, Bool.not_not]
      show (Str.ofString "either" == wordR r || (Str.ofString "again" == wordR r || false)) = _
      rw [Bool.or_false, BEq.comm, BEq.comm (a := Str.ofString "again")]
    refine ⟨_, _, rfl, .inr (.inl (.inl upd_same)), rfl, rfl, _, rfl, ?_⟩
    show if inV (V.str (wordR r)) [V.str "either", V.str "again"] = true then _ else _
    cases hi : (inner r).isEmpty with
    | true =>
      refine ifBF (by rw [ei, hi]; rfl) ⟨by decide, fun p np => k p [] _ ((same_new nt).trans (same_new np)) (.inl (.inl upd_same)) ?_⟩
      rw [List.isEmpty_iff.mp hi]
      exact .nil
    | false =>
      refine ifB (by rw [ei, hi]; rfl) ⟨_, rfl, 1, rfl, a, _, rfl, pt.sq hS, cut1_ne, fun p np => ?_⟩
      refine k p tl _ ((same_new nt).trans (same_new np)) ?_ ?_
      · rw [cut1]
        exact .inl (.inl upd_same)
      · rw [← inner_args r (fun e => by rw [e] at hi; cases hi)]
        exact ht.pt (pt.trans (Pt.new np))
theorem scNames_of : FnScope ["row"] ["row"] (defScope sNames_of) := ⟨rfl, rfl, rfl, by decide +kernel, rfl, by decide +kernel, by decide +kernel⟩
theorem ok_names_of {f : Addr} {fd : FuncData} (F : FnP K "names_of" sNames_of f fd) (T : Bi mg) (hA : Asking K mg) : FnOk P w K mg base CX0 2 f fd ["row"] (spNamesOf K) := by
  refine F.ok scNames_of (fun vs H Q E h => ?_) (fun cdv A outer s H vs Q E hr h => ?_)
  · obtain ⟨v, r, rfl, _⟩ := h
    rfl
  · obtain ⟨v, r, rfl, tv, hl, k⟩ := h
    obtain ⟨a, tl, rfl, hS, ht⟩ := tv.rowI
    obtain ⟨aA, mA, hAs⟩ := hA
    refine ⟨_, PSs.nox (pss_cons (ps_if (pt_cmpR op_eq (pe_ix ix_tup (pv 0) pe_int (fun _ _ => rfl)) pe_str (nomark _)) (pss_one (ps_ret (pe_lst (pa_cons (pe_ix ix_tup (pv 0) pe_int (fun _ _ => rfl)) (StX.pa_star (pe_ix ix_tup (pv 0) pe_int (fun _ _ => rfl)) pa_nil))))) pss_nil)
    (pss_cons (ps_if (pt_cmpR op_eq (pe_ix ix_tup (pv 0) pe_int (fun _ _ => rfl)) pe_str (nomark _)) (pss_one (ps_ret (pe_lst (pa_cons (pe_ix ix_tup (pv 0) pe_int (fun _ _ => rfl)) (pa_cons (pe_ix ix_tup (pv 0) pe_int (fun _ _ => rfl)) pa_nil))))) pss_nil)
    (pss_one (ps_ret (pe_ifExp (PW.pt (pw_or (pt_cmpR op_eq (pe_ix ix_tup (pv 0) pe_int (fun _ _ => rfl)) pe_str (nomark _)) (pw_or1 (pt_cmpR op_in_seq (pe_ix ix_tup (pv 0) pe_int (fun _ _ => rfl)) (pe_glob (v := .ref _) rfl mA rfl) (by with_unfolding_all rfl))))) (pe_lst (pa_cons (pe_ix ix_tup (pv 0) pe_int (fun _ _ => rfl)) pa_nil)) (pe_lst pa_nil)))))), ?_⟩
    have go : ∀ (xs : List V) (H' : Hp), Same H H' → xs = (namesR r).map V.str → xs.length ≤ sizeLine ∧ ∀ l, H' l = none → Q (.ref l) (upd H' l (.lst xs)) := fun xs H' sm e => ⟨by
      rw [e, List.length_map]
      exact Nat.le_trans hl (by decide), fun l nl => k l _ (sm.trans (same_new nl)) (sm.free nl) (by rw [e]; exact upd_same)⟩
    refine ⟨_, rfl, _, _, _, _, rfl, rfl, hS, at0, rfl, _, rfl, ?_⟩
    cases r with
    | note x o ps =>
      obtain ⟨v1, v2, v3, rfl, t1, t2, t3⟩ := ht.three
      cases t1.strI
      cases t2.strI
      obtain ⟨a3, xs3, rfl, hS3, ht3⟩ := t3.tupI
      have e3 := Tvs.strs ht3
      subst e3
      exact ifD rfl ⟨_, rfl, _, _, _, _, rfl, rfl, hS, rfl, _, rfl, _, _, _, _, rfl, rfl, hS, rfl, _, _, rfl, .inl hS3, go _ _ (fun _ _ h => h) (by show _ :: (_ ++ []) = _; rw [List.append_nil]; rfl)⟩
    | copy x y =>
      obtain ⟨v1, v2, rfl, t1, t2⟩ := ht.two
      cases t1.strI
      cases t2.strI
      exact ifDF (neS (a := "copy") (b := "note") (by decide +kernel)) ⟨_, rfl, _, _, _, _, rfl, rfl, hS, rfl, rfl, _, rfl, ifD rfl ⟨_, rfl, _, _, _, _, rfl, rfl, hS, rfl, _, rfl, _, _, _, _, rfl, rfl, hS, rfl, go _ _ (fun _ _ h => h) rfl⟩⟩
    | give x i =>
      obtain ⟨v1, v2, rfl, t1, t2⟩ := ht.two
      cases t1.strI
      exact ifDF (neS (a := "give") (b := "note") (by decide +kernel)) ⟨_, rfl, _, _, _, _, rfl, rfl, hS, rfl, rfl, _, rfl, ifDF (neS (a := "give") (b := "copy") (by decide +kernel)) ⟨_, rfl, _, _, _, _, rfl, rfl, hS, rfl, rfl, _, rfl, ifD rfl ⟨_, rfl, _, _, _, _, rfl, rfl, hS, rfl, go _ _ (fun _ _ h => h) rfl⟩⟩⟩
    | ask x =>
      obtain ⟨v1, rfl, t1⟩ := ht.one
      cases t1.strI
      exact ifDF (neS (a := "ask") (b := "note") (by decide +kernel)) ⟨_, rfl, _, _, _, _, rfl, rfl, hS, rfl, rfl, _, rfl, ifDF (neS (a := "ask") (b := "copy") (by decide +kernel)) ⟨_, rfl, _, _, _, _, rfl, rfl, hS, rfl, rfl, _, rfl, ifDF (neS (a := "ask") (b := "give") (by decide +kernel)) ⟨_, rfl, _, _, _, _, rfl, rfl, hS, rfl, aA, _, rfl, .inr (hAs _), rfl, rfl, _, rfl, ifB (show inV (V.str (Str.ofString "ask")) [V.str (Str.ofString "ask"), V.str (Str.ofString "print")] = true by decide +kernel) ⟨_, rfl, _, _, _, _, rfl, rfl, hS, rfl, go _ _ (fun _ _ h => h) rfl⟩⟩⟩⟩
    | prt x =>
      obtain ⟨v1, rfl, t1⟩ := ht.one
      cases t1.strI
      exact ifDF (neS (a := "print") (b := "note") (by decide +kernel)) ⟨_, rfl, _, _, _, _, rfl, rfl, hS, rfl, rfl, _, rfl, ifDF (neS (a := "print") (b := "copy") (by decide +kernel)) ⟨_, rfl, _, _, _, _, rfl, rfl, hS, rfl, rfl, _, rfl, ifDF (neS (a := "print") (b := "give") (by decide +kernel)) ⟨_, rfl, _, _, _, _, rfl, rfl, hS, rfl, aA, _, rfl, .inr (hAs _), rfl, rfl, _, rfl, ifB (show inV (V.str (Str.ofString "print")) [V.str (Str.ofString "ask"), V.str (Str.ofString "print")] = true by decide +kernel) ⟨_, rfl, _, _, _, _, rfl, rfl, hS, rfl, go _ _ (fun _ _ h => h) rfl⟩⟩⟩⟩
    | either b1 b2 =>
      obtain ⟨v1, v2, rfl, t1, t2⟩ := ht.two
      exact ifDF (neS (a := "either") (b := "note") (by decide +kernel)) ⟨_, rfl, _, _, _, _, rfl, rfl, hS, rfl, rfl, _, rfl, ifDF (neS (a := "either") (b := "copy") (by decide +kernel)) ⟨_, rfl, _, _, _, _, rfl, rfl, hS, rfl, rfl, _, rfl, ifDF (neS (a := "either") (b := "give") (by decide +kernel)) ⟨_, rfl, _, _, _, _, rfl, rfl, hS, rfl, aA, _, rfl, .inr (hAs _), rfl, rfl, _, rfl, ifBF (show inV (V.str (Str.ofString "either")) [V.str (Str.ofString "ask"), V.str (Str.ofString "print")] = false by decide +kernel) (go _ _ (fun _ _ h => h) rfl)⟩⟩⟩
    | again b1 =>
      obtain ⟨v1, rfl, t1⟩ := ht.one
      exact ifDF (neS (a := "again") (b := "note") (by decide +kernel)) ⟨_, rfl, _, _, _, _, rfl, rfl, hS, rfl, rfl, _, rfl, ifDF (neS (a := "again") (b := "copy") (by decide +kernel)) ⟨_, rfl, _, _, _, _, rfl, rfl, hS, rfl, rfl, _, rfl, ifDF (neS (a := "again") (b := "give") (by decide +kernel)) ⟨_, rfl, _, _, _, _, rfl, rfl, hS, rfl, aA, _, rfl, .inr (hAs _), rfl, rfl, _, rfl, ifBF (show inV (V.str (Str.ofString "again")) [V.str (Str.ofString "ask"), V.str (Str.ofString "print")] = false by decide +kernel) (go _ _ (fun _ _ h => h) rfl)⟩⟩⟩
theorem scRows_of : FnScope ["block", "found", "row", "inner"] ["block"] (defScope sRows_of) := ⟨rfl, rfl, rfl, by decide +kernel, rfl, by decide +kernel, by decide +kernel⟩
theorem ok_rows_of0 {f : Addr} {fd : FuncData} (k : Nat) : FnOk P w K mg base CX0 k f fd ["block"] (spRowsOf K 0) :=
  ⟨fun vs H Q E h => by
    obtain ⟨_, _, _, _, h, _⟩ := h
    exact absurd h (Nat.not_lt_zero _), fun A outer s H args us vs Q E hr e0 hb r h => by
    obtain ⟨_, _, _, _, h, _⟩ := h
    exact absurd h (Nat.not_lt_zero _)⟩
/-- between two turns of rows_of -/
def RowsMid (K : PySem.W.Frag) (v : V) (l : Addr) (H0 : Hp) (rs : List Rw) (y : Option V) (σ : L2.St) (H : Hp) : Prop := ∃ (us : List V) (z : Option V), σ = [some v, some (.ref l), y, z] ∧ Same H0 H ∧ H l = some (.lst us) ∧ Tvs K H us (rs.map dR)
theorem ok_rows_of1 {n : Nat} {f : Addr} {fd : FuncData} (F : FnP K "rows_of" sRows_of f fd) (T : Bi mg) (C_blocks_of : Cal P w K mg base "blocks_of" 1 ["row"] (spBlocksOf K)) (C_rows_of : Cal P w K mg base "rows_of" (n + 1) ["block"] (spRowsOf K n)) : FnOk P w K mg base CX0 (n + 2) f fd ["block"] (spRowsOf K (n + 1)) := by
  refine F.ok scRows_of (fun vs H Q E h => ?_) (fun cdv A outer s H vs Q E hr h => ?_)
  · obtain ⟨v, r, rfl, _⟩ := h
    rfl
  · obtain ⟨v, b, rfl, tv, hd, hn, k⟩ := h
    obtain ⟨a, xs, rfl, hS, ht⟩ := tv.tupI
    have hr_blocks_of := hr.mono (show 1 ≤ n + 1 by omega)
    have hr_rows_of := hr
    refine ⟨_, PSs.nox (pss_cons (ps_set (i := 1) scRows_of.nd rfl (Or.inl rfl) (pe_lst pa_nil))
    (pss_cons (ps_for PassesOwn.never rfl (pi_tup (pv 0)) (pg_name (i := 2) scRows_of.nd rfl (Or.inl rfl)) (pss_cut (ps_expr (pe_bm PySem.F.plainAttrs_list PySem.F.slot_list_append PySem.F.type_list_append mt_append (pv 1) (pa_cons (pv 2) pa_nil)))
      (pss_one (ps_for PassesOwn.never rfl (pi_tup (pcal C_blocks_of hr_blocks_of rfl (pa_cons (pv 2) pa_nil))) (pg_name (i := 3) scRows_of.nd rfl (Or.inl rfl)) (pss_one (ps_expr (pe_bm PySem.F.plainAttrs_list PySem.F.slot_list_extend PySem.F.type_list_extend mt_extend (pv 1) (pa_cons (pcal C_rows_of hr_rows_of rfl (pa_cons (pv 3) pa_nil)) pa_nil))))))))
    (pss_one (ps_ret (pv 1))))), ?_⟩
    refine ⟨by decide, fun l nl => ?_⟩
    refine ⟨_, rfl, a, rfl, ⟨xs, (Pt.new nl).sq hS⟩, ?_⟩
    refine for_tup (xs := xs) (fun i σ' H' => ∃ y, RowsMid K (.ref a) l H ((b.take i).flatMap rowsR) y σ' H') ⟨_, [], _, rfl, same_new nl, upd_same, .nil⟩ ?_ ?_ ?_
    · rintro i σ' H' _ ⟨y, us, z, rfl, sm, hl, hu⟩
      exact sm.pt.sq hS
    · rintro i x σ' H' hx ⟨y, us, z, rfl, sm, hl, hu⟩
      obtain ⟨r, hr, tr⟩ := (ht.pt sm.pt).nthR hx
      have hle : ((b.take i).flatMap rowsR ++ rowsR r).length ≤ 1000 := Nat.le_trans (fm_le1 hr) (by rw [← rowsB_eq]; exact hn)
      have hrm : r ∈ b := List.mem_of_getElem? hr
      rw [rowsR_eq, List.length_append, List.length_cons] at hle
      have hul := hu.len
      rw [List.length_map] at hul
      refine ⟨fun σ2 H2 => RowsMid K (.ref a) l H ((b.take i).flatMap rowsR ++ [r]) (some x) σ2 H2 ∧ RV K H2 x r, ?_, ?_⟩
      · refine ⟨_, rfl, .inl ⟨rfl, _, SqL.of hl⟩, _, rfl, l, us, x, rfl, rfl, hl, Nat.lt_of_le_of_lt (by omega : us.length ≤ 1000) (by decide), ?_⟩
        have pt := Pt.lst (o := .lst (us ++ [x])) hl
        refine ⟨⟨us ++ [x], _, rfl, sm.put nl, upd_same, ?_⟩, tr.pt pt⟩
        rw [List.map_append]
        exact Tvs.app (hu.pt pt) (.cons (tr.pt pt) .nil)
      · rintro σ2 H2 ⟨⟨us, z, rfl, sm, hl, hu⟩, tr⟩
        refine ⟨_, rfl, x, r, rfl, tr, fun c ys H3 s3 hc hys => ⟨c, rfl, ⟨ys, hc⟩, ?_⟩⟩
        refine for_tup (xs := ys) (fun j σ' H' => RowsMid K (.ref a) l H ((b.take i).flatMap rowsR ++ r :: ((inner r).take j).flatMap rowsB) (some x) σ' H' ∧ Pt H3 H') ⟨⟨us, _, rfl, sm.trans s3, s3 _ _ hl, hu.pt s3.pt⟩, Pt.refl _⟩ ?_ ?_ ?_
        · rintro j σ' H' _ ⟨_, p3⟩
          exact p3.sq hc
        · rintro j y σ' H' hy ⟨⟨us, z, rfl, sm, hl, hu⟩, p3⟩
          obtain ⟨cb, hcb, tc⟩ := (hys.pt p3).nthB hy
          have hle2 := fm_le1 (f := rowsB) hcb
          rw [List.length_append] at hle2
          have hcm : cb ∈ inner r := List.mem_of_getElem? hcb
          have hdp : depB cb < n := by
            have := dep_inner hcm
            have := depB_mem hrm
            omega
          have hul := hu.len
          rw [List.length_map, List.length_append, List.length_cons] at hul
          refine ⟨_, rfl, .inl ⟨rfl, _, SqL.of hl⟩, _, rfl, y, cb, rfl, tc, hdp, by omega, fun l2 zs H4 s4 n4 h4 t4 => ?_⟩
          have hzl := t4.len
          rw [List.length_map] at hzl
          refine ⟨l, l2, us, zs, rfl, rfl, s4 _ _ hl, h4, Nat.le_trans (by omega : us.length + zs.length ≤ 1000) (by decide), ?_⟩
          have pt := Pt.lst (o := .lst (us ++ zs)) (s4 _ _ hl)
          refine ⟨⟨us ++ zs, _, rfl, (sm.trans s4).put nl, upd_same, ?_⟩, (p3.trans s4.pt).trans pt⟩
          rw [fm_take hcb, ← List.cons_append, ← List.append_assoc, List.map_append]
          exact Tvs.app ((hu.pt s4.pt).pt pt) (t4.pt pt)
        · rintro σ' H' ⟨⟨us, z, rfl, sm, hl, hu⟩, _⟩
          have e : ys.length = (inner r).length := by rw [hys.len, List.length_map]
          refine ⟨_, us, z, rfl, sm, hl, ?_⟩
          rw [fm_take hr, rowsR_eq]
          rw [e, List.take_length] at hu
          exact hu
    · rintro σ' H' ⟨y, us, z, rfl, sm, hl, hu⟩
      have e : xs.length = b.length := by rw [ht.len, dB_eq, List.length_map]
      rw [e, List.take_length, ← rowsB_eq] at hu
      exact ⟨_, rfl, k l us H' sm nl hl hu⟩
end
end K25
set_option Elab.async false
set_option linter.all false
set_option maxRecDepth 100000
set_option maxHeartbeats 4000000
namespace PM
open PySem PySem.Spec PyProof.Rows L2 ZX
/-! ### rows ahead, with their depth -/
def dP (e : Nat × Rw) : PyData := .tuple [.int e.1, dR e.2]
def tot (st : List (Nat × Rw)) : Nat := (st.map fun e => (rowsR e.2).length).sum
def push (d : Nat) (b : List Rw) : List (Nat × Rw) := b.reverse.map fun r => (d, r)
theorem tot_app (a b : List (Nat × Rw)) : tot (a ++ b) = tot a + tot b := by simp [tot]
theorem tot_push (d : Nat) : ∀ b : List Rw, tot (push d b) = (rowsB b).length
  | [] => rfl
  | r :: b => by
    have h := tot_push d b
    have e : push d (r :: b) = push d b ++ [(d, r)] := by simp [push]
    rw [e, tot_app, h, rowsB, List.length_append]
    show _ + ((rowsR r).length + 0) = _
    omega
theorem len_tot : ∀ st : List (Nat × Rw), st.length ≤ tot st
  | [] => Nat.le_refl _
  | e :: st => by
    have h := len_tot st
    have p := rowsR_pos e.2
    show st.length + 1 ≤ (rowsR e.2).length + tot st
    omega
theorem tot_fm (d : Nat) (L : List (List Rw)) : tot (L.flatMap (push d)) = (L.flatMap rowsB).length := by
  induction L with
  | nil => rfl
  | cons c L ih => rw [List.flatMap_cons, tot_app, tot_push, ih, List.flatMap_cons, List.length_append]
theorem tot_rev (d : Nat) (r : Rw) : tot ((inner r).reverse.flatMap (push d)) + 1 = (rowsR r).length := by
  rw [tot_fm, rowsR_eq, List.length_cons]
  cases r <;> simp [inner]
  omega
def okS (st : List (Nat × Rw)) : Prop := ∀ e ∈ st, okR e.1 e.2
theorem okB_mem {d : Nat} {r : Rw} : ∀ {b : List Rw}, okB d b → r ∈ b → okR d r
  | _ :: _, h, hm => by
    rcases List.mem_cons.mp hm with e | hm
    · exact e ▸ h.1
    · exact okB_mem h.2 hm
theorem ok_inner {d : Nat} {r : Rw} {c : List Rw} (h : okR d r) (hc : c ∈ inner r) : okB (d + 1) c := by
  cases r with
  | either a b =>
    obtain ⟨_, _, _, h1, h2⟩ := h
    simp [inner] at hc
    rcases hc with rfl | rfl
    · exact h1
    · exact h2
  | again a =>
    obtain ⟨_, _, h1⟩ := h
    simp [inner] at hc
    subst hc
    exact h1
  | _ => simp [inner] at hc
theorem okS_push {d : Nat} {b : List Rw} (h : okB d b) : okS (push d b) := fun e he => by
  obtain ⟨r, hr, rfl⟩ := List.mem_map.mp he
  exact okB_mem h (List.mem_reverse.mp hr)
theorem okS_app {a b : List (Nat × Rw)} (h : okS a) (k : okS b) : okS (a ++ b) := fun e he => (List.mem_append.mp he).elim (h e) (k e)
theorem snoc_or {α : Type} (l : List α) : l = [] ∨ ∃ m x, l = m ++ [x] := by
  rcases h : l.reverse with _ | ⟨x, m⟩
  · exact .inl (List.reverse_eq_nil_iff.mp h)
  · refine .inr ⟨m.reverse, x, ?_⟩
    rw [← List.reverse_cons, ← h, List.reverse_reverse]
end PM
namespace K25
open PySem PySem.Spec PyProof.Rows L2 ZX PM ZR
def spFormless (K : PySem.W.Frag) : Sp := fun vs H Q _ => ∃ (v : V) (b : List Rw) (mn : Int), vs = [v, .int mn] ∧ BV K H v b ∧ okB 1 b ∧ (rowsB b).length ≤ 1000 ∧ ∀ H', Same H H' → Q .non H'
/-- between two turns -/
def ForMid (K : PySem.W.Frag) (mn : Int) (v : V) (l : Addr) (H0 : Hp) (m : Nat) (σ : L2.St) (H : Hp) : Prop := ∃ (us : List V) (st : List (Nat × Rw)) (n : Int) (y1 y4 y5 : Option V), σ = [some v, some (.int mn), y1, some (.ref l), some (.int n), y4, y5, none] ∧
  Same H0 H ∧ H l = some (.lst us) ∧ Tvs K H us (st.map dP) ∧ okS st ∧ tot st = m ∧ m ≤ 1000
section
variable {P : Program} {w : World} {K : PySem.W.Frag} {mg : Str → Option Value} {base : Heap}
theorem scFormless_place : FnScope ["block", "many", "row", "ahead", "place", "deep", "inner", "each"] ["block", "many"] (defScope sFormless_place) := ⟨rfl, rfl, rfl, by decide +kernel, rfl, by decide +kernel, by decide +kernel⟩
theorem ok_formless {f : Addr} {fd : FuncData} (F : FnP K "formless_place" sFormless_place f fd) (T : Bi mg) (C_is_row : Cal P w K mg base "is_row" 3 ["deep", "thing", "many"] (spIsRow K)) (C_blocks_of : Cal P w K mg base "blocks_of" 1 ["row"] (spBlocksOf K)) : FnOk P w K mg base CX0 4 f fd ["block", "many"] (spFormless K) := by
  refine F.ok scFormless_place (fun vs H Q E h => ?_) (fun cdv A outer s H vs Q E hr h => ?_)
  · obtain ⟨v, r, mn, rfl, _⟩ := h
    rfl
  · obtain ⟨v, b, mn, rfl, tv, ok, hn, k⟩ := h
    obtain ⟨a, xs, rfl, hS, ht⟩ := tv.tupI
    have hr_blocks_of := hr.mono (show 1 ≤ 3 by decide)
    have hr_is_row := hr
    refine ⟨_, PSs.nox (pss_cons (ps_setLcS (i := 3) (own := [("row", 2)]) (g := gName 2) (tt := tYes) rfl scFormless_place.nd rfl rfl (sw_true rfl rfl rfl (by decide +kernel)) (pi_tup (ZR.pe_revT (pv 0))) (blkOk_by (N := ["block", "many", "row", "ahead", "place", "deep", "inner", "each"]) (sc := defScope sFormless_place) (by decide +kernel)) (fun _ _ _ _ _ => (pg_name (i := 2) scFormless_place.nd rfl (Or.inl rfl))) (fun _ _ _ _ _ => pts_nil) (fun _ _ _ _ _ => (pe_tup (pa_cons pe_int (pa_cons (pv 2) pa_nil)))))
    (pss_cons (ps_set (i := 4) scFormless_place.nd rfl (Or.inl rfl) pe_int)
    (pss_cons (ps_while PassesOwn.never (pt_truth (pv 3) (by intro _; rfl)) (pss_cut (ps_asg (pe_bm0 PySem.F.plainAttrs_list PySem.F.slot_list_pop PySem.F.type_list_pop mt_pop (pv 3)) (pg_tup rfl (pgs_cons (pg_name (i := 5) scFormless_place.nd rfl (Or.inr rfl)) (pgs_cons (pg_name (i := 2) scFormless_place.nd rfl (Or.inl rfl)) pgs_nil))))
      (pss_cons (ps_if (pt_not (pt_val (pcal C_is_row hr_is_row rfl (pa_cons (pv 5) (pa_cons (pv 2) (pa_cons (pv 1) pa_nil)))))) (pss_one (ps_ret (pv 4))) pss_nil)
      (pss_cons (ps_for PassesOwn.never rfl (pi_tup (ZR.pe_revT (pcal C_blocks_of hr_blocks_of rfl (pa_cons (pv 2) pa_nil)))) (pg_name (i := 6) scFormless_place.nd rfl (Or.inl rfl)) (pss_one (ps_expr (pe_bm PySem.F.plainAttrs_list PySem.F.slot_list_extend PySem.F.type_list_extend mt_extend (pv 3) (pa_cons (pe_lcS (own := [("each", 7)]) (g := gName 7) (tt := tYes) (by rfl) scFormless_place.nd (pi_tup (ZR.pe_revT (pv 6))) (blkOk_by (N := ["block", "many", "row", "ahead", "place", "deep", "inner", "each"]) (sc := defScope sFormless_place) (by decide +kernel)) (fun _ _ _ _ _ => (pg_name (i := 7) scFormless_place.nd rfl (Or.inl rfl))) (fun _ _ _ _ _ => pts_nil) (fun _ _ _ _ _ => (pe_tup (pa_cons (pe_op op_add (pv 5) pe_int) (pa_cons (pv 7) pa_nil))))) pa_nil)))))
      (pss_one (ps_aug (i := 4) scFormless_place.nd rfl (Or.inl rfl) pe_int ip_add))))))
    (pss_one (ps_ret pe_non))))), ?_⟩
    refine lc_into ?_
    refine ⟨_, rfl, a, xs, rfl, hS, fun q nq => ⟨q, rfl, ⟨_, .inl (.inl upd_same)⟩, ?_⟩⟩
    have hx : xs.reverse.length = b.length := by rw [List.length_reverse, ht.len, dB_eq, List.length_map]
    have hbl : b.length ≤ 1000 := by
      have := len_tot (push 1 b)
      rw [tot_push] at this
      have e : (push 1 b).length = b.length := by simp [push]
      omega
    refine lc_overA (p := none) (as := push 1 b) (Rel := fun H e y => Tv K H y (dP e)) it_tup ?_ (fun c y H H' pt h => h.pt pt) (fun _ h => nomatch h) ?_ (fun H' _ pt => pt.sq (.inl (.inl upd_same))) ?_ ?_
    · rw [hx]
      simp [push]
    · rw [hx]
      exact Nat.lt_of_le_of_lt hbl (by decide)
    · intro i x c hx hc H' kq pt R k
      have hrv := (ht.pt ((Pt.new (o := .tup xs.reverse) nq).trans pt)).rev
      rw [dB_eq, ← List.map_reverse, ← dB_eq] at hrv
      obtain ⟨r, hr, tr⟩ := hrv.nthR hx
      have ec : c = (1, r) := by
        have := hc
        rw [push, List.getElem?_map, hr] at this
        exact (Option.some.inj this).symm
      subst ec
      refine ⟨rfl, _, rfl, (by show 2 ≤ sizeLine; decide), fun t nt => k _ _ (Same.kq (same_new nt)) (Pt.new nt) (.tup (.inl (.inl upd_same)) (.cons (.int _) (.cons (tr.pt (Pt.new nt)) .nil)))⟩
    · intro l us H' kq _ nl hl all
      have hl0 : H l = none := (same_new nq).free nl
      refine ⟨fun m σ' H' => ForMid K mn (.ref a) l H m σ' H', ⟨_, us, push 1 b, 0, none, none, none, rfl, (same_new nq).trans kq.same, hl, Tvs.ofAll2 all, okS_push ok, rfl, by rw [tot_push]; exact hn⟩, ?_⟩
      rintro m σ' H' ⟨us, st, n, y1, y4, y5, rfl, sm, hl, hu, hok, rfl, hm⟩
      have hul := hu.len
      rw [List.length_map] at hul
      rcases snoc_or st with rfl | ⟨st', ⟨d, r⟩, rfl⟩
      · cases hu
        exact ⟨_, rfl, false, .inl ⟨_, SqL.of hl, rfl⟩, k H' sm⟩
      · rw [List.map_append] at hu
        obtain ⟨us', u, rfl, hu', tu⟩ := hu.snocI
        refine ⟨_, rfl, true, .inl ⟨_, SqL.of hl, by simp⟩, fun σ2 H2 => ∃ m', m' < tot (st' ++ [(d, r)]) ∧ ForMid K mn (.ref a) l H m' σ2 H2, fun _ _ h => h, ?_⟩
        obtain ⟨ta, tx, rfl, htS, htt⟩ := tu.tupI
        obtain ⟨v1, v2, rfl, t1, t2⟩ := htt.two
        cases t1.intI
        have okr : okR d r := hok (d, r) (List.mem_append_right _ List.mem_cons_self)
        have okst : okS st' := fun e he => hok e (List.mem_append_left _ he)
        have htot : tot (st' ++ [(d, r)]) = tot st' + (rowsR r).length := by
          rw [tot_app]
          show _ + ((rowsR r).length + 0) = _
          omega
        have hrev := tot_rev (d + 1) r
        have hat : (us' ++ [V.ref ta])[(us' ++ [V.ref ta]).length - 1]? = some (V.ref ta) := by simp
        have hdl : (us' ++ [V.ref ta]).dropLast = us' := by simp
        have pt0 := Pt.lst (o := .lst us') hl
        refine ⟨fun σ2 H2 => ∃ y5, σ2 = [some (.ref a), some (.int mn), some v2, some (.ref l), some (.int n), some (.int d), y5, none] ∧ Same H H2 ∧ H2 l = some (.lst us') ∧ Tvs K H2 us' (st'.map dP) ∧ RV K H2 v2 r, ?_, ?_⟩
        · refine ⟨_, rfl, .inl ⟨rfl, _, SqL.of hl⟩, l, _, _, rfl, rfl, hl, hat, ?_⟩
          rw [hdl]
          refine ⟨ta, _, rfl, pt0.sq htS, rfl, _, _, rfl, _, _, rfl, ?_⟩
          exact ⟨rfl, _, rfl, sm.put hl0, upd_same, hu'.pt pt0, t2.pt pt0⟩
        · rintro σ2 H2 ⟨y5, rfl, sm, hl, hu, t2⟩
          refine ⟨_, rfl, _, rfl, _, rfl, d, v2, r, mn, rfl, t2, okr, fun H3 s3 => ⟨_, rfl, _, rfl, v2, r, rfl, t2.pt s3.pt, fun c ys H4 s4 hc hys => ⟨c, ys, rfl, hc, fun q2 nq2 => ⟨q2, rfl, ⟨_, .inl (.inl upd_same)⟩, ?_⟩⟩⟩⟩
          have pt4 : Pt H2 (upd H4 q2 (.tup ys.reverse)) := (s3.pt.trans s4.pt).trans (Pt.new nq2)
          have sm4 : Same H (upd H4 q2 (.tup ys.reverse)) := ((sm.trans s3).trans s4).trans (same_new nq2)
          refine for_tup (xs := ys.reverse) (fun j σ' H' => ∃ us y5, σ' = [some (.ref a), some (.int mn), some v2, some (.ref l), some (.int n), some (.int d), y5, none] ∧ Same H H' ∧ H' l = some (.lst us) ∧ Tvs K H' us ((st' ++ ((inner r).reverse.take j).flatMap (push (d + 1))).map dP) ∧ Pt (upd H4 q2 (.tup ys.reverse)) H')
            ⟨us', y5, rfl, sm4, same_new nq2 _ _ (s4 _ _ (s3 _ _ hl)), ?_, Pt.refl _⟩ ?_ ?_ ?_
          · rw [List.take_zero, List.flatMap_nil, List.append_nil]
            exact hu.pt pt4
          · rintro j σ' H' _ ⟨_, _, _, _, _, _, p5⟩
            exact p5.sq (.inl (.inl upd_same))
          · rintro j y σ' H' hy ⟨us, y5, rfl, sm5, hl5, hu5, p5⟩
            have hys5 := (hys.pt ((Pt.new (o := .tup ys.reverse) nq2).trans p5)).rev
            rw [← List.map_reverse] at hys5
            obtain ⟨cb, hcb, tc⟩ := hys5.nthB hy
            have hcm : cb ∈ inner r := List.mem_reverse.mp (List.mem_of_getElem? hcb)
            have hle := fm_le1 (f := push (d + 1)) hcb
            have hlt := len_tot ((inner r).reverse.flatMap (push (d + 1)))
            have hls := len_tot st'
            rw [List.length_append] at hle
            have hpl : (push (d + 1) cb).length = cb.length := by simp [push]
            have hul := hu5.len
            rw [List.length_map, List.length_append] at hul
            obtain ⟨ca, cx, rfl, hcS, hct⟩ := tc.tupI
            have hcl : cx.reverse.length = cb.length := by rw [List.length_reverse, hct.len, dB_eq, List.length_map]
            refine ⟨_, rfl, .inl ⟨rfl, _, SqL.of hl5⟩, ?_⟩
            refine lc_into ?_
            refine ⟨_, rfl, ca, cx, rfl, hcS, fun q3 nq3 => ⟨q3, rfl, ⟨_, .inl (.inl upd_same)⟩, ?_⟩⟩
            refine lc_overA (p := none) (as := push (d + 1) cb) (Rel := fun H e y => Tv K H y (dP e)) it_tup ?_ (fun c y H H' pt h => h.pt pt) (fun _ h => nomatch h) ?_ (fun H' _ pt => pt.sq (.inl (.inl upd_same))) ?_ ?_
            · rw [hcl, hpl]
            · rw [hcl]
              exact Nat.lt_of_le_of_lt (by omega : cb.length ≤ 1000) (by decide)
            · intro i x c hx hc H6 kq pt R k
              have hrv := (hct.pt ((Pt.new (o := .tup cx.reverse) nq3).trans pt)).rev
              rw [dB_eq, ← List.map_reverse, ← dB_eq] at hrv
              obtain ⟨r6, hr6, tr6⟩ := hrv.nthR hx
              have ec : c = (d + 1, r6) := by
                have := hc
                rw [push, List.getElem?_map, hr6] at this
                exact (Option.some.inj this).symm
              subst ec
              refine ⟨rfl, _, rfl, _, _, rfl, rfl, _, rfl, (by show 2 ≤ sizeLine; decide), fun t nt => k _ _ (Same.kq (same_new nt)) (Pt.new nt) (.tup (.inl (.inl upd_same)) (.cons (.int _) (.cons (tr6.pt (Pt.new nt)) .nil)))⟩
            · intro l6 zs H6 kq pt6 nl6 hl6 all6
              have hzl := all6.len
              rw [hpl] at hzl
              have sm6 : Same H' H6 := (same_new nq3).trans kq.same
              refine ⟨l, l6, us, zs, rfl, rfl, sm6 _ _ hl5, hl6, Nat.le_trans (by omega : us.length + zs.length ≤ 1000) (by decide), ?_⟩
              have ptl := Pt.lst (o := .lst (us ++ zs)) (sm6 _ _ hl5)
              refine ⟨us ++ zs, _, rfl, (sm5.trans sm6).put hl0, upd_same, ?_, (p5.trans sm6.pt).trans ptl⟩
              rw [fm_take hcb, ← List.append_assoc, List.map_append]
              exact Tvs.app ((hu5.pt sm6.pt).pt ptl) ((Tvs.ofAll2 all6).pt ptl)
          · rintro σ' H' ⟨us, y5, rfl, sm5, hl5, hu5, p5⟩
            have e : ys.reverse.length = (inner r).reverse.length := by rw [List.length_reverse, hys.len, List.length_map, List.length_reverse]
            rw [e, List.take_length] at hu5
            refine ⟨_, rfl, ?_⟩
            have hin : okS ((inner r).reverse.flatMap (push (d + 1))) := fun e he => by
              obtain ⟨c, hc, he⟩ := List.mem_flatMap.mp he
              exact okS_push (ok_inner okr (List.mem_reverse.mp hc)) e he
            have := tot_app st' ((inner r).reverse.flatMap (push (d + 1)))
            refine ⟨_, _, rfl, rfl, tot (st' ++ (inner r).reverse.flatMap (push (d + 1))), by omega, us, _, _, _, _, _, rfl, sm5, hl5, hu5, okS_app okst hin, rfl, by omega⟩
end
end K25
set_option Elab.async false
set_option linter.all false
set_option maxRecDepth 100000
set_option maxHeartbeats 4000000
/-! Rules of my own: sorted(..) of a set of texts. -/
namespace ZR
open PySem PySem.Spec PyProof.Rows L2
section
variable {P : Program} {w : World} {A : Around} {E : Value → Shared → Prop} {s : Shared} {a : Addr} {ks : List Str}
theorem sort_setS {Q : Value → Shared → Prop} (R : SetS w s.heap a ks) (hh : A.handled = none)
    (q : ∀ s' p (out : Array Value) (c : Nat) (ys : List Str), (∀ b o, s.heap.get? b = some o → s'.heap.get? b = some o) → s'.gens = s.gens ∧ s'.os = s.os → s.heap.objs.size ≤ p ∧ s'.heap.get? p = some (seqObj "list" out c) →
      StrsAre out.toList ys → ys.Perm ks ∧ sortedS ys = true → Q (.ref p) s') :
    wpAny (model P w) A (call (.builtin "sorted") [.ref a]) Q E s := by
  obtain ⟨o, es, ep, t, ho, hex, hd, T⟩ := R
  have few := T.sm
  refine Calls.call_function_entry kind_sorted plain_sorted entry_sorted (args_sorted1 _) ?_; unfold Builtin.«sorted»
  refine wpAny_bind (m := checkCount "sorted" 1 1 _) (wpAny_pure (wpAny_bind (collect_set (A := A.in1) hh ⟨o, ho, hex.1, hd⟩ T.ft few T.ri T.ld fun s1 vs old hz g1 o1 pm => ?_)))
  have hvs : ∀ v ∈ vs, ∃ x u, v = Value.str x u := fun v hv => by
    obtain ⟨e, he, rfl⟩ := List.mem_map.mp (pm.mem_iff.mp hv)
    obtain ⟨x, u, rfl⟩ := T.gd e he
    exact ⟨x, u, rfl⟩
  have hS := strsAre_map vs hvs
  have hk : (vs.map strOf).Perm ks := by
    refine List.Perm.trans ((pm.map strOf).trans ?_) T.pm
    rw [List.map_map]
    refine List.Perm.of_eq (List.map_congr_left fun e he => ?_)
    obtain ⟨x, u, rfl⟩ := T.gd e he
    rfl
  have hL : vs.length ≤ sizeLine := by
    rw [pm.length_eq, List.length_map, Array.length_toList]
    exact Nat.le_of_lt (Nat.lt_trans few (by decide))
  refine wpAny_bind (wpAny_newList ?_ hL)
  have hl : (s1.heap.push (seqObj "list" vs.toArray 0)).get? s1.heap.objs.size = some (seqObj "list" vs.toArray 0) := Heap.get?_push_size _ rfl
  refine wpAny_bind (wpAny_holding (wpAny_call_entry slot_list_sort ⟨_, hl, rfl⟩ entry_list_sort (list_sort_treeKAny strKind_oneLt hl hS.keysOf (fun u v rest e => keyKind_strs (by rw [← e]; exact hS)) hL fun st' hp hs => ⟨_, rfl, ?_⟩) (args_list_sort _)))
  obtain ⟨ys, y1, y2, y3⟩ := sorted_out_str hS hp hs
  obtain ⟨c, hc⟩ := sortedHeap_at (vs := vs) (out := (arrOf st').map (·.2)) hl
  refine wpAny_pure ⟨_, rfl, q _ s1.heap.objs.size _ c ys (fun b u e => ?_) ⟨g1, o1⟩ ⟨hz, hc⟩ y1 ⟨y2.trans hk, y3⟩⟩
  have e1 := old b u e
  have lt := Heap.lt_size e1
  refine (sortedHeap_old (Nat.ne_of_lt lt) ?_).trans (Heap.get?_push_of_some _ e1)
  exact (size_push' s1.heap (seqObj "list" vs.toArray 0)).symm ▸ Nat.lt_succ_of_lt lt
end
/-- sorted(s), s a set of texts -/
def rSortTx (w : World) : List V → Hp → VK → Prop := fun vs H Q => ∃ (a : Addr) (ks : List Str), vs = [V.ref a] ∧ H a = some (SetTO w a ks) ∧ ks.length ≤ 4096 ∧ ∀ (ys : List Str) (p : Addr), ys.Perm ks → sortedS ys = true → H p = none → Q (.ref p) (upd H p (.lst (ys.map V.str)))
theorem call_sortTx {X : Cx} (hc : X.calm = true) : CallR X (.builtin "sorted") (rSortTx X.w) := by
  intro pins s σ H vs us Q I r h
  obtain ⟨a, ks, rfl, ha, few, q⟩ := h
  rw [Vals.ref1 r]
  refine sort_setS (setTO_get I ha) (I.ok.hd hc) fun s' p out c ys old go hp hs hy => ?_
  obtain ⟨g, o⟩ := go
  have hn : H p = none := I.hok.fresh hp.1
  have hl : (ys.map V.str).length ≤ sizeLine := by
    rw [List.length_map, hy.1.length_eq]
    exact Nat.le_trans few (by decide)
  have J : Inv X pins σ (upd H p (.lst (ys.map V.str))) { s with heap := s'.heap, gens := s'.gens, drawn := s'.drawn, toks := s'.toks } :=
    I.call (ch := []) (Un.laid old hp.1 hn) (I.hok.laid old hp.1 ⟨hl, out.toList, c, vals_of_strs hs, hp.2⟩) (by rw [g]; exact I.bare) fun _ z => nomatch z
  obtain ⟨h2, g2, d2, t2, o2⟩ := s'
  obtain ⟨h1, g1, d1, t1, o1⟩ := s
  dsimp only at g o
  subst g o
  exact ⟨.ref p, _, J, rfl, q ys p hy.1 hy.2 hn⟩
end ZR
set_option Elab.async false
set_option linter.all false
set_option maxRecDepth 100000
set_option maxHeartbeats 4000000
/-! Lots: ascending tuples of unlike texts. Sets of texts, by what was put in. -/
namespace PM
open PySem PySem.Spec PyProof.Rows L2 ZX ZR
def leS (a b : Str) : Prop := a.cps.toList ≤ b.cps.toList
theorem leS_of {a b : Str} (h : (!ltCps b.cps.toList a.cps.toList) = true) : leS a b := by
  rw [ltCps_eq, Bool.not_eq_true', decide_eq_false_iff_not] at h
  exact List.not_lt.mp h
theorem leS_trans {a b c : Str} (h : leS a b) (k : leS b c) : leS a c := List.le_trans h k
theorem leS_anti {a b : Str} (h : leS a b) (k : leS b a) : a = b := by
  have e := List.le_antisymm h k
  obtain ⟨⟨x⟩⟩ := a
  obtain ⟨⟨y⟩⟩ := b
  simp only at e
  rw [e]
theorem rising_pw : ∀ (ss : List Str) (p : Str), risingS p ss = true → (p :: ss).Pairwise leS
  | [], p, _ => List.pairwise_singleton _ _
  | x :: r, p, h => by
    obtain ⟨h1, h2⟩ := Bool.and_eq_true_iff.mp (show (!ltCps x.cps.toList p.cps.toList && risingS x r) = true from h)
    have ih := rising_pw r x h2
    refine List.pairwise_cons.mpr ⟨fun z hz => ?_, ih⟩
    rcases List.mem_cons.mp hz with e | hz
    · rw [e]
      exact leS_of h1
    · exact leS_trans (leS_of h1) ((List.pairwise_cons.mp ih).1 z hz)
theorem sorted_pw {ss : List Str} (h : sortedS ss = true) : ss.Pairwise leS := by
  cases ss with
  | nil => exact List.Pairwise.nil
  | cons x r => exact rising_pw r x h
/-- ys: the texts of L, ascending, each once -/
structure IsLot (ys L : List Str) : Prop where
  so : sortedS ys = true
  nd : ys.Nodup
  me : ∀ x, x ∈ ys ↔ x ∈ L
theorem IsLot.uniq {ys zs L M : List Str} (h : IsLot ys L) (k : IsLot zs M) (e : ∀ x, x ∈ L ↔ x ∈ M) : ys = zs :=
  List.Perm.eq_of_pairwise (fun _ _ _ _ => leS_anti) (sorted_pw h.so) (sorted_pw k.so) ((List.perm_ext_iff_of_nodup h.nd k.nd).mpr fun x => (h.me x).trans ((e x).trans (k.me x).symm))
theorem IsLot.le {ys L W : List Str} (h : IsLot ys L) (s : ∀ x ∈ L, x ∈ W) : ys.length ≤ W.length := List.Nodup.length_le_of_subset h.nd fun x hx => s x ((h.me x).mp hx)
/-- texts put into a set, one behind another -/
def insAll (L : List Str) : List Str := L.foldl (fun ks x => ins x ks) []
theorem ins_mem {x y : Str} {ks : List Str} : y ∈ ins x ks ↔ y ∈ ks ∨ y = x := by
  unfold ins
  split
  · rename_i h
    exact ⟨.inl, fun q => q.elim id fun e => e ▸ h⟩
  · rw [List.mem_append, List.mem_singleton]
theorem ins_nodup {x : Str} {ks : List Str} (h : ks.Nodup) : (ins x ks).Nodup := by
  unfold ins
  split
  · exact h
  · rename_i hn
    refine List.nodup_append.mpr ⟨h, List.nodup_cons.mpr ⟨(fun z => nomatch z), List.nodup_nil⟩, fun a ha b hb e => ?_⟩
    rw [List.mem_singleton] at hb
    subst hb e
    exact hn ha
theorem ins_len {x : Str} {ks : List Str} : (ins x ks).length ≤ ks.length + 1 := by
  unfold ins
  split
  · exact Nat.le_succ _
  · simp
theorem insAll_snoc (L : List Str) (x : Str) : insAll (L ++ [x]) = ins x (insAll L) := by simp [insAll]
theorem insAll_ok (L : List Str) : (insAll L).Nodup ∧ (∀ x, x ∈ insAll L ↔ x ∈ L) ∧ (insAll L).length ≤ L.length := by
  suffices h : ∀ (n : Nat) (L : List Str), L.length = n → (insAll L).Nodup ∧ (∀ x, x ∈ insAll L ↔ x ∈ L) ∧ (insAll L).length ≤ L.length from h _ L rfl
  intro n
  induction n with
  | zero =>
    intro L hL
    rw [List.length_eq_zero_iff.mp hL]
    exact ⟨List.nodup_nil, fun _ => Iff.rfl, Nat.le_refl _⟩
  | succ n ih =>
    intro L hL
    rcases snoc_or L with rfl | ⟨M, y, rfl⟩
    · cases hL
    · rw [List.length_append] at hL
      obtain ⟨h1, h2, h3⟩ := ih M (by simpa using hL)
      rw [insAll_snoc]
      refine ⟨ins_nodup h1, fun x => ?_, ?_⟩
      · rw [ins_mem, h2, List.mem_append, List.mem_singleton]
      · have := ins_len (x := y) (ks := insAll M)
        rw [List.length_append]
        show _ ≤ M.length + 1
        omega
theorem lot_of {L ys : List Str} (p : ys.Perm (insAll L)) (h : sortedS ys = true) : IsLot ys L :=
  ⟨h, p.nodup_iff.mpr (insAll_ok L).1, fun x => p.mem_iff.trans ((insAll_ok L).2.1 x)⟩
theorem Pt.ext {H : Hp} {w : World} {D : Addr} {ks : List Str} {o : HO} (h : H D = some (SetTO w D ks)) : Pt H (upd H D o) := fun b ys hb => by
  have ne : b ≠ D := fun e => by
    subst e
    rcases hb with hb | ⟨o, hb⟩ <;> rw [h] at hb <;> cases hb
  exact hb.elim (fun h => .inl (by rw [upd_ne ne]; exact h)) fun ⟨o, h⟩ => .inr ⟨o, by rw [upd_ne ne]; exact h⟩
section
variable {w : World} {α : Type} {as : List α} {fs : α → List Str} {J : It} {zs : List V} {St : Hp → Prop} {g g1 : TG} {te : TE} {wi1 : TI} {vs vs1 : List Nat} {σ : L2.St} {H1 : Hp} {Q : VK}
theorem sc2_into {wi : TI} {H : Hp} (h : wi σ H fun J H1 => tSc2S w (fun _ _ R => R J H1) g wi1 g1 te vs vs1 σ H1 Q) : tSc2S w wi g wi1 g1 te vs vs1 σ H Q := by
  rw [sc2S] at *
  exact h
/-- {x for t in i for t1 in i1}: each thing gives a list of texts -/
theorem sc2_over {K : PySem.W.Frag} {i i1 : Nat} (O : IterOf J zs St) (hz : as.length = zs.length) (hlen : (as.flatMap fs).length + 1 < scanBound) (st : ∀ H', Same H1 H' → Pt H1 H' → St H')
    (hw : ∀ x, wipe ((wipe σ vs).set i (some x)) vs = wipe σ vs) (hw1 : ∀ x z, wipe ((wipe ((wipe σ vs).set i (some x)) vs1).set i1 (some z)) vs1 = wipe ((wipe σ vs).set i (some x)) vs1)
    (step : ∀ (k : Nat) x c, zs[k]? = some x → as[k]? = some c → ∀ H', Same H1 H' → Pt H1 H' → ∀ R : It → Hp → Prop, (∀ a H4, Same H' H4 → H4 a = some (.lst ((fs c).map V.str)) → R (Itl K a) H4) → wi1 ((wipe σ vs).set i (some x)) H' R)
    (elt : ∀ x z H (R : VK), R (.str z) H → te ((wipe ((wipe σ vs).set i (some x)) vs1).set i1 (some (.str z))) H R)
    (fin : ∀ D H', Same H1 H' → Pt H1 H' → H1 D = none → H' D = some (SetTO w D (insAll (as.flatMap fs))) → Q (.ref D) H') :
    tSc2S w (fun _ _ R => R J H1) (gName i) wi1 (gName i1) te vs vs1 σ H1 Q := by
  rw [sc2S]
  intro D hD
  refine ⟨fun k m H => m = zs.length - k ∧ k ≤ zs.length ∧ Same H1 H ∧ Pt H1 H ∧ H D = some (SetTO w D (insAll ((as.take k).flatMap fs))), ⟨zs.length, rfl, Nat.zero_le _, same_new hD, Pt.new hD, by rw [List.take_zero]; exact upd_same⟩, ?_⟩
  rintro k m H ⟨rfl, hk, sm, pt, hks⟩
  have hst := st H sm pt
  by_cases hlt : k < zs.length
  · refine .inr ⟨O.go k H hst hlt, fun H' => k + 1 ≤ zs.length ∧ Same H1 H' ∧ Pt H1 H' ∧ H' D = some (SetTO w D (insAll ((as.take (k + 1)).flatMap fs))), fun H' h => ⟨zs.length - (k + 1), by omega, rfl, h⟩, fun x H' y => ?_⟩
    obtain ⟨rfl, hx⟩ := O.yld k H x H' hst hlt y
    have hka : k < as.length := by omega
    have hc : as[k]? = some as[k] := List.getElem?_eq_getElem hka
    have hle := fm_le1 (f := fs) hc
    refine ⟨hw x, step k x as[k] hx hc H' sm pt _ fun a H4 s4 h4 => ?_⟩
    have ptk : (as.take (k + 1)).flatMap fs = (as.take k).flatMap fs ++ fs as[k] := fm_take hc
    have hDa : a ≠ D := fun e => by
      subst e
      rw [s4 _ _ hks] at h4
      cases h4
    refine ⟨fun j m H => m = (fs as[k]).length - j ∧ j ≤ (fs as[k]).length ∧ Same H1 H ∧ Pt H1 H ∧ H a = some (.lst ((fs as[k]).map V.str)) ∧ H D = some (SetTO w D (insAll ((as.take k).flatMap fs ++ (fs as[k]).take j))),
      ⟨_, rfl, Nat.zero_le _, sm.trans s4, pt.trans s4.pt, h4, by rw [List.take_zero, List.append_nil]; exact s4 _ _ hks⟩, ?_⟩
    rintro j m H ⟨rfl, hj, sm, pt, ha, hks⟩
    have I1 := it_list (K := K) (a := a) (xs := (fs as[k]).map V.str)
    have hl1 : ((fs as[k]).map V.str).length = (fs as[k]).length := List.length_map ..
    by_cases hjl : j < (fs as[k]).length
    · refine .inr ⟨I1.go j H (SqL.of ha) (by omega), fun H' => j + 1 ≤ (fs as[k]).length ∧ Same H1 H' ∧ Pt H1 H' ∧ H' a = some (.lst ((fs as[k]).map V.str)) ∧ H' D = some (SetTO w D (insAll ((as.take k).flatMap fs ++ (fs as[k]).take (j + 1)))), fun H' h => ⟨_, by omega, rfl, h⟩, fun y H' yy => ?_⟩
      obtain ⟨rfl, hy⟩ := I1.yld j H y H' (SqL.of ha) (by omega) yy
      have hz1 : (fs as[k])[j]? = some (fs as[k])[j] := List.getElem?_eq_getElem hjl
      rw [List.getElem?_map, hz1] at hy
      cases hy
      have tk : (fs as[k]).take (j + 1) = (fs as[k]).take j ++ [(fs as[k])[j]] := by
        rw [List.take_succ, hz1]
        rfl
      have hin := (insAll_ok ((as.take k).flatMap fs ++ (fs as[k]).take j)).2.2
      have htl : ((fs as[k]).take j).length ≤ (fs as[k]).length := by
        rw [List.length_take]
        exact Nat.min_le_right _ _
      rw [List.length_append] at hin hle
      refine ⟨hw1 x _, elt x _ _ _ ⟨_, _, rfl, hks, by omega, hjl, fun b o e => ?_, pt.trans (Pt.ext hks), ?_, ?_⟩⟩
      · rw [upd_ne (ne_of_none e hD)]
        exact sm b o e
      · rw [upd_ne hDa]
        exact ha
      · rw [tk, ← List.append_assoc, insAll_snoc]
        exact upd_same
    · have e : j = (fs as[k]).length := by omega
      subst e
      rw [List.take_length, ← ptk] at hks
      refine .inl ⟨?_, hlt, sm, pt, hks⟩
      rw [← hl1]
      exact I1.stop H (SqL.of ha)
  · have e : k = zs.length := by omega
    subst e
    rw [← hz, List.take_length] at hks
    exact .inl ⟨O.stop H hst, fin D H sm pt hD hks⟩
end
end PM
set_option Elab.async false
set_option linter.all false
set_option maxRecDepth 100000
set_option maxHeartbeats 4000000
namespace K25
open PySem PySem.Spec PyProof.Rows L2 ZX PM ZR
def spAllNames (K : PySem.W.Frag) : Sp := fun vs H Q _ => ∃ (a : Addr) (us : List V) (rs : List Rw), vs = [.ref a] ∧ (SqL K H a us ∨ SqT K H a us) ∧ Tvs K H us (rs.map dR) ∧ (∀ r ∈ rs, (namesR r).length ≤ 4) ∧ rs.length ≤ 1000 ∧
  ∀ t ys H', Same H H' → H t = none → IsLot ys (rs.flatMap namesR) → H' t = some (.tup (ys.map V.str)) → Q (.ref t) H'
theorem fm_bound {α β : Type} {f : α → List β} {n : Nat} : ∀ (l : List α), (∀ x ∈ l, (f x).length ≤ n) → (l.flatMap f).length ≤ n * l.length
  | [], _ => Nat.zero_le _
  | x :: l, h => by
    have h1 := h x List.mem_cons_self
    have h2 := fm_bound l fun y hy => h y (List.mem_cons_of_mem _ hy)
    rw [List.flatMap_cons, List.length_append, List.length_cons, Nat.mul_succ]
    omega
section
variable {P : Program} {w : World} {K : PySem.W.Frag} {mg : Str → Option Value} {base : Heap}
theorem scAll_names : FnScope ["rows", "row", "name"] ["rows"] (defScope sAll_names) := ⟨rfl, rfl, rfl, by decide +kernel, rfl, by decide +kernel, by decide +kernel⟩
theorem ok_all_names {f : Addr} {fd : FuncData} (F : FnP K "all_names" sAll_names f fd) (T : Bi mg) (C_names_of : Cal P w K mg base "names_of" 2 ["row"] (spNamesOf K)) : FnOk P w K mg base CX0 3 f fd ["rows"] (spAllNames K) := by
  refine F.ok scAll_names (fun vs H Q E h => ?_) (fun cdv A outer s H vs Q E hr h => ?_)
  · obtain ⟨v, us, rs, rfl, _⟩ := h
    rfl
  · obtain ⟨a, us, rs, rfl, hS, hu, h4, hn, k⟩ := h
    have hlen := fm_bound rs h4
    have hz : rs.length = us.length := by rw [hu.len, List.length_map]
    have fin : ∀ D H', Same H H' → H D = none → H' D = some (SetTO w D (insAll (rs.flatMap namesR))) → (rSortTx w) [.ref D] H' fun v H2 => ∃ p ys, [v] = [V.ref p] ∧ ((SqL K H2 p ys ∧ ∀ l, H2 l = none → Q (.ref l) (upd H2 l (.tup ys))) ∨ (SqT K H2 p ys ∧ Q (.ref p) H2)) := fun D H' sm nD hD =>
      ⟨D, _, rfl, hD, by have := (insAll_ok (rs.flatMap namesR)).2.2; omega, fun ys p pm so np => ⟨p, _, rfl, .inl ⟨SqL.of upd_same, fun l nl => k l ys _ ((sm.trans (same_new np)).trans (same_new nl)) ((sm.trans (same_new np)).free nl) (lot_of pm so) upd_same⟩⟩⟩
    have step : ∀ (kk : Nat) x c, us[kk]? = some x → rs[kk]? = some c → ∀ H', Same H H' → Pt H H' → ∀ R : It → Hp → Prop, (∀ a H4, Same H' H4 → H4 a = some (.lst ((namesR c).map V.str)) → R (Itl K a) H4) → spNamesOf K [x] H' (fun v H1 => ∃ a, v = .ref a ∧ (∃ xs, SqL K H1 a xs) ∧ R (Itl K a) H1) E0 := fun kk x c hx hc H' sm pt R hR => by
      obtain ⟨v, hv, tv⟩ := Tvs.get (i := kk) (d := dR c) hu (by rw [List.getElem?_map, hc]; rfl)
      rw [hx] at hv
      cases hv
      exact ⟨x, c, rfl, tv.pt pt, h4 c (List.mem_of_getElem? hc), fun l H4 s4 _ hl => ⟨l, rfl, ⟨_, SqL.of hl⟩, hR l H4 s4 hl⟩⟩
    rcases hS with hS | hS
    · refine ⟨_, PSs.nox (pss_one (ps_ret (pe_callTy call_tuple_of (by rfl) T.b_tuple (by decide +kernel) (pa_cons (pe_callB (call_sortTx rfl) (by rfl) T.b_sorted (by decide +kernel) (pa_cons (pe_sc2S (own := [("row", 1), ("name", 2)]) (vs1 := [2]) (g := gName 1) (g1 := gName 2) (wi1 := iList K (tCall (spNamesOf K) [] E0 (tCons (tVar 1) tNil))) (by rfl) scAll_names.nd (pi_list (pv 0)) (blkOk_by (N := ["rows", "row", "name"]) (sc := defScope sAll_names) (by decide +kernel)) (by decide) (fun _ _ _ _ _ => (pg_name (i := 1) scAll_names.nd rfl (Or.inl rfl))) (fun _ _ _ _ _ => (pi_list (pcal C_names_of hr rfl (pa_cons (pv 1) pa_nil)))) (fun _ _ _ _ _ => (pg_name (i := 2) scAll_names.nd rfl (Or.inl rfl))) (fun _ _ _ _ _ => (pv 2))) pa_nil)) pa_nil)))), ?_⟩
      refine sc2_into ?_
      refine ⟨_, rfl, a, rfl, ⟨us, hS⟩, ?_⟩
      refine sc2_over (K := K) (as := rs) (fs := namesR) it_list hz (by show _ < 4096; omega) (fun H' sm pt => ?_) (fun _ => rfl) (fun _ _ => rfl) ?_ (fun x z H R h => ⟨_, rfl, h⟩) ?_
      · exact hS.imp (fun h => h.elim (fun h => .inl (sm _ _ h)) fun ⟨o, h⟩ => .inr ⟨o, sm _ _ h⟩) id
      · intro kk x c hx hc H' sm pt R hR
        exact ⟨_, rfl, step kk x c hx hc H' sm pt R hR⟩
      · intro D H' sm pt nD hD
        exact fin D H' sm nD hD
    · refine ⟨_, PSs.nox (pss_one (ps_ret (pe_callTy call_tuple_of (by rfl) T.b_tuple (by decide +kernel) (pa_cons (pe_callB (call_sortTx rfl) (by rfl) T.b_sorted (by decide +kernel) (pa_cons (pe_sc2S (own := [("row", 1), ("name", 2)]) (vs1 := [2]) (g := gName 1) (g1 := gName 2) (wi1 := iList K (tCall (spNamesOf K) [] E0 (tCons (tVar 1) tNil))) (by rfl) scAll_names.nd (pi_tup (pv 0)) (blkOk_by (N := ["rows", "row", "name"]) (sc := defScope sAll_names) (by decide +kernel)) (by decide) (fun _ _ _ _ _ => (pg_name (i := 1) scAll_names.nd rfl (Or.inl rfl))) (fun _ _ _ _ _ => (pi_list (pcal C_names_of hr rfl (pa_cons (pv 1) pa_nil)))) (fun _ _ _ _ _ => (pg_name (i := 2) scAll_names.nd rfl (Or.inl rfl))) (fun _ _ _ _ _ => (pv 2))) pa_nil)) pa_nil)))), ?_⟩
      refine sc2_into ?_
      refine ⟨_, rfl, a, rfl, ⟨us, hS⟩, ?_⟩
      refine sc2_over (K := K) (as := rs) (fs := namesR) it_tup hz (by show _ < 4096; omega) (fun H' sm pt => pt.sq hS) (fun _ => rfl) (fun _ _ => rfl) ?_ (fun x z H R h => ⟨_, rfl, h⟩) ?_
      · intro kk x c hx hc H' sm pt R hR
        exact ⟨_, rfl, step kk x c hx hc H' sm pt R hR⟩
      · intro D H' sm pt nD hD
        exact fin D H' sm nD hD
end
end K25
set_option Elab.async false
set_option linter.all false
set_option maxRecDepth 100000
set_option maxHeartbeats 4000000
namespace PM
open PySem PySem.Spec PyProof.Rows L2 ZX ZR
theorem ifI {c : Bool} {x y : V} {A B : Prop} (R : V → Prop) (hA : R x → A) (hB : R y → B) (h : R (if c then x else y)) : if c = true then A else B := by
  cases c with
  | true => exact hA h
  | false => exact hB h
theorem rd_ifE {c : Bool} {x y : V} {ta tb : TE} {σ : L2.St} {H : Hp} {R : VK} (ha : ∀ R : VK, R x H → ta σ H R) (hb : ∀ R : VK, R y H → tb σ H R) (h : R (if c then x else y) H) : if c = true then ta σ H R else tb σ H R := by
  cases c with
  | true => exact ha R h
  | false => exact hb R h
/-- next places as a tuple -/
def encL (l : List Nat) : PyData := .tuple (l.map fun (n : Nat) => PyData.int (n : Int))
mutual
theorem ok_depR : ∀ {d : Nat} {r : Rw}, okR d r → d ≤ 4 → depR r + d ≤ 4
  | d, .either a b, h, hd => by
    obtain ⟨h1, _, _, h2, h3⟩ := h
    have := ok_depB h2 (by omega)
    have := ok_depB h3 (by omega)
    show max (depB a) (depB b) + 1 + d ≤ 4
    omega
  | d, .again a, h, hd => by
    obtain ⟨h1, _, h2⟩ := h
    have := ok_depB h2 (by omega)
    show depB a + 1 + d ≤ 4
    omega
  | d, .note _ _ _, _, hd => by show 0 + d ≤ 4; omega
  | d, .copy _ _, _, hd => by show 0 + d ≤ 4; omega
  | d, .give _ _, _, hd => by show 0 + d ≤ 4; omega
  | d, .ask _, _, hd => by show 0 + d ≤ 4; omega
  | d, .prt _, _, hd => by show 0 + d ≤ 4; omega
theorem ok_depB : ∀ {d : Nat} {b : List Rw}, okB d b → d ≤ 4 → depB b + d ≤ 4
  | d, [], _, hd => by show 0 + d ≤ 4; omega
  | d, r :: b, h, hd => by
    have := ok_depR h.1 hd
    have := ok_depB h.2 hd
    show max (depR r) (depB b) + d ≤ 4
    omega
end
mutual
theorem ok_names_R : ∀ {d : Nat} {r : Rw}, okR d r → ∀ x ∈ rowsR r, (namesR x).length ≤ 4
  | d, .either a b, h, x, hx => by
    rcases List.mem_cons.mp hx with rfl | hx
    · exact Nat.zero_le _
    · rcases List.mem_append.mp hx with hx | hx
      · exact ok_names_B h.2.2.2.1 x hx
      · exact ok_names_B h.2.2.2.2 x hx
  | d, .again a, h, x, hx => by
    rcases List.mem_cons.mp hx with rfl | hx
    · exact Nat.zero_le _
    · exact ok_names_B h.2.2 x hx
  | d, .note y o ps, h, x, hx => by
    rw [List.mem_singleton.mp hx]
    show ps.length + 1 ≤ 4
    have := h.2.2.1
    omega
  | d, .copy _ _, h, x, hx => by
    rw [List.mem_singleton.mp hx]
    show 2 ≤ 4
    omega
  | d, .give _ _, h, x, hx => by
    rw [List.mem_singleton.mp hx]
    show 1 ≤ 4
    omega
  | d, .ask _, h, x, hx => by
    rw [List.mem_singleton.mp hx]
    show 1 ≤ 4
    omega
  | d, .prt _, h, x, hx => by
    rw [List.mem_singleton.mp hx]
    show 1 ≤ 4
    omega
theorem ok_names_B : ∀ {d : Nat} {b : List Rw}, okB d b → ∀ x ∈ rowsB b, (namesR x).length ≤ 4
  | d, [], _, x, hx => nomatch hx
  | d, r :: b, h, x, hx => by
    rcases List.mem_append.mp hx with hx | hx
    · exact ok_names_R h.1 x hx
    · exact ok_names_B h.2 x hx
end
/-- a program's block -/
structure Good (b : List Rw) : Prop where
  ok : okB 1 b
  l12 : b.length ≤ 12
  l30 : (rowsB b).length ≤ 30
  n8 : ∀ ys, IsLot ys ((rowsB b).flatMap namesR) → ys.length ≤ 8
end PM
namespace K25
open PySem PySem.Spec PyProof.Rows L2 ZX PM ZR
def spBad (K : PySem.W.Frag) : Sp := fun vs H Q _ => ∃ (v : V) (b : List Rw) (mn : Int), vs = [v, .int mn] ∧ BV K H v b ∧ Good b ∧ ∀ H', Same H H' → Q .non H'
def spRowLeads (K : PySem.W.Frag) (n : Nat) : Sp := fun vs H Q _ => ∃ (v : V) (r : Rw) (p e : Nat), vs = [v, .int p, .int e] ∧ RV K H v r ∧ depR r < n ∧ depR r ≤ 3 ∧ (rowsR r).length ≤ 1000 ∧
  ∀ l us H', Same H H' → H l = none → H' l = some (.lst us) → Tvs K H' us ((leadsR r p e).map encL) → Q (.ref l) H'
def spBlockLeads (K : PySem.W.Frag) (n : Nat) : Sp := fun vs H Q _ => ∃ (v : V) (b : List Rw) (p e : Nat), vs = [v, .int p, .int e] ∧ BV K H v b ∧ depB b < n ∧ depB b ≤ 3 ∧ (rowsB b).length ≤ 1000 ∧
  ∀ l us H', Same H H' → H l = none → H' l = some (.lst us) → Tvs K H' us ((leadsB b p e).map encL) → Q (.ref l) H'
section
variable {P : Program} {w : World} {K : PySem.W.Frag} {mg : Str → Option Value} {base : Heap}
theorem scBad_place : FnScope ["block", "many", "place", "rows"] ["block", "many"] (defScope sBad_place) := ⟨rfl, rfl, rfl, by decide +kernel, rfl, by decide +kernel, by decide +kernel⟩
theorem ok_bad_place {f : Addr} {fd : FuncData} (F : FnP K "bad_place" sBad_place f fd) (T : Bi mg) (C_formless_place : Cal P w K mg base "formless_place" 4 ["block", "many"] (spFormless K)) (C_rows_of : Cal P w K mg base "rows_of" 5 ["block"] (spRowsOf K 4)) (C_all_names : Cal P w K mg base "all_names" 3 ["rows"] (spAllNames K)) : FnOk P w K mg base CX0 6 f fd ["block", "many"] (spBad K) := by
  refine F.ok scBad_place (fun vs H Q E h => ?_) (fun cdv A outer s H vs Q E hr h => ?_)
  · obtain ⟨v, r, mn, rfl, _⟩ := h
    rfl
  · obtain ⟨v, b, mn, rfl, tv, G, k⟩ := h
    obtain ⟨a, xs, rfl, hS, ht⟩ := tv.tupI
    have hr_formless_place := hr.mono (show 4 ≤ 5 by decide)
    have hr_all_names := hr.mono (show 3 ≤ 5 by decide)
    have hr_rows_of := hr
    obtain ⟨t12, m_MOST_ROWS_IN_BLOCK⟩ := T.m_MOST_ROWS_IN_BLOCK
    obtain ⟨t30, m_MOST_ROWS⟩ := T.m_MOST_ROWS
    obtain ⟨t8, m_MOST_NAMES⟩ := T.m_MOST_NAMES
    refine ⟨_, PSs.nox (pss_cons (ps_if (pt_not (pt_val (pe_callB call_isi (by rfl) T.b_isinstance (by decide +kernel) (pa_cons (pv 0) (pa_cons (pe_bltn (v := .ty "tuple") (by rfl) T.b_tuple (by decide +kernel) rfl) pa_nil))))) (pss_one (ps_ret (pe_un un_neg pe_int))) pss_nil)
    (pss_cons (ps_set (i := 2) scBad_place.nd rfl (Or.inl rfl) (pcal C_formless_place hr_formless_place rfl (pa_cons (pv 0) (pa_cons (pv 1) pa_nil))))
    (pss_cons (ps_if (pt_cmpR op_notN (pv 2) pe_non (nomark _)) (pss_one (ps_ret (pv 2))) pss_nil)
    (pss_cons (ps_set (i := 3) scBad_place.nd rfl (Or.inl rfl) (pcal C_rows_of hr_rows_of rfl (pa_cons (pv 0) pa_nil)))
    (pss_cons (ps_if (PW.pt (pw_or (pt_cmpR op_gt (pe_callB call_len_seq (by rfl) T.b_len (by decide +kernel) (pa_cons (pv 0) pa_nil)) (pe_glob (v := .int _) rfl m_MOST_ROWS_IN_BLOCK ⟨_, rfl⟩) (nomark _)) (pw_or (pt_cmpR op_gt (pe_callB call_len_seq (by rfl) T.b_len (by decide +kernel) (pa_cons (pv 3) pa_nil)) (pe_glob (v := .int _) rfl m_MOST_ROWS ⟨_, rfl⟩) (nomark _)) (pw_or1 (pt_cmpR op_gt (pe_callB call_len_seq (by rfl) T.b_len (by decide +kernel) (pa_cons (pcal C_all_names hr_all_names rfl (pa_cons (pv 3) pa_nil)) pa_nil)) (pe_glob (v := .int _) rfl m_MOST_NAMES ⟨_, rfl⟩) (nomark _)))))) (pss_one (ps_ret (pe_un un_neg pe_int))) pss_nil)
    (pss_one (ps_ret pe_non))))))), ?_⟩
    have l30 := G.l30
    have hdep := ok_depB G.ok (by decide)
    have hxl : xs.length = b.length := by rw [ht.len, dB_eq, List.length_map]
    refine ⟨_, rfl, _, _, _, _, true, rfl, .ty "tuple", tyT hS, rfl, true, rfl, ?_⟩
    refine ⟨_, rfl, _, rfl, _, b, mn, rfl, tv, G.ok, by omega, fun H1 s1 => ?_⟩
    refine ⟨_, rfl, rfl, false, rfl, ?_⟩
    refine ⟨_, rfl, _, b, rfl, tv.pt s1.pt, by omega, by omega, fun l us H2 s2 nl hl hu => ?_⟩
    have hul := hu.len
    rw [List.length_map] at hul
    refine ⟨_, rfl, a, _, rfl, .inr ((s1.trans s2).pt.sq hS), _, _, rfl, rfl, _, rfl, ifDF (by have := G.l12; omega) ?_⟩
    refine ⟨_, rfl, l, _, rfl, .inl (SqL.of hl), _, _, rfl, rfl, _, rfl, ifDF (by omega) ?_⟩
    refine ⟨_, rfl, l, us, rowsB b, rfl, .inl (SqL.of hl), hu, ok_names_B G.ok, by omega, fun t ys H3 s3 nt ly ht3 => ?_⟩
    have := G.n8 ys ly
    refine ⟨t, _, rfl, .inr (.inl (.inl ht3)), _, _, rfl, rfl, _, rfl, ?_⟩
    rw [decide_eq_false (by rw [List.length_map]; omega)]
    exact k H3 ((s1.trans s2).trans s3)
end
end K25
set_option Elab.async false
set_option linter.all false
set_option maxRecDepth 100000
set_option maxHeartbeats 4000000
namespace K25
open PySem PySem.Spec PyProof.Rows L2 ZX PM ZR
section
variable {P : Program} {w : World} {K : PySem.W.Frag} {mg : Str → Option Value} {base : Heap}
theorem scBlock_leads : FnScope ["block", "place", "behind", "found", "k", "row", "end"] ["block", "place", "behind"] (defScope sBlock_leads) := ⟨rfl, rfl, rfl, by decide +kernel, rfl, by decide +kernel, by decide +kernel⟩
theorem ok_block_leads1 {n m : Nat} {f : Addr} {fd : FuncData} (F : FnP K "block_leads" sBlock_leads f fd) (T : Bi mg) (hm : 5 ≤ m) (C_rows_of : Cal P w K mg base "rows_of" 5 ["block"] (spRowsOf K 4)) (C_row_leads : Cal P w K mg base "row_leads" m ["row", "place", "behind"] (spRowLeads K n)) : FnOk P w K mg base CX0 (m + 1) f fd ["block", "place", "behind"] (spBlockLeads K n) := by
  refine F.ok scBlock_leads (fun vs H Q E h => ?_) (fun cdv A outer s H vs Q E hr h => ?_)
  · obtain ⟨v, b, p, e, rfl, _⟩ := h
    rfl
  · obtain ⟨v, b, p, e, rfl, tv, hd, hd3, hn, k⟩ := h
    obtain ⟨a, xs, rfl, hS, ht⟩ := tv.tupI
    have hxl : xs.length = b.length := by rw [ht.len, dB_eq, List.length_map]
    have hr_rows_of := hr.mono hm
    have hr_row_leads := hr
    refine ⟨_, PSs.nox (pss_cons (ps_set (i := 3) scBlock_leads.nd rfl (Or.inl rfl) (pe_lst pa_nil))
    (pss_cons (ps_for PassesOwn.never rfl (pi_enumT rfl T.b_enumerate (pa_cons (pv 0) pa_nil)) (pg_tup rfl (pgs_cons (pg_name (i := 4) scBlock_leads.nd rfl (Or.inl rfl)) (pgs_cons (pg_name (i := 5) scBlock_leads.nd rfl (Or.inl rfl)) pgs_nil))) (pss_cons (ps_set (i := 6) scBlock_leads.nd rfl (Or.inl rfl) (pe_op op_add (pv 1) (pe_callB call_len_seq (by rfl) T.b_len (by decide +kernel) (pa_cons (pcal C_rows_of hr_rows_of rfl (pa_cons (pe_tup (pa_cons (pv 5) pa_nil)) pa_nil)) pa_nil))))
      (pss_cons (ps_expr (pe_bm PySem.F.plainAttrs_list PySem.F.slot_list_extend PySem.F.type_list_extend mt_extend (pv 3) (pa_cons (pcal C_row_leads hr_row_leads rfl (pa_cons (pv 5) (pa_cons (pv 1) (pa_cons (pe_ifExp (pt_cmpR op_lt (pe_op op_add (pv 4) pe_int) (pe_callB call_len_seq (by rfl) T.b_len (by decide +kernel) (pa_cons (pv 0) pa_nil)) (nomark _)) (pv 6) (pv 2)) pa_nil)))) pa_nil)))
      (pss_one (ps_set (i := 1) scBlock_leads.nd rfl (Or.inl rfl) (pv 6))))))
    (pss_one (ps_ret (pv 3))))), ?_⟩
    refine ⟨by decide, fun l nl => ?_⟩
    refine ⟨_, rfl, a, xs, rfl, (Pt.new nl).sq hS, ?_⟩
    refine for_it (walk_enumT (xs := xs)) (fun i σ' H' => ∃ us don pl y4 y5 y6, σ' = [some (.ref a), some (.int (pl : Nat)), some (.int e), some (.ref l), y4, y5, y6] ∧ Same H H' ∧ H' l = some (.lst us) ∧ Tvs K H' us (List.map encL don) ∧ don ++ leadsB (b.drop i) pl e = leadsB b p e)
      ⟨[], [], p, _, _, _, rfl, same_new nl, upd_same, .nil, rfl⟩ ?_ ?_ ?_
    · rintro i σ' H' _ ⟨_, _, _, _, _, _, _, sm, _⟩
      exact sm.pt.sq hS
    · rintro i x σ' H' H2 hi ⟨us, don, pl, y4, y5, y6, rfl, sm, hl, hu, he⟩ ⟨t, x1, x2, rfl, nt, rfl, e1, e2⟩
      cases e1
      have s2 := same_new (o := .tup [.int (i : Nat), x2]) nt
      obtain ⟨r, hr, tr⟩ := (ht.pt (sm.trans s2).pt).nthR e2
      have hil : i < b.length := by omega
      have hdr : b.drop i = r :: b.drop (i + 1) := by
        rw [List.drop_eq_getElem_cons hil]
        rw [List.getElem?_eq_getElem hil] at hr
        cases hr
        rfl
      have hrm : r ∈ b := List.mem_of_getElem? hr
      have hdR := depB_mem hrm
      have hrl : (rowsR r).length ≤ (rowsB b).length := by
        have := fm_le1 (f := rowsR) hr
        rw [List.length_append, ← rowsB_eq b] at this
        omega
      rw [hdr, leadsB] at he
      have hlen := congrArg List.length he
      rw [leadsB_len, List.length_append, List.length_append, leadsR_len] at hlen
      have hul := hu.len
      rw [List.length_map] at hul
      refine ⟨t, _, rfl, .inl (.inl upd_same), rfl, _, _, rfl, _, _, rfl, rfl, ?_⟩
      have hdep1 : depB [r] < 4 := by
        show max (depR r) 0 < 4
        omega
      have hrow1 : rowsB [r] = rowsR r := List.append_nil _
      refine ⟨_, rfl, _, rfl, by show 1 ≤ sizeLine; decide, fun t3 nt3 => ⟨_, [r], rfl, .tup (.inl (.inl upd_same)) (.cons (tr.pt (Pt.new nt3)) .nil), hdep1, by rw [hrow1]; omega, fun l4 zs H4 s4 n4 h4 t4 => ?_⟩⟩
      have s24 : Same H' H4 := (s2.trans (same_new nt3)).trans s4
      have hzl := t4.len
      rw [List.length_map, hrow1] at hzl
      refine ⟨l4, _, rfl, .inl (SqL.of h4), _, _, rfl, rfl, ?_⟩
      refine ⟨_, rfl, .inl ⟨rfl, _, SqL.of (s24 _ _ hl)⟩, _, rfl, _, rfl, _, rfl, _, _, rfl, rfl, _, rfl, a, _, rfl, .inr ((sm.trans s24).pt.sq hS), _, _, rfl, rfl, _, rfl, ?_⟩
      refine rd_ifE (fun R h => ⟨_, rfl, h⟩) (fun R h => ⟨_, rfl, h⟩) ?_
      have hv : (if decide (((i : Nat) : Int) + 1 < (xs.length : Int)) then V.int ((pl : Int) + (zs.length : Int)) else V.int (e : Int)) = V.int ((if (b.drop (i + 1)).isEmpty then e else pl + (rowsR r).length : Nat) : Int) := by
        rw [hzl]
        by_cases hlt : i + 1 < b.length
        · rw [decide_eq_true (by omega), if_pos rfl]
          have : (b.drop (i + 1)).isEmpty = false := by
            cases hb : b.drop (i + 1) with
            | nil =>
              have := congrArg List.length hb
              rw [List.length_drop] at this
              simp at this
              omega
            | cons _ _ => rfl
          rw [this]
          simp
        · rw [decide_eq_false (by omega), List.drop_eq_nil_of_le (by omega)]
          rfl
      refine ⟨x2, r, pl, _, by rw [← hv]; rfl, (tr.pt (Pt.new nt3)).pt s4.pt, by omega, by omega, by omega, fun l5 ws H5 s5 n5 h5 t5 => ?_⟩
      have hwl := t5.len
      rw [List.length_map, leadsR_len] at hwl
      refine ⟨l, l5, us, ws, rfl, rfl, s5 _ _ (s24 _ _ hl), h5, Nat.le_trans (by omega : us.length + ws.length ≤ 1000) (by decide), ?_⟩
      have pt := Pt.lst (o := .lst (us ++ ws)) (s5 _ _ (s24 _ _ hl))
      refine ⟨_, rfl, us ++ ws, don ++ leadsR r pl (if (b.drop (i + 1)).isEmpty then e else pl + (rowsR r).length), pl + (rowsR r).length, some (.int (i : Nat)), some x2, some (.int ((pl : Int) + (zs.length : Int))), ?_, ((sm.trans s24).trans s5).put nl, upd_same, ?_, ?_⟩
      · show [_, some (V.int ((pl : Int) + (zs.length : Int))), _, _, _, _, _] = _
        rw [hzl]
        rfl
      · rw [List.map_append]
        exact Tvs.app ((hu.pt (s24.trans s5).pt).pt pt) (t5.pt pt)
      · rw [List.append_assoc]
        exact he
    · rintro σ' H' ⟨us, don, pl, y4, y5, y6, rfl, sm, hl, hu, he⟩
      rw [hxl, List.drop_length, leadsB, List.append_nil] at he
      subst he
      exact ⟨_, rfl, k l us H' sm nl hl hu⟩
theorem scRow_leads : FnScope ["row", "place", "behind", "first", "second", "begins"] ["row", "place", "behind"] (defScope sRow_leads) := ⟨rfl, rfl, rfl, by decide +kernel, rfl, by decide +kernel, by decide +kernel⟩
theorem isE_of {x1 : List V} {H : Hp} {b1 : List Rw} (h : Tvs K H x1 (dB b1)) : (!x1.isEmpty) = !b1.isEmpty := by
  cases b1 with
  | nil => cases h; rfl
  | cons r b => cases h; rfl
theorem pick_eq {c : Bool} {x y : Nat} : (if !c then V.int (x : Int) else V.int (y : Int)) = V.int ((if c then y else x : Nat) : Int) := by
  cases c <;> rfl
theorem ok_row_leads0 {f : Addr} {fd : FuncData} (k : Nat) : FnOk P w K mg base CX0 k f fd ["row", "place", "behind"] (spRowLeads K 0) :=
  ⟨fun vs H Q E h => by
    obtain ⟨_, _, _, _, _, _, h, _⟩ := h
    exact absurd h (Nat.not_lt_zero _), fun A outer s H args us vs Q E hr e0 hb r h => by
    obtain ⟨_, _, _, _, _, _, h, _⟩ := h
    exact absurd h (Nat.not_lt_zero _)⟩
theorem ok_row_leads1 {n m : Nat} {f : Addr} {fd : FuncData} (F : FnP K "row_leads" sRow_leads f fd) (T : Bi mg) (hm : 5 ≤ m) (C_rows_of : Cal P w K mg base "rows_of" 5 ["block"] (spRowsOf K 4)) (C_block_leads : Cal P w K mg base "block_leads" m ["block", "place", "behind"] (spBlockLeads K n)) : FnOk P w K mg base CX0 (m + 1) f fd ["row", "place", "behind"] (spRowLeads K (n + 1)) := by
  refine F.ok scRow_leads (fun vs H Q E h => ?_) (fun cdv A outer s H vs Q E hr h => ?_)
  · obtain ⟨v, r, p, e, rfl, _⟩ := h
    rfl
  · obtain ⟨v, r, p, e, rfl, tv, hd, hd3, hn, k⟩ := h
    obtain ⟨a, tl, rfl, hS, ht⟩ := tv.rowI
    have hr_rows_of := hr.mono hm
    have hr_block_leads := hr
    refine ⟨_, PSs.nox (pss_cons (ps_if (pt_cmpR op_eq (pe_ix ix_tup (pv 0) pe_int (fun _ _ => rfl)) pe_str (nomark _)) (pss_cons (ps_set (i := 3) scRow_leads.nd rfl (Or.inl rfl) (pe_op op_add (pv 1) pe_int))
      (pss_cons (ps_set (i := 4) scRow_leads.nd rfl (Or.inl rfl) (pe_op op_add (pv 3) (pe_callB call_len_seq (by rfl) T.b_len (by decide +kernel) (pa_cons (pcal C_rows_of hr_rows_of rfl (pa_cons (pe_ix ix_tup (pv 0) pe_int (fun _ _ => rfl)) pa_nil)) pa_nil))))
      (pss_cons (ps_set (i := 5) scRow_leads.nd rfl (Or.inl rfl) (pe_tup (pa_cons (pe_ifExp (pt_truth (pe_ix ix_tup (pv 0) pe_int (fun _ _ => rfl)) (by intro _; rfl)) (pv 3) (pv 2)) (pa_cons (pe_ifExp (pt_truth (pe_ix ix_tup (pv 0) pe_int (fun _ _ => rfl)) (by intro _; rfl)) (pv 4) (pv 2)) pa_nil))))
      (pss_one (ps_ret (pe_op op_cat (pe_op op_cat (pe_lst (pa_cons (pv 5) pa_nil)) (pcal C_block_leads hr_block_leads rfl (pa_cons (pe_ix ix_tup (pv 0) pe_int (fun _ _ => rfl)) (pa_cons (pv 3) (pa_cons (pv 2) pa_nil))))) (pcal C_block_leads hr_block_leads rfl (pa_cons (pe_ix ix_tup (pv 0) pe_int (fun _ _ => rfl)) (pa_cons (pv 4) (pa_cons (pv 2) pa_nil)))))))))) pss_nil)
    (pss_cons (ps_if (pt_cmpR op_eq (pe_ix ix_tup (pv 0) pe_int (fun _ _ => rfl)) pe_str (nomark _)) (pss_cons (ps_set (i := 5) scRow_leads.nd rfl (Or.inl rfl) (pe_tup (pa_cons (pe_ifExp (pt_truth (pe_ix ix_tup (pv 0) pe_int (fun _ _ => rfl)) (by intro _; rfl)) (pe_op op_add (pv 1) pe_int) (pv 1)) (pa_cons (pv 2) pa_nil))))
      (pss_one (ps_ret (pe_op op_cat (pe_lst (pa_cons (pv 5) pa_nil)) (pcal C_block_leads hr_block_leads rfl (pa_cons (pe_ix ix_tup (pv 0) pe_int (fun _ _ => rfl)) (pa_cons (pe_op op_add (pv 1) pe_int) (pa_cons (pv 1) pa_nil)))))))) pss_nil)
    (pss_one (ps_ret (pe_lst (pa_cons (pe_tup (pa_cons (pv 2) pa_nil)) pa_nil)))))), ?_⟩
    have one : leadsR r p e = [[e]] → tRet (tLst (tCons (tTup (tCons (tVar 2) tNil)) tNil)) { nx := fun _ H' => Q .non H', rt := Q } (L2.start ["row", "place", "behind", "first", "second", "begins"] [.ref a, .int p, .int e]) H := fun he => by
      refine ⟨_, rfl, by show 1 ≤ sizeLine; decide, fun t nt => ⟨by show 1 ≤ sizeLine; decide, fun l nl => k l [.ref t] _ ((same_new nt).trans (same_new nl)) ((same_new nt).free nl) upd_same ?_⟩⟩
      rw [he]
      exact .cons (.tup (.inl (.inl (by rw [upd_ne (ne_of_none upd_same nl)]; exact upd_same))) (.cons (.int _) .nil)) .nil
    refine ⟨_, rfl, _, _, _, _, rfl, rfl, hS, at0, rfl, _, rfl, ?_⟩
    cases r with
    | note x o ps => exact ifDF (neS (a := "note") (b := "either") (by decide +kernel)) ⟨_, rfl, _, _, _, _, rfl, rfl, hS, at0, rfl, _, rfl, ifDF (neS (a := "note") (b := "again") (by decide +kernel)) (one rfl)⟩
    | copy x y => exact ifDF (neS (a := "copy") (b := "either") (by decide +kernel)) ⟨_, rfl, _, _, _, _, rfl, rfl, hS, at0, rfl, _, rfl, ifDF (neS (a := "copy") (b := "again") (by decide +kernel)) (one rfl)⟩
    | give x i => exact ifDF (neS (a := "give") (b := "either") (by decide +kernel)) ⟨_, rfl, _, _, _, _, rfl, rfl, hS, at0, rfl, _, rfl, ifDF (neS (a := "give") (b := "again") (by decide +kernel)) (one rfl)⟩
    | ask x => exact ifDF (neS (a := "ask") (b := "either") (by decide +kernel)) ⟨_, rfl, _, _, _, _, rfl, rfl, hS, at0, rfl, _, rfl, ifDF (neS (a := "ask") (b := "again") (by decide +kernel)) (one rfl)⟩
    | prt x => exact ifDF (neS (a := "print") (b := "either") (by decide +kernel)) ⟨_, rfl, _, _, _, _, rfl, rfl, hS, at0, rfl, _, rfl, ifDF (neS (a := "print") (b := "again") (by decide +kernel)) (one rfl)⟩
    | either b1 b2 =>
      obtain ⟨v1, v2, rfl, t1, t2⟩ := ht.two
      obtain ⟨a1, x1, rfl, hS1, ht1⟩ := t1.tupI
      obtain ⟨a2, x2, rfl, hS2, ht2⟩ := t2.tupI
      have hdd : depB b1 < n ∧ depB b2 < n ∧ depB b1 ≤ 2 ∧ depB b2 ≤ 2 := by
        have hd : max (depB b1) (depB b2) + 1 < n + 1 := hd
        have hd3 : max (depB b1) (depB b2) + 1 ≤ 3 := hd3
        omega
      have hnn : (rowsB b1).length + (rowsB b2).length + 1 ≤ 1000 := by
        have hn : ((rowsB b1 ++ rowsB b2).length + 1) ≤ 1000 := hn
        rw [List.length_append] at hn
        omega
      refine ifD rfl ⟨_, rfl, _, _, rfl, rfl, ?_⟩
      refine ⟨_, rfl, _, rfl, _, _, _, _, rfl, rfl, hS, rfl, _, b1, rfl, t1, by omega, by omega, fun l us H1 s1 nl hl hu => ⟨l, _, rfl, .inl (SqL.of hl), _, _, rfl, rfl, ?_⟩⟩
      have hul := hu.len
      rw [List.length_map] at hul
      refine ⟨_, rfl, _, _, _, _, rfl, rfl, s1.pt.sq hS, rfl, _, .inr (.inl ⟨_, s1.pt.sq hS1, rfl⟩), rd_ifE (fun R h => ⟨_, rfl, h⟩) (fun R h => ⟨_, rfl, h⟩) ?_⟩
      refine ⟨_, rfl, _, _, _, _, rfl, rfl, s1.pt.sq hS, rfl, _, .inr (.inl ⟨_, s1.pt.sq hS2, rfl⟩), rd_ifE (fun R h => ⟨_, rfl, h⟩) (fun R h => ⟨_, rfl, h⟩) ?_⟩
      refine ⟨by show 2 ≤ sizeLine; decide, fun t nt => ?_⟩
      have e1 : (if (!x1.isEmpty) then V.int ((p : Int) + 1) else V.int (e : Int)) = V.int ((if b1.isEmpty then e else p + 1 : Nat) : Int) := by
        rw [isE_of ht1]
        exact pick_eq
      have e2 : (if (!x2.isEmpty) then V.int ((p : Int) + 1 + (us.length : Int)) else V.int (e : Int)) = V.int ((if b2.isEmpty then e else p + 1 + (rowsB b1).length : Nat) : Int) := by
        rw [isE_of ht2, ← hul]
        exact pick_eq
      have ht1t : ∀ H', Pt (upd H1 t (.tup [if (!x1.isEmpty) then V.int ((p : Int) + 1) else V.int (e : Int), if (!x2.isEmpty) then V.int ((p : Int) + 1 + (us.length : Int)) else V.int (e : Int)])) H' → Tv K H' (.ref t) (encL [if b1.isEmpty then e else p + 1, if b2.isEmpty then e else p + 1 + (rowsB b1).length]) := fun H' pt => by
        refine .tup (pt.sq (.inl (.inl upd_same))) ?_
        rw [e1, e2]
        exact .cons (.int _) (.cons (.int _) .nil)
      generalize hT : (HO.tup [if (!x1.isEmpty) then V.int ((p : Int) + 1) else V.int (e : Int), if (!x2.isEmpty) then V.int ((p : Int) + 1 + (us.length : Int)) else V.int (e : Int)]) = T1 at ht1t
      have sT : Same H (upd H1 t T1) := s1.trans (same_new nt)
      subst hT
      refine ⟨_, rfl, by show 1 ≤ sizeLine; decide, fun l0 nl0 => ?_⟩
      have s0 := sT.trans (same_new (o := .lst [.ref t]) nl0)
      refine ⟨_, rfl, _, _, _, _, rfl, rfl, s0.pt.sq hS, rfl, _, rfl, _, rfl, _, b1, p + 1, e, rfl, t1.pt s0.pt, by omega, by omega, by omega, fun l1 us1 H2 s2 n2 hl1 hu1 => ?_⟩
      have hl1n := hu1.len
      rw [List.length_map, leadsB_len] at hl1n
      refine ⟨l0, l1, _, us1, rfl, rfl, s2 _ _ upd_same, hl1, Nat.le_trans (show 1 + us1.length ≤ 1000 by omega) (by decide), fun l2 nl2 => ?_⟩
      have s02 := (s0.trans s2).trans (same_new (o := .lst ([.ref t] ++ us1)) nl2)
      refine ⟨_, rfl, _, _, _, _, rfl, rfl, s02.pt.sq hS, rfl, _, rfl, _, rfl, _, b2, p + 1 + (rowsB b1).length, e, by rw [← hul]; rfl, t2.pt s02.pt, by omega, by omega, by omega, fun l3 us3 H3 s3 n3 hl3 hu3 => ?_⟩
      have hl3n := hu3.len
      rw [List.length_map, leadsB_len] at hl3n
      refine ⟨l2, l3, _, us3, rfl, rfl, s3 _ _ upd_same, hl3, Nat.le_trans (m := 1000) (by rw [List.length_append]; show 1 + us1.length + us3.length ≤ 1000; omega) (by decide), fun l4 nl4 => ?_⟩
      have pA := (same_new (o := .lst [.ref t]) nl0).pt
      have pB := (s2.trans (same_new (o := .lst ([.ref t] ++ us1)) nl2)).pt
      have pC := (s3.trans (same_new (o := .lst (([.ref t] ++ us1) ++ us3)) nl4)).pt
      refine k l4 _ _ ((s02.trans s3).trans (same_new nl4)) ((s02.trans s3).free nl4) upd_same ?_
      rw [leadsR, List.map_cons, List.map_append]
      exact .cons (ht1t _ ((pA.trans pB).trans pC)) (Tvs.app (hu1.pt ((same_new (o := .lst ([.ref t] ++ us1)) nl2).pt.trans pC)) (hu3.pt (same_new nl4).pt))
    | again b1 =>
      obtain ⟨v1, rfl, t1⟩ := ht.one
      obtain ⟨a1, x1, rfl, hS1, ht1⟩ := t1.tupI
      have hdd : depB b1 < n ∧ depB b1 ≤ 2 := by
        have hd : depB b1 + 1 < n + 1 := hd
        have hd3 : depB b1 + 1 ≤ 3 := hd3
        omega
      have hnn : (rowsB b1).length + 1 ≤ 1000 := hn
      refine ifDF (neS (a := "again") (b := "either") (by decide +kernel)) ⟨_, rfl, _, _, _, _, rfl, rfl, hS, at0, rfl, _, rfl, ifD rfl ?_⟩
      refine ⟨_, rfl, _, _, _, _, rfl, rfl, hS, rfl, _, .inr (.inl ⟨_, hS1, rfl⟩), rd_ifE (fun R h => ⟨_, rfl, _, _, rfl, rfl, h⟩) (fun R h => ⟨_, rfl, h⟩) ?_⟩
      refine ⟨_, rfl, by show 2 ≤ sizeLine; decide, fun t nt => ?_⟩
      have e1 : (if (!x1.isEmpty) then V.int ((p : Int) + 1) else V.int (p : Int)) = V.int ((if b1.isEmpty then p else p + 1 : Nat) : Int) := by
        rw [isE_of ht1]
        exact pick_eq
      have ht1t : ∀ H', Pt (upd H t (.tup [if (!x1.isEmpty) then V.int ((p : Int) + 1) else V.int (p : Int), V.int (e : Int)])) H' → Tv K H' (.ref t) (encL [if b1.isEmpty then p else p + 1, e]) := fun H' pt => by
        refine .tup (pt.sq (.inl (.inl upd_same))) ?_
        rw [e1]
        exact .cons (.int _) (.cons (.int _) .nil)
      have sT := same_new (o := .tup [if (!x1.isEmpty) then V.int ((p : Int) + 1) else V.int (p : Int), V.int (e : Int)]) nt
      refine ⟨_, rfl, by show 1 ≤ sizeLine; decide, fun l0 nl0 => ?_⟩
      have s0 := sT.trans (same_new (o := .lst [.ref t]) nl0)
      refine ⟨_, rfl, _, _, _, _, rfl, rfl, s0.pt.sq hS, rfl, _, rfl, _, _, rfl, rfl, _, rfl, _, b1, p + 1, p, rfl, t1.pt s0.pt, by omega, by omega, by omega, fun l1 us1 H2 s2 n2 hl1 hu1 => ?_⟩
      have hl1n := hu1.len
      rw [List.length_map, leadsB_len] at hl1n
      refine ⟨l0, l1, _, us1, rfl, rfl, s2 _ _ upd_same, hl1, Nat.le_trans (show 1 + us1.length ≤ 1000 by omega) (by decide), fun l2 nl2 => ?_⟩
      have pA := ((same_new (o := .lst [.ref t]) nl0).trans (s2.trans (same_new (o := .lst ([.ref t] ++ us1)) nl2))).pt
      refine k l2 _ _ ((s0.trans s2).trans (same_new nl2)) ((s0.trans s2).free nl2) upd_same ?_
      rw [leadsR, List.map_cons]
      exact .cons (ht1t _ pA) (hu1.pt (same_new nl2).pt)
end
end K25
set_option Elab.async false
set_option linter.all false
set_option maxRecDepth 100000
set_option maxHeartbeats 4000000
namespace PM
open PySem PySem.Spec PyProof.Rows L2 ZX ZR
theorem Pt.ins {H : Hp} {a C dx : Addr} {fs : List (Str × V)} {o : HO} (h : H a = some (.ins C dx fs)) : Pt H (upd H a o) := fun b ys hb => by
  have ne : b ≠ a := fun e => by
    subst e
    rcases hb with hb | ⟨o, hb⟩ <;> rw [h] at hb <;> cases hb
  exact hb.elim (fun h => .inl (by rw [upd_ne ne]; exact h)) fun ⟨o, h⟩ => .inr ⟨o, by rw [upd_ne ne]; exact h⟩
theorem _root_.L2.Same.kp {p : Addr} {H H' : Hp} (s : Same H H') : Kp p H H' := fun b u _ e => s b u e
theorem _root_.ZX.Kp.put {p : Addr} {H H' : Hp} {o : HO} (k : Kp p H H') : Kp p H (upd H' p o) := fun b u n e => by
  rw [upd_ne n]
  exact k b u n e
theorem _root_.ZX.Kp.same {p : Addr} {H H1 H2 : Hp} (k : Kp p H H1) (s : Same H1 H2) : Kp p H H2 := fun b u n e => s _ _ (k b u n e)
/-- what the class of programs must be -/
structure PrC (K : PySem.W.Frag) (C : Addr) : Prop where
  c : Cls K C
  n1 : NoAttr K C "block"
  n2 : NoAttr K C "_rows"
  n3 : NoAttr K C "_leads"
  n4 : NoAttr K C "_names"
/-- all next places, the end's too -/
def leadsP (b : List Rw) : List (List Nat) := leadsB b 0 (rowsB b).length ++ [[]]
theorem leadsP_len (b : List Rw) : (leadsP b).length = (rowsB b).length + 1 := by
  rw [leadsP, List.length_append, leadsB_len]
  rfl
/-- a program of the block b at x -/
def PrAt (K : PySem.W.Frag) (C : Addr) (H : Hp) (x : Addr) (b : List Rw) : Prop := ∃ (dx : Addr) (v : V) (ra na la : Addr) (rs ls : List V) (ys : List Str), H x = some (.ins C dx [("block", v), ("_rows", .ref ra), ("_names", .ref na), ("_leads", .ref la)]) ∧ BV K H v b ∧ Good b ∧
  SqT K H ra rs ∧ Tvs K H rs ((rowsB b).map dR) ∧ SqT K H la ls ∧ Tvs K H ls ((leadsP b).map encL) ∧ SqT K H na (ys.map V.str) ∧ IsLot ys ((rowsB b).flatMap namesR)
theorem PrAt.up {K : PySem.W.Frag} {C : Addr} {H H' : Hp} {x : Addr} {b : List Rw} (h : PrAt K C H x b) (e : ∀ o, H x = some o → H' x = some o) (pt : Pt H H') : PrAt K C H' x b := by
  obtain ⟨dx, v, ra, na, la, rs, ls, ys, h1, h2, g, h3, h4, h5, h6, h7, h8⟩ := h
  exact ⟨dx, v, ra, na, la, rs, ls, ys, e _ h1, h2.pt pt, g, pt.sq h3, h4.pt pt, pt.sq h5, h6.pt pt, pt.sq h7, h8⟩
theorem PrAt.same {K : PySem.W.Frag} {C : Addr} {H H' : Hp} {x : Addr} {b : List Rw} (h : PrAt K C H x b) (s : Same H H') : PrAt K C H' x b := h.up (fun o e => s _ _ e) s.pt
end PM
namespace K25
open PySem PySem.Spec PyProof.Rows L2 ZX PM ZR
def spInit (K : PySem.W.Frag) (C : Addr) : Sp := fun vs H Q _ => ∃ (x dx : Addr) (v : V) (b : List Rw), vs = [.ref x, v] ∧ H x = some (.ins C dx []) ∧ BV K H v b ∧ Good b ∧ ∀ H', Kp x H H' → Pt H H' → PrAt K C H' x b → Q .non H'
section
variable {P : Program} {w : World} {K : PySem.W.Frag} {mg : Str → Option Value} {base : Heap}
theorem scProgramInit : FnScope ["self", "block", "place"] ["self", "block"] (defScope sProgramInit) := ⟨rfl, rfl, rfl, by decide +kernel, rfl, by decide +kernel, by decide +kernel⟩
theorem ok_init {C f : Addr} {fd : FuncData} (F : FunD K "__init__" "Program.__init__" (defArgs sProgramInit) (defBody sProgramInit) (defScope sProgramInit) [] [] f fd) (T : Bi mg) (c : PrC K C) (C_bad_place : Cal P w K mg base "bad_place" 6 ["block", "many"] (spBad K)) (C_rows_of : Cal P w K mg base "rows_of" 5 ["block"] (spRowsOf K 4)) (C_all_names : Cal P w K mg base "all_names" 3 ["rows"] (spAllNames K)) (C_block_leads : Cal P w K mg base "block_leads" 15 ["block", "place", "behind"] (spBlockLeads K 4)) : FnOk P w K mg base CX0 16 f fd ["self", "block"] (spInit K C) := by
  refine F.ok scProgramInit (fun vs H Q E h => ?_) (fun cdv A outer s H vs Q E hr h => ?_)
  · obtain ⟨x, dx, v, b, rfl, _⟩ := h
    rfl
  · obtain ⟨x, dx, v, b, rfl, hx, tv, G, k⟩ := h
    have hr_bad_place := hr.mono (show 6 ≤ 15 by decide)
    have hr_rows_of := hr.mono (show 5 ≤ 15 by decide)
    have hr_all_names := hr.mono (show 3 ≤ 15 by decide)
    have hr_block_leads := hr
    refine ⟨_, PSs.nox (pss_cons (ps_set (i := 2) scProgramInit.nd rfl (Or.inl rfl) (pcal C_bad_place hr_bad_place rfl (pa_cons (pv 1) (pa_cons pe_int pa_nil))))
    (pss_cons (ps_if (pt_cmpR op_notN (pv 2) pe_non (nomark _)) (pss_one ps_never) pss_nil)
    (pss_cut (ps_fld (pv 0) (pv 1) rfl)
    (pss_cut (ps_fld (pv 0) (pe_callTy call_tuple_of (by rfl) T.b_tuple (by decide +kernel) (pa_cons (pcal C_rows_of hr_rows_of rfl (pa_cons (pv 1) pa_nil)) pa_nil)) rfl)
    (pss_cut (ps_fld (pv 0) (pcal C_all_names hr_all_names rfl (pa_cons (pe_fld (pv 0) rfl) pa_nil)) rfl)
    (pss_one (ps_fld (pv 0) (pe_callTy call_tuple_of (by rfl) T.b_tuple (by decide +kernel) (pa_cons (pe_op op_cat (pcal C_block_leads hr_block_leads rfl (pa_cons (pv 1) (pa_cons pe_int (pa_cons (pe_callB call_len_seq (by rfl) T.b_len (by decide +kernel) (pa_cons (pe_fld (pv 0) rfl) pa_nil)) pa_nil)))) (pe_lst (pa_cons (pe_tup pa_nil) pa_nil))) pa_nil)) rfl))))))), ?_⟩
    have hdep := ok_depB G.ok (by decide)
    have l30 := G.l30
    refine ⟨_, rfl, v, b, 0, rfl, tv, G, fun H1 s1 => ⟨_, rfl, rfl, false, rfl, ?_⟩⟩
    have hx1 := s1 _ _ hx
    refine ⟨fun σ' H' => σ' = [some (.ref x), some v, some .non] ∧ Kp x H H' ∧ Pt H H' ∧ H' x = some (.ins C dx [("block", v)]), ?_, ?_⟩
    · refine ⟨_, rfl, _, rfl, x, C, dx, _, rfl, hx1, c.c, c.n1, (by decide), ?_⟩
      exact ⟨rfl, (Same.kp s1).put, s1.pt.trans (Pt.ins hx1), upd_same⟩
    rintro σ2 H2 ⟨rfl, kp2, p2, hx2⟩
    refine ⟨fun σ' H' => ∃ ra rs, σ' = [some (.ref x), some v, some .non] ∧ Kp x H H' ∧ Pt H H' ∧ H' x = some (.ins C dx [("block", v), ("_rows", .ref ra)]) ∧ SqT K H' ra rs ∧ Tvs K H' rs ((rowsB b).map dR), ?_, ?_⟩
    · refine ⟨_, rfl, v, b, rfl, tv.pt p2, by omega, by omega, fun l us H3 s3 nl hl hu => ?_⟩
      refine ⟨l, us, rfl, .inl ⟨SqL.of hl, fun t nt => ?_⟩⟩
      have s4 := s3.trans (same_new (o := .tup us) nt)
      have hx4 := s4 _ _ hx2
      refine ⟨_, rfl, x, C, dx, _, rfl, hx4, c.c, c.n2, (by show 1 < 1000; decide), ?_⟩
      have p5 := Pt.ins (o := .ins C dx (putF "_rows" (.ref t) [("block", v)])) hx4
      exact ⟨t, us, rfl, (kp2.same s4).put, (p2.trans s4.pt).trans p5, upd_same, p5.sq (.inl (.inl upd_same)), (hu.pt (same_new (o := .tup us) nt).pt).pt p5⟩
    rintro σ3 H3 ⟨ra, rs, rfl, kp3, p3, hx3, hra, hrs⟩
    have hrl := hrs.len
    rw [List.length_map] at hrl
    refine ⟨fun σ' H' => ∃ na ys, σ' = [some (.ref x), some v, some .non] ∧ Kp x H H' ∧ Pt H H' ∧ H' x = some (.ins C dx [("block", v), ("_rows", .ref ra), ("_names", .ref na)]) ∧ SqT K H' ra rs ∧ Tvs K H' rs ((rowsB b).map dR) ∧ SqT K H' na (ys.map V.str) ∧ IsLot ys ((rowsB b).flatMap namesR), ?_, ?_⟩
    · refine ⟨_, rfl, x, C, dx, _, _, rfl, hx3, c.c, c.n2, rfl, ra, rs, rowsB b, rfl, .inr hra, hrs, ok_names_B G.ok, by omega, fun na ys H4 s4 nn ly hn => ?_⟩
      have hx4 := s4 _ _ hx3
      refine ⟨_, rfl, x, C, dx, _, rfl, hx4, c.c, c.n4, (by show 2 < 1000; decide), ?_⟩
      have p5 := Pt.ins (o := .ins C dx (putF "_names" (.ref na) [("block", v), ("_rows", .ref ra)])) hx4
      exact ⟨na, ys, rfl, (kp3.same s4).put, (p3.trans s4.pt).trans p5, upd_same, (s4.pt.trans p5).sq hra, hrs.pt (s4.pt.trans p5), p5.sq (.inl (.inl hn)), ly⟩
    rintro σ4 H4 ⟨na, ys, rfl, kp4, p4, hx4, hra, hrs, hna, ly⟩
    refine ⟨_, rfl, _, rfl, x, C, dx, _, _, rfl, hx4, c.c, c.n2, rfl, ra, rs, rfl, .inr hra, v, b, 0, (rowsB b).length, by rw [← hrl]; rfl, tv.pt p4, by omega, by omega, by omega, fun l6 ls H6 s6 n6 h6 t6 => ?_⟩
    have hll := t6.len
    rw [List.length_map, leadsB_len] at hll
    refine ⟨by decide, fun t0 nt0 => ⟨by show 1 ≤ sizeLine; decide, fun l7 nl7 => ?_⟩⟩
    have s7 := (s6.trans (same_new (o := .tup []) nt0)).trans (same_new (o := .lst [.ref t0]) nl7)
    refine ⟨l6, l7, ls, _, rfl, rfl, ((same_new (o := .tup []) nt0).trans (same_new (o := .lst [.ref t0]) nl7)) _ _ h6, upd_same, Nat.le_trans (show ls.length + 1 ≤ 1000 by omega) (by decide), fun l8 nl8 => ?_⟩
    refine ⟨l8, _, rfl, .inl ⟨SqL.of upd_same, fun t9 nt9 => ?_⟩⟩
    have s9 := (s7.trans (same_new (o := .lst (ls ++ [.ref t0])) nl8)).trans (same_new (o := .tup (ls ++ [.ref t0])) nt9)
    have hx9 := s9 _ _ hx4
    refine ⟨_, rfl, x, C, dx, _, rfl, hx9, c.c, c.n3, (by show 3 < 1000; decide), ?_⟩
    have p10 := Pt.ins (o := .ins C dx (putF "_leads" (.ref t9) [("block", v), ("_rows", .ref ra), ("_names", .ref na)])) hx9
    have pz := s9.pt.trans p10
    refine k _ ((kp4.same s9).put) (p4.trans pz) ⟨dx, v, ra, na, t9, rs, ls ++ [.ref t0], ys, ?_, tv.pt (p4.trans pz), G, pz.sq hra, hrs.pt pz, p10.sq (.inl (.inl upd_same)), ?_, pz.sq hna, ly⟩
    · rw [upd_same]
      rfl
    · rw [leadsP, List.map_append]
      have py := (((same_new (o := .tup []) nt0).trans (same_new (o := .lst [.ref t0]) nl7)).trans ((same_new (o := .lst (ls ++ [.ref t0])) nl8).trans (same_new (o := .tup (ls ++ [.ref t0])) nt9))).pt.trans p10
      refine Tvs.app (t6.pt py) (.cons (.tup ?_ .nil) .nil)
      exact (((same_new (o := .lst [.ref t0]) nl7).trans ((same_new (o := .lst (ls ++ [.ref t0])) nl8).trans (same_new (o := .tup (ls ++ [.ref t0])) nt9))).pt.trans p10).sq (.inl (.inl upd_same))
end
end K25
set_option Elab.async false
set_option linter.all false
set_option maxRecDepth 100000
set_option maxHeartbeats 4000000
/-! Rules of my own: raise C(), C an own class with an own __init__ that keeps nothing; functions that may let something out. -/
namespace ZR
open PySem PySem.Spec PyProof.Rows L2 ZX
section
variable {X : Cx} {x : Str} {p pos : Pos} {C fI : Addr} {k : Nat} {fd : FuncData} {ps : List Str} {sp : Sp}
def tMkN (C : Addr) (sp : Sp) : TE := fun _ H Q => ∀ a, H a = none → sp [.ref a] (upd H a (exo a C none)) (fun v H2 => v = .non ∧ H2 a = some (exo a C none) ∧ Q (.ref a) (upd H2 a (ExO (.ref C) a))) fun _ _ _ => False
theorem pe_oexN (T : OexC X.K C) (iC : PySem.W.findIn X.K (.ref C) "__init__" = some (some (.ref fI))) (tI : PySem.W.typeIn X.K (.ref fI) = some (.type "function"))
    (F1 : FnOk X.prog X.w X.K X.mg X.base CX0 k fI fd ps sp) (hi : ∀ vs H Q Q' E, (∀ v H', Q v H' → Q' v H') → sp vs H Q E → sp vs H Q' E) (hr : Room (k + 1) X.A) (hb : Binds X.K fd ps []) (hg : Gl X x) (hm : X.mg x = some (.ref C)) (hdb : (x == ("__debug__" : Str)) = false := by decide) :
    PE X (.Call (.Name x p) [] [] pos) (tMkN C sp) := by
  refine ⟨fun pins s σ H Q I h => ?_⟩
  refine wpAny_mono ((pe_oex0 T iC tI F1 hr hb hg hm hdb).run pins s σ H (fun v H2 => ∃ a, v = .ref a ∧ H2 a = some (exo a C none) ∧ Q (.ref a) (upd H2 a (ExO (.ref C) a))) I ⟨Nat.zero_le _, fun a n => ?_⟩) (fun u s' hu => ?_) fun _ _ z => z
  · exact hi _ _ _ _ _ (fun v H' q => ⟨q.1, a, rfl, q.2.1, q.2.2⟩) (h a n)
  · obtain ⟨v, H2, I2, r, a, rfl, ha, q⟩ := hu
    obtain ⟨t1, hg⟩ := exo_at I2.hok ha
    refine ⟨.ref a, upd H2 a (ExO (.ref C) a), I2.write (x := a) (e := a) (h' := s'.heap) (t' := s'.toks) (by rw [ha]; trivial) (.inl rfl) (fun _ _ _ z => z) ⟨_, hg⟩ ?_, r, q⟩
    exact exO_ok hg ⟨rfl, rfl⟩ rfl rfl rfl (show 4 < 6 by decide)
end
end ZR
set_option Elab.async false
set_option linter.all false
set_option maxRecDepth 100000
set_option maxHeartbeats 4000000
namespace K25
open PySem PySem.Spec PyProof.Rows L2 ZX PM ZR
def spP : Sp := fun vs H Q _ => ∃ a : Addr, vs = [.ref a] ∧ Q .non H
/-- the class NoPlace, as the walk asks of it -/
structure NoP (P : Program) (w : World) (K : PySem.W.Frag) (mg : Str → Option Value) (base : Heap) (CN fI : Addr) (fd : FuncData) (ps : List Str) : Prop where
  T : OexC K CN
  iC : PySem.W.findIn K (.ref CN) "__init__" = some (some (.ref fI))
  tI : PySem.W.typeIn K (.ref fI) = some (.type "function")
  F1 : FnOk P w K mg base CX0 1 fI fd ps spP
  bd : Binds K fd ps []
  g : mg "NoPlace" = some (.ref CN)
/-- no place of n -/
def BadPl (K : PySem.W.Frag) (H : Hp) (v : V) (n : Nat) : Prop := NumV K H v false ∨ ∃ i : Int, v = .int i ∧ ¬ (0 ≤ i ∧ i < n)
def spRowAt (K : PySem.W.Frag) (C CN : Addr) : Sp := fun vs H Q E => ∃ (x : Addr) (v : V) (b : List Rw), vs = [.ref x, v] ∧ PrAt K C H x b ∧
  ((∃ (i : Nat) (r : Rw), v = .int i ∧ (rowsB b)[i]? = some r ∧ ∀ y, RV K H y r → Q y H) ∨ (BadPl K H v (rowsB b).length ∧ ∀ H', Same H H' → E (.ref CN) none H'))
def spNexts (K : PySem.W.Frag) (C CN : Addr) : Sp := fun vs H Q E => ∃ (x : Addr) (v : V) (b : List Rw), vs = [.ref x, v] ∧ PrAt K C H x b ∧
  ((∃ (i : Nat) (l : List Nat), v = .int i ∧ (leadsP b)[i]? = some l ∧ ∀ y, Tv K H y (encL l) → Q y H) ∨ (BadPl K H v (leadsP b).length ∧ ∀ H', Same H H' → E (.ref CN) none H'))
def spNames (K : PySem.W.Frag) (C : Addr) : Sp := fun vs H Q _ => ∃ (x : Addr) (b : List Rw), vs = [.ref x] ∧ PrAt K C H x b ∧ ∀ t ys, IsLot ys ((rowsB b).flatMap namesR) → SqT K H t (ys.map V.str) → Q (.ref t) H
theorem same_del {H : Hp} {a : Addr} {o : HO} (n : H a = none) : Same H (delH (upd H a o) a) := fun b u e => by
  have ne := ne_of_none e n
  rw [delH_ne ne, upd_ne ne]
  exact e
theorem fr0_of {H : Hp} {a : Addr} (n : H a = none) : Fr0 H a := fun o e => by
  rw [n] at e
  cases e
section
variable {P : Program} {w : World} {K : PySem.W.Frag} {mg : Str → Option Value} {base : Heap}
theorem scNames : FnScope ["program"] ["program"] (defScope sNames) := ⟨rfl, rfl, rfl, by decide +kernel, rfl, by decide +kernel, by decide +kernel⟩
theorem ok_names {C f : Addr} {fd : FuncData} (F : FnP K "names" sNames f fd) (T : Bi mg) (c : PrC K C) : FnOk P w K mg base CX0 1 f fd ["program"] (spNames K C) := by
  refine F.ok scNames (fun vs H Q E h => ?_) (fun cdv A outer s H vs Q E hr h => ?_)
  · obtain ⟨x, b, rfl, _⟩ := h
    rfl
  · obtain ⟨x, b, rfl, ⟨dx, v, ra, na, la, rs, ls, ys, hx, tv, G, h1, h2, h3, h4, h5, ly⟩, k⟩ := h
    refine ⟨_, PSs.nox (pss_one (ps_ret (pe_fld (pv 0) rfl))), ?_⟩
    exact ⟨_, rfl, x, C, dx, _, _, rfl, hx, c.c, c.n4, rfl, k na ys ly h5⟩
theorem scRow_at : FnScope ["program", "place"] ["program", "place"] (defScope sRow_at) := ⟨rfl, rfl, rfl, by decide +kernel, rfl, by decide +kernel, by decide +kernel⟩
theorem ok_row_at {C CN fI f : Addr} {fdI fd : FuncData} {psI : List Str} (F : FnP K "row_at" sRow_at f fd) (T : Bi mg) (c : PrC K C) (N : NoP P w K mg base CN fI fdI psI) (C_is_number_below : Cal P w K mg base "is_number_below" 2 ["limit", "thing"] (spBelow K)) : FnOk P w K mg base (L2.CX P w) 3 f fd ["program", "place"] (spRowAt K C CN) := by
  refine F.ok scRow_at (fun vs H Q E h => ?_) (fun cdv A outer s H vs Q E hr h => ?_)
  · obtain ⟨x, v, b, rfl, _⟩ := h
    rfl
  · obtain ⟨x, v, b, rfl, ⟨dx, vb, ra, na, la, rs, ls, yn, hx, tv, G, h1, h2, h3, h4, h5, h6⟩, h⟩ := h
    have hr_is_number_below := hr
    refine ⟨_, (pss_cons (ps_if (pt_not (pt_val (pcal C_is_number_below hr_is_number_below rfl (pa_cons (pe_callB call_len_seq (by rfl) T.b_len (by decide +kernel) (pa_cons (pe_fld (pv 0) rfl) pa_nil)) (pa_cons (pv 1) pa_nil))))) (pss_one (ps_raise rfl (takes_of rfl rfl rfl rfl) (pmk_ret rfl (pe_oexN N.T N.iC N.tI N.F1 (fun _ _ _ _ _ m h => by obtain ⟨a, e, q⟩ := h; exact ⟨a, e, m _ _ q⟩) (hr.mono (by decide)) N.bd rfl N.g)))) pss_nil)
    (pss_one (ps_ret (pe_ix ix_tup (pe_fld (pv 0) rfl) (pv 1) (fun _ _ => rfl))))), ?_⟩
    have hln := h2.len
    rw [List.length_map] at hln
    refine ⟨_, rfl, x, C, dx, _, _, rfl, hx, c.c, c.n2, rfl, ra, _, rfl, .inr h1, _, rfl, ?_⟩
    rcases h with ⟨i, r, rfl, hi, k⟩ | ⟨hb, k⟩
    · have hlt : i < (rowsB b).length := (List.getElem?_eq_some_iff.mp hi).1
      obtain ⟨y, hy, ty⟩ := Tvs.get (i := i) h2 (by rw [List.getElem?_map, hi]; rfl)
      refine ⟨_, _, rfl, .inl ⟨_, rfl, _, rfl, ?_⟩⟩
      rw [decide_eq_true (show (0 : Int) ≤ (i : Int) by omega), decide_eq_true (by omega)]
      exact ⟨_, rfl, x, C, dx, _, _, rfl, hx, c.c, c.n2, rfl, _, rfl, ra, _, _, _, rfl, rfl, h1, at_of rfl hy, k y ty⟩
    · have hrs := fun (a : Addr) (na : H a = none) => k (delH (upd (upd H a (exo a CN none)) a (ExO (.ref CN) a)) a) (by rw [upd_upd]; exact same_del na)
      rcases hb with hb | ⟨i, rfl, hi⟩
      · exact ⟨_, _, rfl, .inr ⟨hb, _, rfl, fun a na => ⟨a, rfl, rfl, upd_same, a, .ref CN, rfl, upd_same, fr0_of na, raises_own N.T.exC N.T.tyC, hrs a na⟩⟩⟩
      · refine ⟨_, _, rfl, .inl ⟨i, rfl, _, rfl, ?_⟩⟩
        have hz : (decide (0 ≤ i) && decide (i < (rs.length : Int))) = false := by
          rw [← Bool.decide_and, decide_eq_false]
          rw [hln]
          exact hi
        rw [hz]
        exact fun a na => ⟨a, rfl, rfl, upd_same, a, .ref CN, rfl, upd_same, fr0_of na, raises_own N.T.exC N.T.tyC, hrs a na⟩
theorem scNexts : FnScope ["program", "place"] ["program", "place"] (defScope sNexts) := ⟨rfl, rfl, rfl, by decide +kernel, rfl, by decide +kernel, by decide +kernel⟩
theorem ok_nexts {C CN fI f : Addr} {fdI fd : FuncData} {psI : List Str} (F : FnP K "nexts" sNexts f fd) (T : Bi mg) (c : PrC K C) (N : NoP P w K mg base CN fI fdI psI) (C_is_number_below : Cal P w K mg base "is_number_below" 2 ["limit", "thing"] (spBelow K)) : FnOk P w K mg base (L2.CX P w) 3 f fd ["program", "place"] (spNexts K C CN) := by
  refine F.ok scNexts (fun vs H Q E h => ?_) (fun cdv A outer s H vs Q E hr h => ?_)
  · obtain ⟨x, v, b, rfl, _⟩ := h
    rfl
  · obtain ⟨x, v, b, rfl, ⟨dx, vb, ra, na, la, rs, ls, yn, hx, tv, G, h1, h2, h3, h4, h5, h6⟩, h⟩ := h
    have hr_is_number_below := hr
    refine ⟨_, (pss_cons (ps_if (pt_not (pt_val (pcal C_is_number_below hr_is_number_below rfl (pa_cons (pe_callB call_len_seq (by rfl) T.b_len (by decide +kernel) (pa_cons (pe_fld (pv 0) rfl) pa_nil)) (pa_cons (pv 1) pa_nil))))) (pss_one (ps_raise rfl (takes_of rfl rfl rfl rfl) (pmk_ret rfl (pe_oexN N.T N.iC N.tI N.F1 (fun _ _ _ _ _ m h => by obtain ⟨a, e, q⟩ := h; exact ⟨a, e, m _ _ q⟩) (hr.mono (by decide)) N.bd rfl N.g)))) pss_nil)
    (pss_one (ps_ret (pe_ix ix_tup (pe_fld (pv 0) rfl) (pv 1) (fun _ _ => rfl))))), ?_⟩
    have hln := h4.len
    rw [List.length_map] at hln
    refine ⟨_, rfl, x, C, dx, _, _, rfl, hx, c.c, c.n3, rfl, la, _, rfl, .inr h3, _, rfl, ?_⟩
    rcases h with ⟨i, r, rfl, hi, k⟩ | ⟨hb, k⟩
    · have hlt : i < (leadsP b).length := (List.getElem?_eq_some_iff.mp hi).1
      obtain ⟨y, hy, ty⟩ := Tvs.get (i := i) h4 (by rw [List.getElem?_map, hi]; rfl)
      refine ⟨_, _, rfl, .inl ⟨_, rfl, _, rfl, ?_⟩⟩
      rw [decide_eq_true (show (0 : Int) ≤ (i : Int) by omega), decide_eq_true (by omega)]
      exact ⟨_, rfl, x, C, dx, _, _, rfl, hx, c.c, c.n3, rfl, _, rfl, la, _, _, _, rfl, rfl, h3, at_of rfl hy, k y ty⟩
    · have hrs := fun (a : Addr) (na : H a = none) => k (delH (upd (upd H a (exo a CN none)) a (ExO (.ref CN) a)) a) (by rw [upd_upd]; exact same_del na)
      rcases hb with hb | ⟨i, rfl, hi⟩
      · exact ⟨_, _, rfl, .inr ⟨hb, _, rfl, fun a na => ⟨a, rfl, rfl, upd_same, a, .ref CN, rfl, upd_same, fr0_of na, raises_own N.T.exC N.T.tyC, hrs a na⟩⟩⟩
      · refine ⟨_, _, rfl, .inl ⟨i, rfl, _, rfl, ?_⟩⟩
        have hz : (decide (0 ≤ i) && decide (i < (ls.length : Int))) = false := by
          rw [← Bool.decide_and, decide_eq_false]
          rw [hln]
          exact hi
        rw [hz]
        exact fun a na => ⟨a, rfl, rfl, upd_same, a, .ref CN, rfl, upd_same, fr0_of na, raises_own N.T.exC N.T.tyC, hrs a na⟩
end
end K25
set_option Elab.async false
set_option linter.all false
set_option maxRecDepth 100000
set_option maxHeartbeats 4000000
/-! Rules of my own: try with several except clauses, each with a name or without. -/
namespace ZR
open PySem PySem.Spec PyProof.Rows L2
/-- the ends of a clause's suite: slot i is its name's -/
def asE : Option Nat → Ends → Ends
  | none, D => D
  | some i, D => { nx := fun σ' H' => D.nx (σ'.set i none) H', rt := D.rt, bk := fun σ' H' => D.bk (σ'.set i none) H', ct := fun σ' H' => D.ct (σ'.set i none) H' }
def asS : Option Nat → Addr → L2.St → L2.St
  | none, _, σ => σ
  | some i, a, σ => σ.set i (some (.ref a))
abbrev HdW : Type := Value × Option Nat × (Addr → Value → Option Addr → TS)
/-- what the clauses wish of an exception of the body, one after the other -/
def wMix (K : PySem.W.Frag) (Wout : WX) (D : Ends) : List HdW → WX
  | [] => Wout
  | (c, o, ts) :: r => fun cls d σ H => ∃ b, PySem.W.exmOne K cls c = some b ∧ (b = true → ∀ a, H a = none → ts a cls d (asE o D) (asS o a σ) H) ∧ (b = false → wMix K Wout D r cls d σ H)
inductive HdsMx (X : Cx) : List ExceptHandler → List HdW → Prop
  | nil : HdsMx X [] []
  | one {x : Str} {c : Value} {ts : Addr → Value → Option Addr → TS} {b₀ : Stmt} {suite : List Stmt} {np pos' : Pos} {hds : List ExceptHandler} {l : List HdW} (hc : Names X x c)
      (hsu : ∀ (a : Addr) (oe : Obj) (cls : Value) (d : Option Addr) (pn : List (Addr × Obj)), Zc cls d oe → (∃ vs, oe.data = .fields vs) → PSs (X.suite a ((a, oe) :: pn)) (b₀ :: suite) (ts a cls d)) (r : HdsMx X hds l) :
      HdsMx X (.ExceptHandler (some (.Name x np)) none (b₀ :: suite) pos' :: hds) ((c, none, ts) :: l)
  | as_ {x n : Str} {i : Nat} {c : Value} {ts : Addr → Value → Option Addr → TS} {b₀ : Stmt} {suite : List Stmt} {np pos' : Pos} {hds : List ExceptHandler} {l : List HdW} (hN : X.N.Nodup) (hi : X.N[i]? = some n) (hln : X.env.kindOf n = some .local) (hc : Names X x c)
      (hsu : ∀ (a : Addr) (oe : Obj) (cls : Value) (d : Option Addr) (pn : List (Addr × Obj)), Zc cls d oe → (∃ vs, oe.data = .fields vs) → PSs (X.suite a ((a, oe) :: pn)) (b₀ :: suite) (ts a cls d)) (r : HdsMx X hds l) :
      HdsMx X (.ExceptHandler (some (.Name x np)) (some n) (b₀ :: suite) pos' :: hds) ((c, some i, ts) :: l)
section
variable {X : Cx} {body : List Stmt} {h₀ : ExceptHandler} {hds : List ExceptHandler} {l : List HdW} {pos : Pos} {tb : WX → TS} {Wout : WX}
theorem ps_try_mix (hs : X.stack = X.env :: X.outer) (hf : X.env.frame = some X.env.locals) (tk : Takes X Wout)
    (hb : ∀ (W : WX) (pn : List (Addr × Obj)) (xe : Value → Shared → Prop), Takes (X.tr pn xe) W → PassesOwn (model X.prog X.w) X.A X.env xe → PSs (X.tr pn xe) body (tb W))
    (hh : HdsMx X (h₀ :: hds) l) : PS X (.Try body (h₀ :: hds) [] [] pos) (fun D σ H => tb (wMix X.K Wout D l) D σ H) := by
  refine ⟨fun pins s σ H D I h => ?_⟩
  have ok := I.ok
  have hfr : X.A.frames = some (X.env :: X.outer) := by rw [ok.frames, hs]
  refine wpAny_Try_except ?_
  refine wpAny_mono ((hb (wMix X.K Wout D l) (X.pn ++ pins) (fun e s₁ => wpAny (model X.prog X.w) X.A (noteFrame e X.env) (fun _ s₂ => wpAny (model X.prog X.w) X.A (setFlight e none) (fun _ s₃ =>
    wpAny (model X.prog X.w) X.A (handleBy e X.env (h₀ :: hds)) (SP X pins D) X.xe s₃) X.xe s₂) X.xe s₁) (fun u s' xx => ?_) PassesOwn.looking).run [] s σ H D (I.toTry _) h) (fun f s1 hsp => ?_) (fun e s1 he => he)
  · -- the catch
    obtain ⟨a, B, sI, pins', σ', H', cls, d, rfl, J', nb, up, sky, na, os, ag, w⟩ := xx
    have J : Inv X pins σ' H' sI := J'.ofTry ok
    have sky' : Sky B (X.env :: X.outer) a (Zc cls d) X.env.locals s'.heap := by rw [← hs]; exact sky
    show wpAny (model X.prog X.w) X.A (noteFrame (.ref a) X.env) _ _ _
    refine Sky.land Zc.steady hfr hf sky' fun h3 fl3 up3 => ?_
    have J3 : Inv X pins σ' H' { s' with heap := h3 } := J.landed nb fl3.1 (up.trans up3) os ag
    obtain ⟨oe3, vs3, he3, hz3, hd3⟩ := fl3.there
    have notFr : ∀ {h : Heap} {o : Obj} {vs : Array Value}, h.FunFrames B (X.env :: X.outer) → h.get? a = some o → o.data = .fields vs → a ∉ frs (X.env :: X.outer) := fun {h o vs} ff e dd hm => by
      obtain ⟨_, o', e', hnf⟩ := ff.mem hm
      rw [e] at e'; cases e'
      exact hnf _ dd
    have nfr := notFr fl3.2.2.1 he3 hd3
    have nL : a ≠ X.env.locals := fun z => nfr (List.mem_filterMap.mpr ⟨X.env, List.mem_cons_self, by rw [hf, z]⟩)
    have nF : a ∉ X.fs := fun hm => by
      obtain ⟨e, he, q⟩ := List.mem_filterMap.mp hm
      exact nfr (List.mem_filterMap.mpr ⟨e, List.mem_cons_of_mem _ he, q⟩)
    have S3 := J3.suite he3 hd3 na nL nF
    have go : ∀ {hds' : List ExceptHandler} {l' : List HdW}, HdsMx X hds' l' → wMix X.K Wout D l' cls d σ' H' →
        wpAny (model X.prog X.w) X.A (handleBy (.ref a) X.env hds') (SP X pins D) X.xe { s' with heap := h3 } := by
      intro hds' l' hk
      induction hk with
      | nil =>
        intro w
        refine wpAny_handleBy_nil ?_
        obtain ⟨k1, k2, k3, oe, vs, T, oT, ts', he, hz, hd, h1, hr⟩ := id fl3
        unfold PySem.passOn
        refine wpAny_bind (wpAny_field he hd h1 ?_)
        rw [if_neg (show ¬ ((Value.ref T == Value.none) = true) from by simp)]
        have fin : wpAny (model X.prog X.w) X.A (setFlight (.ref a) X.env.frame) (fun _ s4 => wpAny (model X.prog X.w) X.A (throw (.ref a) : Sem Flow) (SP X pins D) X.xe s4) X.xe { s' with heap := h3 } := by
          rw [hf]
          refine HandSPX.setFlight_upZ fl3 fun h4 hh4 up4 => wpAny_throw (tk _ _ ?_)
          exact ⟨a, B, sI, pins, σ', H', cls, d, rfl, J, nb, (up.trans up3).trans up4, .inr (.inr (by rw [hs]; exact hh4)), na, os, ag, w⟩
        first
          | exact wpAny_bind (wpAny_pure (wpAny_bind fin))
          | exact wpAny_bind fin
      | @one x c ts b₀ suite np pos' hds2 l2 hc hsu r ih =>
        intro w
        obtain ⟨b, hb1, hyes, hno⟩ := w
        refine wpAny_handleBy_cons (codeAny_handlers_test ?_) (by intro q; cases q)
        have LT : PySem.W.Looks (model X.prog X.w) h3 (typeOf (.ref a)) cls := fun A Q E s k q => wpAny_typeOf_ref (k _ _ he3) (by rw [hz3.1]; exact q)
        have LM := PySem.W.exm_one (M := model X.prog X.w) (J3.kIn) LT hb1
        have test : ∀ {Q : Value → Shared → Prop} {E : Value → Shared → Prop}, Q c { s' with heap := h3 } → wpAny (model X.prog X.w) (X.A.mark (some (.ref a))) (eval (.Name x np) X.env) Q E { s' with heap := h3 } := fun {Q E} q => by
          obtain ⟨hg, hdbg, hm | ⟨hm, hv, hnn⟩⟩ := hc
          · exact ld_glob (X := X.suite a ((a, oe3) :: (X.pn ++ pins))) S3 hg hm q hdbg
          · exact ld_blt (X := X.suite a ((a, oe3) :: (X.pn ++ pins))) S3 hg hm hv q hnn hdbg
        refine test (LM.here ?_)
        cases b with
        | true =>
          refine codeAny_handlers_suite ?_
          refine HandSPX.lands_againZ fl3 fun h4 fl4 up4 => ?_
          have J4 : Inv X pins σ' H' { s' with heap := h4 } := J.landed nb fl4.1 ((up.trans up3).trans up4) os ag
          obtain ⟨oe4, vs4, he4, hz4, hd4⟩ := fl4.there
          have S4 := J4.suite he4 hd4 na nL nF
          refine wpAny_mono ((hsu a oe4 cls d (X.pn ++ pins) hz4 ⟨_, hd4⟩).run [] _ _ H' _ S4 (hyes rfl a na)) (fun f s6 hsp => ?_) (fun _ _ z => False.elim z)
          cases f with
          | next =>
            obtain ⟨σ6, H6, S6, q6⟩ := hsp
            exact ⟨_, _, S6.unsuite ok, q6⟩
          | brk =>
            obtain ⟨σ6, H6, S6, q6⟩ := hsp
            exact ⟨_, _, S6.unsuite ok, q6⟩
          | cont =>
            obtain ⟨σ6, H6, S6, q6⟩ := hsp
            exact ⟨_, _, S6.unsuite ok, q6⟩
          | ret u =>
            obtain ⟨v6, σ6, H6, S6, r6, q6⟩ := hsp
            exact ⟨_, _, _, S6.unsuite ok, r6, q6⟩
        | false =>
          show wpAny _ X.A (handleBy (.ref a) X.env hds2) _ _ _
          exact ih (hno rfl)
      | @as_ x n i c ts b₀ suite np pos' hds2 l2 hN hi hln hc hsu r ih =>
        intro w
        obtain ⟨b, hb1, hyes, hno⟩ := w
        have hloc : Loc X.env.scope n := .inl hln
        refine wpAny_handleBy_cons (codeAny_handlers_test ?_) (by intro q; cases q)
        have LT : PySem.W.Looks (model X.prog X.w) h3 (typeOf (.ref a)) cls := fun A Q E s k q => wpAny_typeOf_ref (k _ _ he3) (by rw [hz3.1]; exact q)
        have LM := PySem.W.exm_one (M := model X.prog X.w) (J3.kIn) LT hb1
        have test : ∀ {Q : Value → Shared → Prop} {E : Value → Shared → Prop}, Q c { s' with heap := h3 } → wpAny (model X.prog X.w) (X.A.mark (some (.ref a))) (eval (.Name x np) X.env) Q E { s' with heap := h3 } := fun {Q E} q => by
          obtain ⟨hg, hdbg, hm | ⟨hm, hv, hnn⟩⟩ := hc
          · exact ld_glob (X := X.suite a ((a, oe3) :: (X.pn ++ pins))) S3 hg hm q hdbg
          · exact ld_blt (X := X.suite a ((a, oe3) :: (X.pn ++ pins))) S3 hg hm hv q hnn hdbg
        refine test (LM.here ?_)
        cases b with
        | true =>
          refine codeAny_handlers_suite_as ?_
          refine HandSPX.lands_againZ fl3 fun h4 fl4 up4 => ?_
          have J4 : Inv X pins σ' H' { s' with heap := h4 } := J.landed nb fl4.1 ((up.trans up3).trans up4) os ag
          obtain ⟨oe4, vs4, he4, hz4, hd4⟩ := fl4.there
          have S4 := J4.suite he4 hd4 na nL nF
          refine store_ok (X := X.suite a ((a, oe4) :: (X.pn ++ pins))) (v := .ref a) S4 hN hi hloc rfl (fun s5 S5 => ?_) (.inr hln)
          refine wpAny_mono ((hsu a oe4 cls d (X.pn ++ pins) hz4 ⟨_, hd4⟩).run [] s5 _ H' _ S5 (hyes rfl a na)) (fun f s6 hsp => ?_) (fun _ _ z => False.elim z)
          have end_ : ∀ {σ6 : L2.St} {H6 : Hp} {Q : Shared → Prop}, Inv (X.suite a ((a, oe4) :: (X.pn ++ pins))) [] σ6 H6 s6 → (∀ s7, Inv X pins (σ6.set i none) H6 s7 → Q s7) →
              wpAny (model X.prog X.w) X.A (do bindName X.env n .none; unbindBehindTheSuite X.env n pos') (fun _ s7 => Q s7) X.xe s6 := fun {σ6 H6 Q} S6 hq => gone_ok (S6.unsuite ok) hN hi hln hq
          cases f with
          | next =>
            obtain ⟨σ6, H6, S6, q6⟩ := hsp
            exact end_ S6 fun s7 J7 => ⟨_, _, J7, q6⟩
          | brk =>
            obtain ⟨σ6, H6, S6, q6⟩ := hsp
            exact end_ S6 fun s7 J7 => ⟨_, _, J7, q6⟩
          | cont =>
            obtain ⟨σ6, H6, S6, q6⟩ := hsp
            exact end_ S6 fun s7 J7 => ⟨_, _, J7, q6⟩
          | ret u =>
            obtain ⟨v6, σ6, H6, S6, r6, q6⟩ := hsp
            exact end_ S6 fun s7 J7 => ⟨_, _, _, J7, r6, q6⟩
        | false =>
          show wpAny _ X.A (handleBy (.ref a) X.env hds2) _ _ _
          exact ih (hno rfl)
    exact go hh w
  · cases f with
    | next =>
      obtain ⟨σ', H', J', q⟩ := hsp
      exact wpAny_execs_nil ⟨σ', H', J'.ofTry ok, q⟩
    | brk =>
      obtain ⟨σ', H', J', q⟩ := hsp
      exact ⟨σ', H', J'.ofTry ok, q⟩
    | cont =>
      obtain ⟨σ', H', J', q⟩ := hsp
      exact ⟨σ', H', J'.ofTry ok, q⟩
    | ret u =>
      obtain ⟨v, σ', H', J', r, q⟩ := hsp
      exact ⟨v, σ', H', J'.ofTry ok, r, q⟩
end
end ZR
set_option Elab.async false
set_option linter.all false
set_option maxRecDepth 100000
set_option maxHeartbeats 4000000
/-! Rules of my own: tuples joined and cut (some tuple of these items), == with the empty tuple, list comprehensions over pairs. -/
namespace ZR
open PySem PySem.Spec PyProof.Rows L2 ZX PM RZ
theorem cutV_whole {xs : List V} {lo hi : Option Int} (h : HT.sIx xs.length 0 lo = 0 ∧ HT.sIx xs.length xs.length hi = xs.length) : cutV xs lo hi = xs := by
  unfold cutV
  rw [h.1, h.2]
  simp
section
variable {X : Cx}
/-- t + u: some tuple of these items -/
def rCatZ (K : PySem.W.Frag) : R2 := fun x y H Q => ∃ a b xs ys, x = .ref a ∧ y = .ref b ∧ SqT K H a xs ∧ SqT K H b ys ∧ xs.length + ys.length ≤ sizeLine ∧ ∀ q H', Same H H' → SqT K H' q (xs ++ ys) → Q (.ref q) H'
theorem op_catZ : OpR X (binaryOp .Add) (rCatZ X.K) := by
  intro pins s σ H x y v u Q I rx ry h
  obtain ⟨a, b, xs, ys, rfl, rfl, ha, hb, hz, q⟩ := h
  refine op_catA pins s σ H _ _ v u Q I rx ry ⟨a, b, xs, ys, rfl, rfl, ha, hb, hz, fun e => ?_, fun _ e => ?_, fun _ _ p np => ?_⟩
  · exact q b H (fun _ _ h => h) (by rw [e]; exact hb)
  · exact q a H (fun _ _ h => h) (by rw [e, List.append_nil]; exact ha)
  · exact q p _ (same_new np) (.inl (.inl upd_same))
/-- t[lo:hi]: some tuple of these items -/
def rSlZ (K : PySem.W.Frag) : V → Option Int → Option Int → Hp → VK → Prop := fun x lo hi H Q => ∃ a xs, x = .ref a ∧ SqT K H a xs ∧ ∀ q H', Same H H' → SqT K H' q (cutV xs lo hi) → Q (.ref q) H'
theorem sl_tupZ : L2.SlR X (rSlZ X.K) := by
  intro pins s σ H x v vl vu lo hi sl Q I rx hs pl pu h
  obtain ⟨a, xs, rfl, hx, q⟩ := h
  refine sl_tupA pins s σ H _ v vl vu lo hi sl Q I rx hs pl pu ⟨a, xs, rfl, hx, fun e => ?_, fun _ p np => ?_⟩
  · exact q a H (fun _ _ h => h) (by rw [cutV_whole e]; exact hx)
  · exact q p _ (same_new np) (.inl (.inl upd_same))
/-- t == () -/
def rEqEmp (K : PySem.W.Frag) : R2 := fun x y H Q => ∃ a b xs, x = .ref a ∧ y = .ref b ∧ SqT K H a xs ∧ SqT K H b [] ∧ Q (.bl xs.isEmpty) H
theorem op_eqEmp (hu : X.A.units < cLine) : OpR X (compareOp .Eq) (rEqEmp X.K) := by
  intro pins s σ H x y v u Q I rx ry h
  obtain ⟨a, b, xs, rfl, rfl, ha, hb, q⟩ := h
  cases rx
  cases ry
  obtain ⟨its, r1, p1, _⟩ := I.tuple ha
  obtain ⟨its2, r2, p2, _⟩ := I.tuple hb
  cases r2
  show wpAny (model X.prog X.w) X.A (richCompare .Eq (.ref a) (.ref b)) (EP X pins σ Q) X.xe s
  refine SeqAt.RcAt.tuples (e := fun _ => true) p1 p2 hu (fun j h1 h2 => absurd h2 (Nat.not_lt_zero _)) X.prog X.w _ _ ?_
  have e : ((List.range (min its.toArray.size ([] : List Value).toArray.size)).all (fun _ => true) && its.toArray.size == ([] : List Value).toArray.size) = xs.isEmpty := by
    have hl := r1.length
    cases xs with
    | nil =>
      have : its = [] := List.length_eq_zero_iff.mp hl.symm
      subst this
      rfl
    | cons y ys =>
      cases its with
      | nil => cases hl
      | cons i is => simp
  rw [e]
  exact ⟨.bl _, H, I, rfl, q⟩
end
/-- J walks n turns as long as St holds; each turn gives what Y says -/
structure IterY (J : It) (n : Nat) (St : Hp → Prop) (Y : Nat → V → Hp → Prop) : Prop where
  stop : ∀ H, St H → J.stop n H
  go : ∀ i H, St H → i < n → J.go i H
  yld : ∀ i H v H', St H → i < n → J.yld i H v H' → Same H H' ∧ Y i v H'
theorem it_zipT {K : PySem.W.Frag} {a b : Addr} {xs ys : List V} : IterY (ItzT K a b) (min xs.length ys.length) (fun H => SqT K H a xs ∧ SqT K H b ys) (fun i v H => ∃ T x y, v = .ref T ∧ H T = some (.tup [x, y]) ∧ xs[i]? = some x ∧ ys[i]? = some y) := by
  refine ⟨fun H h => ⟨xs, ys, h.1, h.2, by omega⟩, fun i H h l => ⟨xs, ys, xs[i]'(by omega), ys[i]'(by omega), h.1, h.2, List.getElem?_eq_getElem _, List.getElem?_eq_getElem _⟩, fun i H v H' h l y => ?_⟩
  obtain ⟨T, x, y, rfl, nT, rfl, hx, hy⟩ := y
  exact ⟨same_new nT, T, x, y, rfl, upd_same, hx xs h.1, hy ys h.2⟩
section
variable {J : It} {n : Nat} {St : Hp → Prop} {Y : Nat → V → Hp → Prop} {g : TG} {te : TE} {vs : List Nat} {σ : L2.St} {H1 : Hp} {Q : VK}
theorem lc_overY {α : Type} {as : List α} {Rel : Hp → α → V → Prop} (O : IterY J n St Y) (hz : as.length = n) (hRel : ∀ c y H H', Pt H H' → Rel H c y → Rel H' c y) (hlen : n < sizeLine)
    (st : ∀ H', Same H1 H' → Pt H1 H' → St H')
    (step : ∀ (i : Nat) x c, as[i]? = some c → ∀ H', Same H1 H' → Pt H1 H' → Y i x H' → ∀ R : VK, (∀ y H'', Same H' H'' → Rel H'' c y → R y H'') → g x (wipe σ vs) H' fun σ2 H2 => wipe σ2 vs = wipe σ vs ∧ te σ2 H2 R)
    (fin : ∀ D ys H', Same H1 H' → Pt H1 H' → H1 D = none → H' D = some (.lst ys) → All2 (Rel H') as ys → Q (.ref D) H') :
    tLcS (fun _ _ R => R J H1) g tYes te vs σ H1 Q := by
  rw [lcS]
  intro D hD
  refine ⟨fun i m H => m = n - i ∧ i ≤ n ∧ Same H1 H ∧ Pt H1 H ∧ ∃ ys, H D = some (.lst ys) ∧ All2 (Rel H) (as.take i) ys, ⟨n, rfl, Nat.zero_le _, same_new hD, Pt.new hD, [], upd_same, by rw [List.take_zero]; exact .nil⟩, ?_⟩
  rintro i m H ⟨rfl, hi, sm, pt, ys, hys, all⟩
  have hst := st H sm pt
  by_cases hlt : i < n
  · refine .inr ⟨O.go i H hst hlt, fun H' => i + 1 ≤ n ∧ Same H1 H' ∧ Pt H1 H' ∧ ∃ ys, H' D = some (.lst ys) ∧ All2 (Rel H') (as.take (i + 1)) ys, fun H' h => ⟨n - (i + 1), by omega, rfl, h⟩, fun x H' y => ?_⟩
    obtain ⟨sy, hx⟩ := O.yld i H x H' hst hlt y
    have hia : i < as.length := by omega
    have hc : as[i]? = some as[i] := List.getElem?_eq_getElem hia
    show g x (wipe σ vs) H' fun σ2 H2 => wipe σ2 vs = wipe σ vs ∧ tYes σ2 H2 fun b H3 => if b = true then te σ2 H3 _ else _
    refine step i x as[i] hc H' (sm.trans sy) (pt.trans sy.pt) hx _ fun y H'' s2 r => ?_
    have hD2 := s2 _ _ (sy _ _ hys)
    have pD : Pt H'' (upd H'' D (.lst (ys ++ [y]))) := Pt.lst hD2
    have ptk : as.take (i + 1) = as.take i ++ [as[i]] := by
      rw [List.take_succ, hc]
      rfl
    have hl2 : ys.length < sizeLine := by
      rw [← all.len, List.length_take]
      omega
    refine ⟨ys, hD2, hl2, hlt, ((sm.trans sy).trans s2).put hD, ((pt.trans sy.pt).trans s2.pt).trans pD, ys ++ [y], upd_same, ?_⟩
    rw [ptk]
    exact All2.snoc (hRel _ _ _ _ pD r) (all.imp fun a b q => hRel _ _ _ _ ((sy.pt.trans s2.pt).trans pD) q)
  · have e : i = n := by omega
    subst e
    rw [← hz, List.take_length] at all
    exact .inl ⟨O.stop H hst, fin D ys H sm pt hD hys all⟩
end
end ZR
set_option Elab.async false
set_option linter.all false
set_option maxRecDepth 100000
set_option maxHeartbeats 4000000
/-! Rules of my own: set(l), l a list of texts. -/
namespace ZR
open PySem PySem.Spec PyProof.Rows L2 ZX PM
section
variable {P : Program} {w : World} {A : Around} {E : Value → Shared → Prop} {s : Shared}
theorem strs_get : ∀ {us : List Value} {xs : List Str}, StrsAre us xs → ∀ (i : Nat) (v : Value), us[i]? = some v → ∃ x t, xs[i]? = some x ∧ v = .str x t
  | _, _, .nil, i, v, h => by simp at h
  | _, _, .cons n t hr, 0, v, h => by
    simp at h
    exact ⟨_, t, rfl, h.symm⟩
  | _, _, .cons n t hr, i + 1, v, h => by
    simp only [List.getElem?_cons_succ] at h
    obtain ⟨x, t', e1, e2⟩ := strs_get hr i v h
    exact ⟨x, t', by simpa using e1, e2⟩
theorem set_update_strs {I : Addr} {fp wr : List Addr} {G : Array GenState → Array GenState → Prop} {n : Nat} {Pv : Nat → Value → Prop} {St : Nat → Shared → Prop} {R : Result → Shared → Prop}
    (W : WalksS P w A.in1 I fp wr G n Pv St) (S : Addr) (hSf : S ∉ fp) (ns : List Str) (hn : n = ns.length) (hb : ns.length + 1 < scanBound) (hval : ∀ i v, Pv i v → ∃ k t, ns[i]? = some k ∧ v = .str k t) :
    ∀ (k i : Nat) (s : Shared), n - i = k → i ≤ n → St i s → SetS w s.heap S (insAll (ns.take i)) →
      (∀ s', Moved (S :: wr) G s s' → SetS w s'.heap S (insAll ns) → R (.ok (.ret .none)) s') →
      codeAny (model P w) A (.builtin "set.update.loop" ⟨[.ref S, .ref I], []⟩) R s := by
  have hSw : S ∉ wr := fun h => hSf (W.sub _ h)
  have hsub : ∀ b ∈ wr, b ∈ S :: wr := fun b hb => List.mem_cons_of_mem _ hb
  intro k
  induction k with
  | zero =>
    intro i s hk' hi hst hS hR
    have hin : i = n := by omega
    subst hin
    refine codeAny_builtin F.entry_set_update_loop ?_
    rw [Around.under_plainId F.plain_set_update_loop _]
    show wpAny _ A.in1 (pyNext (.ref I) >>= _) _ _ s
    refine wpAny_bind (W.done s _ _ hst fun s' hm => ?_)
    show wpAny _ A.in1 (ret Value.none) _ _ s'
    have e : ns.take i = ns := List.take_of_length_le (by omega)
    rw [e] at hS
    exact wpAny_pure (hR s' (hm.mono hsub) (hS.at fun o e => hm.heap S o hSw e))
  | succ k ih =>
    intro i s hk' hi hst hS hR
    have hlt : i < n := by omega
    refine codeAny_builtin F.entry_set_update_loop ?_
    rw [Around.under_plainId F.plain_set_update_loop _]
    show wpAny _ A.in1 (pyNext (.ref I) >>= _) _ _ s
    refine wpAny_bind (W.item i s _ _ hlt hst fun v s' hP hst' hm => ?_)
    obtain ⟨z, t, hz, rfl⟩ := hval i v hP
    have hS' : SetS w s'.heap S (insAll (ns.take i)) := hS.at fun o e => hm.heap S o hSw e
    have hil := (insAll_ok (ns.take i)).2.2
    rw [List.length_take] at hil
    show wpAny _ A.in1 (holding [Value.str z t] (setAdd S (.str z t)) >>= _) _ _ s'
    refine wpAny_bind (wpAny_holding ?_)
    unfold setAdd
    refine wpAny_holding ?_
    refine wpAny_bind ((PySem.strKind P w).pyHash (k := z) (strKind_is _ _ _ _) ?_)
    refine addS_hashed (s := { s' with toks := s'.toks + 1 }) hS' (by omega) fun h' _ hsb hS2 => ?_
    have hS3 : SetS w h' S (insAll (ns.take (i + 1))) := by
      rw [List.take_add_one, hz]
      show SetS w h' S (insAll (ns.take i ++ [z]))
      rw [insAll_snoc]
      exact hS2
    refine wpAny_pure ⟨plainId_quiet F.plain_set_update_loop _, ih (i + 1) _ (by omega) hlt (W.frame _ s' _ _ hst' (Nat.le_succ _) fun b hb o e => ?_) hS3 fun s'' hm'' hS'' => ?_⟩
    · rw [hsb.2 b (fun h : b = S => hSf (by rw [← h]; exact hb))]; exact e
    · refine hR s'' (Moved.trans W.gtrans ((hm.mono hsub).then_heap (Nat.le_succ _) fun b o hb e => ?_) hm'') hS''
      rw [hsb.2 b (fun h : b = S => hb (by rw [h]; exact List.mem_cons_self))]; exact e
set_option maxRecDepth 100000 in
set_option maxHeartbeats 3200000 in
theorem call_set_listT {l : Addr} {items : Array Value} (ns : List Str) {Q : Value → Shared → Prop} (hh : A.handled = none) (hl : s.heap.IsList l items) (hit : StrsAre items.toList ns) (hb : ns.length + 1 < scanBound)
    (h : ∀ (h' : Heap) (tk : Nat), SetS w h' s.heap.objs.size (insAll ns) → (∀ b o, s.heap.get? b = some o → h'.get? b = some o) → Q (.ref s.heap.objs.size) { s with heap := h', toks := tk }) :
    wpAny (model P w) A (call (.type "set") [.ref l]) Q E s := by
  have hisz : items.size = ns.length := by rw [← StrsAre.len_eq hit, Array.length_toList]
  obtain ⟨c, tl, hmro⟩ := F.called_set.mro
  have hmade := F.called_set.made
  have hsub := F.called_set.sub
  refine wpAny_call (codeAny_of_tree ?_)
  show wpAny _ _ (callAny (.type "set") _) _ _ _
  refine wpAny_pure ⟨Code.quiet_builtin _ (by decide +kernel), codeAny_builtin F.entry_type_call ?_⟩
  rw [Around.under_plain (weight_type_call_type "set" [.ref l] []) rfl]
  have h1 := F.called_set.notType
  have h2 := F.called_set.canCreate
  have hct := F.typeCall_set_1 (.ref l)
  repeat (any_goals (first | assumption | wp_step))

  refine codeAny_mono (code_set_led1 (.ref l) (E := E) (Q₁ := fun obj s₁ => obj = .ref s.heap.objs.size ∧ s₁ = { s with heap := s.heap.push { cls := .type "set", dict := none, data := .set #[] 0 (.fresh 0 0 (!w.params.followText "set-order")) } }) ⟨rfl, rfl⟩) fun r s₁ hr => ?_
  cases r with
  | error e => exact hr
  | ok fl =>
    cases fl with
    | ret obj =>
      obtain ⟨rfl, rfl⟩ := hr
      have hS : (s.heap.push { cls := .type "set", dict := none, data := .set #[] 0 (.fresh 0 0 (!w.params.followText "set-order")) }).get? s.heap.objs.size = some { cls := .type "set", dict := none, data := .set #[] 0 (.fresh 0 0 (!w.params.followText "set-order")) } := Heap.get?_push_size _ rfl
      have hT : Shared.TypeIs { s with heap := s.heap.push { cls := .type "set", dict := none, data := .set #[] 0 (.fresh 0 0 (!w.params.followText "set-order")) } } (.ref s.heap.objs.size) "set" := ⟨_, hS, rfl⟩
      have hli := F.called_set.init.lookup
      have hbi := F.called_set.init.bind (.ref s.heap.objs.size)
      repeat (any_goals (first | assumption | wp_step))

      refine codeAny_mono (codeAny_call_builtin (R := wants (fun r s₂ => r = .none ∧ ∃ h' tk, s₂ = { s with heap := h', toks := tk } ∧ SetS w h' s.heap.objs.size (insAll ns) ∧
          (∀ b o, s.heap.get? b = some o → h'.get? b = some o)) E) F.called_set.init.plain F.entry_set_init (check_set_init_1 hT ?_)) fun r₂ s₂ hr₂ => ?_
      · obtain ⟨ol, hol, hcl, nl, hdl⟩ := hl
        obtain ⟨ocls, odict, odata, oslots⟩ := ol
        simp only at hcl hdl
        subst hcl; subst hdl
        have hol' : (s.heap.push { cls := .type "set", dict := none, data := .set #[] 0 (.fresh 0 0 (!w.params.followText "set-order")) }).get? l = some { cls := .type "list", dict := odict, data := .seq items nl, slots := oslots } := Heap.get?_push_of_some _ hol
        have hsls := F.sub_list_set
        have hslf := F.sub_list_frozenset
        have hne : (Value.type "list" == Value.type "dict") = false := by decide
        have hl1 : (s.heap.push { cls := .type "set", dict := none, data := .set #[] 0 (.fresh 0 0 (!w.params.followText "set-order")) }).IsList l items := ⟨_, hol', rfl, nl, rfl⟩
        unfold Builtin.«set.__init__» noKeywords Builtin.Frozenset.updateFrom
        generalize hPI : pyIter = PI
        wp_walk
        subst hPI

        refine wpAny_pyIter_list hl1 ?_
        refine wpAny_bind (wpAny_runValue ?_)
        have hlS : l < s.heap.objs.size := Heap.lt_size hol
        have hh3 : A.in1.in1.in1.handled = none := by simp [hh]
        have hneI : l ≠ (s.heap.push { cls := .type "set", dict := none, data := .set #[] 0 (.fresh 0 0 (!w.params.followText "set-order")) }).objs.size := by
          rw [Heap.size_push]; exact Nat.ne_of_lt (Nat.lt_succ_of_lt hlS)
        have hSf : s.heap.objs.size ∉ [(s.heap.push { cls := .type "set", dict := none, data := .set #[] 0 (.fresh 0 0 (!w.params.followText "set-order")) }).objs.size, l] := by
          rw [Heap.size_push]; simp only [List.mem_cons, List.mem_singleton, List.not_mem_nil, or_false, not_or]
          exact ⟨Nat.ne_of_lt (Nat.lt_succ_self _), Nat.ne_of_gt hlS⟩
        have hval : ∀ (i : Nat) (v : Value), items[i]? = some v → ∃ k t, ns[i]? = some k ∧ v = .str k t := fun i v hv => strs_get hit i v (by rw [Array.getElem?_toList]; exact hv)
        refine set_update_strs ((Walks.list hh3 _ l hneI items).toS) s.heap.objs.size
          hSf ns hisz hb hval (items.size - 0) 0 _ (by omega) (Nat.zero_le _)
          ⟨⟨_, Heap.get?_push_size _ rfl, rfl, rfl⟩, (hl1.push _)⟩ ?hS0 ?hR
        case hS0 => exact (setS_fresh (h := s.heap) w).at fun o e => Heap.get?_push_of_some _ e
        case hR =>
          intro s' hm hS'
          obtain ⟨h', g2, d', tk', os'⟩ := s'
          have eg : g2 = s.gens := hm.gens
          have ed : d' = s.drawn := hm.drawn
          have eo : os' = s.os := hm.os
          subst eg; subst ed; subst eo
          show wpAny _ _ _ _ _ _
          refine wpAny_pure ?_
          show wpAny _ _ (ret Value.none) _ _ _
          refine wpAny_pure ⟨rfl, h', tk', rfl, hS', fun b o e => ?_⟩
          have hb0 : b < s.heap.objs.size := Heap.lt_size e
          have hb1 : b ≠ s.heap.objs.size := Nat.ne_of_lt hb0
          have hb2 : b ≠ (s.heap.push { cls := .type "set", dict := none, data := .set #[] 0 (.fresh 0 0 (!w.params.followText "set-order")) }).objs.size := by
            rw [Heap.size_push]; exact Nat.ne_of_lt (Nat.lt_succ_of_lt hb0)
          exact hm.heap b o (by simp only [List.mem_cons, List.mem_singleton, List.not_mem_nil, or_false, not_or]; exact ⟨hb1, hb2⟩) (Heap.get?_push_of_some _ (Heap.get?_push_of_some _ e))

      · cases r₂ with
        | error e => exact hr₂
        | ok fl₂ =>
          cases fl₂ with
          | ret r =>
            obtain ⟨rfl, h', tk, rfl, hS', hk'⟩ := hr₂
            repeat (any_goals (first | assumption | wp_step))
            exact h _ _ hS' hk'
          | _ => exact hr₂.elim
    | _ => exact hr.elim
end
/-- set(l), l a list of texts -/
def rSetTx (K : PySem.W.Frag) (w : World) : List V → Hp → VK → Prop := fun vs H Q => ∃ (a : Addr) (ks : List Str), vs = [V.ref a] ∧ SqL K H a (ks.map V.str) ∧ ks.length + 1 < scanBound ∧ ∀ p : Addr, H p = none → Q (.ref p) (upd H p (SetTO w p (insAll ks)))
theorem call_setTx {X : Cx} (hc : X.calm = true) : CallR X (.type "set") (rSetTx X.K X.w) := by
  intro pins s σ H vs us Q I r h
  obtain ⟨a, ks, rfl, ha, few, q⟩ := h
  rw [Vals.ref1 r]
  obtain ⟨its, rv, hl, hz⟩ := I.list ha
  refine call_set_listT ks (I.ok.hd hc) hl.isList (strsAre_of rv) few fun h' tk hS hk => ?_
  exact ⟨.ref s.heap.objs.size, _, I.laid (t' := tk) (o := SetTO X.w s.heap.objs.size (insAll ks)) hk (Nat.le_refl _) (setTO_new hS), rfl, q _ (I.hok.fresh (Nat.le_refl _))⟩
end ZR
set_option Elab.async false
set_option linter.all false
set_option maxRecDepth 100000
set_option maxHeartbeats 4000000
namespace K25
open PySem PySem.Spec PyProof.Rows L2 ZX PM ZR
abbrev sHand : Stmt := top 42
abbrev sDraw : Stmt := top 43
abbrev sAny : Stmt := top 44
abbrev sDeep : Stmt := top 68
/-- what the hand of draws holds, by its texts -/
def handK (c : Addr) (i g k d : Int) : List (Key × V) := [(.inr "cells", .ref c), (.inr "at", .int i), (.inr "great", .int g), (.inr "seed", .int k), (.inr "turn", .int d)]
/-- the hand of draws at p -/
structure HandIs (H : Hp) (p c : Addr) (cs : List Int) (i g k d : Int) : Prop where
  hp : H p = some (.dK (handK c i g k d))
  hc : H c = some (.lst (cs.map V.int))
  ne : c ≠ p
  nn : ∀ x ∈ cs, 0 ≤ x
  i0 : 0 ≤ i
  g0 : 0 ≤ g
  k0 : 0 ≤ k
  d0 : 0 ≤ d
def HandAt (H : Hp) (p c : Addr) : Prop := ∃ cs i g k d, HandIs H p c cs i g k d
theorem HandIs.put {H : Hp} {p c : Addr} {cs : List Int} {i g k d i' g' k' d' : Int} (h : HandIs H p c cs i g k d) (hi : 0 ≤ i') (hg : 0 ≤ g') (hk : 0 ≤ k') (hd : 0 ≤ d') :
    HandIs (upd H p (.dK (handK c i' g' k' d'))) p c cs i' g' k' d' :=
  ⟨upd_same, by rw [upd_ne h.ne]; exact h.hc, h.ne, h.nn, hi, hg, hk, hd⟩
section
variable {H : Hp} {p c : Addr} {cs : List Int} {i g k d : Int}
theorem HandIs.gC (h : HandIs H p c cs i g k d) : DGet H p (.str "cells") (some (.ref c)) := DGet.k (k := .inr "cells") h.hp
theorem HandIs.gA (h : HandIs H p c cs i g k d) : DGet H p (.str "at") (some (.int i)) := DGet.k (k := .inr "at") h.hp
theorem HandIs.gG (h : HandIs H p c cs i g k d) : DGet H p (.str "great") (some (.int g)) := DGet.k (k := .inr "great") h.hp
theorem HandIs.gS (h : HandIs H p c cs i g k d) : DGet H p (.str "seed") (some (.int k)) := DGet.k (k := .inr "seed") h.hp
theorem HandIs.gT (h : HandIs H p c cs i g k d) : DGet H p (.str "turn") (some (.int d)) := DGet.k (k := .inr "turn") h.hp
theorem HandIs.pA (h : HandIs H p c cs i g k d) (j : Int) : DPut H p (.str "at") (.int j) (upd H p (.dK (handK c j g k d))) := DPut.k (k := .inr "at") h.hp (by show 5 < sizeLine; decide)
theorem HandIs.pG (h : HandIs H p c cs i g k d) (j : Int) : DPut H p (.str "great") (.int j) (upd H p (.dK (handK c i j k d))) := DPut.k (k := .inr "great") h.hp (by show 5 < sizeLine; decide)
theorem HandIs.pS (h : HandIs H p c cs i g k d) (j : Int) : DPut H p (.str "seed") (.int j) (upd H p (.dK (handK c i g j d))) := DPut.k (k := .inr "seed") h.hp (by show 5 < sizeLine; decide)
theorem HandIs.pT (h : HandIs H p c cs i g k d) (j : Int) : DPut H p (.str "turn") (.int j) (upd H p (.dK (handK c i g k j))) := DPut.k (k := .inr "turn") h.hp (by show 5 < sizeLine; decide)
end
theorem HandAt.kp {H H' : Hp} {p c : Addr} (h : HandAt H p c) (k : ∀ b o, H b = some o → H' b = some o) : HandAt H' p c := by
  obtain ⟨cs, i, g, kk, d, h⟩ := h
  exact ⟨cs, i, g, kk, d, k _ _ h.hp, k _ _ h.hc, h.ne, h.nn, h.i0, h.g0, h.k0, h.d0⟩
theorem HandAt.new {H : Hp} {p c a : Addr} {o : HO} (h : HandAt H p c) (n : H a = none) : HandAt (upd H a o) p c := h.kp fun b u e => by
  rw [upd_ne (ne_of_none e n)]
  exact e
theorem HandAt.some {H : Hp} {p c : Addr} (h : HandAt H p c) : ∃ o, H p = some o := by
  obtain ⟨cs, i, g, kk, d, h⟩ := h
  exact ⟨_, h.hp⟩
/-! ### promises -/
def spHand (K : PySem.W.Frag) : Sp := fun vs H Q _ => ∃ (a : Addr) (ns : List Int), vs = [.ref a] ∧ SqL K H a (ns.map V.int) ∧ ns.length ≤ 63 ∧ ∀ (p c : Addr) (H' : Hp), HandAt H' p c → Same H H' → H p = none → Q (.ref p) H'
def spDraw : Sp := fun vs H Q _ => ∃ (p c : Addr) (m : Int), vs = [.ref p, .int m] ∧ HandAt H p c ∧ 0 < m ∧ m < 1073741824 ∧ ∀ (d : Int) (H' : Hp), 0 ≤ d → d < m → HandAt H' p c → Ch p H H' → Q (.int d) H'
section
variable {P : Program} {w : World} {K : PySem.W.Frag} {mg : Str → Option Value} {base : Heap}
theorem scHand : FnScope ["_law_script", "_law_cells", "_law_cell"] ["_law_script"] (defScope sHand) := ⟨rfl, rfl, rfl, by decide +kernel, rfl, by decide +kernel, by decide +kernel⟩
theorem ok_hand {f : Addr} {fd : FuncData} (F : FnP K "_law_hand" sHand f fd) (T : Bi mg) : FnOk P w K mg base CX0 1 f fd ["_law_script"] (spHand K) := by
  refine F.ok scHand (fun vs H Q E h => ?_) (fun cdv A outer s H vs Q E hr h => ?_)
  · obtain ⟨a, ns, rfl, _⟩ := h
    rfl
  · obtain ⟨a, ns, rfl, hS, hl, k⟩ := h
    refine ⟨_, PSs.nox (pss_cut (ps_setLc (i := 1) (own := [("_law_cell", 2)]) (g := gName 2) (tt := tYes) rfl scHand.nd rfl rfl (sw_true rfl rfl rfl (by decide +kernel)) (pi_list (pe_slice sl_list (pv 0) po_none (po_some pe_int))) (blkOk_by (N := ["_law_script", "_law_cells", "_law_cell"]) (sc := defScope sHand) (by decide +kernel)) (fun _ _ _ _ _ => (pg_name (i := 2) scHand.nd rfl (Or.inl rfl))) (fun _ _ _ _ _ => pts_nil) (fun _ _ _ _ _ => (pe_callB call_abs (by rfl) T.b_abs (by decide +kernel) (pa_cons (pe_callTy call_int1 (by rfl) T.b_int (by decide +kernel) (pa_cons (pv 2) pa_nil)) pa_nil))))
    (pss_one (ps_ret (pe_disp (pps_cons pe_str (pv 1) (pps_cons pe_str pe_int (pps_cons pe_str pe_int (pps_cons pe_str (pe_op op_add pe_int (pe_callB call_len_seq (by rfl) T.b_len (by decide +kernel) (pa_cons (pv 1) pa_nil))) (pps_cons pe_str pe_int pps_nil))))) (by rfl) (by rfl) (fun z => by cases z) (by decide))))), ?_⟩
    refine ⟨fun σ' H' => ∃ (c : Addr) (cs : List Int), σ' = [some (.ref a), some (.ref c), none] ∧ Same H H' ∧ H c = none ∧ H' c = some (.lst (cs.map V.int)) ∧ ∀ x ∈ cs, 0 ≤ x, ?_, ?_⟩
    · -- the comprehension
      refine ⟨_, rfl, _, rfl, a, _, rfl, hS, fun p np => ?_⟩
      have hlen : (cutV (ns.map V.int) none (some 63)) = ns.map V.int := by
        unfold cutV
        rw [List.length_map]
        have h1 : HT.sIx ns.length 0 none = 0 := rfl
        have h2 : HT.sIx ns.length ns.length (some 63) = min 63 ns.length := HT.sIx_nat _ _ 63
        rw [h1, h2, List.drop_zero, Nat.sub_zero, Nat.min_eq_right hl]
        exact List.take_of_length_le (by rw [List.length_map]; exact Nat.le_refl _)
      rw [hlen]
      refine ⟨p, rfl, ⟨_, SqL.of upd_same⟩, fun D hD => ?_⟩
      have npD : p ≠ D := ne_of_none (upd_same (H := H) (a := p)) hD
      have nH : H D = none := by
        rw [upd_ne npD.symm] at hD
        exact hD
      refine lc_list (K := K) (xs := ns.map V.int) (fun i H' => ∃ cs : List Int, H' = upd (upd H p (.lst (ns.map V.int))) D (.lst (cs.map V.int)) ∧ cs.length = i ∧ ∀ x ∈ cs, 0 ≤ x) ⟨[], rfl, rfl, fun x hx => nomatch hx⟩ ?_ ?_ ?_
      · rintro i H' _ ⟨cs, rfl, _⟩
        exact SqL.of (by rw [upd_ne npD, upd_same])
      · rintro i x H' hx ⟨cs, rfl, hi, hc⟩
        obtain ⟨z, rfl⟩ : ∃ z, x = V.int z := by
          rw [List.getElem?_map] at hx
          cases e : ns[i]? with
          | none => rw [e] at hx; cases hx
          | some z => rw [e] at hx; exact ⟨z, (Option.some.inj hx).symm⟩
        have hil : i < (ns.map V.int).length := (List.getElem?_eq_some_iff.mp hx).1
        rw [List.length_map] at hil
        refine ⟨rfl, _, rfl, .inl ⟨_, rfl, _, rfl, cs.map V.int, upd_same, Nat.lt_of_le_of_lt (by rw [List.length_map, hi]; omega) (show 63 < sizeLine by decide), cs ++ [if z < 0 then -z else z], ?_, by rw [List.length_append, hi]; rfl, fun x hx => ?_⟩⟩
        · rw [upd_upd, List.map_append]
          rfl
        · rcases List.mem_append.mp hx with h | h
          · exact hc x h
          · rw [List.mem_singleton.mp h]
            split <;> omega
      · rintro H' ⟨cs, rfl, _, hc⟩
        refine ⟨D, cs, rfl, fun b o e => ?_, nH, upd_same, hc⟩
        rw [upd_ne (ne_of_none e nH), upd_ne (ne_of_none e np)]
        exact e
    · rintro σ' H' ⟨c, cs, rfl, s1, n1, hc, hcn⟩
      refine fun p np => ?_
      have ncp : c ≠ p := ne_of_none hc np
      refine ⟨_, rfl, _, rfl, c, _, rfl, .inl (SqL.of (by rw [upd_ne ncp]; exact hc)), _, _, rfl, rfl, upd_same, handK c 0 0 (977 + (cs.map V.int).length) 0, rfl, by show 5 ≤ 15; decide, ?_⟩
      have eu : upd (upd H' p (.dK [])) p (.dK (mergeK [] (handK c 0 0 (977 + (cs.map V.int).length) 0))) = upd H' p (.dK (handK c 0 0 (977 + (cs.map V.int).length) 0)) := upd_upd
      rw [eu]
      refine k p c _ ⟨cs, 0, 0, _, 0, upd_same, by rw [upd_ne ncp]; exact hc, ncp, hcn, by omega, by omega, by omega, by omega⟩ (fun b o e => ?_) (s1.free np)
      rw [upd_ne (ne_of_none (s1 b o e) np)]
      exact s1 b o e
end

section
variable {P : Program} {w : World} {K : PySem.W.Frag} {mg : Str → Option Value} {base : Heap}
theorem scDraw : FnScope ["_law_hand_here", "_law_many", "_law_cell", "_law_digit", "_law_number"] ["_law_hand_here", "_law_many"] (defScope sDraw) := ⟨rfl, rfl, rfl, by decide +kernel, rfl, by decide +kernel, by decide +kernel⟩
/-- what holds in draw between its statements -/
def DrawMid (p c : Addr) (m : Int) (H0 : Hp) (σ : L2.St) (H : Hp) : Prop := ∃ (cs : List Int) (i g k d : Int) (x y z : Option V), σ = [some (.ref p), some (.int m), x, y, z] ∧ HandIs H p c cs i g k d ∧ Ch p H0 H
/-- .. behind its last numbers -/
def DrawNum (p c : Addr) (m : Int) (H0 : Hp) (σ : L2.St) (H : Hp) : Prop := ∃ (x y : Option V) (n : Int), σ = [some (.ref p), some (.int m), x, y, some (.int n)] ∧ HandAt H p c ∧ Ch p H0 H ∧ 0 ≤ n ∧ n < 4294967296
theorem ok_draw {f : Addr} {fd : FuncData} (F : FnP K "_law_draw" sDraw f fd) (T : Bi mg) : FnOk P w K mg base CX0 1 f fd ["_law_hand_here", "_law_many"] spDraw := by
  refine F.ok scDraw (fun vs H Q E h => ?_) (fun cdv A outer s H vs Q E hr h => ?_)
  · obtain ⟨p, c, m, rfl, _⟩ := h
    rfl
  · obtain ⟨p, c, m, rfl, ⟨cs, i, g, kk, d, hh⟩, m0, m1, k⟩ := h
    have hu := hu_of hr
    refine ⟨_, PSs.nox (pss_cut (ps_if (PW.pt (pw_and (pt_cmpR op_eq (pe_dget hu (pv 0) pe_str (fun _ _ => rfl)) pe_int (nomark _)) (pw_and1 (pt_cmpR op_lt (pe_dget hu (pv 0) pe_str (fun _ _ => rfl)) (pe_callB call_len_seq (by rfl) T.b_len (by decide +kernel) (pa_cons (pe_dget hu (pv 0) pe_str (fun _ _ => rfl)) pa_nil)) (nomark _))))) (pss_cons (ps_set (i := 2) scDraw.nd rfl (Or.inl rfl) (pe_ix ix_list (pe_dget hu (pv 0) pe_str (fun _ _ => rfl)) (pe_dget hu (pv 0) pe_str (fun _ _ => rfl)) (fun _ _ => rfl)))
      (pss_cons (ps_dput hu (pv 0) pe_str (pe_op op_add (pe_dget hu (pv 0) pe_str (fun _ _ => rfl)) pe_int) rfl)
      (pss_cons (ps_dput hu (pv 0) pe_str (pe_op op_mod (pe_callTy call_int1 (by rfl) T.b_int (by decide +kernel) (pa_cons (pe_op op_add (pe_op op_add (pe_op op_mul (pe_dget hu (pv 0) pe_str (fun _ _ => rfl)) pe_int) (pv 2)) pe_int) pa_nil)) pe_int) rfl)
      (pss_one (ps_if (pt_cmpR op_ge (pv 2) (pe_op op_pow pe_int pe_int) (nomark _)) (pss_one (ps_dput hu (pv 0) pe_str (pv 2) rfl)) pss_nil))))) pss_nil)
    (pss_cut (ps_if (pt_cmpR op_gt (pe_dget hu (pv 0) pe_str (fun _ _ => rfl)) pe_int (nomark _)) (pss_cons (ps_set (i := 3) scDraw.nd rfl (Or.inl rfl) (pe_op op_modP (pe_callTy call_int1 (by rfl) T.b_int (by decide +kernel) (pa_cons (pe_dget hu (pv 0) pe_str (fun _ _ => rfl)) pa_nil)) (pv 1)))
      (pss_cons (ps_dput hu (pv 0) pe_str (pe_op op_fdivP (pe_dget hu (pv 0) pe_str (fun _ _ => rfl)) (pv 1)) rfl)
      (pss_one (ps_ret (pv 3))))) pss_nil)
    (pss_cons (ps_dput hu (pv 0) pe_str (pe_op op_add (pe_dget hu (pv 0) pe_str (fun _ _ => rfl)) pe_int) rfl)
    (pss_cut (ps_set (i := 4) scDraw.nd rfl (Or.inl rfl) (pe_op op_mod (pe_callTy call_int1 (by rfl) T.b_int (by decide +kernel) (pa_cons (pe_op op_mul (pe_callTy call_int1 (by rfl) T.b_int (by decide +kernel) (pa_cons (pe_op op_add (pe_op op_add (pe_dget hu (pv 0) pe_str (fun _ _ => rfl)) pe_int) (pe_op op_mul pe_int (pe_dget hu (pv 0) pe_str (fun _ _ => rfl)))) pa_nil)) pe_int) pa_nil)) pe_int))
    (pss_cut (ps_set (i := 4) scDraw.nd rfl (Or.inl rfl) (pe_op op_mod (pe_callTy call_int1 (by rfl) T.b_int (by decide +kernel) (pa_cons (pe_op op_mul (pv 4) (pe_op op_add (pe_op op_fdiv (pv 4) pe_int) pe_int)) pa_nil)) pe_int))
    (pss_cut (ps_set (i := 4) scDraw.nd rfl (Or.inl rfl) (pe_op op_mod (pe_callTy call_int1 (by rfl) T.b_int (by decide +kernel) (pa_cons (pe_op op_mul (pv 4) (pe_op op_add (pe_op op_fdiv (pv 4) pe_int) pe_int)) pa_nil)) pe_int))
    (pss_one (ps_ret (pe_op op_modP (pe_callTy call_int1 (by rfl) T.b_int (by decide +kernel) (pa_cons (pe_op op_fdiv (pv 4) pe_int) pa_nil)) (pv 1)))))))))), ?_⟩
    refine ⟨DrawMid p c m H, ?_, ?_⟩
    · refine ⟨_, rfl, p, _, rfl, hh.gG, rfl, _, rfl, ?_⟩
      refine ite2 (fun e => ?_) (fun _ => ?_)
      · refine ⟨_, rfl, p, _, rfl, hh.gA, _, rfl, p, _, rfl, hh.gC, c, _, rfl, .inl (SqL.of hh.hc), _, _, rfl, rfl, _, rfl, ?_⟩
        refine ite2 (fun e => ?_) (fun _ => ?_)
        · have hi : i < ((cs.map V.int).length : Int) := of_decide_eq_true e
          obtain ⟨x, hx, hx0⟩ : ∃ x, cs[i.toNat]? = some x ∧ 0 ≤ x := by
            have hl : i.toNat < cs.length := by
              rw [List.length_map] at hi
              have := hh.i0
              omega
            exact ⟨_, List.getElem?_eq_getElem hl, hh.nn _ (List.getElem_mem hl)⟩
          have hat : atI (cs.map V.int) i = some (V.int x) := at_of (j := i.toNat) (by have := hh.i0; omega) (by rw [List.getElem?_map, hx]; rfl)
          refine ⟨_, rfl, p, _, rfl, hh.gC, _, rfl, p, _, rfl, hh.gA, c, _, _, _, rfl, rfl, SqL.of hh.hc, hat, ?_⟩
          -- hand[1] = hand[1] + 1
          have h2 := hh.put (i' := i + 1) (g' := g) (k' := kk) (d' := d) (by have := hh.i0; omega) hh.g0 hh.k0 hh.d0
          refine ⟨_, rfl, p, _, rfl, hh.gA, _, _, rfl, rfl, _, rfl, p, _, rfl, hh.pA _, ?_⟩
          -- hand[3] = ..
          have h3 := h2.put (i' := i + 1) (g' := g) (k' := (kk * 48271 + x + 7) % 2147483629) (d' := d) (by have := hh.i0; omega) hh.g0 (Int.emod_nonneg _ (by decide)) hh.d0
          refine ⟨_, rfl, p, _, rfl, h2.gS, _, _, rfl, rfl, .inr ⟨by decide, by decide⟩, _, rfl, _, _, rfl, rfl, _, _, rfl, rfl, .inl ⟨_, rfl, _, _, rfl, rfl, (by show (0 : Int) < 2147483629; decide), _, rfl, p, _, rfl, h2.pS _, ?_⟩⟩
          -- if cell >= 10 ** 18
          refine ⟨_, rfl, _, _, rfl, rfl, ⟨by decide, by decide, by decide⟩, _, _, rfl, rfl, _, rfl, ?_⟩
          refine ite2 (fun _ => ?_) (fun _ => ?_)
          · have h4 := h3.put (i' := i + 1) (g' := x) (k' := (kk * 48271 + x + 7) % 2147483629) (d' := d) (by have := hh.i0; omega) hx0 (Int.emod_nonneg _ (by decide)) hh.d0
            refine ⟨_, rfl, _, rfl, p, _, rfl, h3.pG _, ?_⟩
            exact ⟨cs, _, _, _, _, _, _, _, rfl, h4, ((Ch.refl _ _).upd _).upd _ |>.upd _⟩
          · exact ⟨cs, _, _, _, _, _, _, _, rfl, h3, ((Ch.refl _ _).upd _).upd _⟩
        · exact ⟨cs, i, g, kk, d, _, _, _, rfl, hh, Ch.refl _ _⟩
      · exact ⟨cs, i, g, kk, d, _, _, _, rfl, hh, Ch.refl _ _⟩
    · rintro σ' H' ⟨cs, i, g, kk, d, x, y, z, rfl, hh, ch⟩
      refine ⟨DrawMid p c m H, ?_, ?_⟩
      · -- if hand[2] > 0
        refine ⟨_, rfl, p, _, rfl, hh.gG, _, _, rfl, rfl, _, rfl, ?_⟩
        refine ite2 (fun _ => ?_) (fun _ => ?_)
        · refine ⟨_, rfl, p, _, rfl, hh.gG, .inl ⟨_, rfl, _, rfl, _, _, rfl, rfl, m0, ?_⟩⟩
          have h2 := hh.put (i' := i) (g' := g / m) (k' := kk) (d' := d) hh.i0 (Int.ediv_nonneg hh.g0 (by omega)) hh.k0 hh.d0
          refine ⟨_, rfl, p, _, rfl, hh.gG, _, rfl, _, _, rfl, rfl, ⟨m0, m1⟩, _, rfl, p, _, rfl, hh.pG _, ?_⟩
          exact ⟨_, rfl, k _ _ (Int.emod_nonneg _ (by omega)) (Int.emod_lt_of_pos _ m0) ⟨cs, _, _, _, _, h2⟩ (ch.upd _)⟩
        · exact ⟨cs, i, g, kk, d, _, _, _, rfl, hh, ch⟩
      · rintro σ' H' ⟨cs, i, g, kk, d, x, y, z, rfl, hh, ch⟩
        have h2 := hh.put (i' := i) (g' := g) (k' := kk) (d' := d + 1) hh.i0 hh.g0 hh.k0 (by have := hh.d0; omega)
        refine ⟨_, rfl, p, _, rfl, hh.gT, _, _, rfl, rfl, _, rfl, p, _, rfl, hh.pT _, ?_⟩
        refine ⟨DrawNum p c m H, ?_, ?_⟩
        · refine ⟨_, rfl, p, _, rfl, h2.gS, _, _, rfl, rfl, _, rfl, p, _, rfl, h2.gT, _, _, rfl, rfl, .inl ⟨by decide, by decide⟩, _, _, rfl, rfl, .inl ⟨_, rfl, _, _, rfl, rfl, .inr ⟨by decide, by decide⟩, .inl ⟨_, rfl, _, _, rfl, rfl, (by show (0 : Int) < 2147483647; decide), ?_⟩⟩⟩
          exact ⟨_, _, _, rfl, ⟨cs, _, _, _, _, h2⟩, ch.upd _, Int.emod_nonneg _ (by decide), Int.lt_trans (Int.emod_lt_of_pos _ (by decide)) (by decide)⟩
        · rintro σ' H' ⟨x, y, n, rfl, hh, ch, n0, n1⟩
          refine ⟨DrawNum p c m H, ?_, ?_⟩
          · refine ⟨_, rfl, _, rfl, _, _, rfl, rfl, ⟨by decide, by decide⟩, _, _, rfl, rfl, _, _, rfl, rfl, .inl ⟨by omega, by omega⟩, .inl ⟨_, rfl, _, _, rfl, rfl, (by show (0 : Int) < 2147483647; decide), ?_⟩⟩
            exact ⟨_, _, _, rfl, hh, ch, Int.emod_nonneg _ (by decide), Int.lt_trans (Int.emod_lt_of_pos _ (by decide)) (by decide)⟩
          · rintro σ' H' ⟨x, y, n, rfl, hh, ch, n0, n1⟩
            refine ⟨DrawNum p c m H, ?_, ?_⟩
            · refine ⟨_, rfl, _, rfl, _, _, rfl, rfl, ⟨by decide, by decide⟩, _, _, rfl, rfl, _, _, rfl, rfl, .inl ⟨by omega, by omega⟩, .inl ⟨_, rfl, _, _, rfl, rfl, (by show (0 : Int) < 2147483399; decide), ?_⟩⟩
              exact ⟨_, _, _, rfl, hh, ch, Int.emod_nonneg _ (by decide), Int.lt_trans (Int.emod_lt_of_pos _ (by decide)) (by decide)⟩
            · rintro σ' H' ⟨x, y, n, rfl, hh, ch, n0, n1⟩
              refine ⟨_, rfl, _, _, rfl, rfl, ⟨by decide, by decide⟩, .inl ⟨_, rfl, _, rfl, _, _, rfl, rfl, m0, ?_⟩⟩
              exact k _ _ (Int.emod_nonneg _ (by omega)) (Int.emod_lt_of_pos _ m0) hh ch
end

/-- a thing nested in lists, tuples, dicts -/
inductive Deep (H : Hp) : V → Prop where
  | non : Deep H .non
  | str : Deep H (.str "x")
  | nil {a : Addr} (h : H a = some (.tup [])) : Deep H (.ref a)
  | lst {a : Addr} {v : V} (h : H a = some (.lst [v])) (d : Deep H v) : Deep H (.ref a)
  | tup {a : Addr} {v : V} (h : H a = some (.tup [v])) (d : Deep H v) : Deep H (.ref a)
  | dic {a : Addr} {v : V} (h : H a = some (.dK [(.inl 0, v)])) (d : Deep H v) : Deep H (.ref a)
theorem Deep.kp {H H' : Hp} {p c : Addr} {v : V} (hh : HandAt H p c) (k : Kp p H H') (d : Deep H v) : Deep H' v := by
  obtain ⟨cs, i, g, kk, dd, hh⟩ := hh
  induction d with
  | non => exact .non
  | str => exact .str
  | nil h => exact .nil (k _ _ (ne_of h hh.hp (by intro z; cases z)) h)
  | lst h _ ih => exact .lst (k _ _ (ne_of h hh.hp (by intro z; cases z)) h) ih
  | tup h _ ih => exact .tup (k _ _ (ne_of h hh.hp (by intro z; cases z)) h) ih
  | dic h _ ih => exact .dic (k _ _ (ne_of h hh.hp (by intro z; cases z)) h) ih
theorem Deep.same {H H' : Hp} {v : V} (k : Same H H') (d : Deep H v) : Deep H' v := by
  induction d with
  | non => exact .non
  | str => exact .str
  | nil h => exact .nil (k _ _ h)
  | lst h _ ih => exact .lst (k _ _ h) ih
  | tup h _ ih => exact .tup (k _ _ h) ih
  | dic h _ ih => exact .dic (k _ _ h) ih
def SqA (K : PySem.W.Frag) (H : Hp) (t : Addr) (xs : List V) : Prop := SqL K H t xs ∨ SqT K H t xs
theorem SqA.ch {K : PySem.W.Frag} {p : Addr} {H H' : Hp} {t : Addr} {xs : List V} (c : Ch p H H') (ne : t ≠ p) (h : SqA K H t xs) : SqA K H' t xs := by
  rcases h with ((h | ⟨o, h⟩) | h) | ((h | ⟨o, h⟩) | h)
  · exact .inl (.inl (.inl (by rw [c t ne]; exact h)))
  · exact .inl (.inl (.inr ⟨o, by rw [c t ne]; exact h⟩))
  · exact .inl (.inr h)
  · exact .inr (.inl (.inl (by rw [c t ne]; exact h)))
  · exact .inr (.inl (.inr ⟨o, by rw [c t ne]; exact h⟩))
  · exact .inr (.inr h)
theorem _root_.ZX.Kp.ptK {p : Addr} {H H' : Hp} {kvs : List (Key × V)} (h : H p = some (.dK kvs)) (k : Kp p H H') : Pt H H' := fun b ys hb => by
  have ne : b ≠ p := fun e => by
    subst e
    rcases hb with hb | ⟨o, hb⟩ <;> rw [h] at hb <;> cases hb
  exact hb.elim (fun h => .inl (k _ _ ne h)) fun ⟨o, h⟩ => .inr ⟨o, k _ _ ne h⟩
theorem HandAt.pt {H H' : Hp} {p c : Addr} (h : HandAt H p c) (k : Kp p H H') : Pt H H' := by
  obtain ⟨cs, i, g, kk, d, h⟩ := h
  exact Kp.ptK h.hp k
/-- a list that is not the hand, or a tuple -/
def SqP (K : PySem.W.Frag) (H : Hp) (p t : Addr) (xs : List V) : Prop := (t ≠ p ∧ SqA K H t xs) ∨ SqT K H t xs
def spAny (K : PySem.W.Frag) : Sp := fun vs H Q _ => ∃ (p c t : Addr) (xs : List V), vs = [.ref p, .ref t] ∧ HandAt H p c ∧ SqP K H p t xs ∧ xs ≠ [] ∧ xs.length < 1073741824 ∧ ∀ (x : V) (H' : Hp), x ∈ xs → HandAt H' p c → Ch p H H' → Q x H'
def spDeep : Sp := fun vs H Q _ => ∃ p c : Addr, vs = [.ref p] ∧ HandAt H p c ∧ ∀ (v : V) (H' : Hp), HandAt H' p c → Kp p H H' → Deep H' v → Q v H'
section
variable {P : Program} {w : World} {K : PySem.W.Frag} {mg : Str → Option Value} {base : Heap}
theorem scAny : FnScope ["_law_hand_here", "_law_things"] ["_law_hand_here", "_law_things"] (defScope sAny) := ⟨rfl, rfl, rfl, by decide +kernel, rfl, by decide +kernel, by decide +kernel⟩
theorem ok_any {f : Addr} {fd : FuncData} (F : FnP K "_law_any" sAny f fd) (T : Bi mg) (C_draw : Cal P w K mg base "_law_draw" 1 ["_law_hand_here", "_law_many"] spDraw) : FnOk P w K mg base CX0 2 f fd ["_law_hand_here", "_law_things"] (spAny K) := by
  refine F.ok scAny (fun vs H Q E h => ?_) (fun cdv A outer s H vs Q E hr h => ?_)
  · obtain ⟨p, c, t, xs, rfl, _⟩ := h
    rfl
  · obtain ⟨p, c, t, xs, rfl, hh, hS, hx, hl, k⟩ := h
    have hA : SqA K H t xs := hS.elim (fun h => h.2) .inr
    refine ⟨_, PSs.nox (pss_one (ps_ret (pe_ix ix_seq (pv 1) (pcal C_draw hr rfl (pa_cons (pv 0) (pa_cons (pe_callB call_len_seq (by rfl) T.b_len (by decide +kernel) (pa_cons (pv 1) pa_nil)) pa_nil))) (fun _ _ => rfl)))), ?_⟩
    have hpos : 0 < xs.length := List.length_pos_iff.mpr hx
    refine ⟨_, rfl, _, rfl, _, rfl, t, xs, rfl, hA, p, c, _, rfl, hh, by omega, by omega, fun d H' d0 d1 hh' ch => ?_⟩
    have hd : d.toNat < xs.length := by omega
    have hat : atI xs d = some xs[d.toNat] := at_of (j := d.toNat) (by omega) (List.getElem?_eq_getElem hd)
    have hQ := k xs[d.toNat] H' (List.getElem_mem hd) hh' ch
    have hA' : SqA K H' t xs := hS.elim (fun h => h.2.ch ch h.1) fun h => .inr ((hh.pt ch.kp).sq h)
    rcases hA' with h | h
    · exact .inl ⟨t, xs, d, _, rfl, rfl, h, hat, hQ⟩
    · exact .inr (.inl ⟨t, xs, d, _, rfl, rfl, h, hat, hQ⟩)
theorem scDeep : FnScope ["_law_hand_here", "_law_found", "_law_turn"] ["_law_hand_here"] (defScope sDeep) := ⟨rfl, rfl, rfl, by decide +kernel, rfl, by decide +kernel, by decide +kernel⟩
def DeepMid (p c : Addr) (H0 : Hp) (σ : L2.St) (H : Hp) : Prop := ∃ (v : V) (t : Option V), σ = [some (.ref p), some v, t] ∧ HandAt H p c ∧ Kp p H0 H ∧ Deep H v
theorem three {a b c : V} {d : Int} (h0 : 0 ≤ d) (h3 : d < 3) (Q : V → Prop) (ha : Q a) (hb : Q b) (hc : Q c) : ∃ x, atI [a, b, c] d = some x ∧ Q x := by
  have e : d = 0 ∨ d = 1 ∨ d = 2 := by omega
  rcases e with rfl | rfl | rfl
  · exact ⟨a, rfl, ha⟩
  · exact ⟨b, rfl, hb⟩
  · exact ⟨c, rfl, hc⟩
theorem ok_deep {f : Addr} {fd : FuncData} (F : FnP K "_law_deep" sDeep f fd) (T : Bi mg) (C_draw : Cal P w K mg base "_law_draw" 1 ["_law_hand_here", "_law_many"] spDraw) : FnOk P w K mg base CX0 2 f fd ["_law_hand_here"] spDeep := by
  refine F.ok scDeep (fun vs H Q E h => ?_) (fun cdv A outer s H vs Q E hr h => ?_)
  · obtain ⟨p, c, rfl, _⟩ := h
    rfl
  · obtain ⟨p, c, rfl, hh, k⟩ := h
    refine ⟨_, PSs.nox (pss_cut (ps_set (i := 1) scDeep.nd rfl (Or.inl rfl) (pe_ix ix_list (pe_lst (pa_cons pe_non (pa_cons (pe_tup pa_nil) (pa_cons pe_str pa_nil)))) (pcal C_draw hr rfl (pa_cons (pv 0) (pa_cons pe_int pa_nil))) (fun _ _ => rfl)))
    (pss_cut (ps_for PassesOwn.never rfl (pi_range1 rfl T.b_range (pa_cons (pe_op op_add pe_int (pcal C_draw hr rfl (pa_cons (pv 0) (pa_cons pe_int pa_nil)))) pa_nil)) (pg_name (i := 2) scDeep.nd rfl (Or.inl rfl)) (pss_one (ps_set (i := 1) scDeep.nd rfl (Or.inl rfl) (pe_ix ix_list (pe_lst (pa_cons (pe_lst (pa_cons (pv 1) pa_nil)) (pa_cons (pe_tup (pa_cons (pv 1) pa_nil)) (pa_cons (pe_disp (pps_cons pe_int (pv 1) pps_nil) (by rfl) (by rfl) (fun z => by cases z) (by decide)) pa_nil)))) (pcal C_draw hr rfl (pa_cons (pv 0) (pa_cons pe_int pa_nil))) (fun _ _ => rfl)))))
    (pss_one (ps_ret (pv 1))))), ?_⟩
    refine ⟨DeepMid p c H, ?_, ?_⟩
    · -- found = [None, (), 'x'][draw(3)]
      refine ⟨by decide, fun t nt => ⟨by show 3 ≤ sizeLine; decide, fun l nl => ?_⟩⟩
      have k1 : Kp p H (upd (upd H t (.tup [])) l (.lst [.non, .ref t, .str "x"])) := ((Kp.refl p H).new nt).new nl
      have hh1 := (hh.new (o := .tup []) nt).new (o := .lst [.non, .ref t, .str "x"]) nl
      have ntl : t ≠ l := ne_of_none upd_same nl
      have nlp : l ≠ p := by
        obtain ⟨o, e⟩ := (hh.new (o := .tup []) nt).some
        exact (ne_of_none e nl).symm
      have ntp : t ≠ p := by
        obtain ⟨o, e⟩ := hh.some
        exact (ne_of_none e nt).symm
      refine ⟨_, rfl, p, c, 3, rfl, hh1, by decide, by decide, fun d H' d0 d3 hh' ch => ?_⟩
      have ht : H' t = some (.tup []) := by
        rw [ch t ntp, upd_ne ntl]
        exact upd_same
      obtain ⟨x, hx, hd⟩ := three d0 d3 (Deep H') (a := .non) (b := .ref t) (c := .str "x") .non (.nil ht) .str
      refine ⟨l, _, _, x, rfl, rfl, SqL.of (by rw [ch l nlp]; exact upd_same), hx, ?_⟩
      exact ⟨x, _, rfl, hh', k1.trans ch.kp, hd⟩
    · rintro σ' H' ⟨v, t, rfl, hh', k1, hd⟩
      refine ⟨DeepMid p c H, ?_, ?_⟩
      · refine ⟨_, rfl, p, c, 8, rfl, hh', by decide, by decide, fun d H2 d0 d8 hh2 ch => ?_⟩
        refine ⟨_, _, rfl, rfl, _, rfl, by omega, by omega, ?_⟩
        refine for_range (fun _ => DeepMid p c H) ⟨v, t, rfl, hh2, k1.trans ch.kp, hd.kp hh' ch.kp⟩ ?_ (fun _ _ h => h)
        rintro i σ3 H3 hi ⟨v, t, rfl, hh3, k3, hd3⟩
        -- found = [[found], (found,), {0: found}][draw(3)]
        refine ⟨_, rfl, by show 1 ≤ sizeLine; decide, fun a na => ⟨_, rfl, by show 1 ≤ sizeLine; decide, fun b nb => ?_⟩⟩
        intro e ne
        refine ⟨_, rfl, upd_same, [(.inl 0, v)], rfl, by show 1 ≤ 15; decide, by show 3 ≤ sizeLine; decide, fun l nl => ?_⟩
        have eu : (upd (upd (upd (upd H3 a (.lst [v])) b (.tup [v])) e (.dK [])) e (.dK (mergeK [] [(.inl 0, v)]))) = upd (upd (upd H3 a (.lst [v])) b (.tup [v])) e (.dK [(.inl 0, v)]) := upd_upd
        rw [eu] at nl ⊢
        have sa := same_new (o := .lst [v]) na
        have sb := same_new (o := .tup [v]) nb
        have se := same_new (o := .dK [(.inl 0, v)]) ne
        have sl := same_new (o := .lst [.ref a, .ref b, .ref e]) nl
        have s3 : Same H3 _ := ((sa.trans sb).trans se).trans sl
        have hh4 := hh3.kp s3
        have pn : ∀ {G : Hp} {x : Addr}, Same H3 G → G x = none → x ≠ p := fun sG n => by
          obtain ⟨o, eo⟩ := hh3.some
          exact (ne_of_none (sG _ _ eo) n).symm
        have hd4 := hd3.same s3
        refine ⟨_, rfl, p, c, 3, rfl, hh4, by decide, by decide, fun d H5 d0 d3 hh5 ch => ?_⟩
        have hd5 : Deep H5 v := hd4.kp hh4 ch.kp
        have ha : H5 a = some (.lst [v]) := by
          rw [ch a (pn (fun _ _ z => z) na)]
          exact sl _ _ (se _ _ (sb _ _ upd_same))
        have hb : H5 b = some (.tup [v]) := by
          rw [ch b (pn sa nb)]
          exact sl _ _ (se _ _ upd_same)
        have he : H5 e = some (.dK [(.inl 0, v)]) := by
          rw [ch e (pn (sa.trans sb) ne)]
          exact sl _ _ upd_same
        have hl5 : H5 l = some (.lst [.ref a, .ref b, .ref e]) := by
          rw [ch l (pn ((sa.trans sb).trans se) nl)]
          exact upd_same
        obtain ⟨x, hx, hdx⟩ := three d0 d3 (Deep H5) (a := .ref a) (b := .ref b) (c := .ref e) (.lst ha hd5) (.tup hb hd5) (.dic he hd5)
        refine ⟨l, _, _, x, rfl, rfl, SqL.of hl5, hx, ?_⟩
        refine ⟨x, _, rfl, hh5, k3.trans (Kp.trans (fun z o _ eo => s3 z o eo) ch.kp), hdx⟩
      · rintro σ' H' ⟨v, t, rfl, hh', k1, hd⟩
        exact ⟨_, rfl, k v H' hh' k1 hd⟩
end

end K25
set_option Elab.async false
set_option linter.all false
set_option maxRecDepth 100000
set_option maxHeartbeats 4000000
namespace K25
open PySem PySem.Spec PyProof.Rows L2 ZX PM ZR
abbrev sLWords : Stmt := top 49
abbrev sLPlain : Stmt := top 50
theorem HandAt.away {H1 H' : Hp} {p c D : Addr} {o : HO} (h : HandAt H' p c) (h1 : HandAt H1 p c) (n : H1 D = none) : HandAt (upd H' D o) p c := by
  obtain ⟨cs, i, g, kk, d, h⟩ := h
  obtain ⟨cs1, i1, g1, kk1, d1, h1⟩ := h1
  exact ⟨cs, i, g, kk, d, by rw [upd_ne (ne_of_none h1.hp n)]; exact h.hp, by rw [upd_ne (ne_of_none h1.hc n)]; exact h.hc, h.ne, h.nn, h.i0, h.g0, h.k0, h.d0⟩
/-- words and ops to draw from -/
structure Two (H : Hp) (p c wa oa : Addr) (ws os : List Str) : Prop where
  hh : HandAt H p c
  hw : H wa = some (.lst (ws.map V.str))
  ho : H oa = some (.lst (os.map V.str))
  nw : wa ≠ p
  no : oa ≠ p
  ew : ws ≠ []
  eo : os ≠ []
  lw : ws.length < 1000
  lo : os.length < 1000
theorem Two.kp {H H' : Hp} {p c wa oa : Addr} {ws os : List Str} (t : Two H p c wa oa ws os) (hh : HandAt H' p c) (k : Kp p H H') : Two H' p c wa oa ws os :=
  ⟨hh, k _ _ t.nw t.hw, k _ _ t.no t.ho, t.nw, t.no, t.ew, t.eo, t.lw, t.lo⟩
theorem Two.same {H H' : Hp} {p c wa oa : Addr} {ws os : List Str} (t : Two H p c wa oa ws os) (s : Same H H') : Two H' p c wa oa ws os := t.kp (t.hh.kp s) s.kp
/-- drawn from these -/
def DrR (ws os : List Str) : Rw → Prop
  | .note x o ps => x ∈ ws ∧ o ∈ os ∧ ps.length ≤ 3 ∧ ∀ y ∈ ps, y ∈ ws
  | .copy x y => x ∈ ws ∧ y ∈ ws
  | .give x _ => x ∈ ws
  | .ask x => x ∈ ws
  | .prt x => x ∈ ws
  | .either _ _ => True
  | .again _ => True
def spLPlain (K : PySem.W.Frag) : Sp := fun vs H Q _ => ∃ (p c wa oa : Addr) (ws os : List Str), vs = [.ref p, .ref wa, .ref oa] ∧ Two H p c wa oa ws os ∧ ∀ v r H', HandAt H' p c → Kp p H H' → RV K H' v r → inner r = [] → DrR ws os r → Q v H'
theorem any_of {K : PySem.W.Frag} {H : Hp} {Q : VK} {E : XK} {p c t : Addr} {xs : List Str} (hh : HandAt H p c) (ne : t ≠ p) (h : H t = some (.lst (xs.map V.str))) (hx : xs ≠ []) (hl : xs.length < 1000) (k : ∀ x H', x ∈ xs → HandAt H' p c → Kp p H H' → Q (.str x) H') : spAny K [.ref p, .ref t] H Q E :=
  ⟨p, c, t, xs.map V.str, rfl, hh, .inl ⟨ne, .inl (SqL.of h)⟩, by simpa using hx, by rw [List.length_map]; omega, fun x H' hx hh' ch => by
    obtain ⟨y, hy, rfl⟩ := List.mem_map.mp hx
    exact k y H' hy hh' ch.kp⟩
theorem strs_of {α : Type} {ws : List Str} : ∀ {n : List α} {ys : List V}, All2 (fun _ y => ∃ x ∈ ws, y = V.str x) n ys → ∃ ps : List Str, ys = ps.map V.str ∧ ∀ y ∈ ps, y ∈ ws
  | _, _, .nil => ⟨[], rfl, fun _ h => nomatch h⟩
  | _, _, .cons ⟨x, hx, e⟩ t => by
    obtain ⟨ps, rfl, h⟩ := strs_of t
    subst e
    exact ⟨x :: ps, rfl, fun y hy => (List.mem_cons.mp hy).elim (fun e => e ▸ hx) (h y)⟩
theorem _root_.ZX.Kp.fresh {p l : Addr} {H H' : Hp} {o : HO} (k : Kp p H H') (n : H l = none) : Kp p H (upd H' l o) := fun b u nb e => by
  rw [upd_ne (ne_of_none e n)]
  exact k b u nb e
/-- a letter -/
def Ltr (c : Nat) : Prop := 97 ≤ c ∧ c ≤ 122
def LETS : Str := "abcdefghijklmnopqrstuvwxyz"
def ENDS : Str := "mzaqbrkc"
theorem lets_all : ∀ c ∈ LETS.cps.toList, Ltr c := by
  show ∀ c ∈ LETS.cps.toList, 97 ≤ c ∧ c ≤ 122
  decide +kernel
theorem ends_all : ∀ c ∈ ENDS.cps.toList, Ltr c := by
  show ∀ c ∈ ENDS.cps.toList, 97 ≤ c ∧ c ≤ 122
  decide +kernel
theorem let_at {L : List Nat} (h : ∀ c ∈ L, Ltr c) {n : Int} (h0 : 0 ≤ n) (h1 : n < L.length) : ∃ c, atI L n = some c ∧ Ltr c := by
  obtain ⟨j, rfl⟩ := Int.eq_ofNat_of_zero_le h0
  have hj : j < L.length := by omega
  exact ⟨L[j], atI_nat (List.getElem?_eq_getElem hj), h _ (List.getElem_mem hj)⟩
theorem lets_of {α : Type} : ∀ {n : List α} {ys : List V}, All2 (fun _ y => ∃ a, Ltr a ∧ y = V.str ⟨#[a]⟩) n ys → ∃ cs : List Nat, ys = (cs.map fun a => (⟨#[a]⟩ : Str)).map V.str ∧ cs.length = n.length ∧ ∀ a ∈ cs, Ltr a
  | _, _, .nil => ⟨[], rfl, rfl, fun _ h => nomatch h⟩
  | _, _, .cons ⟨a, ha, e⟩ t => by
    obtain ⟨cs, rfl, hl, h⟩ := lets_of t
    subst e
    exact ⟨a :: cs, rfl, by rw [List.length_cons, List.length_cons, hl], fun y hy => (List.mem_cons.mp hy).elim (fun e => e ▸ ha) (h y)⟩
theorem word_ok {cs : List Nat} (hl : cs.length ≤ 2) (h : ∀ a ∈ cs, Ltr a) {c : Nat} (hc : Ltr c) : NameOk (Txt.join (Str.ofString "") (cs.map fun a => (⟨#[a]⟩ : Str)) ++ (⟨#[c]⟩ : Str)) ∧ (Txt.join (Str.ofString "") (cs.map fun a => (⟨#[a]⟩ : Str))).length ≤ 2 := by
  match cs, hl, h with
  | [], _, _ => exact ⟨⟨by show 1 ≤ 1; decide, by show 1 ≤ 8; decide, fun x hx => by
      have e : x ∈ [c] := hx
      rw [List.mem_singleton.mp e]
      exact hc⟩, by show 0 ≤ 2; decide⟩
  | [a], _, h => exact ⟨⟨by show 1 ≤ 2; decide, by show 2 ≤ 8; decide, fun x hx => by
      have e : x ∈ [a, c] := hx
      simp only [List.mem_cons, List.not_mem_nil, or_false] at e
      rcases e with rfl | rfl
      · exact h _ (List.mem_cons_self ..)
      · exact hc⟩, by show 1 ≤ 2; decide⟩
  | [a, b], _, h => exact ⟨⟨by show 1 ≤ 3; decide, by show 3 ≤ 8; decide, fun x hx => by
      have e : x ∈ [a, b, c] := hx
      simp only [List.mem_cons, List.not_mem_nil, or_false] at e
      rcases e with rfl | rfl | rfl
      · exact h _ (List.mem_cons_self ..)
      · exact h _ (List.mem_cons_of_mem _ (List.mem_cons_self ..))
      · exact hc⟩, by show 2 ≤ 2; decide⟩
  | _ :: _ :: _ :: _, hl, _ => exact absurd hl (by simp)
def spLWords : Sp := fun vs H Q _ => ∃ (p c : Addr) (n : Nat), vs = [.ref p, .int n] ∧ HandAt H p c ∧ 1 ≤ n ∧ n ≤ 8 ∧ ∀ (l : Addr) (ws : List Str) (H' : Hp), HandAt H' p c → Kp p H H' → H l = none → H' l = some (.lst (ws.map V.str)) → ws.length = n → (∀ x ∈ ws, NameOk x) → Q (.ref l) H'
section
variable {P : Program} {w : World} {K : PySem.W.Frag} {mg : Str → Option Value} {base : Heap}
theorem scWords : FnScope ["_law_hand_here", "_law_many", "_law_letters", "_law_found", "_law_k", "_law_j"] ["_law_hand_here", "_law_many"] (defScope sLWords) := ⟨rfl, rfl, rfl, by decide +kernel, rfl, by decide +kernel, by decide +kernel⟩
theorem ok_lwords {f : Addr} {fd : FuncData} (F : FnP K "_law_words" sLWords f fd) (T : Bi mg) (C__law_draw : Cal P w K mg base "_law_draw" 1 ["_law_hand_here", "_law_many"] spDraw) : FnOk P w K mg base CX0 2 f fd ["_law_hand_here", "_law_many"] spLWords := by
  refine F.ok scWords (fun vs H Q E h => ?_) (fun cdv A outer s H vs Q E hr h => ?_)
  · obtain ⟨p, c, n, rfl, _⟩ := h
    rfl
  · obtain ⟨p, c, n, rfl, hh0, n1, n8, k⟩ := h
    have hr__law_draw := hr
    refine ⟨_, PSs.nox (pss_cons (ps_set (i := 2) scWords.nd rfl (Or.inr rfl) pe_str)
    (pss_cons (ps_set (i := 3) scWords.nd rfl (Or.inl rfl) (pe_lst pa_nil))
    (pss_cons (ps_for PassesOwn.never rfl (pi_range1 rfl T.b_range (pa_cons (pv 1) pa_nil)) (pg_name (i := 4) scWords.nd rfl (Or.inl rfl)) (pss_one (ps_expr (pe_bm PySem.F.plainAttrs_list PySem.F.slot_list_append PySem.F.type_list_append mt_append (pv 3) (pa_cons (pe_op op_add_str (pe_join pe_str (pe_lcS (own := [("_law_j", 5)]) (g := gName 5) (tt := tYes) (by rfl) scWords.nd (pi_range1 rfl T.b_range (pa_cons (pcal C__law_draw hr__law_draw rfl (pa_cons (pv 0) (pa_cons pe_int pa_nil))) pa_nil)) (blkOk_by (N := ["_law_hand_here", "_law_many", "_law_letters", "_law_found", "_law_k", "_law_j"]) (sc := defScope sLWords) (by decide +kernel)) (fun _ _ _ _ _ => (pg_name (i := 5) scWords.nd rfl (Or.inl rfl))) (fun _ _ _ _ _ => pts_nil) (fun _ _ _ _ _ => (pe_ix ix_str (pv 2) (pcal C__law_draw hr__law_draw rfl (pa_cons (pv 0) (pa_cons pe_int pa_nil))) (fun _ _ => rfl))))) (pe_ix ix_str pe_str (pv 4) (fun _ _ => rfl))) pa_nil)))))
    (pss_one (ps_ret (pv 3)))))), ?_⟩
    refine ⟨by decide, fun l nl => ?_⟩
    have sl := same_new (o := .lst []) nl
    have nlp : l ≠ p := by
      obtain ⟨o, e⟩ := hh0.some
      exact (ne_of_none e nl).symm
    refine ⟨_, rfl, _, rfl, by omega, by omega, ?_⟩
    refine for_range (fun i σ' H' => ∃ (ws : List Str) (y : Option V), σ' = [some (.ref p), some (.int n), some (.str LETS), some (.ref l), y, none] ∧ HandAt H' p c ∧ Kp p H H' ∧ H' l = some (.lst (ws.map V.str)) ∧ ws.length = i ∧ ∀ x ∈ ws, NameOk x) ⟨[], _, rfl, hh0.kp sl, sl.kp, upd_same, rfl, fun _ h => nomatch h⟩ ?_ ?_
    · rintro i σ' H' hi ⟨ws, y, rfl, hh, kp, hl, hlen, hok⟩
      refine ⟨_, rfl, .inl ⟨rfl, _, SqL.of hl⟩, ⟨_, rfl⟩, ?_⟩
      refine lc_into ?_
      refine ⟨_, rfl, p, c, 3, rfl, hh, by decide, by decide, fun m H2 m0 m3 hh2 ch2 => ⟨_, rfl, by omega, by omega, ?_⟩⟩
      refine lc_overI (p := some p) (as := List.range m.toNat) (Rel := fun _ _ y => ∃ a, Ltr a ∧ y = V.str ⟨#[a]⟩) (fun H => HandAt H p c) it_range ?_ (fun _ _ _ _ _ h => h) (fun a e => by cases e; exact hh2.some) ?_ (fun D hD => hh2.new hD) (fun D H' o hD h => h.away hh2 hD) (fun _ _ _ _ => trivial) ?_ ?_
      · rw [List.length_map]
      · rw [List.length_map, List.length_range]
        exact Nat.lt_of_lt_of_le (show m.toNat < 3 by omega) (by decide)
      · intro j z e hz he H5 kq pt hh5 R kR
        refine ⟨rfl, _, rfl, _, rfl, p, c, 26, rfl, hh5, by decide, by decide, fun d H6 d0 d26 hh6 ch6 => ?_⟩
        obtain ⟨a, ha, hla⟩ := let_at lets_all d0 (show d < (LETS.cps.toList.length : Nat) from d26)
        exact ⟨LETS, d, a, rfl, rfl, by decide +kernel, ha, kR _ _ (Kp.kq ch6.kp) (hh5.pt ch6.kp) hh6 ⟨a, hla, rfl⟩⟩
      · intro D ys H5 kq pt hh5 nD hD all
        obtain ⟨cs, rfl, hcl, hcs⟩ := lets_of all
        rw [List.length_range] at hcl
        have hc2 : cs.length ≤ 2 := by omega
        obtain ⟨a, ha, hla⟩ := let_at ends_all (show (0 : Int) ≤ 0 + (i : Nat) by omega) (show 0 + ((i : Nat) : Int) < (ENDS.cps.toList.length : Nat) by show 0 + ((i : Nat) : Int) < 8; omega)
        obtain ⟨hw, hj⟩ := word_ok hc2 hcs hla
        refine ⟨_, D, _, rfl, rfl, .inl (SqL.of hD), ?_, _, rfl, ENDS, _, a, rfl, rfl, by decide +kernel, ha, _, _, rfl, rfl, ?_, ?_⟩
        · rw [List.map_map]
          have e : ((fun x : Str => x.length) ∘ fun a => (⟨#[a]⟩ : Str)) = fun _ => 1 := rfl
          rw [e]
          match cs, hc2 with
          | [], _ => exact (by decide : 0 + 0 * 0 ≤ 16777216)
          | [_], _ => exact (by decide : 1 + 0 + 1 * 0 ≤ 16777216)
          | [_, _], _ => exact (by decide : 1 + (1 + 0) + 2 * 0 ≤ 16777216)
          | _ :: _ :: _ :: _, h => exact absurd h (by simp)
        · exact Nat.le_trans (show _ ≤ 2 + 1 from Nat.add_le_add_right hj 1) (by decide)
        · have hl5 := kq.kp _ _ nlp ((ch2.kp _ _ nlp hl))
          refine ⟨l, _, _, rfl, rfl, hl5, ?_, ?_⟩
          · rw [List.length_map]
            exact Nat.lt_of_lt_of_le (show ws.length < 8 by omega) (by decide)
          · have s5 : Kp p H5 (upd H5 l (.lst (ws.map V.str ++ [V.str (Txt.join (Str.ofString "") (cs.map fun a => (⟨#[a]⟩ : Str)) ++ (⟨#[a]⟩ : Str))]))) → True := fun _ => trivial
            refine ⟨ws ++ [Txt.join (Str.ofString "") (cs.map fun a => (⟨#[a]⟩ : Str)) ++ (⟨#[a]⟩ : Str)], _, rfl, ?_, ((kp.trans ch2.kp).trans kq.kp).fresh nl, ?_, by rw [List.length_append, hlen]; rfl, fun x hx => ?_⟩
            · exact hh5.away hh0 nl
            · rw [upd_same, List.map_append]
              rfl
            · rcases List.mem_append.mp hx with h | h
              · exact hok x h
              · rw [List.mem_singleton.mp h]
                exact hw
    · rintro σ' H' ⟨ws, y, rfl, hh, kp, hl, hlen, hok⟩
      exact ⟨_, rfl, k l ws H' hh kp nl hl (by omega) hok⟩
end
end K25
set_option Elab.async false
set_option linter.all false
set_option maxRecDepth 100000
set_option maxHeartbeats 4000000
namespace K25
open PySem PySem.Spec PyProof.Rows L2 ZX PM ZR
theorem six {a0 a1 a2 a3 a4 a5 : V} {d : Int} (h0 : 0 ≤ d) (h6 : d < 6) (Q : V → Prop) (q0 : Q a0) (q1 : Q a1) (q2 : Q a2) (q3 : Q a3) (q4 : Q a4) (q5 : Q a5) : ∃ x, atI [a0, a1, a2, a3, a4, a5] d = some x ∧ Q x := by
  have e : d = 0 ∨ d = 1 ∨ d = 2 ∨ d = 3 ∨ d = 4 ∨ d = 5 := by omega
  rcases e with rfl | rfl | rfl | rfl | rfl | rfl
  · exact ⟨_, rfl, q0⟩
  · exact ⟨_, rfl, q1⟩
  · exact ⟨_, rfl, q2⟩
  · exact ⟨_, rfl, q3⟩
  · exact ⟨_, rfl, q4⟩
  · exact ⟨_, rfl, q5⟩
section
variable {P : Program} {w : World} {K : PySem.W.Frag} {mg : Str → Option Value} {base : Heap}
theorem scPlain : FnScope ["_law_hand_here", "_law_menu", "_law_ops", "_law_kind", "_law_x", "_law_y", "_law_many", "_law_k"] ["_law_hand_here", "_law_menu", "_law_ops"] (defScope sLPlain) := ⟨rfl, rfl, rfl, by decide +kernel, rfl, by decide +kernel, by decide +kernel⟩
theorem ok_lplain {f : Addr} {fd : FuncData} (F : FnP K "_law_plain" sLPlain f fd) (T : Bi mg) (C__law_draw : Cal P w K mg base "_law_draw" 1 ["_law_hand_here", "_law_many"] spDraw) (C__law_any : Cal P w K mg base "_law_any" 2 ["_law_hand_here", "_law_things"] (spAny K)) : FnOk P w K mg base CX0 3 f fd ["_law_hand_here", "_law_menu", "_law_ops"] (spLPlain K) := by
  refine F.ok scPlain (fun vs H Q E h => ?_) (fun cdv A outer s H vs Q E hr h => ?_)
  · obtain ⟨p, c, wa, oa, ws, os, rfl, _⟩ := h
    rfl
  · obtain ⟨p, c, wa, oa, ws, os, rfl, t0, k⟩ := h
    have hr__law_draw := hr.mono (show 1 ≤ 2 by decide)
    have hr__law_any := hr
    refine ⟨_, PSs.nox (pss_cut (ps_set (i := 3) scPlain.nd rfl (Or.inl rfl) (pcal C__law_draw hr__law_draw rfl (pa_cons (pv 0) (pa_cons pe_int pa_nil))))
    (pss_cut (ps_par (by rfl) scPlain.nd (i := 4) (j := 5) rfl rfl (by decide) rfl rfl (pa_cons (pcal C__law_any hr__law_any rfl (pa_cons (pv 0) (pa_cons (pv 1) pa_nil))) (pa_cons (pcal C__law_any hr__law_any rfl (pa_cons (pv 0) (pa_cons (pv 1) pa_nil))) pa_nil)) (by rfl))
    (pss_cons (ps_if (pt_cmpR op_lt (pv 3) pe_int (nomark _)) (pss_cut (ps_set (i := 6) scPlain.nd rfl (Or.inl rfl) (pe_ix ix_list (pe_lst (pa_cons pe_int (pa_cons pe_int (pa_cons pe_int (pa_cons pe_int (pa_cons pe_int (pa_cons pe_int pa_nil))))))) (pcal C__law_draw hr__law_draw rfl (pa_cons (pv 0) (pa_cons pe_int pa_nil))) (fun _ _ => rfl)))
      (pss_one (ps_ret (pe_tup (pa_cons pe_str (pa_cons (pv 4) (pa_cons (pcal C__law_any hr__law_any rfl (pa_cons (pv 0) (pa_cons (pv 2) pa_nil))) (pa_cons (pe_callTy call_tuple_of (by rfl) T.b_tuple (by decide +kernel) (pa_cons (pe_lcS (own := [("_law_k", 7)]) (g := gName 7) (tt := tYes) (by rfl) scPlain.nd (pi_range1 rfl T.b_range (pa_cons (pv 6) pa_nil)) (blkOk_by (N := ["_law_hand_here", "_law_menu", "_law_ops", "_law_kind", "_law_x", "_law_y", "_law_many", "_law_k"]) (sc := defScope sLPlain) (by decide +kernel)) (fun _ _ _ _ _ => (pg_name (i := 7) scPlain.nd rfl (Or.inl rfl))) (fun _ _ _ _ _ => pts_nil) (fun _ _ _ _ _ => (pcal C__law_any hr__law_any rfl (pa_cons (pv 0) (pa_cons (pv 1) pa_nil))))) pa_nil)) pa_nil)))))))) pss_nil)
    (pss_cons (ps_if (pt_cmpR op_lt (pv 3) pe_int (nomark _)) (pss_one (ps_ret (pe_tup (pa_cons pe_str (pa_cons (pv 4) (pa_cons (pv 5) pa_nil)))))) pss_nil)
    (pss_cons (ps_if (pt_cmpR op_eq (pv 3) pe_int (nomark _)) (pss_one (ps_ret (pe_tup (pa_cons pe_str (pa_cons (pv 4) (pa_cons (pcal C__law_any hr__law_any rfl (pa_cons (pv 0) (pa_cons (pe_lst (pa_cons pe_int (pa_cons pe_int (pa_cons (pe_un un_neg pe_int) (pa_cons (pe_op op_pow pe_int pe_int) pa_nil))))) pa_nil))) pa_nil)))))) pss_nil)
    (pss_one (ps_ret (pe_ifExp (pt_cmpR op_eq (pv 3) pe_int (nomark _)) (pe_tup (pa_cons pe_str (pa_cons (pv 4) pa_nil))) (pe_tup (pa_cons pe_str (pa_cons (pv 4) pa_nil))))))))))), ?_⟩
    refine ⟨fun σ' H' => ∃ d : Int, σ' = [some (.ref p), some (.ref wa), some (.ref oa), some (.int d), none, none, none, none] ∧ Two H' p c wa oa ws os ∧ Kp p H H', ?_, ?_⟩
    · exact ⟨_, rfl, p, c, 12, rfl, t0.hh, by decide, by decide, fun d H2 _ _ hh2 ch => ⟨d, rfl, t0.kp hh2 ch.kp, ch.kp⟩⟩
    rintro σ0 H0 ⟨d, rfl, t0', k0⟩
    refine ⟨fun σ' H' => ∃ x y, σ' = [some (.ref p), some (.ref wa), some (.ref oa), some (.int d), some (.str x), some (.str y), none, none] ∧ x ∈ ws ∧ y ∈ ws ∧ Two H' p c wa oa ws os ∧ Kp p H H', ?_, ?_⟩
    · refine ⟨_, rfl, _, rfl, any_of (E := E0) t0'.hh t0'.nw t0'.hw t0'.ew t0'.lw fun x H1 hx hh1 k1 => ?_⟩
      have t1 := t0'.kp hh1 k1
      refine ⟨_, rfl, _, rfl, any_of (E := E0) t1.hh t1.nw t1.hw t1.ew t1.lw fun y H2 hy hh2 k2 => ?_⟩
      exact ⟨_, _, rfl, x, y, rfl, hx, hy, t1.kp hh2 k2, (k0.trans k1).trans k2⟩
    · rintro σ2 H2 ⟨x, y, rfl, hx, hy, t2, k2⟩
      refine ⟨_, rfl, _, _, rfl, rfl, _, rfl, ?_⟩
      refine ite2 (fun _ => ?_) (fun e1 => ?_)
      · -- note
        refine ⟨fun σ' H' => ∃ n : Int, σ' = [some (.ref p), some (.ref wa), some (.ref oa), some (.int d), some (.str x), some (.str y), some (.int n), none] ∧ 0 ≤ n ∧ n ≤ 3 ∧ Two H' p c wa oa ws os ∧ Kp p H H', ?_, ?_⟩
        · refine ⟨by decide, fun l nl => ?_⟩
          have sl := same_new (o := .lst [V.int 0, V.int 1, V.int 1, V.int 2, V.int 2, V.int 3]) nl
          have nlp : l ≠ p := by
            obtain ⟨o, e⟩ := t2.hh.some
            exact (ne_of_none e nl).symm
          refine ⟨_, rfl, p, c, 6, rfl, t2.hh.kp sl, by decide, by decide, fun m H3 m0 m6 hh3 ch3 => ?_⟩
          obtain ⟨z, hz, n, rfl, n0, n3⟩ := six m0 m6 (fun z => ∃ n : Int, z = V.int n ∧ 0 ≤ n ∧ n ≤ 3) (a0 := .int 0) (a1 := .int 1) (a2 := .int 1) (a3 := .int 2) (a4 := .int 2) (a5 := .int 3) ⟨0, rfl, by omega, by omega⟩ ⟨1, rfl, by omega, by omega⟩ ⟨1, rfl, by omega, by omega⟩ ⟨2, rfl, by omega, by omega⟩ ⟨2, rfl, by omega, by omega⟩ ⟨3, rfl, by omega, by omega⟩
          exact ⟨l, _, _, _, rfl, rfl, SqL.of (by rw [ch3 l nlp]; exact upd_same), hz, n, rfl, n0, n3, t2.kp hh3 (sl.kp.trans ch3.kp), (k2.same sl).trans ch3.kp⟩
        · rintro σ3 H2' ⟨n, rfl, n0, n3, t2', k2'⟩
          refine ⟨_, rfl, _, rfl, _, rfl, any_of (E := E0) t2'.hh t2'.no t2'.ho t2'.eo t2'.lo fun o H3 ho hh3 k3 => ?_⟩
          have t3 := t2'.kp hh3 k3
          refine lc_into ?_
          refine ⟨_, rfl, _, rfl, by omega, by omega, ?_⟩
          refine lc_overI (p := some p) (as := List.range n.toNat) (Rel := fun _ _ y => ∃ x ∈ ws, y = V.str x) (fun H => HandAt H p c) it_range ?_ (fun _ _ _ _ _ h => h) (fun a e => by cases e; exact t3.hh.some) ?_ (fun D hD => t3.hh.new hD) (fun D H' o hD h => h.away t3.hh hD) (fun _ _ _ _ => trivial) ?_ ?_
          · rw [List.length_map]
          · rw [List.length_map, List.length_range]
            exact Nat.lt_of_lt_of_le (show n.toNat < 4 by omega) (by decide)
          · intro i z e hz he H5 kq pt hh5 R kR
            have t5 := t3.kp hh5 kq.kp
            exact ⟨rfl, _, rfl, _, rfl, any_of (E := E0) t5.hh t5.nw t5.hw t5.ew t5.lw fun x H6 hx hh6 k6 => kR _ _ (Kp.kq k6) (hh5.pt k6) hh6 ⟨x, hx, rfl⟩⟩
          · intro D ys H5 kq pt hh5 nD hD all
            obtain ⟨ps, rfl, hps⟩ := strs_of all
            have hpl : ps.length ≤ 3 := by
              have := all.len
              rw [List.length_range, List.length_map] at this
              omega
            refine ⟨D, _, rfl, .inl ⟨SqL.of hD, fun t nt => ⟨by show 4 ≤ sizeLine; decide, fun q nq => ?_⟩⟩⟩
            have s5 := (same_new (o := .tup (ps.map V.str)) nt).trans (same_new (o := .tup [V.str "note", V.str x, V.str o, V.ref t]) nq)
            have k5 := ((k2'.trans k3).trans kq.kp).same s5
            refine k _ (.note x o ps) _ (hh5.kp s5) k5 (.tup (.inl (.inl upd_same)) (.cons (.str _) (.cons (.str _) (.cons (.str _) (.cons (.tup ((same_new nq).pt.sq (.inl (.inl upd_same))) Tvs.ofStrs) .nil))))) rfl ⟨hx, ho, hpl, hps⟩
      · refine ⟨_, rfl, _, _, rfl, rfl, _, rfl, ?_⟩
        refine ite2 (fun _ => ?_) (fun e2 => ?_)
        · -- copy
          refine ⟨_, rfl, _, rfl, by show 3 ≤ sizeLine; decide, fun q nq => ?_⟩
          have s5 := same_new (o := .tup [V.str "copy", V.str x, V.str y]) nq
          exact k _ (.copy x y) _ (t2.hh.kp s5) (k2.same s5) (.tup (.inl (.inl upd_same)) (.cons (.str _) (.cons (.str _) (.cons (.str _) .nil)))) rfl ⟨hx, hy⟩
        · refine ⟨_, rfl, rfl, _, rfl, ?_⟩
          refine ite2 (fun _ => ?_) (fun e3 => ?_)
          · -- give
            refine ⟨_, rfl, _, rfl, _, rfl, _, _, rfl, rfl, ⟨by decide, by decide, by decide⟩, by show 4 ≤ sizeLine; decide, fun l nl => ?_⟩
            have s3 := same_new (o := .lst [V.int 0, V.int 1, V.int (-7), V.int (10 ^ 29)]) nl
            have nlp : l ≠ p := by
              obtain ⟨o, e⟩ := t2.hh.some
              exact (ne_of_none e nl).symm
            refine ⟨p, c, l, _, rfl, t2.hh.kp s3, .inl ⟨nlp, .inl (SqL.of upd_same)⟩, by simp, by show 4 < 1073741824; decide, fun z H3 hz hh3 ch3 => ?_⟩
            obtain ⟨i, rfl⟩ : ∃ i, z = V.int i := by
              simp only [List.mem_cons, List.not_mem_nil, or_false] at hz
              rcases hz with e | e | e | e <;> exact ⟨_, e⟩
            refine ⟨by show 3 ≤ sizeLine; decide, fun q nq => ?_⟩
            have s5 := same_new (o := .tup [V.str "give", V.str x, V.int i]) nq
            exact k _ (.give x i) _ (hh3.kp s5) (((k2.same s3).trans ch3.kp).same s5) (.tup (.inl (.inl upd_same)) (.cons (.str _) (.cons (.str _) (.cons (.int _) .nil)))) rfl hx
          · refine ⟨_, rfl, rfl, _, rfl, ?_⟩
            refine ite2 (fun _ => ?_) (fun e4 => ?_)
            · refine ⟨_, rfl, by show 2 ≤ sizeLine; decide, fun q nq => ?_⟩
              have s5 := same_new (o := .tup [V.str "print", V.str x]) nq
              exact k _ (.prt x) _ (t2.hh.kp s5) (k2.same s5) (.tup (.inl (.inl upd_same)) (.cons (.str _) (.cons (.str _) .nil))) rfl hx
            · refine ⟨_, rfl, by show 2 ≤ sizeLine; decide, fun q nq => ?_⟩
              have s5 := same_new (o := .tup [V.str "ask", V.str x]) nq
              exact k _ (.ask x) _ (t2.hh.kp s5) (k2.same s5) (.tup (.inl (.inl upd_same)) (.cons (.str _) (.cons (.str _) .nil))) rfl hx
end
end K25
set_option Elab.async false
set_option linter.all false
set_option maxRecDepth 100000
set_option maxHeartbeats 4000000
namespace K25
open PySem PySem.Spec PyProof.Rows L2 ZX PM ZR
abbrev sLSize : Stmt := top 45
def spLSize (K : PySem.W.Frag) (n : Nat) : Sp := fun vs H Q _ => ∃ (v : V) (b : List Rw), vs = [v] ∧ BV K H v b ∧ depB b < n ∧ (rowsB b).length ≤ 1000 ∧ ∀ H', Same H H' → Q (.int ((rowsB b).length : Nat)) H'
theorem word_in (r : Rw) : inV (V.str (wordR r)) [V.str "either", V.str "again"] = !(inner r).isEmpty := by
  rw [word_inner, Bool.not_not]
  show (Str.ofString "either" == wordR r || (Str.ofString "again" == wordR r || false)) = _
  rw [Bool.or_false, BEq.comm, BEq.comm (a := Str.ofString "again")]
theorem inner_of {r : Rw} (h : (inner r).isEmpty = false) {K : PySem.W.Frag} {H : Hp} {tl : List V} (t : Tvs K H tl (argsR r)) : Tvs K H tl ((inner r).map fun b => .tuple (dB b)) := by
  rw [← inner_args r (fun e => by rw [e] at h; cases h)]
  exact t
section
variable {P : Program} {w : World} {K : PySem.W.Frag} {mg : Str → Option Value} {base : Heap}
theorem scLSize : FnScope ["_law_block", "_law_found", "_law_row", "_law_inner_here"] ["_law_block"] (defScope sLSize) := ⟨rfl, rfl, rfl, by decide +kernel, rfl, by decide +kernel, by decide +kernel⟩
theorem ok_lsize0 {f : Addr} {fd : FuncData} (k : Nat) : FnOk P w K mg base CX0 k f fd ["_law_block"] (spLSize K 0) :=
  ⟨fun vs H Q E h => by
    obtain ⟨_, _, _, _, h, _⟩ := h
    exact absurd h (Nat.not_lt_zero _), fun A outer s H args us vs Q E hr e0 hb r h => by
    obtain ⟨_, _, _, _, h, _⟩ := h
    exact absurd h (Nat.not_lt_zero _)⟩
theorem ok_lsize1 {n : Nat} {f : Addr} {fd : FuncData} (F : FnP K "_law_size" sLSize f fd) (T : Bi mg) (C__law_size : Cal P w K mg base "_law_size" (n + 1) ["_law_block"] (spLSize K n)) : FnOk P w K mg base CX0 (n + 2) f fd ["_law_block"] (spLSize K (n + 1)) := by
  refine F.ok scLSize (fun vs H Q E h => ?_) (fun cdv A outer s H vs Q E hr h => ?_)
  · obtain ⟨v, r, rfl, _⟩ := h
    rfl
  · obtain ⟨v, b, rfl, tv, hd, hn, k⟩ := h
    obtain ⟨a, xs, rfl, hS, ht⟩ := tv.tupI
    have hr__law_size := hr
    have hxl : xs.length = b.length := by rw [ht.len, dB_eq, List.length_map]
    refine ⟨_, PSs.nox (pss_cons (ps_set (i := 1) scLSize.nd rfl (Or.inl rfl) pe_int)
    (pss_cons (ps_for PassesOwn.never rfl (pi_tup (pv 0)) (pg_name (i := 2) scLSize.nd rfl (Or.inl rfl)) (pss_cons (ps_set (i := 1) scLSize.nd rfl (Or.inl rfl) (pe_op op_add (pv 1) pe_int))
      (pss_one (ps_if (pt_cmpR op_in_seq (pe_ix ix_tup (pv 2) pe_int (fun _ _ => rfl)) (pe_tup (pa_cons pe_str (pa_cons pe_str pa_nil))) (by with_unfolding_all rfl)) (pss_one (ps_set (i := 1) scLSize.nd rfl (Or.inl rfl) (pe_op op_add (pv 1) (pe_callB (cr_sum rfl) (by rfl) T.b_sum (by decide +kernel) (pa_cons (pe_lcS (own := [("_law_inner_here", 3)]) (g := gName 3) (tt := tYes) (by rfl) scLSize.nd (pi_tup (pe_slice sl_tup (pv 2) (po_some pe_int) po_none)) (blkOk_by (N := ["_law_block", "_law_found", "_law_row", "_law_inner_here"]) (sc := defScope sLSize) (by decide +kernel)) (fun _ _ _ _ _ => (pg_name (i := 3) scLSize.nd rfl (Or.inl rfl))) (fun _ _ _ _ _ => pts_nil) (fun _ _ _ _ _ => (pcal C__law_size hr__law_size rfl (pa_cons (pv 3) pa_nil)))) pa_nil))))) pss_nil))))
    (pss_one (ps_ret (pv 1))))), ?_⟩
    refine ⟨_, rfl, a, rfl, ⟨xs, hS⟩, ?_⟩
    refine for_tup (xs := xs) (fun i σ' H' => ∃ y z, σ' = [some (.ref a), some (.int (((b.take i).flatMap rowsR).length : Nat)), y, z] ∧ Same H H') ⟨_, _, rfl, fun _ _ h => h⟩ ?_ ?_ ?_
    · rintro i σ' H' _ ⟨y, z, rfl, sm⟩
      exact sm.pt.sq hS
    · rintro i x σ' H' hx ⟨y, z, rfl, sm⟩
      obtain ⟨r, hr, tr⟩ := (ht.pt sm.pt).nthR hx
      have hrm : r ∈ b := List.mem_of_getElem? hr
      have hle : ((b.take i).flatMap rowsR ++ rowsR r).length ≤ 1000 := Nat.le_trans (fm_le1 hr) (by rw [← rowsB_eq]; exact hn)
      have htk : ((b.take (i + 1)).flatMap rowsR).length = ((b.take i).flatMap rowsR).length + 1 + ((inner r).flatMap rowsB).length := by
        rw [fm_take hr, rowsR_eq, List.length_append, List.length_cons]
        omega
      obtain ⟨ra, tl, rfl, hrS, hrt⟩ := tr.rowI
      refine ⟨_, rfl, _, _, rfl, rfl, _, rfl, _, _, _, _, rfl, rfl, hrS, at0, by decide, fun t nt => ?_⟩
      have pt := Pt.new (o := .tup [V.str "either", V.str "again"]) nt
      refine ⟨_, _, rfl, .inr (.inl (.inl upd_same)), rfl, rfl, _, rfl, ?_⟩
      show if inV (V.str (wordR r)) [V.str "either", V.str "again"] = true then _ else _
      cases hi : (inner r).isEmpty with
      | true =>
        refine ifBF (by rw [word_in, hi]; rfl) ?_
        refine ⟨some (.ref ra), z, ?_, sm.trans (same_new nt)⟩
        rw [htk, List.isEmpty_iff.mp hi]
        rfl
      | false =>
        refine ifB (by rw [word_in, hi]; rfl) ?_
        have hin := inner_of hi hrt
        refine ⟨_, rfl, ?_⟩
        refine lc_into ?_
        refine ⟨_, rfl, 1, rfl, ra, _, rfl, pt.sq hrS, cut1_ne, fun p np => ⟨p, rfl, ⟨_, .inl (.inl upd_same)⟩, ?_⟩⟩
        have s2 := (same_new (o := .tup [V.str "either", V.str "again"]) nt).trans (same_new (o := .tup (cutV (V.str (wordR r) :: tl) (some 1) none)) np)
        have hpS : SqT K (upd (upd H' t (.tup [V.str "either", V.str "again"])) p (.tup (cutV (V.str (wordR r) :: tl) (some 1) none))) p tl := by
          have e : cutV (V.str (wordR r) :: tl) (some 1) none = tl := cut1
          rw [e]
          exact .inl (.inl upd_same)
        refine lc_overA (p := none) (as := inner r) (zs := tl) (Rel := fun _ c y => y = .int ((rowsB c).length : Nat)) it_tup ?_ (fun _ _ _ _ _ h => h) (fun _ h => nomatch h) ?_ (fun H' _ pt => pt.sq hpS) ?_ ?_
        · rw [hin.len, List.length_map]
        · rw [hin.len, List.length_map]
          cases r <;> simp [inner] at hi ⊢ <;> decide
        · intro j z cb hz hcb H3 kq pt3 R kR
          obtain ⟨cb', hcb', tc⟩ := ((hin.pt s2.pt).pt pt3).nthB hz
          rw [hcb] at hcb'
          cases hcb'
          have hcm : cb ∈ inner r := List.mem_of_getElem? hcb
          have hle2 := fm_le1 (f := rowsB) hcb
          have hdp : depB cb < n := by
            have := dep_inner hcm
            have := depB_mem hrm
            omega
          have hln : (rowsB cb).length ≤ 1000 := by
            rw [rowsR_eq, List.length_append, List.length_cons] at hle
            rw [List.length_append] at hle2
            omega
          exact ⟨rfl, _, rfl, z, cb, rfl, tc, hdp, hln, fun H4 s4 => kR _ _ (Same.kq s4) s4.pt rfl⟩
        · intro D ys H3 kq pt3 nD hD all
          have e := All2.map all
          subst e
          have hsum : (((inner r).map fun c => ((rowsB c).length : Nat)).map fun m : Nat => (m : Int)).sum = (((inner r).flatMap rowsB).length : Nat) := by
            induction inner r with
            | nil => rfl
            | cons c l ih =>
              rw [List.map_cons, List.map_cons, List.sum_cons, ih, List.flatMap_cons, List.length_append]
              omega
          refine ⟨D, ((inner r).map fun c => ((rowsB c).length : Nat)).map fun m : Nat => (m : Int), rfl, SqL.of (by rw [hD, List.map_map, List.map_map]; rfl), ?_⟩
          rw [hsum]
          refine ⟨_, _, rfl, rfl, some (.ref ra), z, ?_, (sm.trans s2).trans kq.same⟩
          rw [htk]
          show [_, some (V.int (_ + 1 + _)), _, _] = _
          congr 3
    · rintro σ' H' ⟨y, z, rfl, sm⟩
      have e : (b.take xs.length).flatMap rowsR = rowsB b := by rw [hxl, List.take_length, ← rowsB_eq]
      rw [e]
      exact ⟨_, rfl, k H' sm⟩
end
end K25
set_option Elab.async false
set_option linter.all false
set_option maxRecDepth 100000
set_option maxHeartbeats 4000000
namespace K25
open PySem PySem.Spec PyProof.Rows L2 ZX PM ZR
abbrev sLInner : Stmt := top 51
/-- all names are words -/
def NmB (ws : List Str) (b : List Rw) : Prop := ∀ x ∈ (rowsB b).flatMap namesR, x ∈ ws
def NmR (ws : List Str) (r : Rw) : Prop := ∀ x ∈ (rowsR r).flatMap namesR, x ∈ ws
theorem NmB.nil {ws : List Str} : NmB ws [] := fun x h => nomatch h
theorem rowsB_snoc (b : List Rw) (r : Rw) : rowsB (b ++ [r]) = rowsB b ++ rowsR r := by
  rw [rowsB_eq, rowsB_eq, List.flatMap_append]
  simp
theorem dB_snoc (b : List Rw) (r : Rw) : dB (b ++ [r]) = dB b ++ [dR r] := by
  rw [dB_eq, dB_eq, List.map_append]
  rfl
theorem NmB.snoc {ws : List Str} {b : List Rw} {r : Rw} (h : NmB ws b) (k : NmR ws r) : NmB ws (b ++ [r]) := fun x hx => by
  rw [rowsB_snoc, List.flatMap_append] at hx
  exact (List.mem_append.mp hx).elim (h x) (k x)
theorem okB_snoc {d : Nat} {r : Rw} : ∀ {b : List Rw}, okB d b → okR d r → okB d (b ++ [r])
  | [], _, k => ⟨k, trivial⟩
  | _ :: _, h, k => ⟨h.1, okB_snoc h.2 k⟩
theorem NmR.either {ws : List Str} {a b : List Rw} (h : NmB ws a) (k : NmB ws b) : NmR ws (.either a b) := fun x hx => by
  rw [rowsR, List.flatMap_cons, List.flatMap_append] at hx
  rcases List.mem_append.mp hx with hx | hx
  · cases hx
  · exact (List.mem_append.mp hx).elim (h x) (k x)
theorem NmR.again {ws : List Str} {a : List Rw} (h : NmB ws a) : NmR ws (.again a) := fun x hx => by
  rw [rowsR, List.flatMap_cons] at hx
  rcases List.mem_append.mp hx with hx | hx
  · cases hx
  · exact h x hx
/-- a plain row that was drawn -/
theorem DrR.ok {ws os : List Str} {r : Rw} {d : Nat} (h : DrR ws os r) (hi : inner r = []) (hw : ∀ x ∈ ws, NameOk x) (ho : ∀ x ∈ os, NameOk x) : okR d r ∧ NmR ws r ∧ (rowsR r).length = 1 := by
  have e : rowsR r = [r] := by rw [rowsR_eq, hi]; rfl
  have nm : (∀ x ∈ namesR r, x ∈ ws) → NmR ws r := fun q x hx => by
    rw [e, List.flatMap_cons, List.flatMap_nil, List.append_nil] at hx
    exact q x hx
  cases r with
  | note x o ps => exact ⟨⟨hw _ h.1, ho _ h.2.1, h.2.2.1, fun y hy => hw _ (h.2.2.2 y hy)⟩, nm fun y hy => (List.mem_cons.mp hy).elim (fun e => e ▸ h.1) (h.2.2.2 y), by rw [e]; rfl⟩
  | copy x y => exact ⟨⟨hw _ h.1, hw _ h.2⟩, nm fun z hz => by
      simp [namesR] at hz
      rcases hz with rfl | rfl
      · exact h.1
      · exact h.2, by rw [e]; rfl⟩
  | give x i => exact ⟨hw _ h, nm fun z hz => by
      simp [namesR] at hz
      subst hz
      exact h, by rw [e]; rfl⟩
  | ask x => exact ⟨hw _ h, nm fun z hz => by
      simp [namesR] at hz
      subst hz
      exact h, by rw [e]; rfl⟩
  | prt x => exact ⟨hw _ h, nm fun z hz => by
      simp [namesR] at hz
      subst hz
      exact h, by rw [e]; rfl⟩
  | either a b => cases hi
  | again a => cases hi
/-- a block that was drawn within a row -/
structure DrnI (ws : List Str) (d : Nat) (b : List Rw) : Prop where
  ok2 : okB 2 b
  ok3 : d = 3 → okB 3 b
  nm : NmB ws b
  le : (rowsB b).length ≤ if d = 2 then 20 else 2
  l4 : b.length ≤ 4
theorem DrnI.nil {ws : List Str} {d : Nat} : DrnI ws d [] := ⟨trivial, fun _ => trivial, .nil, Nat.zero_le _, Nat.zero_le _⟩
def spLInner (K : PySem.W.Frag) (n : Nat) : Sp := fun vs H Q _ => ∃ (p c wa oa : Addr) (ws os : List Str) (d : Nat), vs = [.ref p, .ref wa, .ref oa, .int d] ∧ Two H p c wa oa ws os ∧ (∀ x ∈ ws, NameOk x) ∧ (∀ x ∈ os, NameOk x) ∧ 2 ≤ d ∧ d ≤ 3 ∧ d + n = 4 ∧
  ∀ v b H', HandAt H' p c → Kp p H H' → BV K H' v b → DrnI ws d b → Q v H'
/-- what stands between two turns -/
structure InB (K : PySem.W.Frag) (p c l : Addr) (ws : List Str) (d : Nat) (H0 : Hp) (i : Nat) (us : List V) (b : List Rw) (H : Hp) : Prop where
  hh : HandAt H p c
  kp : Kp p H0 H
  hl : H l = some (.lst us)
  hu : Tvs K H us (dB b)
  ok2 : okB 2 b
  ok3 : d = 3 → okB 3 b
  nm : NmB ws b
  le : (rowsB b).length ≤ (if d = 2 then 5 else 1) * i
  ln : b.length ≤ i
theorem InB.mv {K : PySem.W.Frag} {p c l : Addr} {ws : List Str} {d : Nat} {H0 : Hp} {i : Nat} {us : List V} {b : List Rw} {H H' : Hp} (h : InB K p c l ws d H0 i us b H) (ne : l ≠ p) (hh : HandAt H' p c) (k : Kp p H H') : InB K p c l ws d H0 i us b H' :=
  ⟨hh, h.kp.trans k, k _ _ ne h.hl, h.hu.pt (h.hh.pt k), h.ok2, h.ok3, h.nm, h.le, h.ln⟩
theorem InB.app {K : PySem.W.Frag} {p c l : Addr} {ws : List Str} {d : Nat} {H0 : Hp} {i : Nat} {us : List V} {b : List Rw} {H : Hp} (h : InB K p c l ws d H0 i us b H) (hh0 : HandAt H0 p c) (nl : H0 l = none) {v : V} {r : Rw} (tv : RV K H v r) (o2 : okR 2 r) (o3 : d = 3 → okR 3 r) (nm : NmR ws r) (le : (rowsR r).length ≤ if d = 2 then 5 else 1) :
    InB K p c l ws d H0 (i + 1) (us ++ [v]) (b ++ [r]) (upd H l (.lst (us ++ [v]))) := by
  refine ⟨h.hh.away hh0 nl, fun b' u nb e => ?_, upd_same, ?_, okB_snoc h.ok2 o2, fun e => okB_snoc (h.ok3 e) (o3 e), h.nm.snoc nm, ?_, ?_⟩
  · rw [upd_ne (ne_of_none e nl)]
    exact h.kp b' u nb e
  · rw [dB_snoc]
    exact Tvs.app (h.hu.pt (Pt.lst h.hl)) (.cons (tv.pt (Pt.lst h.hl)) .nil)
  · rw [rowsB_snoc, List.length_append, Nat.mul_succ]
    exact Nat.add_le_add h.le le
  · rw [List.length_append]
    have := h.ln
    show b.length + 1 ≤ i + 1
    omega
def InMid (K : PySem.W.Frag) (p c wa oa l : Addr) (ws : List Str) (d : Nat) (H0 : Hp) (i : Nat) (σ : L2.St) (H : Hp) : Prop := ∃ (us : List V) (b : List Rw) (y5 y6 y7 y8 : Option V),
  σ = [some (.ref p), some (.ref wa), some (.ref oa), some (.int d), some (.ref l), y5, y6, y7, y8] ∧ InB K p c l ws d H0 i us b H
section
variable {P : Program} {w : World} {K : PySem.W.Frag} {mg : Str → Option Value} {base : Heap}
theorem scInner : FnScope ["_law_hand_here", "_law_menu", "_law_ops", "_law_deep_here", "_law_found", "_law_turn", "_law_kind", "_law_one", "_law_two"] ["_law_hand_here", "_law_menu", "_law_ops", "_law_deep_here"] (defScope sLInner) := ⟨rfl, rfl, rfl, by decide +kernel, rfl, by decide +kernel, by decide +kernel⟩
theorem ok_linner0 {f : Addr} {fd : FuncData} (k : Nat) : FnOk P w K mg base CX0 k f fd ["_law_hand_here", "_law_menu", "_law_ops", "_law_deep_here"] (spLInner K 0) :=
  ⟨fun vs H Q E h => by
    obtain ⟨_, _, _, _, _, _, d, _, _, _, _, h1, h2, h3, _⟩ := h
    omega, fun A outer s H args us vs Q E hr e0 hb r h => by
    obtain ⟨_, _, _, _, _, _, d, _, _, _, _, h1, h2, h3, _⟩ := h
    omega⟩
theorem ok_linner1 {n : Nat} {f : Addr} {fd : FuncData} (F : FnP K "_law_inner" sLInner f fd) (T : Bi mg) (C__law_draw : Cal P w K mg base "_law_draw" 1 ["_law_hand_here", "_law_many"] spDraw) (C__law_plain : Cal P w K mg base "_law_plain" 3 ["_law_hand_here", "_law_menu", "_law_ops"] (spLPlain K))
    (C__law_inner : Cal P w K mg base "_law_inner" (n + 3) ["_law_hand_here", "_law_menu", "_law_ops", "_law_deep_here"] (spLInner K n)) : FnOk P w K mg base CX0 (n + 4) f fd ["_law_hand_here", "_law_menu", "_law_ops", "_law_deep_here"] (spLInner K (n + 1)) := by
  refine F.ok scInner (fun vs H Q E h => ?_) (fun cdv A outer s H vs Q E hr h => ?_)
  · obtain ⟨p, c, wa, oa, ws, os, d, rfl, _⟩ := h
    rfl
  · obtain ⟨p, c, wa, oa, ws, os, d, rfl, t0, hw, ho, d2, d3, dn, k⟩ := h
    have hr__law_draw := hr.mono (show 1 ≤ n + 3 by omega)
    have hr__law_plain := hr.mono (show 3 ≤ n + 3 by omega)
    have hr__law_inner := hr
    refine ⟨_, PSs.nox (pss_cons (ps_set (i := 4) scInner.nd rfl (Or.inl rfl) (pe_lst pa_nil))
    (pss_cons (ps_for PassesOwn.never rfl (pi_range1 rfl T.b_range (pa_cons (pe_op op_add pe_int (pcal C__law_draw hr__law_draw rfl (pa_cons (pv 0) (pa_cons (pe_cut (pe_ifExp (pt_cmpR op_eq (pv 3) pe_int (nomark _)) pe_int pe_int)) pa_nil)))) pa_nil)) (pg_name (i := 5) scInner.nd rfl (Or.inl rfl)) (pss_cut (ps_set (i := 6) scInner.nd rfl (Or.inl rfl) (pcal C__law_draw hr__law_draw rfl (pa_cons (pv 0) (pa_cons pe_int pa_nil))))
      (pss_one (ps_if (pt_cut (PW.pt (pw_and (pt_cmpR op_eq (pv 3) pe_int (nomark _)) (pw_and1 (pt_cmpR op_eq (pv 6) pe_int (nomark _)))))) (pss_cut (ps_set (i := 7) scInner.nd rfl (Or.inl rfl) (pcal C__law_inner hr__law_inner rfl (pa_cons (pv 0) (pa_cons (pv 1) (pa_cons (pv 2) (pa_cons pe_int pa_nil))))))
        (pss_cut (ps_set (i := 8) scInner.nd rfl (Or.inl rfl) (pe_ifExp (pt_cmpR op_eq (pcal C__law_draw hr__law_draw rfl (pa_cons (pv 0) (pa_cons pe_int pa_nil))) pe_int (nomark _)) (pe_tup pa_nil) (pcal C__law_inner hr__law_inner rfl (pa_cons (pv 0) (pa_cons (pv 1) (pa_cons (pv 2) (pa_cons pe_int pa_nil)))))))
        (pss_one (ps_expr (pe_bm PySem.F.plainAttrs_list PySem.F.slot_list_append PySem.F.type_list_append mt_append (pv 4) (pa_cons (pe_cut (pe_ifExp (pt_cmpR op_eq (pcal C__law_draw hr__law_draw rfl (pa_cons (pv 0) (pa_cons pe_int pa_nil))) pe_int (nomark _)) (pe_tup (pa_cons pe_str (pa_cons (pv 7) (pa_cons (pv 8) pa_nil)))) (pe_tup (pa_cons pe_str (pa_cons (pv 8) (pa_cons (pv 7) pa_nil)))))) pa_nil)))))) (pss_one (ps_if (pt_cut (PW.pt (pw_and (pt_cmpR op_eq (pv 3) pe_int (nomark _)) (pw_and1 (pt_cmpR op_eq (pv 6) pe_int (nomark _)))))) (pss_one (ps_expr (pe_bm PySem.F.plainAttrs_list PySem.F.slot_list_append PySem.F.type_list_append mt_append (pv 4) (pa_cons (pe_tup (pa_cons pe_str (pa_cons (pcal C__law_inner hr__law_inner rfl (pa_cons (pv 0) (pa_cons (pv 1) (pa_cons (pv 2) (pa_cons pe_int pa_nil))))) pa_nil))) pa_nil)))) (pss_one (ps_expr (pe_bm PySem.F.plainAttrs_list PySem.F.slot_list_append PySem.F.type_list_append mt_append (pv 4) (pa_cons (pcal C__law_plain hr__law_plain rfl (pa_cons (pv 0) (pa_cons (pv 1) (pa_cons (pv 2) pa_nil)))) pa_nil))))))))))
    (pss_one (ps_ret (pe_callTy call_tuple_of (by rfl) T.b_tuple (by decide +kernel) (pa_cons (pv 4) pa_nil)))))), ?_⟩
    refine ⟨by decide, fun l nl => ?_⟩
    have sl := same_new (o := .lst []) nl
    have nlp : l ≠ p := by
      obtain ⟨o, e⟩ := t0.hh.some
      exact (ne_of_none e nl).symm
    refine ⟨_, rfl, ?_⟩
    refine ⟨fun v H' => (∃ j : Int, v = .int j ∧ (j = 4 ∧ d = 2 ∨ j = 2)) ∧ H' = upd H l (.lst []), ?_, ?_⟩
    · refine ⟨_, rfl, rfl, _, rfl, ?_⟩
      refine ite2 (fun e => ?_) (fun _ => ?_)
      · exact ⟨⟨4, rfl, .inl ⟨rfl, by
          have := V.int.inj (of_decide_eq_true e)
          omega⟩⟩, rfl⟩
      · exact ⟨⟨2, rfl, .inr rfl⟩, rfl⟩
    rintro v H1 ⟨⟨j, rfl, hj⟩, rfl⟩
    refine ⟨p, c, j, rfl, t0.hh.kp sl, by omega, by omega, fun e H2 e0 ej hh2 ch2 => ?_⟩
    refine ⟨_, _, rfl, rfl, _, rfl, by omega, by omega, ?_⟩
    refine for_range (fun i => InMid K p c wa oa l ws d H i) ⟨[], [], _, _, _, _, rfl, hh2, sl.kp.trans ch2.kp, by rw [ch2 l nlp]; exact upd_same, .nil, trivial, fun _ => trivial, .nil, Nat.zero_le _, Nat.zero_le _⟩ ?_ ?_
    · rintro i σ' H' hi ⟨us, b, y5, y6, y7, y8, rfl, B0⟩
      refine ⟨fun σ3 H3 => ∃ m : Int, σ3 = [some (.ref p), some (.ref wa), some (.ref oa), some (.int d), some (.ref l), some (.int (0 + (i : Nat))), some (.int m), y7, y8] ∧ InB K p c l ws d H i us b H3, ?_, ?_⟩
      · exact ⟨_, rfl, p, c, 6, rfl, B0.hh, by decide, by decide, fun m H3 _ _ hh3 ch3 => ⟨m, rfl, B0.mv nlp hh3 ch3.kp⟩⟩
      rintro σ3 H3 ⟨m, rfl, B1⟩
      have lus : us.length < sizeLine := by
        have e1 := B1.hu.len
        rw [dB_eq, List.length_map] at e1
        have := B1.ln
        exact Nat.lt_of_lt_of_le (show us.length < 5 by omega) (by decide)
      have t3 := t0.kp B1.hh B1.kp
      refine ⟨fun b' H' => H' = H3 ∧ (b' = true → d = 2), ?_, ?_⟩
      · refine ⟨_, rfl, rfl, _, rfl, ?_⟩
        refine ite2 (fun e => ?_) (fun _ => ⟨rfl, fun z => nomatch z⟩)
        exact ⟨_, rfl, rfl, _, rfl, rfl, fun _ => by
          have := V.int.inj (of_decide_eq_true e)
          omega⟩
      rintro b' H3' ⟨rfl, hb'⟩
      cases b' with
      | true =>
        have hd := hb' rfl
        subst hd
        refine ifB rfl ?_
        refine ⟨fun σ4 H4 => ∃ v1 b1, σ4 = [some (.ref p), some (.ref wa), some (.ref oa), some (.int (2 : Nat)), some (.ref l), some (.int (0 + (i : Nat))), some (.int m), some v1, y8] ∧ InB K p c l ws 2 H i us b H4 ∧ BV K H4 v1 b1 ∧ DrnI ws 3 b1, ?_, ?_⟩
        · exact ⟨_, rfl, _, rfl, _, rfl, p, c, wa, oa, ws, os, 3, rfl, t3, hw, ho, by decide, by decide, by omega, fun v1 b1 H4 hh4 k4 tv1 D1 => ⟨v1, b1, rfl, B1.mv nlp hh4 k4, tv1, D1⟩⟩
        rintro σ4 H4 ⟨v1, b1, rfl, B4, tv1, D1⟩
        refine ⟨fun σ5 H5 => ∃ v2 b2, σ5 = [some (.ref p), some (.ref wa), some (.ref oa), some (.int (2 : Nat)), some (.ref l), some (.int (0 + (i : Nat))), some (.int m), some v1, some v2] ∧ InB K p c l ws 2 H i us b H5 ∧ BV K H5 v1 b1 ∧ BV K H5 v2 b2 ∧ DrnI ws 3 b2, ?_, ?_⟩
        · refine ⟨_, rfl, p, c, 3, rfl, B4.hh, by decide, by decide, fun z H5 _ _ hh5 ch5 => ?_⟩
          have B5 := B4.mv nlp hh5 ch5.kp
          have tv5 := tv1.pt (B4.hh.pt ch5.kp)
          refine ⟨rfl, _, rfl, ?_⟩
          refine ite2 (fun _ => ?_) (fun _ => ?_)
          · refine ⟨by decide, fun q nq => ?_⟩
            have sq := same_new (o := .tup []) nq
            exact ⟨_, [], rfl, B5.mv nlp (B5.hh.kp sq) sq.kp, tv5.pt sq.pt, .tup (.inl (.inl upd_same)) .nil, .nil⟩
          · exact ⟨_, rfl, _, rfl, _, rfl, p, c, wa, oa, ws, os, 3, rfl, t0.kp B5.hh B5.kp, hw, ho, by decide, by decide, by omega, fun v2 b2 H6 hh6 k6 tv2 D2 => ⟨v2, b2, rfl, B5.mv nlp hh6 k6, tv5.pt (B5.hh.pt k6), tv2, D2⟩⟩
        rintro σ5 H5 ⟨v2, b2, rfl, B5, tv1, tv2, D2⟩
        refine ⟨_, rfl, .inl ⟨rfl, _, SqL.of B5.hl⟩, ?_⟩
        refine ⟨fun v H6 => ∃ r, InB K p c l ws 2 H i us b H6 ∧ RV K H6 v r ∧ okR 2 r ∧ NmR ws r ∧ (rowsR r).length ≤ 5, ?_, ?_⟩
        · refine ⟨_, rfl, p, c, 2, rfl, B5.hh, by decide, by decide, fun z H6 _ _ hh6 ch6 => ?_⟩
          have B6 := B5.mv nlp hh6 ch6.kp
          have pt6 := B5.hh.pt ch6.kp
          have l1 := D1.le
          have l2 := D2.le
          have m1 := D1.l4
          have m2 := D2.l4
          simp at l1 l2
          refine ⟨rfl, _, rfl, ?_⟩
          refine ite2 (fun _ => ?_) (fun _ => ?_)
          · refine ⟨_, rfl, _, rfl, by show 3 ≤ sizeLine; decide, fun q nq => ?_⟩
            have sq := same_new (o := .tup [V.str "either", v1, v2]) nq
            refine ⟨.either b1 b2, B6.mv nlp (B6.hh.kp sq) sq.kp, .tup (.inl (.inl upd_same)) (.cons (.str _) (.cons ((tv1.pt pt6).pt sq.pt) (.cons ((tv2.pt pt6).pt sq.pt) .nil))), ⟨by decide, by omega, by omega, D1.ok3 rfl, D2.ok3 rfl⟩, NmR.either D1.nm D2.nm, ?_⟩
            rw [rowsR, List.length_cons, List.length_append]
            omega
          · refine ⟨_, rfl, _, rfl, by show 3 ≤ sizeLine; decide, fun q nq => ?_⟩
            have sq := same_new (o := .tup [V.str "either", v2, v1]) nq
            refine ⟨.either b2 b1, B6.mv nlp (B6.hh.kp sq) sq.kp, .tup (.inl (.inl upd_same)) (.cons (.str _) (.cons ((tv2.pt pt6).pt sq.pt) (.cons ((tv1.pt pt6).pt sq.pt) .nil))), ⟨by decide, by omega, by omega, D2.ok3 rfl, D1.ok3 rfl⟩, NmR.either D2.nm D1.nm, ?_⟩
            rw [rowsR, List.length_cons, List.length_append]
            omega
        · rintro v H6 ⟨r, B6, tv, o2, nm, le⟩
          exact ⟨l, us, v, rfl, rfl, B6.hl, lus, us ++ [v], b ++ [r], _, _, _, _, rfl, B6.app t0.hh nl tv o2 (fun e => absurd e (by decide)) nm le⟩
      | false =>
        refine ifBF rfl ?_
        refine ⟨fun b' H' => H' = H3' ∧ (b' = true → d = 2), ?_, ?_⟩
        · refine ⟨_, rfl, rfl, _, rfl, ?_⟩
          refine ite2 (fun e => ?_) (fun _ => ⟨rfl, fun z => nomatch z⟩)
          exact ⟨_, rfl, rfl, _, rfl, rfl, fun _ => by
            have := V.int.inj (of_decide_eq_true e)
            omega⟩
        rintro b' H4 ⟨rfl, hb'⟩
        cases b' with
        | true =>
          have hd := hb' rfl
          subst hd
          refine ifB rfl ?_
          refine ⟨_, rfl, .inl ⟨rfl, _, SqL.of B1.hl⟩, _, rfl, _, rfl, _, rfl, p, c, wa, oa, ws, os, 3, rfl, t3, hw, ho, by decide, by decide, by omega, fun v1 b1 H5 hh5 k5 tv1 D1 => ⟨by show 2 ≤ sizeLine; decide, fun q nq => ?_⟩⟩
          have B5 := B1.mv nlp hh5 k5
          have sq := same_new (o := .tup [V.str "again", v1]) nq
          have l1 := D1.le
          have m1 := D1.l4
          simp at l1
          have B6 := B5.mv nlp (B5.hh.kp sq) sq.kp
          refine ⟨l, us, _, rfl, rfl, B6.hl, lus, us ++ [.ref q], b ++ [.again b1], _, _, _, _, rfl, B6.app t0.hh nl (r := .again b1) (.tup (.inl (.inl upd_same)) (.cons (.str _) (.cons (tv1.pt sq.pt) .nil))) ⟨by decide, by omega, D1.ok3 rfl⟩ (fun e => absurd e (by decide)) (NmR.again D1.nm) ?_⟩
          rw [rowsR, List.length_cons]
          simp
          omega
        | false =>
          refine ifBF rfl ?_
          refine ⟨_, rfl, .inl ⟨rfl, _, SqL.of B1.hl⟩, _, rfl, _, rfl, _, rfl, p, c, wa, oa, ws, os, rfl, t3, fun v r H5 hh5 k5 tv hi hdr => ?_⟩
          have B5 := B1.mv nlp hh5 k5
          have q2 := hdr.ok (d := 2) hi hw ho
          have q3 := hdr.ok (d := 3) hi hw ho
          refine ⟨l, us, v, rfl, rfl, B5.hl, lus, us ++ [v], b ++ [r], _, _, _, _, rfl, B5.app t0.hh nl tv q2.1 (fun _ => q3.1) q2.2.1 ?_⟩
          rw [q2.2.2]
          split <;> decide
    · rintro σ' H' ⟨us, b, y5, y6, y7, y8, rfl, B1⟩
      refine ⟨_, rfl, l, _, rfl, .inl ⟨SqL.of B1.hl, fun t nt => ?_⟩⟩
      have st := same_new (o := .tup us) nt
      refine k _ b _ (B1.hh.kp st) (B1.kp.same st) (.tup (.inl (.inl upd_same)) (B1.hu.pt st.pt)) ⟨B1.ok2, B1.ok3, B1.nm, ?_, ?_⟩
      · refine Nat.le_trans B1.le ?_
        rcases hj with ⟨rfl, rfl⟩ | rfl
        · show 5 * _ ≤ 20
          omega
        · split <;> omega
      · have := B1.ln
        omega
end
end K25
set_option Elab.async false
set_option linter.all false
set_option maxRecDepth 100000
set_option maxHeartbeats 4000000
namespace K25
open PySem PySem.Spec PyProof.Rows L2 ZX PM ZR
abbrev sLSmall : Stmt := top 52
abbrev sLWide : Stmt := top 53
theorem okB_app {d : Nat} : ∀ {a b : List Rw}, okB d a → okB d b → okB d (a ++ b)
  | [], _, _, k => k
  | _ :: _, _, h, k => ⟨h.1, okB_app h.2 k⟩
theorem rowsB_app (a b : List Rw) : rowsB (a ++ b) = rowsB a ++ rowsB b := by
  rw [rowsB_eq, rowsB_eq, rowsB_eq, List.flatMap_append]
theorem dB_app (a b : List Rw) : dB (a ++ b) = dB a ++ dB b := by
  rw [dB_eq, dB_eq, dB_eq, List.map_append]
theorem NmB.app {ws : List Str} {a b : List Rw} (h : NmB ws a) (k : NmB ws b) : NmB ws (a ++ b) := fun x hx => by
  rw [rowsB_app, List.flatMap_append] at hx
  exact (List.mem_append.mp hx).elim (h x) (k x)
theorem HandAt.free {H H' : Hp} {p c D : Addr} (hh : HandAt H' p c) (k : Kp p H H') (n : H' D = none) : H D = none := by
  cases e : H D with
  | none => rfl
  | some o =>
    have nD : D ≠ p := by
      obtain ⟨o', e'⟩ := hh.some
      exact (ne_of_none e' n).symm
    rw [k _ _ nD e] at n
    cases n
theorem HandAt.nep {H : Hp} {p c x : Addr} (hh : HandAt H p c) (n : H x = none) : x ≠ p := by
  obtain ⟨o, e⟩ := hh.some
  exact (ne_of_none e n).symm
/-- plain rows of some words -/
structure Pln (ws : List Str) (b : List Rw) : Prop where
  ok : ∀ d, okB d b
  nm : NmB ws b
  le : (rowsB b).length = b.length
theorem plain_blk {K : PySem.W.Frag} {H : Hp} {ws os : List Str} (hw : ∀ x ∈ ws, NameOk x) (ho : ∀ x ∈ os, NameOk x) {α : Type} : ∀ {n : List α} {ys : List V}, All2 (fun _ y => ∃ r, RV K H y r ∧ inner r = [] ∧ DrR ws os r) n ys → ∃ b, Tvs K H ys (dB b) ∧ b.length = n.length ∧ Pln ws b
  | _, _, .nil => ⟨[], .nil, rfl, fun _ => trivial, .nil, rfl⟩
  | _, _, .cons ⟨r, tr, hi, hd⟩ t => by
    obtain ⟨b, tb, hl, g⟩ := plain_blk hw ho t
    have q := hd.ok (d := 1) hi hw ho
    refine ⟨r :: b, .cons tr tb, by rw [List.length_cons, List.length_cons, hl], fun d => ⟨(hd.ok (d := d) hi hw ho).1, g.ok d⟩, fun x hx => ?_, ?_⟩
    · rw [rowsB, List.flatMap_append] at hx
      exact (List.mem_append.mp hx).elim (q.2.1 x) (g.nm x)
    · rw [rowsB, List.length_append, q.2.2, g.le, List.length_cons]
      omega
def spLSmall (K : PySem.W.Frag) : Sp := fun vs H Q _ => ∃ (p c : Addr), vs = [.ref p, .int 4] ∧ HandAt H p c ∧ ∀ v b H', HandAt H' p c → Kp p H H' → BV K H' v b → Good b → b ≠ [] → Q v H'
def spLWide (K : PySem.W.Frag) : Sp := fun vs H Q _ => ∃ (p c : Addr), vs = [.ref p] ∧ HandAt H p c ∧ ∀ v b H', HandAt H' p c → Kp p H H' → BV K H' v b → Good b → b ≠ [] → Q v H'
section
variable {P : Program} {w : World} {K : PySem.W.Frag} {mg : Str → Option Value} {base : Heap}
theorem scSmall : FnScope ["_law_hand_here", "_law_most", "_law_menu", "_law_ops", "_law_rows", "_law_k"] ["_law_hand_here", "_law_most"] (defScope sLSmall) := ⟨rfl, rfl, rfl, by decide +kernel, rfl, by decide +kernel, by decide +kernel⟩
theorem ok_lsmall {f : Addr} {fd : FuncData} (F : FnP K "_law_small" sLSmall f fd) (T : Bi mg) (C__law_draw : Cal P w K mg base "_law_draw" 1 ["_law_hand_here", "_law_many"] spDraw) (C__law_words : Cal P w K mg base "_law_words" 2 ["_law_hand_here", "_law_many"] spLWords) (C__law_plain : Cal P w K mg base "_law_plain" 3 ["_law_hand_here", "_law_menu", "_law_ops"] (spLPlain K))
    (C__law_inner : Cal P w K mg base "_law_inner" 5 ["_law_hand_here", "_law_menu", "_law_ops", "_law_deep_here"] (spLInner K 2)) : FnOk P w K mg base CX0 6 f fd ["_law_hand_here", "_law_most"] (spLSmall K) := by
  refine F.ok scSmall (fun vs H Q E h => ?_) (fun cdv A outer s H vs Q E hr h => ?_)
  · obtain ⟨p, c, rfl, _⟩ := h
    rfl
  · obtain ⟨p, c, rfl, hh0, k⟩ := h
    have hr__law_draw := hr.mono (show 1 ≤ 5 by decide)
    have hr__law_words := hr.mono (show 2 ≤ 5 by decide)
    have hr__law_plain := hr.mono (show 3 ≤ 5 by decide)
    have hr__law_inner := hr
    refine ⟨_, PSs.nox (pss_cons (ps_set (i := 2) scSmall.nd rfl (Or.inr rfl) (pcal C__law_words hr__law_words rfl (pa_cons (pv 0) (pa_cons (pe_op op_add pe_int (pcal C__law_draw hr__law_draw rfl (pa_cons (pv 0) (pa_cons (pv 1) pa_nil)))) pa_nil))))
    (pss_cons (ps_set (i := 3) scSmall.nd rfl (Or.inr rfl) (pcal C__law_words hr__law_words rfl (pa_cons (pv 0) (pa_cons pe_int pa_nil))))
    (pss_cons (ps_setLcS (i := 4) (own := [("_law_k", 5)]) (g := gName 5) (tt := tYes) rfl scSmall.nd rfl rfl (sw_true rfl rfl rfl (by decide +kernel)) (pi_range1 rfl T.b_range (pa_cons (pcal C__law_draw hr__law_draw rfl (pa_cons (pv 0) (pa_cons pe_int pa_nil))) pa_nil)) (blkOk_by (N := ["_law_hand_here", "_law_most", "_law_menu", "_law_ops", "_law_rows", "_law_k"]) (sc := defScope sLSmall) (by decide +kernel)) (fun _ _ _ _ _ => (pg_name (i := 5) scSmall.nd rfl (Or.inl rfl))) (fun _ _ _ _ _ => pts_nil) (fun _ _ _ _ _ => (pcal C__law_plain hr__law_plain rfl (pa_cons (pv 0) (pa_cons (pv 2) (pa_cons (pv 3) pa_nil))))))
    (pss_cons (ps_expr (pe_bm PySem.F.plainAttrs_list PySem.F.slot_list_append PySem.F.type_list_append mt_append (pv 4) (pa_cons (pe_tup (pa_cons pe_str (pa_cons (pcal C__law_inner hr__law_inner rfl (pa_cons (pv 0) (pa_cons (pv 2) (pa_cons (pv 3) (pa_cons pe_int pa_nil))))) pa_nil))) pa_nil)))
    (pss_cons (ps_expr (pe_bm PySem.F.plainAttrs_list PySem.F.slot_list_extend PySem.F.type_list_extend mt_extend (pv 4) (pa_cons (pe_lcS (own := [("_law_k", 5)]) (g := gName 5) (tt := tYes) (by rfl) scSmall.nd (pi_range1 rfl T.b_range (pa_cons (pcal C__law_draw hr__law_draw rfl (pa_cons (pv 0) (pa_cons pe_int pa_nil))) pa_nil)) (blkOk_by (N := ["_law_hand_here", "_law_most", "_law_menu", "_law_ops", "_law_rows", "_law_k"]) (sc := defScope sLSmall) (by decide +kernel)) (fun _ _ _ _ _ => (pg_name (i := 5) scSmall.nd rfl (Or.inl rfl))) (fun _ _ _ _ _ => pts_nil) (fun _ _ _ _ _ => (pcal C__law_plain hr__law_plain rfl (pa_cons (pv 0) (pa_cons (pv 2) (pa_cons (pv 3) pa_nil)))))) pa_nil)))
    (pss_one (ps_ret (pe_callTy call_tuple_of (by rfl) T.b_tuple (by decide +kernel) (pa_cons (pv 4) pa_nil))))))))), ?_⟩
    refine ⟨_, rfl, _, rfl, _, rfl, p, c, 4, rfl, hh0, by decide, by decide, fun m H1 m0 m4 hh1 ch1 => ?_⟩
    have em : (1 : Int) + m = ((m.toNat + 1 : Nat) : Int) := by omega
    refine ⟨_, _, rfl, rfl, ?_⟩
    refine ⟨p, c, m.toNat + 1, by rw [← em]; rfl, hh1, by omega, by omega, fun wa ws H2 hh2 k2 nwa hwa lws okw => ?_⟩
    refine ⟨_, rfl, p, c, 2, rfl, hh2, by decide, by decide, fun oa os H3 hh3 k3 noa hoa los oko => ?_⟩
    have nwp := hh1.nep nwa
    have t3 : Two H3 p c wa oa ws os := ⟨hh3, k3 _ _ nwp hwa, hoa, nwp, hh2.nep noa, fun e => by rw [e] at lws; simp at lws, fun e => by rw [e] at los; simp at los, by omega, by omega⟩
    have kp3 : Kp p H H3 := (ch1.kp.trans k2).trans k3
    refine lc_into ?_
    refine ⟨_, rfl, p, c, 3, rfl, hh3, by decide, by decide, fun n H4 n0 n3 hh4 ch4 => ⟨_, rfl, by omega, by omega, ?_⟩⟩
    have t4 := t3.kp hh4 ch4.kp
    have kp4 := kp3.trans ch4.kp
    refine lc_overI (p := some p) (as := List.range n.toNat) (Rel := fun H _ y => ∃ r, RV K H y r ∧ inner r = [] ∧ DrR ws os r) (fun H => HandAt H p c) it_range ?_ (fun _ _ _ _ pt ⟨r, h1, h2⟩ => ⟨r, h1.pt pt, h2⟩) (fun a e => by cases e; exact hh4.some) ?_ (fun D hD => hh4.new hD) (fun D H' o hD h => h.away hh4 hD) (fun _ _ _ _ => trivial) ?_ ?_
    · rw [List.length_map]
    · rw [List.length_map, List.length_range]
      exact Nat.lt_of_lt_of_le (show n.toNat < 3 by omega) (by decide)
    · intro i z e hz he H5 kq pt hh5 R kR
      have t5 := t4.kp hh5 kq.kp
      exact ⟨rfl, _, rfl, _, rfl, _, rfl, p, c, wa, oa, ws, os, rfl, t5, fun v r H6 hh6 k6 tv hi hd => kR _ _ (Kp.kq k6) (hh5.pt k6) hh6 ⟨r, tv, hi, hd⟩⟩
    intro D ys H5 kq5 pt5 hh5 nD hD all
    obtain ⟨b0, tb0, l0, g0⟩ := plain_blk okw oko all
    rw [List.length_range] at l0
    have kp5 := kp4.trans kq5.kp
    have nDH : H D = none := hh4.free kp4 nD
    have nDp := hh4.nep nD
    have t5 := t4.kp hh5 kq5.kp
    have lys : ys.length = b0.length := by rw [tb0.len, dB_eq, List.length_map]
    refine ⟨_, rfl, .inl ⟨rfl, _, SqL.of hD⟩, _, rfl, _, rfl, _, rfl, p, c, wa, oa, ws, os, 2, rfl, t5, okw, oko, by decide, by decide, rfl, fun v1 b1 H6 hh6 k6 tv1 D1 => ⟨by show 2 ≤ sizeLine; decide, fun q nq => ?_⟩⟩
    have sq := same_new (o := .tup [V.str "again", v1]) nq
    have hD6 := sq _ _ (k6 _ _ nDp hD)
    refine ⟨D, ys, _, rfl, rfl, hD6, Nat.lt_of_lt_of_le (show ys.length < 3 by omega) (by decide), ?_⟩
    have ptD := Pt.lst (o := .lst (ys ++ [V.ref q])) hD6
    have hh7 := (hh6.kp sq).away hh0 nDH (o := .lst (ys ++ [V.ref q]))
    have kp7 : Kp p H (upd (upd H6 q (.tup [V.str "again", v1])) D (.lst (ys ++ [V.ref q]))) := ((kp5.trans k6).same sq).fresh nDH
    have tb7 : Tvs K (upd (upd H6 q (.tup [V.str "again", v1])) D (.lst (ys ++ [V.ref q]))) (ys ++ [V.ref q]) (dB (b0 ++ [.again b1])) := by
      rw [dB_snoc]
      refine Tvs.app (((tb0.pt (hh5.pt k6)).pt sq.pt).pt ptD) (.cons ?_ .nil)
      exact Tv.pt ptD (.tup (.inl (.inl upd_same)) (.cons (.str _) (.cons (tv1.pt sq.pt) .nil)))
    have le1 := D1.le
    have l41 := D1.l4
    simp at le1
    have t7 : Two (upd (upd H6 q (.tup [V.str "again", v1])) D (.lst (ys ++ [V.ref q]))) p c wa oa ws os :=
      ⟨hh7, by rw [upd_ne (ne_of_none t4.hw nD)]; exact sq _ _ (k6 _ _ t5.nw t5.hw), by rw [upd_ne (ne_of_none t4.ho nD)]; exact sq _ _ (k6 _ _ t5.no t5.ho), t5.nw, t5.no, t5.ew, t5.eo, t5.lw, t5.lo⟩
    have nD7 : (upd (upd H6 q (.tup [V.str "again", v1])) D (.lst (ys ++ [V.ref q]))) D = some (.lst (ys ++ [V.ref q])) := upd_same
    generalize upd (upd H6 q (.tup [V.str "again", v1])) D (.lst (ys ++ [V.ref q])) = G at hh7 kp7 tb7 nD7 t7 ⊢
    refine ⟨_, rfl, .inl ⟨rfl, _, SqL.of nD7⟩, ?_⟩
    refine lc_into ?_
    refine ⟨_, rfl, p, c, 2, rfl, hh7, by decide, by decide, fun n' H8 n0' n2' hh8 ch8 => ⟨_, rfl, by omega, by omega, ?_⟩⟩
    have kp8 := kp7.trans ch8.kp
    have t8 := t7.kp hh8 ch8.kp
    have nD8 := ch8.kp _ _ nDp nD7
    have tb8 := tb7.pt (hh7.pt ch8.kp)
    refine lc_overI (p := some p) (as := List.range n'.toNat) (Rel := fun H _ y => ∃ r, RV K H y r ∧ inner r = [] ∧ DrR ws os r) (fun H => HandAt H p c) it_range ?_ (fun _ _ _ _ pt ⟨r, h1, h2⟩ => ⟨r, h1.pt pt, h2⟩) (fun a e => by cases e; exact hh8.some) ?_ (fun D hD => hh8.new hD) (fun D H' o hD h => h.away hh8 hD) (fun _ _ _ _ => trivial) ?_ ?_
    · rw [List.length_map]
    · rw [List.length_map, List.length_range]
      exact Nat.lt_of_lt_of_le (show n'.toNat < 2 by omega) (by decide)
    · intro i z e hz he H5 kq pt hh5 R kR
      have t5 := t8.kp hh5 kq.kp
      exact ⟨rfl, _, rfl, _, rfl, _, rfl, p, c, wa, oa, ws, os, rfl, t5, fun v r H6 hh6 k6 tv hi hd => kR _ _ (Kp.kq k6) (hh5.pt k6) hh6 ⟨r, tv, hi, hd⟩⟩
    intro D2 zs H9 kq9 pt9 hh9 nD2 hD2 all2
    obtain ⟨b2, tb2, l2, g2⟩ := plain_blk okw oko all2
    rw [List.length_range] at l2
    have kp9 := kp8.trans kq9.kp
    have hD9 := kq9.kp _ _ nDp nD8
    have lzs : zs.length = b2.length := by rw [tb2.len, dB_eq, List.length_map]
    refine ⟨D, D2, _, _, rfl, rfl, hD9, hD2, ?_, ?_⟩
    · rw [List.length_append]
      exact Nat.le_trans (show ys.length + 1 + zs.length ≤ 5 by omega) (by decide)
    have ptE := Pt.lst (o := .lst (ys ++ [V.ref q] ++ zs)) hD9
    have tbF := Tvs.app ((tb8.pt pt9).pt ptE) (tb2.pt ptE)
    rw [← dB_app] at tbF
    refine ⟨_, rfl, D, _, rfl, .inl ⟨SqL.of upd_same, fun t nt => ?_⟩⟩
    have st := same_new (o := .tup (ys ++ [V.ref q] ++ zs)) nt
    refine k _ (b0 ++ [.again b1] ++ b2) _ ((hh9.away hh0 nDH).kp st) ((kp9.fresh nDH).same st) (.tup (.inl (.inl upd_same)) (tbF.pt st.pt)) ⟨okB_app (okB_snoc (r := .again b1) (g0.ok 1) ⟨by decide, by omega, D1.ok2⟩) (g2.ok 1), ?_, ?_, fun zs hz => ?_⟩ (by simp)
    · rw [List.length_append, List.length_append]
      show b0.length + 1 + b2.length ≤ 12
      omega
    · rw [rowsB_app, rowsB_snoc, List.length_append, List.length_append, g0.le, g2.le, rowsR, List.length_cons]
      omega
    · have := hz.le (W := ws) ((g0.nm.snoc (NmR.again D1.nm)).app g2.nm)
      omega
end
end K25
set_option Elab.async false
set_option linter.all false
set_option maxRecDepth 100000
set_option maxHeartbeats 4000000
namespace K25
open PySem PySem.Spec PyProof.Rows L2 ZX PM ZR
/-- what stands between two turns -/
structure WdB (K : PySem.W.Frag) (p c wa oa : Addr) (ws os : List Str) (H0 : Hp) (i : Nat) (v : V) (b : List Rw) (H : Hp) : Prop where
  t : Two H p c wa oa ws os
  kp : Kp p H0 H
  tv : BV K H v b
  ok : okB 1 b
  nm : NmB ws b
  le : (rowsB b).length ≤ 30
  ln : b.length ≤ i
  ne : 1 ≤ i → b ≠ []
theorem WdB.mv {K : PySem.W.Frag} {p c wa oa : Addr} {ws os : List Str} {H0 : Hp} {i : Nat} {v : V} {b : List Rw} {H H' : Hp} (h : WdB K p c wa oa ws os H0 i v b H) (hh : HandAt H' p c) (k : Kp p H H') : WdB K p c wa oa ws os H0 i v b H' :=
  ⟨h.t.kp hh k, h.kp.trans k, h.tv.pt (h.t.hh.pt k), h.ok, h.nm, h.le, h.ln, h.ne⟩
/-- a row of the first block -/
structure TopR (ws : List Str) (r : Rw) : Prop where
  ok : okR 1 r
  nm : NmR ws r
  le : (rowsR r).length ≤ 30
section
variable {P : Program} {w : World} {K : PySem.W.Frag} {mg : Str → Option Value} {base : Heap}
theorem scWide : FnScope ["_law_hand_here", "_law_menu", "_law_ops", "_law_rows", "_law_turn", "_law_kind", "_law_row"] ["_law_hand_here"] (defScope sLWide) := ⟨rfl, rfl, rfl, by decide +kernel, rfl, by decide +kernel, by decide +kernel⟩
theorem ok_lwide {f : Addr} {fd : FuncData} (F : FnP K "_law_wide" sLWide f fd) (T : Bi mg) (C__law_draw : Cal P w K mg base "_law_draw" 1 ["_law_hand_here", "_law_many"] spDraw) (C__law_words : Cal P w K mg base "_law_words" 2 ["_law_hand_here", "_law_many"] spLWords) (C__law_plain : Cal P w K mg base "_law_plain" 3 ["_law_hand_here", "_law_menu", "_law_ops"] (spLPlain K))
    (C3 : Cal P w K mg base "_law_inner" 4 ["_law_hand_here", "_law_menu", "_law_ops", "_law_deep_here"] (spLInner K 1)) (C2 : Cal P w K mg base "_law_inner" 5 ["_law_hand_here", "_law_menu", "_law_ops", "_law_deep_here"] (spLInner K 2)) (C__law_size : Cal P w K mg base "_law_size" 5 ["_law_block"] (spLSize K 4)) : FnOk P w K mg base CX0 6 f fd ["_law_hand_here"] (spLWide K) := by
  refine F.ok scWide (fun vs H Q E h => ?_) (fun cdv A outer s H vs Q E hr h => ?_)
  · obtain ⟨p, c, rfl, _⟩ := h
    rfl
  · obtain ⟨p, c, rfl, hh0, k⟩ := h
    have hr__law_draw := hr.mono (show 1 ≤ 5 by decide)
    have hr__law_words := hr.mono (show 2 ≤ 5 by decide)
    have hr__law_plain := hr.mono (show 3 ≤ 5 by decide)
    have hr3 := hr.mono (show 4 ≤ 5 by decide)
    have hr__law_size := hr
    refine ⟨_, PSs.nox (pss_cons (ps_set (i := 1) scWide.nd rfl (Or.inl rfl) (pcal C__law_words hr__law_words rfl (pa_cons (pv 0) (pa_cons (pe_op op_add pe_int (pcal C__law_draw hr__law_draw rfl (pa_cons (pv 0) (pa_cons pe_int pa_nil)))) pa_nil))))
    (pss_cons (ps_set (i := 2) scWide.nd rfl (Or.inl rfl) (pcal C__law_words hr__law_words rfl (pa_cons (pv 0) (pa_cons pe_int pa_nil))))
    (pss_cons (ps_set (i := 3) scWide.nd rfl (Or.inl rfl) (pe_tup pa_nil))
    (pss_cons (ps_for PassesOwn.never rfl (pi_range1 rfl T.b_range (pa_cons (pe_op op_add pe_int (pcal C__law_draw hr__law_draw rfl (pa_cons (pv 0) (pa_cons pe_int pa_nil)))) pa_nil)) (pg_name (i := 4) scWide.nd rfl (Or.inl rfl)) (pss_cons (ps_set (i := 5) scWide.nd rfl (Or.inl rfl) (pcal C__law_draw hr__law_draw rfl (pa_cons (pv 0) (pa_cons pe_int pa_nil))))
      (pss_cut (ps_set (i := 6) scWide.nd rfl (Or.inl rfl) (pcal C__law_plain hr__law_plain rfl (pa_cons (pv 0) (pa_cons (pv 1) (pa_cons (pv 2) pa_nil)))))
      (pss_cut (ps_if (pt_cmpR op_eq (pv 5) pe_int (nomark _)) (pss_one (ps_set (i := 6) scWide.nd rfl (Or.inl rfl) (pe_tup (pa_cons pe_str (pa_cons (pcal C2 hr rfl (pa_cons (pv 0) (pa_cons (pv 1) (pa_cons (pv 2) (pa_cons pe_int pa_nil))))) pa_nil))))) (pss_one (ps_if (pt_cmpR op_eq (pv 5) pe_int (nomark _)) (pss_one (ps_set (i := 6) scWide.nd rfl (Or.inl rfl) (pe_tup (pa_cons pe_str (pa_cons (pcal C3 hr3 rfl (pa_cons (pv 0) (pa_cons (pv 1) (pa_cons (pv 2) (pa_cons pe_int pa_nil))))) (pa_cons (pcal C2 hr rfl (pa_cons (pv 0) (pa_cons (pv 1) (pa_cons (pv 2) (pa_cons pe_int pa_nil))))) pa_nil)))))) pss_nil)))
      (pss_one (ps_if (pt_cmpR op_le (pcal C__law_size hr__law_size rfl (pa_cons (pe_op op_catZ (pv 3) (pe_tup (pa_cons (pv 6) pa_nil))) pa_nil)) pe_int (nomark _)) (pss_one (ps_set (i := 3) scWide.nd rfl (Or.inl rfl) (pe_op op_catZ (pv 3) (pe_tup (pa_cons (pv 6) pa_nil))))) pss_nil))))))
    (pss_one (ps_ret (pv 3))))))), ?_⟩
    refine ⟨_, rfl, _, rfl, p, c, 8, rfl, hh0, by decide, by decide, fun m H1 m0 m4 hh1 ch1 => ?_⟩
    have em : (1 : Int) + m = ((m.toNat + 1 : Nat) : Int) := by omega
    refine ⟨_, _, rfl, rfl, ?_⟩
    refine ⟨p, c, m.toNat + 1, by rw [← em]; rfl, hh1, by omega, by omega, fun wa ws H2 hh2 k2 nwa hwa lws okw => ?_⟩
    refine ⟨_, rfl, p, c, 2, rfl, hh2, by decide, by decide, fun oa os H3 hh3 k3 noa hoa los oko => ?_⟩
    have nwp := hh1.nep nwa
    have t3 : Two H3 p c wa oa ws os := ⟨hh3, k3 _ _ nwp hwa, hoa, nwp, hh2.nep noa, fun e => by rw [e] at lws; simp at lws, fun e => by rw [e] at los; simp at los, by omega, by omega⟩
    have kp3 : Kp p H H3 := (ch1.kp.trans k2).trans k3
    refine ⟨by decide, fun q nq => ?_⟩
    have sq := same_new (o := .tup []) nq
    have hhq := hh3.kp sq
    refine ⟨_, rfl, p, c, 8, rfl, hhq, by decide, by decide, fun n H4 n0 n8 hh4 ch4 => ?_⟩
    refine ⟨_, _, rfl, rfl, _, rfl, by omega, by omega, ?_⟩
    refine for_range (fun i σ' H' => ∃ v b y4 y5 y6, σ' = [some (.ref p), some (.ref wa), some (.ref oa), some v, y4, y5, y6] ∧ WdB K p c wa oa ws os H i v b H') ⟨.ref q, [], _, _, _, rfl, (t3.same sq).kp hh4 ch4.kp, (kp3.same sq).trans ch4.kp, Tv.pt (hhq.pt ch4.kp) (.tup (.inl (.inl upd_same)) .nil), trivial, .nil, Nat.zero_le _, Nat.zero_le _, fun h => absurd h (by decide)⟩ ?_ ?_
    · rintro i σ' H' hi ⟨v, b, y4, y5, y6, rfl, B0⟩
      refine ⟨_, rfl, p, c, 6, rfl, B0.t.hh, by decide, by decide, fun d H5 _ _ hh5 ch5 => ?_⟩
      have B1 := B0.mv hh5 ch5.kp
      refine ⟨fun σ6 H6 => ∃ u r, σ6 = [some (.ref p), some (.ref wa), some (.ref oa), some v, some (.int (0 + (i : Nat))), some (.int d), some u] ∧ WdB K p c wa oa ws os H i v b H6 ∧ RV K H6 u r ∧ TopR ws r, ?_, ?_⟩
      · refine ⟨_, rfl, _, rfl, _, rfl, p, c, wa, oa, ws, os, rfl, B1.t, fun u r H6 hh6 k6 tv hi hd => ?_⟩
        have q := hd.ok (d := 1) hi okw oko
        exact ⟨u, r, rfl, B1.mv hh6 k6, tv, q.1, q.2.1, by rw [q.2.2]; decide⟩
      rintro σ6 H6 ⟨u, r, rfl, B6, tr, R6⟩
      refine ⟨fun σ6 H6 => ∃ u r, σ6 = [some (.ref p), some (.ref wa), some (.ref oa), some v, some (.int (0 + (i : Nat))), some (.int d), some u] ∧ WdB K p c wa oa ws os H i v b H6 ∧ RV K H6 u r ∧ TopR ws r, ?_, ?_⟩
      · refine ⟨_, rfl, rfl, _, rfl, ?_⟩
        refine ite2 (fun _ => ?_) (fun _ => ?_)
        · refine ⟨_, rfl, _, rfl, _, rfl, p, c, wa, oa, ws, os, 2, rfl, B6.t, okw, oko, by decide, by decide, rfl, fun v1 b1 H7 hh7 k7 tv1 D1 => ⟨by show 2 ≤ sizeLine; decide, fun q nq => ?_⟩⟩
          have sq := same_new (o := .tup [V.str "again", v1]) nq
          have l1 := D1.le
          have m1 := D1.l4
          simp at l1
          refine ⟨_, .again b1, rfl, (B6.mv hh7 k7).mv (hh7.kp sq) sq.kp, .tup (.inl (.inl upd_same)) (.cons (.str _) (.cons (tv1.pt sq.pt) .nil)), ⟨by decide, by omega, D1.ok2⟩, NmR.again D1.nm, ?_⟩
          rw [rowsR, List.length_cons]
          omega
        · refine ⟨_, rfl, rfl, _, rfl, ?_⟩
          refine ite2 (fun _ => ?_) (fun _ => ⟨u, r, rfl, B6, tr, R6⟩)
          refine ⟨_, rfl, _, rfl, _, rfl, p, c, wa, oa, ws, os, 3, rfl, B6.t, okw, oko, by decide, by decide, rfl, fun v1 b1 H7 hh7 k7 tv1 D1 => ?_⟩
          have B7 := B6.mv hh7 k7
          refine ⟨_, rfl, _, rfl, _, rfl, p, c, wa, oa, ws, os, 2, rfl, B7.t, okw, oko, by decide, by decide, rfl, fun v2 b2 H8 hh8 k8 tv2 D2 => ⟨by show 3 ≤ sizeLine; decide, fun q nq => ?_⟩⟩
          have sq := same_new (o := .tup [V.str "either", v1, v2]) nq
          have l1 := D1.le
          have m1 := D1.l4
          have l2 := D2.le
          have m2 := D2.l4
          simp at l1 l2
          refine ⟨_, .either b1 b2, rfl, (B7.mv hh8 k8).mv (hh8.kp sq) sq.kp, .tup (.inl (.inl upd_same)) (.cons (.str _) (.cons ((tv1.pt (hh7.pt k8)).pt sq.pt) (.cons (tv2.pt sq.pt) .nil))), ⟨by decide, by omega, by omega, D1.ok2, D2.ok2⟩, NmR.either D1.nm D2.nm, ?_⟩
          rw [rowsR, List.length_cons, List.length_append]
          omega
      rintro σ6 H6 ⟨u, r, rfl, B6, tr, R6⟩
      obtain ⟨a, xs, rfl, hS, ht⟩ := B6.tv.tupI
      have hxl : xs.length = b.length := by rw [ht.len, dB_eq, List.length_map]
      have hln := B6.ln
      have cat : ∀ {q' : Addr} {G : Hp}, Same H6 G → SqT K G q' (xs ++ [u]) → BV K G (.ref q') (b ++ [r]) := fun s h => .tup h (by
        rw [dB_snoc]
        exact Tvs.app (ht.pt s.pt) (.cons (tr.pt s.pt) .nil))
      refine ⟨_, rfl, _, rfl, by show 1 ≤ sizeLine; decide, fun t nt => ?_⟩
      have st := same_new (o := .tup [u]) nt
      refine ⟨a, t, xs, [u], rfl, rfl, st.pt.sq hS, .inl (.inl upd_same), Nat.le_trans (show xs.length + 1 ≤ 20 by omega) (by decide), fun q' G sG hG => ?_⟩
      have sG6 := st.trans sG
      have lle : (rowsB (b ++ [r])).length ≤ 1000 := by
        rw [rowsB_snoc, List.length_append]
        have := B6.le
        have := R6.le
        omega
      have okn := okB_snoc B6.ok R6.ok
      refine ⟨.ref q', b ++ [r], rfl, cat sG6 hG, by have := ok_depB okn (by decide); omega, lle, fun G2 s2 => ?_⟩
      refine ⟨_, _, rfl, rfl, _, rfl, ?_⟩
      have sG2 := sG6.trans s2
      have BG := B6.mv (B6.t.hh.kp sG2) sG2.kp
      have small : b = [] → (((rowsB (b ++ [r])).length : Nat) : Int) ≤ 30 := fun eb => by
        have := R6.le
        rw [eb]
        show (((rowsB [r]).length : Nat) : Int) ≤ 30
        have e1 : rowsB [r] = rowsR r := List.append_nil _
        rw [e1]
        omega
      refine ite2 (fun e => ?_) (fun e => ⟨_, b, _, _, _, rfl, BG.t, BG.kp, BG.tv, BG.ok, BG.nm, BG.le, by have := BG.ln; omega, fun _ eb => e (decide_eq_true (small eb))⟩)
      have e30 : (((rowsB (b ++ [r])).length : Nat) : Int) ≤ 30 := of_decide_eq_true e
      refine ⟨_, rfl, _, rfl, by show 1 ≤ sizeLine; decide, fun t2 nt2 => ?_⟩
      have st2 := same_new (o := .tup [u]) nt2
      refine ⟨a, t2, xs, [u], rfl, rfl, st2.pt.sq (sG2.pt.sq hS), .inl (.inl upd_same), Nat.le_trans (show xs.length + 1 ≤ 20 by omega) (by decide), fun q2 G3 s3 h3 => ?_⟩
      have sG3 := (sG2.trans st2).trans s3
      have B3 := B6.mv (B6.t.hh.kp sG3) sG3.kp
      refine ⟨_, b ++ [r], _, _, _, rfl, B3.t, B3.kp, cat sG3 h3, okn, B6.nm.snoc R6.nm, by omega, ?_, fun _ => by simp⟩
      rw [List.length_append]
      show b.length + 1 ≤ i + 1
      omega
    · rintro σ' H' ⟨v, b, y4, y5, y6, rfl, B1⟩
      have := B1.ln
      exact ⟨_, rfl, k v b H' B1.t.hh B1.kp B1.tv ⟨B1.ok, by omega, B1.le, fun ys hy => by have := hy.le B1.nm; omega⟩ (B1.ne (by omega))⟩
end
end K25
set_option Elab.async false
set_option linter.all false
set_option maxRecDepth 100000
set_option maxHeartbeats 4000000
namespace PM
open PySem PySem.Spec PyProof.Rows L2 ZX ZR
theorem strOk_name {x : Str} (h : NameOk x) : PyData.strOk x = true := by
  show x.cps.all (fun c => decide (c < 0x110000)) = true
  rw [← Array.all_toList]
  exact List.all_eq_true.mpr fun c hc => decide_eq_true (by have := (h.2.2 c hc).2; omega)
theorem lay_strs : ∀ {ps : List Str}, (∀ y ∈ ps, NameOk y) → PyData.canLayAll0 (ps.map .str) = true
  | [], _ => rfl
  | x :: ps, h => by
    show (PyData.strOk x && PyData.canLayAll0 (ps.map .str)) = true
    rw [strOk_name (h x List.mem_cons_self), lay_strs fun y hy => h y (List.mem_cons_of_mem _ hy)]
    rfl
theorem dep_strs : ∀ {ps : List Str}, PyData.depthAll (ps.map .str) = 0
  | [] => rfl
  | x :: ps => by
    show max 0 (PyData.depthAll (ps.map .str)) = 0
    rw [dep_strs]
    rfl
theorem lay_word {a : String} (h : PyData.strOk (Str.ofString a) = true) (ds : List PyData) : PyData.canLay0 (.tuple (.str (Str.ofString a) :: ds)) = PyData.canLayAll0 ds := by
  show (PyData.strOk (Str.ofString a) && PyData.canLayAll0 ds) = _
  rw [h, Bool.true_and]
mutual
theorem lay_dR : ∀ {d : Nat} {r : Rw}, okR d r → (dR r).canLay0 = true
  | d, .note x o ps, h => by
    rw [dR, lay_word (by decide +kernel)]
    show (PyData.strOk x && (PyData.strOk o && (PyData.canLayAll0 (ps.map .str) && true))) = true
    rw [strOk_name h.1, strOk_name h.2.1, lay_strs h.2.2.2]
    rfl
  | d, .copy x y, h => by
    rw [dR, lay_word (by decide +kernel)]
    show (PyData.strOk x && (PyData.strOk y && true)) = true
    rw [strOk_name h.1, strOk_name h.2]
    rfl
  | d, .give x i, h => by
    rw [dR, lay_word (by decide +kernel)]
    show (PyData.strOk x && (true && true)) = true
    rw [strOk_name h]
    rfl
  | d, .ask x, h => by
    rw [dR, lay_word (by decide +kernel)]
    show (PyData.strOk x && true) = true
    rw [strOk_name h]
    rfl
  | d, .prt x, h => by
    rw [dR, lay_word (by decide +kernel)]
    show (PyData.strOk x && true) = true
    rw [strOk_name h]
    rfl
  | d, .either a b, h => by
    rw [dR, lay_word (by decide +kernel)]
    show (PyData.canLayAll0 (dB a) && (PyData.canLayAll0 (dB b) && true)) = true
    rw [lay_dB h.2.2.2.1, lay_dB h.2.2.2.2]
    rfl
  | d, .again a, h => by
    rw [dR, lay_word (by decide +kernel)]
    show (PyData.canLayAll0 (dB a) && true) = true
    rw [lay_dB h.2.2]
    rfl
theorem lay_dB : ∀ {d : Nat} {b : List Rw}, okB d b → PyData.canLayAll0 (dB b) = true
  | d, [], _ => rfl
  | d, r :: b, h => by
    show ((dR r).canLay0 && PyData.canLayAll0 (dB b)) = true
    rw [lay_dR h.1, lay_dB h.2]
    rfl
end
mutual
theorem dep_dR : ∀ (r : Rw), (dR r).depth ≤ 2 * depR r + 2
  | .note x o ps => by
    show max 0 (max 0 (max 0 (max (PyData.depthAll (ps.map .str) + 1) 0))) + 1 ≤ 2 * 0 + 2
    rw [dep_strs]
    decide
  | .copy x y => by show (0 + 1 : Nat) ≤ 2; decide
  | .give x i => by show (0 + 1 : Nat) ≤ 2; decide
  | .ask x => by show (0 + 1 : Nat) ≤ 2; decide
  | .prt x => by show (0 + 1 : Nat) ≤ 2; decide
  | .either a b => by
    have h1 := dep_dB a
    have h2 := dep_dB b
    show max 0 (max (PyData.depthAll (dB a) + 1) (max (PyData.depthAll (dB b) + 1) 0)) + 1 ≤ 2 * (max (depB a) (depB b) + 1) + 2
    omega
  | .again a => by
    have h1 := dep_dB a
    show max 0 (max (PyData.depthAll (dB a) + 1) 0) + 1 ≤ 2 * (depB a + 1) + 2
    omega
theorem dep_dB : ∀ (b : List Rw), PyData.depthAll (dB b) ≤ 2 * depB b + 2
  | [] => Nat.zero_le _
  | r :: b => by
    have h1 := dep_dR r
    have h2 := dep_dB b
    show max (dR r).depth (PyData.depthAll (dB b)) ≤ 2 * max (depR r) (depB b) + 2
    omega
end
theorem shaped_R {d : Nat} {r : Rw} (h : okR d r) (hd : depR r ≤ 4) : SeqAt.shaped (dR r) = true := by
  have := dep_dR r
  show ((dR r).canLay0 && decide ((dR r).depth ≤ 64)) = true
  rw [lay_dR h, decide_eq_true (by omega)]
  rfl
theorem shaped_B {d : Nat} {b : List Rw} (h : okB d b) (hd : depB b ≤ 4) : SeqAt.shaped (.tuple (dB b)) = true := by
  have := dep_dB b
  show (PyData.canLayAll0 (dB b) && decide (PyData.depthAll (dB b) + 1 ≤ 64)) = true
  rw [lay_dB h, decide_eq_true (by omega)]
  rfl
theorem eqv_empty (b : List Rw) : PyData.eqv (.tuple (dB b)) (.tuple []) = b.isEmpty := by
  cases b with
  | nil => rfl
  | cons r b => rfl
theorem Kp.ptD {p : Addr} {H H' : Hp} {kvs : List (Key × V)} (h : H p = some (.dK kvs)) (k : Kp p H H') : Pt H H' := fun b ys hb => by
  have ne : b ≠ p := fun e => by
    subst e
    rcases hb with hb | ⟨o, hb⟩ <;> rw [h] at hb <;> cases hb
  exact hb.elim (fun h => .inl (k _ _ ne h)) fun ⟨o, h⟩ => .inr ⟨o, k _ _ ne h⟩
theorem Pt.dic {H : Hp} {p : Addr} {kvs : List (Key × V)} {o : HO} (h : H p = some (.dK kvs)) : Pt H (upd H p o) := Kp.ptD h ((Kp.refl p H).put)
/-- what a table says of each place: the row, the next places -/
def entsR (r : Rw) (p e : Nat) : List (Rw × List Nat) := (rowsR r).zip (leadsR r p e)
def entsB (b : List Rw) (p e : Nat) : List (Rw × List Nat) := (rowsB b).zip (leadsB b p e)
def dE (x : Rw × List Nat) : PyData := .tuple [dR x.1, encL x.2]
theorem entsR_len (r : Rw) (p e : Nat) : (entsR r p e).length = (rowsR r).length := by
  unfold entsR
  rw [List.length_zip, leadsR_len, Nat.min_self]
theorem entsB_len (b : List Rw) (p e : Nat) : (entsB b p e).length = (rowsB b).length := by
  unfold entsB
  rw [List.length_zip, leadsB_len, Nat.min_self]
theorem entsB_cons (r : Rw) (b : List Rw) (p e : Nat) : entsB (r :: b) p e = entsR r p (if b.isEmpty then e else p + (rowsR r).length) ++ entsB b (p + (rowsR r).length) e := by
  unfold entsB entsR
  rw [rowsB, leadsB, List.zip_append (by rw [leadsR_len])]
theorem entsR_again (a : List Rw) (p e : Nat) : entsR (.again a) p e = (.again a, [if a.isEmpty then p else p + 1, e]) :: entsB a (p + 1) p := rfl
theorem entsR_either (a b : List Rw) (p e : Nat) : entsR (.either a b) p e = (.either a b, [if a.isEmpty then e else p + 1, if b.isEmpty then e else p + 1 + (rowsB a).length]) :: (entsB a (p + 1) e ++ entsB b (p + 1 + (rowsB a).length) e) := by
  unfold entsR entsB
  rw [rowsR, leadsR, List.zip_cons_cons, List.zip_append (by rw [leadsB_len])]
theorem Tvs.set {K : PySem.W.Frag} {H : Hp} : ∀ {vs : List V} {ds : List PyData} {v : V} {d : PyData} (i : Nat), Tvs K H vs ds → Tv K H v d → Tvs K H (vs.set i v) (ds.set i d)
  | _, _, _, _, _, .nil, _ => by simpa using Tvs.nil
  | _, _, _, _, 0, .cons _ t, h => .cons h t
  | _, _, _, _, i + 1, .cons h t, k => .cons h (Tvs.set i t k)
theorem set_mid {α : Type} {a b : List α} {x y : α} : (a ++ x :: b).set a.length y = a ++ y :: b := by
  rw [List.set_append_right _ _ (Nat.le_refl _), Nat.sub_self]
  rfl
end PM
set_option Elab.async false
set_option linter.all false
set_option maxRecDepth 100000
set_option maxHeartbeats 4000000
namespace K25
open PySem PySem.Spec PyProof.Rows L2 ZX PM ZR
theorem len_rowsB : ∀ b : List Rw, b.length ≤ (rowsB b).length
  | [] => Nat.le_refl _
  | r :: b => by
    have := rowsR_pos r
    have := len_rowsB b
    rw [rowsB, List.length_append, List.length_cons]
    omega
theorem ixN_of {n i : Nat} (h : i < n) : ixN n (i : Int) = some i := by
  unfold ixN
  simp
  omega
abbrev sLLay : Stmt := top 46
def spLLay (K : PySem.W.Frag) (n : Nat) : Sp := fun vs H Q _ => ∃ (l : Addr) (us : List V) (D : List PyData) (v : V) (b : List Rw) (e d : Nat), vs = [.ref l, v, .int e] ∧ H l = some (.lst us) ∧ Tvs K H us D ∧ BV K H v b ∧ okB d b ∧ depB b < n ∧ depB b ≤ 3 ∧ D.length + (rowsB b).length ≤ 1000 ∧
  ∀ us' H', Kp l H H' → H' l = some (.lst us') → Tvs K H' us' (D ++ (entsB b D.length e).map dE) → Q .non H'
section
variable {P : Program} {w : World} {K : PySem.W.Frag} {mg : Str → Option Value} {base : Heap}
theorem scLay : FnScope ["_law_table_here", "_law_block", "_law_behind", "_law_at", "_law_row", "_law_here", "_law_later", "_law_first", "_law_second"] ["_law_table_here", "_law_block", "_law_behind"] (defScope sLLay) := ⟨rfl, rfl, rfl, by decide +kernel, rfl, by decide +kernel, by decide +kernel⟩
theorem ok_llay0 {f : Addr} {fd : FuncData} (k : Nat) : FnOk P w K mg base CX0 k f fd ["_law_table_here", "_law_block", "_law_behind"] (spLLay K 0) :=
  ⟨fun vs H Q E h => by
    obtain ⟨_, _, _, _, _, _, _, _, _, _, _, _, h, _⟩ := h
    exact absurd h (Nat.not_lt_zero _), fun A outer s H args us vs Q E hr e0 hb r h => by
    obtain ⟨_, _, _, _, _, _, _, _, _, _, _, _, h, _⟩ := h
    exact absurd h (Nat.not_lt_zero _)⟩
theorem ok_llay1 {n : Nat} {g : Addr} {fd : FuncData} (F : FnP K "_law_lay" sLLay g fd) (T : Bi mg) (C__law_size : Cal P w K mg base "_law_size" 5 ["_law_block"] (spLSize K 4)) (C__law_lay : Cal P w K mg base "_law_lay" (n + 5) ["_law_table_here", "_law_block", "_law_behind"] (spLLay K n)) : FnOk P w K mg base CX0 (n + 6) g fd ["_law_table_here", "_law_block", "_law_behind"] (spLLay K (n + 1)) := by
  refine F.ok scLay (fun vs H Q E h => ?_) (fun cdv A outer s H vs Q E hr h => ?_)
  · obtain ⟨l, us, D, v, b, e, d, rfl, _⟩ := h
    rfl
  · obtain ⟨l, us0, D, v, b, e, d, rfl, hl0, hu0, tv, okb, hd, hd3, hn, k⟩ := h
    obtain ⟨a, xs, rfl, hS, ht⟩ := tv.tupI
    have hxl : xs.length = b.length := by rw [ht.len, dB_eq, List.length_map]
    have hbl := len_rowsB b
    have hr__law_size := hr.mono (show 5 ≤ n + 5 by omega)
    have hr__law_lay := hr
    refine ⟨_, PSs.nox (pss_one (ps_for PassesOwn.never rfl (pi_range1 rfl T.b_range (pa_cons (pe_callB call_len_seq (by rfl) T.b_len (by decide +kernel) (pa_cons (pv 1) pa_nil)) pa_nil)) (pg_name (i := 3) scLay.nd rfl (Or.inl rfl)) (pss_cons (ps_par (by rfl) scLay.nd (i := 4) (j := 5) rfl rfl (by decide) rfl rfl (pa_cons (pe_ix ix_tup (pv 1) (pv 3) (fun _ _ => rfl)) (pa_cons (pe_callB call_len_seq (by rfl) T.b_len (by decide +kernel) (pa_cons (pv 0) pa_nil)) pa_nil)) (by rfl))
      (pss_cut (ps_set (i := 6) scLay.nd rfl (Or.inl rfl) (pe_ifExp (pt_cmpR op_lt (pe_op op_add (pv 3) pe_int) (pe_callB call_len_seq (by rfl) T.b_len (by decide +kernel) (pa_cons (pv 1) pa_nil)) (nomark _)) (pe_op op_add (pv 5) (pcal C__law_size hr__law_size rfl (pa_cons (pe_tup (pa_cons (pv 4) pa_nil)) pa_nil))) (pv 2)))
      (pss_cons (ps_expr (pe_bm PySem.F.plainAttrs_list PySem.F.slot_list_append PySem.F.type_list_append mt_append (pv 0) (pa_cons (pe_tup (pa_cons (pv 4) (pa_cons (pe_tup (pa_cons (pv 6) pa_nil)) pa_nil))) pa_nil)))
      (pss_one (ps_if (pt_cmpR op_eq (pe_ix ix_tup (pv 4) pe_int (fun _ _ => rfl)) pe_str (nomark _)) (pss_cons (ps_asg (pe_tup (pa_cons (pv 4) (pa_cons (pe_tup (pa_cons (pe_ifExp (pt_cmpR (op_neD hr.units) (pe_ix ix_tup (pv 4) pe_int (fun _ _ => rfl)) (pe_tup pa_nil) (nomark _)) (pe_op op_add (pv 5) pe_int) (pv 5)) (pa_cons (pv 6) pa_nil))) pa_nil))) (pg_sub (pv 0) (pv 5) set_list))
        (pss_one (ps_expr (pcal C__law_lay hr__law_lay rfl (pa_cons (pv 0) (pa_cons (pe_ix ix_tup (pv 4) pe_int (fun _ _ => rfl)) (pa_cons (pv 5) pa_nil))))))) (pss_one (ps_if (pt_cmpR op_eq (pe_ix ix_tup (pv 4) pe_int (fun _ _ => rfl)) pe_str (nomark _)) (pss_cons (ps_set (i := 7) scLay.nd rfl (Or.inl rfl) (pe_ifExp (pt_cmpR (op_neD hr.units) (pe_ix ix_tup (pv 4) pe_int (fun _ _ => rfl)) (pe_tup pa_nil) (nomark _)) (pe_op op_add (pv 5) pe_int) (pv 6)))
          (pss_cons (ps_expr (pcal C__law_lay hr__law_lay rfl (pa_cons (pv 0) (pa_cons (pe_ix ix_tup (pv 4) pe_int (fun _ _ => rfl)) (pa_cons (pv 6) pa_nil)))))
          (pss_cut (ps_set (i := 8) scLay.nd rfl (Or.inl rfl) (pe_ifExp (pt_cmpR (op_neD hr.units) (pe_ix ix_tup (pv 4) pe_int (fun _ _ => rfl)) (pe_tup pa_nil) (nomark _)) (pe_callB call_len_seq (by rfl) T.b_len (by decide +kernel) (pa_cons (pv 0) pa_nil)) (pv 6)))
          (pss_cons (ps_expr (pcal C__law_lay hr__law_lay rfl (pa_cons (pv 0) (pa_cons (pe_ix ix_tup (pv 4) pe_int (fun _ _ => rfl)) (pa_cons (pv 6) pa_nil)))))
          (pss_one (ps_asg (pe_tup (pa_cons (pv 4) (pa_cons (pe_tup (pa_cons (pv 7) (pa_cons (pv 8) pa_nil))) pa_nil))) (pg_sub (pv 0) (pv 5) set_list))))))) pss_nil))))))))), ?_⟩
    refine ⟨_, rfl, a, _, rfl, .inr hS, _, rfl, by omega, by omega, ?_⟩
    refine for_range (fun i σ' H' => ∃ us don y3 y4 y5 y6 y7 y8, σ' = [some (.ref l), some (.ref a), some (.int e), y3, y4, y5, y6, y7, y8] ∧ Kp l H H' ∧ H' l = some (.lst us) ∧ Tvs K H' us (D ++ List.map dE don) ∧ don ++ entsB (b.drop i) (D.length + don.length) e = entsB b D.length e)
      ⟨us0, [], _, _, _, _, _, _, rfl, Kp.refl _ _, hl0, by rw [List.map_nil, List.append_nil]; exact hu0, rfl⟩ ?_ ?_
    · rintro i σ' H' hi ⟨us, don, y3, y4, y5, y6, y7, y8, rfl, kp, hl, hu, he⟩
      have pt0 := Kp.pt hl0 kp
      have hil : i < b.length := by omega
      have hx : xs[i]? = some xs[i] := List.getElem?_eq_getElem (by omega)
      generalize xs[i] = x at hx
      obtain ⟨r, hr0, tr⟩ := (ht.pt pt0).nthR hx
      have hdr : b.drop i = r :: b.drop (i + 1) := by
        rw [List.drop_eq_getElem_cons hil]
        rw [List.getElem?_eq_getElem hil] at hr0
        cases hr0
        rfl
      have hrm : r ∈ b := List.mem_of_getElem? hr0
      have hdR := depB_mem hrm
      have okr := okB_mem okb hrm
      rw [hdr, entsB_cons] at he
      have hlen := congrArg List.length he
      rw [List.length_append, List.length_append, entsR_len, entsB_len, entsB_len] at hlen
      have hul := hu.len
      rw [List.length_append, List.length_map] at hul
      have hrow1 : rowsB [r] = rowsR r := List.append_nil _
      have hdep1 : depB [r] < 4 := by
        show max (depR r) 0 < 4
        omega
      rw [← hul] at he
      generalize hee : (if (b.drop (i + 1)).isEmpty then e else us.length + (rowsR r).length) = e' at he
      -- row, here
      refine ⟨_, rfl, _, rfl, _, _, _, _, rfl, rfl, pt0.sq hS, at_of (j := i) (by omega) hx, _, rfl, l, _, rfl, .inl (SqL.of hl), _, _, rfl, ?_⟩
      refine ⟨fun σ2 H2 => σ2 = [some (.ref l), some (.ref a), some (.int (e : Nat)), some (.int (0 + (i : Nat))), some x, some (.int (us.length : Nat)), some (.int (e' : Nat)), y7, y8] ∧ Same H' H2, ?_, ?_⟩
      · refine ⟨_, rfl, _, _, rfl, rfl, _, rfl, a, _, rfl, .inr (pt0.sq hS), _, _, rfl, rfl, _, rfl, ?_⟩
        refine ite2 (fun q => ?_) (fun q => ?_)
        · have q' : (0 + (i : Int)) + 1 < (xs.length : Int) := of_decide_eq_true q
          refine ⟨_, rfl, _, rfl, by show 1 ≤ sizeLine; decide, fun t nt => ⟨_, [r], rfl, .tup (.inl (.inl upd_same)) (.cons (tr.pt (Pt.new nt)) .nil), hdep1, by rw [hrow1]; omega, fun H4 s4 => ⟨_, _, rfl, rfl, ?_, (same_new nt).trans s4⟩⟩⟩
          have : (b.drop (i + 1)).isEmpty = false := by
            cases hb : b.drop (i + 1) with
            | nil =>
              have := congrArg List.length hb
              rw [List.length_drop] at this
              simp at this
              omega
            | cons _ _ => rfl
          rw [this] at hee
          rw [hrow1, ← hee]
          rfl
        · have q' : ¬ (0 + (i : Int)) + 1 < (xs.length : Int) := fun z => q (decide_eq_true z)
          have : b.drop (i + 1) = [] := List.drop_eq_nil_of_le (by omega)
          rw [this] at hee
          refine ⟨_, rfl, ?_, fun _ _ h => h⟩
          rw [← hee]
          rfl
      · rintro σ2 H2 ⟨rfl, s2⟩
        have hl2 := s2 _ _ hl
        have kp2 := kp.same s2
        refine ⟨_, rfl, .inl ⟨rfl, _, SqL.of hl2⟩, _, rfl, _, rfl, by show 1 ≤ sizeLine; decide, fun t nt => ⟨by show 2 ≤ sizeLine; decide, fun q nq => ?_⟩⟩
        have st := same_new (o := .tup [V.int (e' : Nat)]) nt
        have sq := same_new (o := .tup [x, V.ref t]) nq
        have s3 := (s2.trans st).trans sq
        refine ⟨l, us, _, rfl, rfl, sq _ _ (st _ _ hl2), Nat.lt_of_le_of_lt (show us.length ≤ 1000 by omega) (by decide), ?_⟩
        have ptl := Pt.lst (o := .lst (us ++ [V.ref q])) (sq _ _ (st _ _ hl2))
        have pt3 : Pt H' _ := s3.pt.trans ptl
        have kp3 : Kp l H (upd _ l (.lst (us ++ [V.ref q]))) := (((kp.same s2).same st).same sq).put (o := .lst (us ++ [V.ref q]))
        have hl3 : (upd (upd (upd H2 t (.tup [V.int (e' : Nat)])) q (.tup [x, V.ref t])) l (.lst (us ++ [V.ref q]))) l = some (.lst (us ++ [V.ref q])) := upd_same
        have tr3 := tr.pt pt3
        have hu3 : Tvs K (upd (upd (upd H2 t (.tup [V.int (e' : Nat)])) q (.tup [x, V.ref t])) l (.lst (us ++ [V.ref q]))) (us ++ [V.ref q]) ((D ++ List.map dE don) ++ [dE (r, [e'])]) :=
          Tvs.app (hu.pt pt3) (.cons (.tup (ptl.sq (.inl (.inl upd_same))) (.cons tr3 (.cons (.tup ((sq.pt.trans ptl).sq (.inl (.inl upd_same))) (.cons (.int _) .nil)) .nil))) .nil)
        generalize upd (upd (upd H2 t (.tup [V.int (e' : Nat)])) q (.tup [x, V.ref t])) l (.lst (us ++ [V.ref q])) = G at ptl pt3 kp3 hl3 tr3 hu3 ⊢
        have fin : ∀ (us' : List V) (G' : Hp) (y7 y8 : Option V), Kp l G G' → G' l = some (.lst us') → Tvs K G' us' ((D ++ List.map dE don) ++ List.map dE (entsR r us.length e')) →
            ∃ us2 don2 z3 z4 z5 z6 z7 z8, [some (V.ref l), some (V.ref a), some (V.int (e : Nat)), some (V.int (0 + (i : Nat))), some x, some (V.int (us.length : Nat)), some (V.int (e' : Nat)), y7, y8] = [some (.ref l), some (.ref a), some (.int e), z3, z4, z5, z6, z7, z8] ∧ Kp l H G' ∧ G' l = some (.lst us2) ∧ Tvs K G' us2 (D ++ List.map dE don2) ∧ don2 ++ entsB (b.drop (i + 1)) (D.length + don2.length) e = entsB b D.length e := fun us' G' y7 y8 kG hG hT => by
          refine ⟨us', don ++ entsR r us.length e', _, _, _, _, _, _, rfl, kp3.trans kG, hG, by rw [List.map_append, ← List.append_assoc]; exact hT, ?_⟩
          have el : D.length + (don ++ entsR r us.length e').length = us.length + (rowsR r).length := by
            rw [List.length_append, entsR_len]
            omega
          rw [el, List.append_assoc]
          exact he
        have hk : Kp l G G := Kp.refl _ _
        obtain ⟨ra, tl, rfl, hrS, hrt⟩ := tr3.rowI
        have sh0 : SeqAt.shaped (.tuple []) = true := by decide
        have hDl : us.length = (D ++ List.map dE don).length := by rw [List.length_append, List.length_map]; exact hul
        refine ⟨_, rfl, _, _, _, _, rfl, rfl, hrS, at0, rfl, _, rfl, ?_⟩
        cases r with
        | note x o ps =>
          exact ifDF (neS (a := "note") (b := "again") (by decide +kernel)) ⟨_, rfl, _, _, _, _, rfl, rfl, hrS, at0, rfl, _, rfl, ifDF (neS (a := "note") (b := "either") (by decide +kernel)) (fin _ _ _ _ hk hl3 hu3)⟩
        | copy x y =>
          exact ifDF (neS (a := "copy") (b := "again") (by decide +kernel)) ⟨_, rfl, _, _, _, _, rfl, rfl, hrS, at0, rfl, _, rfl, ifDF (neS (a := "copy") (b := "either") (by decide +kernel)) (fin _ _ _ _ hk hl3 hu3)⟩
        | give x y =>
          exact ifDF (neS (a := "give") (b := "again") (by decide +kernel)) ⟨_, rfl, _, _, _, _, rfl, rfl, hrS, at0, rfl, _, rfl, ifDF (neS (a := "give") (b := "either") (by decide +kernel)) (fin _ _ _ _ hk hl3 hu3)⟩
        | ask x =>
          exact ifDF (neS (a := "ask") (b := "again") (by decide +kernel)) ⟨_, rfl, _, _, _, _, rfl, rfl, hrS, at0, rfl, _, rfl, ifDF (neS (a := "ask") (b := "either") (by decide +kernel)) (fin _ _ _ _ hk hl3 hu3)⟩
        | prt x =>
          exact ifDF (neS (a := "print") (b := "again") (by decide +kernel)) ⟨_, rfl, _, _, _, _, rfl, rfl, hrS, at0, rfl, _, rfl, ifDF (neS (a := "print") (b := "either") (by decide +kernel)) (fin _ _ _ _ hk hl3 hu3)⟩
        | again b1 =>
          obtain ⟨v1, rfl, t1⟩ := hrt.one
          have hdd : depB b1 < n ∧ depB b1 ≤ 2 := by
            have hd' : depB b1 + 1 ≤ depB b := hdR
            omega
          have hnn : (rowsB b1).length + 1 = (rowsR (.again b1)).length := rfl
          have hR : okR d (.again b1) := okr
          obtain ⟨_, _, ok1⟩ := hR
          have sh1 := shaped_B ok1 (by omega)
          refine ifD rfl ?_
          refine ⟨_, rfl, _, rfl, _, _, _, _, rfl, rfl, hrS, rfl, by decide, fun u nu => ?_⟩
          have su := same_new (o := .tup []) nu
          refine ⟨.tuple (dB b1), .tuple [], (t1.pt su.pt).dp, .tup (.inl (.inl upd_same)) .nil, sh1, sh0, _, rfl, rd_ifE (fun R h => ⟨_, rfl, _, _, rfl, rfl, h⟩) (fun R h => ⟨_, rfl, h⟩) ?_⟩
          rw [eqv_empty]
          have eA : (if (!b1.isEmpty) = true then V.int ((us.length : Int) + 1) else V.int (us.length : Int)) = V.int ((if b1.isEmpty then us.length else us.length + 1 : Nat) : Int) := pick_eq
          rw [eA]
          refine ⟨_, rfl, by show 2 ≤ sizeLine; decide, fun q1 nq1 => ⟨by show 2 ≤ sizeLine; decide, fun q2 nq2 => ?_⟩⟩
          have s1 := same_new (o := .tup [V.int ((if b1.isEmpty then us.length else us.length + 1 : Nat) : Int), V.int (e' : Nat)]) nq1
          have s4 := same_new (o := .tup [V.ref ra, V.ref q1]) nq2
          have sA := (su.trans s1).trans s4
          have hlA := sA _ _ hl3
          refine ⟨_, rfl, _, rfl, l, _, _, us.length, rfl, rfl, hlA, ixN_of (by rw [List.length_append]; exact Nat.lt_succ_self _), ?_⟩
          have pl := Pt.lst (o := .lst ((us ++ [V.ref q]).set us.length (.ref q2))) hlA
          have ptA := sA.pt.trans pl
          have kA : Kp l G (upd _ l (.lst ((us ++ [V.ref q]).set us.length (.ref q2)))) := sA.kp.put (o := .lst ((us ++ [V.ref q]).set us.length (.ref q2)))
          have huA := Tvs.set us.length (hu3.pt ptA) (d := dE (.again b1, [if b1.isEmpty then us.length else us.length + 1, e'])) (v := .ref q2) (.tup (pl.sq (.inl (.inl upd_same))) (.cons (Tv.pt ptA (.tup hrS (.cons (.str _) (.cons t1 .nil)))) (.cons (.tup ((s4.pt.trans pl).sq (.inl (.inl upd_same))) (.cons (.int _) (.cons (.int _) .nil))) .nil)))
          rw [hDl, set_mid, ← hDl] at huA
          refine ⟨_, rfl, _, rfl, _, _, _, _, rfl, rfl, ptA.sq hrS, rfl, _, rfl, l, _, _, v1, b1, us.length, d + 1, rfl, upd_same, huA, t1.pt ptA, ok1, by omega, by omega, by rw [List.length_append, ← hDl]; show us.length + 1 + _ ≤ 1000; omega, fun us5 H5 k5 hl5 hu5 => ?_⟩
          refine fin us5 H5 _ _ (kA.trans k5) hl5 ?_
          rw [List.length_append, ← hDl] at hu5
          rw [entsR_again, List.map_cons, List.append_cons]
          exact hu5
        | either b1 b2 =>
          obtain ⟨v1, v2, rfl, t1, t2⟩ := hrt.two
          have hdd : depB b1 < n ∧ depB b2 < n ∧ depB b1 ≤ 2 ∧ depB b2 ≤ 2 := by
            have hd' : max (depB b1) (depB b2) + 1 ≤ depB b := hdR
            omega
          have hnn : (rowsB b1).length + (rowsB b2).length + 1 = (rowsR (.either b1 b2)).length := by
            show _ = ((rowsB b1 ++ rowsB b2).length + 1)
            rw [List.length_append]
          have hR : okR d (.either b1 b2) := okr
          obtain ⟨_, _, _, ok1, ok2⟩ := hR
          have sh1 := shaped_B ok1 (by omega)
          have sh2 := shaped_B ok2 (by omega)
          refine ifDF (neS (a := "either") (b := "again") (by decide +kernel)) ⟨_, rfl, _, _, _, _, rfl, rfl, hrS, at0, rfl, _, rfl, ifD rfl ?_⟩
          refine ⟨_, rfl, _, _, _, _, rfl, rfl, hrS, rfl, by decide, fun u nu => ?_⟩
          have su := same_new (o := .tup []) nu
          refine ⟨.tuple (dB b1), .tuple [], (t1.pt su.pt).dp, .tup (.inl (.inl upd_same)) .nil, sh1, sh0, _, rfl, rd_ifE (fun R h => ⟨_, rfl, _, _, rfl, rfl, h⟩) (fun R h => ⟨_, rfl, h⟩) ?_⟩
          rw [eqv_empty]
          have eA : (if (!b1.isEmpty) = true then V.int ((us.length : Int) + 1) else V.int (e' : Int)) = V.int ((if b1.isEmpty then e' else us.length + 1 : Nat) : Int) := pick_eq
          rw [eA]
          refine ⟨_, rfl, _, rfl, _, _, _, _, rfl, rfl, su.pt.sq hrS, rfl, _, rfl, l, _, _, v1, b1, e', d + 1, rfl, su _ _ hl3, hu3.pt su.pt, t1.pt su.pt, ok1, by omega, by omega, by rw [List.length_append, ← hDl]; show us.length + 1 + _ ≤ 1000; omega, fun us5 H5 k5 hl5 hu5 => ?_⟩
          rw [List.length_append, ← hDl] at hu5
          have k05 : Kp l G H5 := su.kp.trans k5
          have pt5 := Kp.pt hl3 k05
          have l5 := hu5.len
          rw [List.length_append, List.length_append, ← hDl, List.length_map, entsB_len] at l5
          refine ⟨fun σ2 H2 => σ2 = [some (.ref l), some (.ref a), some (.int (e : Nat)), some (.int (0 + (i : Nat))), some (.ref ra), some (.int (us.length : Nat)), some (.int (e' : Nat)), some (.int ((if b1.isEmpty then e' else us.length + 1 : Nat) : Int)), some (.int ((if b2.isEmpty then e' else us.length + 1 + (rowsB b1).length : Nat) : Int))] ∧ Same H5 H2, ?_, ?_⟩
          · refine ⟨_, rfl, _, _, _, _, rfl, rfl, pt5.sq hrS, rfl, by decide, fun u2 nu2 => ?_⟩
            have su2 := same_new (o := .tup []) nu2
            refine ⟨.tuple (dB b2), .tuple [], ((t2.pt pt5).pt su2.pt).dp, .tup (.inl (.inl upd_same)) .nil, sh2, sh0, _, rfl, rd_ifE (fun R h => ⟨_, rfl, l, _, rfl, .inl (SqL.of (su2 _ _ hl5)), h⟩) (fun R h => ⟨_, rfl, h⟩) ?_⟩
            rw [eqv_empty]
            have eB : (if (!b2.isEmpty) = true then V.int ((us5.length : Nat) : Int) else V.int (e' : Int)) = V.int ((if b2.isEmpty then e' else us5.length : Nat) : Int) := pick_eq
            rw [eB, l5]
            exact ⟨rfl, su2⟩
          · rintro σ2 H6 ⟨rfl, s6⟩
            have pt6 := pt5.trans s6.pt
            refine ⟨_, rfl, _, rfl, _, _, _, _, rfl, rfl, pt6.sq hrS, rfl, _, rfl, l, _, _, v2, b2, e', d + 1, rfl, s6 _ _ hl5, hu5.pt s6.pt, t2.pt pt6, ok2, by omega, by omega, by rw [List.length_append, List.length_append, ← hDl, List.length_map, entsB_len]; show us.length + 1 + _ + _ ≤ 1000; omega, fun us7 H7 k7 hl7 hu7 => ?_⟩
            rw [List.length_append, List.length_append, ← hDl, List.length_map, entsB_len] at hu7
            have k07 : Kp l G H7 := (k05.same s6).trans k7
            have pt7 := Kp.pt hl3 k07
            refine ⟨_, rfl, _, rfl, _, rfl, by show 2 ≤ sizeLine; decide, fun q1 nq1 => ⟨by show 2 ≤ sizeLine; decide, fun q2 nq2 => ?_⟩⟩
            have s1 := same_new (o := .tup [V.int ((if b1.isEmpty then e' else us.length + 1 : Nat) : Int), V.int ((if b2.isEmpty then e' else us.length + 1 + (rowsB b1).length : Nat) : Int)]) nq1
            have s4 := same_new (o := .tup [V.ref ra, V.ref q1]) nq2
            have sA := s1.trans s4
            have hlA := sA _ _ hl7
            have l7 := hu7.len
            rw [List.length_append, List.length_append, List.length_append, ← hDl] at l7
            refine ⟨_, rfl, _, rfl, l, _, _, us.length, rfl, rfl, hlA, ixN_of (by rw [l7]; show us.length < us.length + 1 + _ + _; omega), ?_⟩
            have pl := Pt.lst (o := .lst (us7.set us.length (.ref q2))) hlA
            have ptA := sA.pt.trans pl
            have huA := Tvs.set us.length (hu7.pt ptA) (d := dE (.either b1 b2, [if b1.isEmpty then e' else us.length + 1, if b2.isEmpty then e' else us.length + 1 + (rowsB b1).length])) (v := .ref q2) (.tup (pl.sq (.inl (.inl upd_same))) (.cons (Tv.pt (pt7.trans ptA) (.tup hrS (.cons (.str _) (.cons t1 (.cons t2 .nil))))) (.cons (.tup ((s4.pt.trans pl).sq (.inl (.inl upd_same))) (.cons (.int _) (.cons (.int _) .nil))) .nil)))
            refine fin _ _ _ _ ((k07.same sA).put (o := .lst (us7.set us.length (.ref q2)))) upd_same ?_
            rw [List.append_assoc, List.append_assoc, List.singleton_append, hDl, set_mid, ← hDl, ← List.map_append] at huA
            rw [entsR_either, List.map_cons]
            exact huA
    · rintro σ' H' ⟨us, don, y3, y4, y5, y6, y7, y8, rfl, kp, hl, hu, he⟩
      have e0 : ∀ m, xs.length ≤ m → b.drop m = [] := fun m hm => List.drop_eq_nil_of_le (by omega)
      rw [e0 _ (by omega)] at he
      have e1 : don = entsB b D.length e := by
        rw [← he]
        exact (List.append_nil _).symm
      rw [e1] at hu
      exact k us H' kp hl hu
end
end K25
set_option Elab.async false
set_option linter.all false
set_option maxRecDepth 100000
set_option maxHeartbeats 4000000
namespace K25
open PySem PySem.Spec PyProof.Rows L2 ZX PM ZR
abbrev sLTable : Stmt := top 47
abbrev sLNames : Stmt := top 48
/-- the table of a block -/
def tabB (b : List Rw) : List (Rw × List Nat) := entsB b 0 (rowsB b).length
theorem tab_len (b : List Rw) : (tabB b).length = (rowsB b).length := entsB_len ..
theorem tab_fst (b : List Rw) : (tabB b).map Prod.fst = rowsB b := by
  unfold tabB entsB
  rw [List.map_fst_zip]
  rw [leadsB_len]
  exact Nat.le_refl _
def spLTable (K : PySem.W.Frag) : Sp := fun vs H Q _ => ∃ (v : V) (b : List Rw), vs = [v] ∧ BV K H v b ∧ Good b ∧ ∀ l us H', Same H H' → H l = none → H' l = some (.lst us) → Tvs K H' us ((tabB b).map dE) → Q (.ref l) H'
def spLNames (K : PySem.W.Frag) : Sp := fun vs H Q _ => ∃ (l : Addr) (us : List V) (b : List Rw), vs = [.ref l] ∧ H l = some (.lst us) ∧ Tvs K H us ((tabB b).map dE) ∧ Good b ∧ ∀ t ys H', Same H H' → H t = none → IsLot ys ((rowsB b).flatMap namesR) → H' t = some (.lst (ys.map V.str)) → Q (.ref t) H'
theorem _root_.PM.Tv.ent {K : PySem.W.Frag} {H : Hp} {v : V} {r : Rw} {ls : List Nat} (h : Tv K H v (dE (r, ls))) : ∃ a x y, v = .ref a ∧ SqT K H a [x, y] ∧ RV K H x r ∧ Tv K H y (encL ls) := by
  obtain ⟨a, xs, rfl, hS, ht⟩ := h.tupI
  cases ht with
  | cons h1 t => cases t with
    | cons h2 t => cases t with
      | nil => exact ⟨a, _, _, rfl, hS, h1, h2⟩
section
variable {P : Program} {w : World} {K : PySem.W.Frag} {mg : Str → Option Value} {base : Heap}
theorem scTable : FnScope ["_law_block", "_law_table_here"] ["_law_block"] (defScope sLTable) := ⟨rfl, rfl, rfl, by decide +kernel, rfl, by decide +kernel, by decide +kernel⟩
theorem ok_ltable {f : Addr} {fd : FuncData} (F : FnP K "_law_table" sLTable f fd) (T : Bi mg) (C__law_size : Cal P w K mg base "_law_size" 5 ["_law_block"] (spLSize K 4)) (C__law_lay : Cal P w K mg base "_law_lay" 9 ["_law_table_here", "_law_block", "_law_behind"] (spLLay K 4)) : FnOk P w K mg base CX0 10 f fd ["_law_block"] (spLTable K) := by
  refine F.ok scTable (fun vs H Q E h => ?_) (fun cdv A outer s H vs Q E hr h => ?_)
  · obtain ⟨v, b, rfl, _⟩ := h
    rfl
  · obtain ⟨v, b, rfl, tv, G, k⟩ := h
    have hr__law_size := hr.mono (show 5 ≤ 9 by decide)
    have hr__law_lay := hr
    have hdep := ok_depB G.ok (by decide)
    have l30 := G.l30
    refine ⟨_, PSs.nox (pss_cons (ps_set (i := 1) scTable.nd rfl (Or.inl rfl) (pe_lst pa_nil))
    (pss_cons (ps_expr (pcal C__law_lay hr__law_lay rfl (pa_cons (pv 1) (pa_cons (pv 0) (pa_cons (pcal C__law_size hr__law_size rfl (pa_cons (pv 0) pa_nil)) pa_nil)))))
    (pss_one (ps_ret (pv 1))))), ?_⟩
    refine ⟨by decide, fun l nl => ?_⟩
    have sl := same_new (o := .lst []) nl
    refine ⟨_, rfl, _, rfl, _, rfl, v, b, rfl, tv.pt sl.pt, by omega, by omega, fun H2 s2 => ?_⟩
    refine ⟨l, [], [], v, b, (rowsB b).length, 1, rfl, s2 _ _ upd_same, .nil, tv.pt (sl.trans s2).pt, G.ok, by omega, by omega, by show 0 + _ ≤ 1000; omega, fun us H3 k3 hl3 hu3 => ?_⟩
    refine ⟨_, rfl, k l us H3 (fun a o e => ?_) nl hl3 hu3⟩
    exact k3 a o (ne_of_none e nl) ((sl.trans s2) _ _ e)
theorem scLNames : FnScope ["_law_table_here", "_law_found", "_law_row", "_law_later"] ["_law_table_here"] (defScope sLNames) := ⟨rfl, rfl, rfl, by decide +kernel, rfl, by decide +kernel, by decide +kernel⟩
theorem ok_lnames {f : Addr} {fd : FuncData} (F : FnP K "_law_names" sLNames f fd) (T : Bi mg) : FnOk P w K mg base CX0 1 f fd ["_law_table_here"] (spLNames K) := by
  refine F.ok scLNames (fun vs H Q E h => ?_) (fun cdv A outer s H vs Q E hr h => ?_)
  · obtain ⟨l, us, b, rfl, _⟩ := h
    rfl
  · obtain ⟨l2, us, b, rfl, hl2, hu, G, k⟩ := h
    have l30 := G.l30
    have hn4 := ok_names_B G.ok
    have hlen := fm_bound (rowsB b) hn4
    refine ⟨_, PSs.nox (pss_cons (ps_set (i := 1) scLNames.nd rfl (Or.inl rfl) (pe_lst pa_nil))
    (pss_cons (ps_for PassesOwn.never rfl (pi_list (pv 0)) (pg_tup rfl (pgs_cons (pg_name (i := 2) scLNames.nd rfl (Or.inl rfl)) (pgs_cons (pg_name (i := 3) scLNames.nd rfl (Or.inl rfl)) pgs_nil))) (pss_one (ps_if (pt_cmpR op_eq (pe_ix ix_tup (pv 2) pe_int (fun _ _ => rfl)) pe_str (nomark _)) (pss_one (ps_expr (pe_bm PySem.F.plainAttrs_list PySem.F.slot_list_extend PySem.F.type_list_extend mt_extend (pv 1) (pa_cons (pe_op op_cat (pe_lst (pa_cons (pe_ix ix_tup (pv 2) pe_int (fun _ _ => rfl)) pa_nil)) (pe_callTy call_list_of (by rfl) T.b_list (by decide +kernel) (pa_cons (pe_ix ix_tup (pv 2) pe_int (fun _ _ => rfl)) pa_nil))) pa_nil)))) (pss_one (ps_if (pt_cmpR op_eq (pe_ix ix_tup (pv 2) pe_int (fun _ _ => rfl)) pe_str (nomark _)) (pss_one (ps_expr (pe_bm PySem.F.plainAttrs_list PySem.F.slot_list_extend PySem.F.type_list_extend mt_extend (pv 1) (pa_cons (pe_lst (pa_cons (pe_ix ix_tup (pv 2) pe_int (fun _ _ => rfl)) (pa_cons (pe_ix ix_tup (pv 2) pe_int (fun _ _ => rfl)) pa_nil))) pa_nil)))) (pss_one (ps_if (pt_cmpR op_in_seq (pe_ix ix_tup (pv 2) pe_int (fun _ _ => rfl)) (pe_tup (pa_cons pe_str (pa_cons pe_str (pa_cons pe_str pa_nil)))) (by with_unfolding_all rfl)) (pss_one (ps_expr (pe_bm PySem.F.plainAttrs_list PySem.F.slot_list_append PySem.F.type_list_append mt_append (pv 1) (pa_cons (pe_ix ix_tup (pv 2) pe_int (fun _ _ => rfl)) pa_nil)))) pss_nil)))))))
    (pss_one (ps_ret (pe_callB (call_sortTx rfl) (by rfl) T.b_sorted (by decide +kernel) (pa_cons (pe_callTy (call_setTx rfl) (by rfl) T.b_set (by decide +kernel) (pa_cons (pv 1) pa_nil)) pa_nil)))))), ?_⟩
    refine ⟨by decide, fun l nl => ?_⟩
    have sl := same_new (o := .lst []) nl
    have hul := hu.len
    rw [List.length_map, tab_len] at hul
    have nll : l ≠ l2 := (ne_of_none hl2 nl).symm
    refine ⟨_, rfl, l2, rfl, ⟨us, SqL.of (sl _ _ hl2)⟩, ?_⟩
    refine for_list (xs := us) (fun i σ' H' => ∃ y z, σ' = [some (.ref l2), some (.ref l), y, z] ∧ Same H H' ∧ H' l = some (.lst ((((rowsB b).take i).flatMap namesR).map V.str)) ∧ H' l2 = some (.lst us)) ⟨_, _, rfl, sl, upd_same, sl _ _ hl2⟩ ?_ ?_ ?_
    · rintro i σ' H' _ ⟨y, z, rfl, sm, hl, h2⟩
      exact SqL.of h2
    · rintro i x σ' H' hx ⟨y, z, rfl, sm, hl, h2⟩
      obtain ⟨r, ls, hr0, tx⟩ : ∃ r ls, (rowsB b)[i]? = some r ∧ Tv K H' x (dE (r, ls)) := by
        have hil : i < us.length := (List.getElem?_eq_some_iff.mp hx).1
        have hil' : i < (tabB b).length := by
          rw [tab_len]
          omega
        obtain ⟨u, hu1, hu2⟩ := Tvs.get (i := i) (d := dE (tabB b)[i]) (hu.pt sm.pt) (by rw [List.getElem?_map, List.getElem?_eq_getElem hil']; rfl)
        rw [hx] at hu1
        cases hu1
        refine ⟨(tabB b)[i].1, (tabB b)[i].2, ?_, hu2⟩
        rw [← tab_fst, List.getElem?_map, List.getElem?_eq_getElem hil']
        rfl
      obtain ⟨xa, xr, xl, rfl, hxS, tr, _⟩ := tx.ent
      have hle := fm_le1 (f := namesR) hr0
      rw [List.length_append] at hle
      obtain ⟨ra, tl, rfl, hrS, hrt⟩ := tr.rowI
      have go : ∀ (G2 : Hp), Same H' G2 → ∃ y z, [some (V.ref l2), some (V.ref l), some (V.ref ra), some xl] = [some (.ref l2), some (.ref l), y, z] ∧ Same H (upd G2 l (.lst ((((rowsB b).take i).flatMap namesR).map V.str ++ (namesR r).map V.str))) ∧ (upd G2 l (.lst ((((rowsB b).take i).flatMap namesR).map V.str ++ (namesR r).map V.str))) l = some (.lst ((((rowsB b).take (i + 1)).flatMap namesR).map V.str)) ∧ (upd G2 l (.lst ((((rowsB b).take i).flatMap namesR).map V.str ++ (namesR r).map V.str))) l2 = some (.lst us) := fun G2 s2 => by
        refine ⟨_, _, rfl, (sm.trans s2).put nl, ?_, ?_⟩
        · rw [upd_same, fm_take hr0, List.map_append]
        · rw [upd_ne nll.symm]
          exact s2 _ _ h2
      have hsz : ((((rowsB b).take i).flatMap namesR).map V.str).length + ((namesR r).map V.str).length ≤ sizeLine := by
        rw [List.length_map, List.length_map]
        exact Nat.le_trans (show _ ≤ 1000 by omega) (by decide)
      have hsz1 : ((((rowsB b).take i).flatMap namesR).map V.str).length < sizeLine := by
        rw [List.length_map]
        exact Nat.lt_of_le_of_lt (show _ ≤ 1000 by omega) (by decide)
      refine ⟨xa, _, rfl, hxS, rfl, _, _, rfl, _, _, rfl, rfl, ?_⟩
      refine ⟨_, rfl, _, _, _, _, rfl, rfl, hrS, at0, rfl, _, rfl, ?_⟩
      cases r with
      | note x o ps =>
        obtain ⟨v1, v2, v3, rfl, t1, t2, t3⟩ := hrt.three
        cases t1.strI
        cases t2.strI
        obtain ⟨a3, xs3, rfl, hS3, ht3⟩ := t3.tupI
        have e3 := Tvs.strs ht3
        subst e3
        refine ifD rfl ⟨_, rfl, .inl ⟨rfl, _, SqL.of hl⟩, _, rfl, _, _, _, _, rfl, rfl, hrS, rfl, by show 1 ≤ sizeLine; decide, fun a na => ?_⟩
        have sa := same_new (o := .lst [V.str x]) na
        refine ⟨_, rfl, _, _, _, _, rfl, rfl, sa.pt.sq hrS, rfl, a3, _, rfl, .inr (sa.pt.sq hS3), fun q nq => ?_⟩
        have sq := same_new (o := .lst (ps.map V.str)) nq
        have hpl : ps.length ≤ 3 := by
          have h4 := hn4 _ (List.mem_of_getElem? hr0)
          have : (ps.length + 1) ≤ 4 := h4
          omega
        refine ⟨a, q, _, _, rfl, rfl, sq _ _ upd_same, upd_same, by rw [List.length_map]; exact Nat.le_trans (show [V.str x].length + ps.length ≤ 4 by show 1 + ps.length ≤ 4; omega) (by decide), fun z nz => ?_⟩
        have sz := same_new (o := .lst ([V.str x] ++ ps.map V.str)) nz
        exact ⟨l, z, _, _, rfl, rfl, ((sa.trans sq).trans sz) _ _ hl, upd_same, hsz, go _ ((sa.trans sq).trans sz)⟩
      | copy x y =>
        obtain ⟨v1, v2, rfl, t1, t2⟩ := hrt.two
        cases t1.strI
        cases t2.strI
        refine ifDF (neS (a := "copy") (b := "note") (by decide +kernel)) ⟨_, rfl, _, _, _, _, rfl, rfl, hrS, at0, rfl, _, rfl, ifD rfl ⟨_, rfl, .inl ⟨rfl, _, SqL.of hl⟩, _, rfl, _, _, _, _, rfl, rfl, hrS, rfl, _, rfl, _, _, _, _, rfl, rfl, hrS, rfl, by show 2 ≤ sizeLine; decide, fun a na => ?_⟩⟩
        have sa := same_new (o := .lst [V.str x, V.str y]) na
        exact ⟨l, a, _, _, rfl, rfl, sa _ _ hl, upd_same, hsz, go _ sa⟩
      | give x i1 =>
        obtain ⟨v1, v2, rfl, t1, t2⟩ := hrt.two
        cases t1.strI
        refine ifDF (neS (a := "give") (b := "note") (by decide +kernel)) ⟨_, rfl, _, _, _, _, rfl, rfl, hrS, at0, rfl, _, rfl, ifDF (neS (a := "give") (b := "copy") (by decide +kernel)) ⟨_, rfl, _, _, _, _, rfl, rfl, hrS, at0, by decide, fun t nt => ?_⟩⟩
        have st := same_new (o := .tup [V.str "give", V.str "ask", V.str "print"]) nt
        refine ⟨_, _, rfl, .inr (.inl (.inl upd_same)), rfl, rfl, _, rfl, ?_⟩
        refine ifB (show inV (V.str (Str.ofString "give")) [V.str (Str.ofString "give"), V.str (Str.ofString "ask"), V.str (Str.ofString "print")] = true by decide +kernel) ⟨_, rfl, .inl ⟨rfl, _, SqL.of (st _ _ hl)⟩, _, rfl, _, _, _, _, rfl, rfl, st.pt.sq hrS, rfl, l, _, _, rfl, rfl, st _ _ hl, hsz1, go _ st⟩
      | ask x =>
        obtain ⟨v1, rfl, t1⟩ := hrt.one
        cases t1.strI
        refine ifDF (neS (a := "ask") (b := "note") (by decide +kernel)) ⟨_, rfl, _, _, _, _, rfl, rfl, hrS, at0, rfl, _, rfl, ifDF (neS (a := "ask") (b := "copy") (by decide +kernel)) ⟨_, rfl, _, _, _, _, rfl, rfl, hrS, at0, by decide, fun t nt => ?_⟩⟩
        have st := same_new (o := .tup [V.str "give", V.str "ask", V.str "print"]) nt
        refine ⟨_, _, rfl, .inr (.inl (.inl upd_same)), rfl, rfl, _, rfl, ?_⟩
        refine ifB (show inV (V.str (Str.ofString "ask")) [V.str (Str.ofString "give"), V.str (Str.ofString "ask"), V.str (Str.ofString "print")] = true by decide +kernel) ⟨_, rfl, .inl ⟨rfl, _, SqL.of (st _ _ hl)⟩, _, rfl, _, _, _, _, rfl, rfl, st.pt.sq hrS, rfl, l, _, _, rfl, rfl, st _ _ hl, hsz1, go _ st⟩
      | prt x =>
        obtain ⟨v1, rfl, t1⟩ := hrt.one
        cases t1.strI
        refine ifDF (neS (a := "print") (b := "note") (by decide +kernel)) ⟨_, rfl, _, _, _, _, rfl, rfl, hrS, at0, rfl, _, rfl, ifDF (neS (a := "print") (b := "copy") (by decide +kernel)) ⟨_, rfl, _, _, _, _, rfl, rfl, hrS, at0, by decide, fun t nt => ?_⟩⟩
        have st := same_new (o := .tup [V.str "give", V.str "ask", V.str "print"]) nt
        refine ⟨_, _, rfl, .inr (.inl (.inl upd_same)), rfl, rfl, _, rfl, ?_⟩
        refine ifB (show inV (V.str (Str.ofString "print")) [V.str (Str.ofString "give"), V.str (Str.ofString "ask"), V.str (Str.ofString "print")] = true by decide +kernel) ⟨_, rfl, .inl ⟨rfl, _, SqL.of (st _ _ hl)⟩, _, rfl, _, _, _, _, rfl, rfl, st.pt.sq hrS, rfl, l, _, _, rfl, rfl, st _ _ hl, hsz1, go _ st⟩
      | either b1 b2 =>
        refine ifDF (neS (a := "either") (b := "note") (by decide +kernel)) ⟨_, rfl, _, _, _, _, rfl, rfl, hrS, at0, rfl, _, rfl, ifDF (neS (a := "either") (b := "copy") (by decide +kernel)) ⟨_, rfl, _, _, _, _, rfl, rfl, hrS, at0, by decide, fun t nt => ?_⟩⟩
        have st := same_new (o := .tup [V.str "give", V.str "ask", V.str "print"]) nt
        refine ⟨_, _, rfl, .inr (.inl (.inl upd_same)), rfl, rfl, _, rfl, ?_⟩
        refine ifBF (show inV (V.str (Str.ofString "either")) [V.str (Str.ofString "give"), V.str (Str.ofString "ask"), V.str (Str.ofString "print")] = false by decide +kernel) ⟨_, _, rfl, sm.trans st, ?_, st _ _ h2⟩
        rw [fm_take hr0]
        show _ = some (HO.lst ((_ ++ []).map V.str))
        rw [List.append_nil]
        exact st _ _ hl
      | again b1 =>
        refine ifDF (neS (a := "again") (b := "note") (by decide +kernel)) ⟨_, rfl, _, _, _, _, rfl, rfl, hrS, at0, rfl, _, rfl, ifDF (neS (a := "again") (b := "copy") (by decide +kernel)) ⟨_, rfl, _, _, _, _, rfl, rfl, hrS, at0, by decide, fun t nt => ?_⟩⟩
        have st := same_new (o := .tup [V.str "give", V.str "ask", V.str "print"]) nt
        refine ⟨_, _, rfl, .inr (.inl (.inl upd_same)), rfl, rfl, _, rfl, ?_⟩
        refine ifBF (show inV (V.str (Str.ofString "again")) [V.str (Str.ofString "give"), V.str (Str.ofString "ask"), V.str (Str.ofString "print")] = false by decide +kernel) ⟨_, _, rfl, sm.trans st, ?_, st _ _ h2⟩
        rw [fm_take hr0]
        show _ = some (HO.lst ((_ ++ []).map V.str))
        rw [List.append_nil]
        exact st _ _ hl
    · rintro σ' H' ⟨y, z, rfl, sm, hl, h2⟩
      have e : (rowsB b).take us.length = rowsB b := by rw [hul, List.take_length]
      rw [e] at hl
      have hin := (insAll_ok ((rowsB b).flatMap namesR)).2.2
      refine ⟨_, rfl, l, _, rfl, SqL.of hl, by show _ < 4096; omega, fun q nq => ?_⟩
      refine ⟨q, _, rfl, upd_same, by omega, fun ys z pm so nz => ?_⟩
      have s3 := (same_new (o := SetTO w q (insAll ((rowsB b).flatMap namesR))) nq).trans (same_new (o := .lst (ys.map V.str)) nz)
      exact k z ys _ (sm.trans s3) ((sm.trans (same_new nq)).free nz) (lot_of pm so) upd_same
end
end K25
set_option Elab.async false
set_option linter.all false
set_option maxRecDepth 100000
set_option maxHeartbeats 4000000
/-! List comprehensions with a test. -/
namespace PM
open PySem PySem.Spec PyProof.Rows L2 ZX ZR
section
variable {J : It} {zs : List V} {St : Hp → Prop} {g : TG} {te : TE} {tt : TT} {vs : List Nat} {σ : L2.St} {H1 : Hp} {Q : VK}
theorem lc_overF {α : Type} {as : List α} {Rel : Hp → α → V → Prop} (f : α → Bool) (O : IterOf J zs St) (hz : as.length = zs.length) (hRel : ∀ c y H H', Pt H H' → Rel H c y → Rel H' c y) (hlen : zs.length < sizeLine)
    (st : ∀ H', Same H1 H' → Pt H1 H' → St H')
    (step : ∀ (i : Nat) x c, zs[i]? = some x → as[i]? = some c → ∀ H', Same H1 H' → Pt H1 H' → ∀ (R : VK) (N : Hp → Prop), (f c = true → ∀ y H'', Same H' H'' → Rel H'' c y → R y H'') → (f c = false → ∀ H'', Same H' H'' → N H'') →
      g x (wipe σ vs) H' fun σ2 H2 => wipe σ2 vs = wipe σ vs ∧ tt σ2 H2 fun b H3 => if b = true then te σ2 H3 R else N H3)
    (fin : ∀ D ys H', Same H1 H' → Pt H1 H' → H1 D = none → H' D = some (.lst ys) → All2 (Rel H') (as.filter f) ys → Q (.ref D) H') :
    tLcS (fun _ _ R => R J H1) g tt te vs σ H1 Q := by
  rw [lcS]
  intro D hD
  refine ⟨fun i m H => m = zs.length - i ∧ i ≤ zs.length ∧ Same H1 H ∧ Pt H1 H ∧ ∃ ys, H D = some (.lst ys) ∧ All2 (Rel H) ((as.take i).filter f) ys, ⟨zs.length, rfl, Nat.zero_le _, same_new hD, Pt.new hD, [], upd_same, by rw [List.take_zero]; exact .nil⟩, ?_⟩
  rintro i m H ⟨rfl, hi, sm, pt, ys, hys, all⟩
  have hst := st H sm pt
  by_cases hlt : i < zs.length
  · refine .inr ⟨O.go i H hst hlt, fun H' => i + 1 ≤ zs.length ∧ Same H1 H' ∧ Pt H1 H' ∧ ∃ ys, H' D = some (.lst ys) ∧ All2 (Rel H') ((as.take (i + 1)).filter f) ys, fun H' h => ⟨zs.length - (i + 1), by omega, rfl, h⟩, fun x H' y => ?_⟩
    obtain ⟨rfl, hx⟩ := O.yld i H x H' hst hlt y
    have hia : i < as.length := by omega
    have hc : as[i]? = some as[i] := List.getElem?_eq_getElem hia
    have ptk : as.take (i + 1) = as.take i ++ [as[i]] := by
      rw [List.take_succ, hc]
      rfl
    refine step i x as[i] hx hc H' sm pt _ _ (fun ef y H'' s2 r => ?_) (fun ef H'' s2 => ?_)
    · have hD2 := s2 _ _ hys
      have pD : Pt H'' (upd H'' D (.lst (ys ++ [y]))) := Pt.lst hD2
      have hl2 : ys.length < sizeLine := by
        have := all.len
        have := List.length_filter_le f (as.take i)
        rw [List.length_take] at this
        omega
      refine ⟨ys, hD2, hl2, hlt, fun b o e => by rw [upd_ne (ne_of_none e hD)]; exact s2 _ _ (sm _ _ e), (pt.trans s2.pt).trans pD, ys ++ [y], upd_same, ?_⟩
      rw [ptk, List.filter_append, List.filter_cons, if_pos ef, List.filter_nil]
      exact All2.snoc (hRel _ _ _ _ pD r) (all.imp fun a b q => hRel _ _ _ _ (s2.pt.trans pD) q)
    · refine ⟨hlt, sm.trans s2, pt.trans s2.pt, ys, s2 _ _ hys, ?_⟩
      rw [ptk, List.filter_append, List.filter_cons, if_neg (by rw [ef]; exact Bool.false_ne_true), List.filter_nil, List.append_nil]
      exact all.imp fun a b q => hRel _ _ _ _ s2.pt q
  · have e : i = zs.length := by omega
    subst e
    rw [← hz, List.take_length] at all
    exact .inl ⟨O.stop H hst, fin D ys H sm pt hD hys all⟩
end
end PM
set_option Elab.async false
set_option linter.all false
set_option maxRecDepth 100000
set_option maxHeartbeats 4000000
/-! Sets of names as numbers. -/
namespace PM
open PySem
/-- one bit for each name, the first name's the least -/
def maskS {α : Type} : List α → (α → Bool) → Nat
  | [], _ => 0
  | y :: ys, S => (if S y then 1 else 0) + 2 * maskS ys S
section
variable {α : Type}
theorem maskS_lt : ∀ (ys : List α) (S : α → Bool), maskS ys S < 2 ^ ys.length
  | [], _ => Nat.one_pos
  | y :: ys, S => by
    have := maskS_lt ys S
    rw [maskS, List.length_cons, Nat.pow_succ]
    split <;> omega
theorem maskS_congr : ∀ {ys : List α} {S S' : α → Bool}, (∀ y ∈ ys, S y = S' y) → maskS ys S = maskS ys S'
  | [], _, _, _ => rfl
  | y :: ys, S, S', h => by
    rw [maskS, maskS, h y List.mem_cons_self, maskS_congr fun z hz => h z (List.mem_cons_of_mem _ hz)]
theorem maskS_inj : ∀ {ys : List α} {S S' : α → Bool}, maskS ys S = maskS ys S' → ∀ y ∈ ys, S y = S' y
  | [], _, _, _ => fun _ h => nomatch h
  | y :: ys, S, S', h => by
    rw [maskS, maskS] at h
    have h1 : maskS ys S = maskS ys S' := by
      split at h <;> split at h <;> omega
    have h2 : S y = S' y := by
      rw [h1] at h
      cases e : S y <;> cases e' : S' y <;> rw [e, e'] at h <;> simp at h <;> rfl
    intro z hz
    rcases List.mem_cons.mp hz with rfl | hz
    · exact h2
    · exact maskS_inj h1 z hz
theorem maskS_bit : ∀ {ys : List α} {S : α → Bool} {k : Nat} {y : α}, ys[k]? = some y → (maskS ys S).testBit k = S y
  | [], _, _, _, h => by simp at h
  | y :: ys, S, 0, z, h => by
    cases h
    rw [maskS, Nat.testBit_zero]
    cases S y <;> simp <;> omega
  | y :: ys, S, k + 1, z, h => by
    have e : (maskS (y :: ys) S).testBit (k + 1) = (maskS ys S).testBit k := by
      rw [Nat.testBit_succ, maskS]
      congr 1
      split <;> omega
    rw [e]
    exact maskS_bit (ys := ys) h
theorem maskS_off {y : Str} {ys : List Str} (nd : (y :: ys).Nodup) (b : Bool) (S : Str → Bool) : maskS ys (fun z => if z = y then b else S z) = maskS ys S :=
  maskS_congr fun z hz => if_neg fun e => by
    subst e
    exact (List.nodup_cons.mp nd).1 hz
theorem maskS_zero : ∀ {ys : List α}, maskS ys (fun _ => false) = 0
  | [] => rfl
  | y :: ys => by
    rw [maskS, maskS_zero]
    rfl
theorem maskS_pos {ys : List α} {S : α → Bool} : 0 < maskS ys S ↔ ∃ y ∈ ys, S y = true := by
  induction ys with
  | nil => simp [maskS]
  | cons y ys ih =>
    rw [maskS]
    constructor
    · intro h
      cases e : S y with
      | true => exact ⟨y, List.mem_cons_self, e⟩
      | false =>
        rw [e] at h
        obtain ⟨z, hz, e⟩ := ih.mp (by simp at h; omega)
        exact ⟨z, List.mem_cons_of_mem _ hz, e⟩
    · rintro ⟨z, hz, e⟩
      rcases List.mem_cons.mp hz with rfl | hz
      · rw [e]
        simp
        omega
      · have := ih.mpr ⟨z, hz, e⟩
        omega
/-- each number below the line is a set -/
theorem maskS_of (ys : List Str) (nd : ys.Nodup) : ∀ m : Nat, m < 2 ^ ys.length → ∃ S : Str → Bool, m = maskS ys S := by
  induction ys with
  | nil =>
    intro m h
    exact ⟨fun _ => false, by simp at h; rw [h]; rfl⟩
  | cons y ys ih =>
    intro m h
    rw [List.length_cons, Nat.pow_succ] at h
    obtain ⟨S, hS⟩ := ih (List.nodup_cons.mp nd).2 (m / 2) (by omega)
    refine ⟨fun z => if z = y then decide (m % 2 = 1) else S z, ?_⟩
    rw [maskS, if_pos rfl, maskS_off nd, ← hS]
    rcases Nat.mod_two_eq_zero_or_one m with e | e <;> rw [e] <;> simp <;> omega
end
theorem pow_testBit (k j : Nat) : (2 ^ k).testBit j = decide (k = j) := Nat.testBit_two_pow ..
theorem and_pow (m k : Nat) : m &&& 2 ^ k = if m.testBit k then 2 ^ k else 0 := by
  apply Nat.eq_of_testBit_eq
  intro j
  rw [Nat.testBit_and, pow_testBit]
  by_cases e : k = j
  · subst e
    cases h : m.testBit k <;> simp [Nat.testBit_two_pow]
  · cases h : m.testBit k <;> simp [e, Nat.testBit_two_pow]
/-- a set with one name put in or taken out -/
def putS (S : Str → Bool) (x : Str) (b : Bool) : Str → Bool := fun z => if z = x then b else S z
theorem maskS_put : ∀ {ys : List Str} {S : Str → Bool} {k : Nat} {x : Str}, ys.Nodup → ys[k]? = some x → S x = false → maskS ys (putS S x true) = maskS ys S + 2 ^ k
  | [], _, _, _, _, h, _ => by simp at h
  | y :: ys, S, 0, x, nd, h, e => by
    cases h
    rw [maskS, maskS, e]
    show (if (if y = y then true else S y) = true then 1 else 0) + 2 * maskS ys (fun z => if z = y then true else S z) = _
    rw [if_pos rfl, maskS_off nd]
    simp
    omega
  | y :: ys, S, k + 1, x, nd, h, e => by
    have h' : ys[k]? = some x := h
    have ne : y ≠ x := fun e' => (List.nodup_cons.mp nd).1 (e' ▸ List.mem_of_getElem? h')
    rw [maskS, maskS, maskS_put (List.nodup_cons.mp nd).2 h' e]
    have e2 : putS S x true y = S y := if_neg ne
    rw [e2, Nat.pow_succ]
    omega
theorem putS_putS (S : Str → Bool) (x : Str) (b c : Bool) : putS (putS S x b) x c = putS S x c := by
  funext z
  unfold putS
  split <;> rfl
theorem putS_self {S : Str → Bool} {x : Str} {b : Bool} (h : S x = b) : putS S x b = S := by
  funext z
  unfold putS
  split
  · rename_i e
    rw [e, h]
  · rfl
/-- what is kept without a name -/
theorem maskS_kept {ys : List Str} {S : Str → Bool} {k : Nat} {x : Str} (nd : ys.Nodup) (h : ys[k]? = some x) : maskS ys S - (maskS ys S &&& 2 ^ k) = maskS ys (putS S x false) ∧ (maskS ys S &&& 2 ^ k) ≤ maskS ys S := by
  rw [and_pow, maskS_bit h]
  cases e : S x with
  | false => rw [putS_self e]; simp
  | true =>
    have := maskS_put (S := putS S x false) nd h (if_pos rfl)
    rw [putS_putS, putS_self e] at this
    simp
    omega
end PM
set_option Elab.async false
set_option linter.all false
set_option maxRecDepth 100000
set_option maxHeartbeats 4000000
namespace PM
open PySem PySem.Spec PyProof.Rows L2 ZX ZR
/-- where a name stands -/
def idxS : List Str → Str → Nat
  | [], _ => 0
  | y :: ys, x => if x = y then 0 else idxS ys x + 1
theorem idxS_at : ∀ {ys : List Str} {x : Str}, x ∈ ys → ys[idxS ys x]? = some x
  | y :: ys, x, h => by
    rw [idxS]
    split
    · rename_i e
      rw [e]
      rfl
    · rename_i e
      rw [List.getElem?_cons_succ]
      exact idxS_at ((List.mem_cons.mp h).resolve_left e)
theorem idxS_of : ∀ {ys : List Str} {k : Nat} {x : Str}, ys.Nodup → ys[k]? = some x → idxS ys x = k
  | [], _, _, _, h => by simp at h
  | y :: ys, 0, x, _, h => by
    cases h
    rw [idxS, if_pos rfl]
  | y :: ys, k + 1, x, nd, h => by
    have h' : ys[k]? = some x := h
    have ne : x ≠ y := fun e => by
      subst e
      exact (List.nodup_cons.mp nd).1 (List.mem_of_getElem? h')
    rw [idxS, if_neg ne, idxS_of (List.nodup_cons.mp nd).2 h']
theorem mask_sum : ∀ {ys : List Str} (S : Str → Bool), ys.Nodup → ((ys.filter S).map fun x => 2 ^ idxS ys x).sum = maskS ys S
  | [], _, _ => rfl
  | y :: ys, S, nd => by
    have hd := (List.nodup_cons.mp nd)
    have go : ∀ L : List Str, (∀ x ∈ L, x ∈ ys) → (L.map fun x => 2 ^ idxS (y :: ys) x).sum = 2 * (L.map fun x => 2 ^ idxS ys x).sum := by
      intro L
      induction L with
      | nil => intro _; rfl
      | cons x L ih =>
        intro h
        have ne : x ≠ y := fun e => hd.1 (e ▸ h x List.mem_cons_self)
        rw [List.map_cons, List.map_cons, List.sum_cons, List.sum_cons, ih fun z hz => h z (List.mem_cons_of_mem _ hz), idxS, if_neg ne, Nat.pow_succ]
        omega
    have ih := mask_sum S hd.2
    have hm : ∀ x ∈ ys.filter S, x ∈ ys := fun x hx => (List.mem_filter.mp hx).1
    rw [maskS, List.filter_cons]
    split
    · rw [List.map_cons, List.sum_cons, go _ hm, ih, idxS, if_pos rfl]
    · rw [go _ hm, ih]
      omega
/-- the bits of names -/
def BitK (kvs : List (Key × V)) (ys : List Str) (n : Nat) : Prop := kvs.length ≤ n ∧ ∀ (k : Nat) (x : Str), k < n → ys[k]? = some x → valV kvs (.inr x) = some (.int ((2 ^ k : Nat) : Int))
structure Bits (H : Hp) (d : Addr) (ys : List Str) : Prop where
  ex : ∃ kvs, H d = some (.dK kvs) ∧ BitK kvs ys ys.length
  nd : ys.Nodup
theorem Bits.same {H H' : Hp} {d : Addr} {ys : List Str} (h : Bits H d ys) (s : Same H H') : Bits H' d ys := by
  obtain ⟨kvs, h1, h2⟩ := h.ex
  exact ⟨⟨kvs, s _ _ h1, h2⟩, h.nd⟩
theorem Bits.kp {p : Addr} {H H' : Hp} {d : Addr} {ys : List Str} (h : Bits H d ys) (ne : d ≠ p) (s : Kp p H H') : Bits H' d ys := by
  obtain ⟨kvs, h1, h2⟩ := h.ex
  exact ⟨⟨kvs, s _ _ ne h1, h2⟩, h.nd⟩
theorem Bits.get {H : Hp} {d : Addr} {ys : List Str} (h : Bits H d ys) {x : Str} (hx : x ∈ ys) : DGet H d (.str x) (some (.int ((2 ^ idxS ys x : Nat) : Int))) := by
  obtain ⟨kvs, h1, h2⟩ := h.ex
  have hi := idxS_at hx
  have hlt : idxS ys x < ys.length := (List.getElem?_eq_some_iff.mp hi).1
  have e := h2.2 _ _ hlt hi
  rw [← e]
  exact DGet.k (k := .inr x) h1
theorem bitAnd_nat (a b : Nat) : Builtin.bitAnd (a : Int) (b : Int) = ((a &&& b : Nat) : Int) := rfl
/-- the lot one row on -/
def moveS : Rw → (Str → Bool) → Option (Str → Bool)
  | .note x _ ps, S => some (putS S x (ps.any S))
  | .copy x y, S => some (putS S x (S y))
  | .give x _, S => some (putS S x false)
  | .ask x, S => if S x then none else some S
  | .prt x, S => if S x then none else some S
  | .either _ _, S => some S
  | .again _, S => some S
/-- a lot's number, or -1 -/
def mOf (ys : List Str) : Option (Str → Bool) → Int
  | some S => (maskS ys S : Nat)
  | none => -1
end PM
namespace K25
open PySem PySem.Spec PyProof.Rows L2 ZX PM ZR
abbrev sLBits : Stmt := top 55
abbrev sLMask : Stmt := top 56
abbrev sLLot : Stmt := top 57
def spLBits : Sp := fun vs H Q _ => ∃ (t : Addr) (ys : List Str), vs = [.ref t] ∧ H t = some (.lst (ys.map V.str)) ∧ ys.Nodup ∧ ys.length ≤ 8 ∧ ∀ d H', Same H H' → H d = none → Bits H' d ys → Q (.ref d) H'
def spLMask (K : PySem.W.Frag) : Sp := fun vs H Q _ => ∃ (d a : Addr) (ys : List Str) (S : Str → Bool), vs = [.ref d, .ref a] ∧ Bits H d ys ∧ ys.length ≤ 8 ∧ SqT K H a ((ys.filter S).map V.str) ∧ ∀ H', Same H H' → Q (.int (maskS ys S : Nat)) H'
def spLLot (K : PySem.W.Frag) : Sp := fun vs H Q _ => ∃ (t : Addr) (ys : List Str) (S : Str → Bool), vs = [.ref t, .int (maskS ys S : Nat)] ∧ H t = some (.lst (ys.map V.str)) ∧ ys.length ≤ 8 ∧ ∀ a H', Same H H' → SqT K H' a ((ys.filter S).map V.str) → Q (.ref a) H'
section
variable {P : Program} {w : World} {K : PySem.W.Frag} {mg : Str → Option Value} {base : Heap}
theorem scBits : FnScope ["_law_names_here", "_law_bits_here", "_law_k"] ["_law_names_here"] (defScope sLBits) := ⟨rfl, rfl, rfl, by decide +kernel, rfl, by decide +kernel, by decide +kernel⟩
theorem ok_lbits {f : Addr} {fd : FuncData} (F : FnP K "_law_bits" sLBits f fd) (T : Bi mg) : FnOk P w K mg base CX0 1 f fd ["_law_names_here"] spLBits := by
  refine F.ok scBits (fun vs H Q E h => ?_) (fun cdv A outer s H vs Q E hr h => ?_)
  · obtain ⟨t, ys, rfl, _⟩ := h
    rfl
  · obtain ⟨t, ys, rfl, ht, nd, l8, k⟩ := h
    have hu := hu_of hr
    refine ⟨_, PSs.nox (pss_cons (ps_set (i := 1) scBits.nd rfl (Or.inl rfl) pe_dnewK)
    (pss_cons (ps_for PassesOwn.never rfl (pi_range1 rfl T.b_range (pa_cons (pe_callB call_len_seq (by rfl) T.b_len (by decide +kernel) (pa_cons (pv 0) pa_nil)) pa_nil)) (pg_name (i := 2) scBits.nd rfl (Or.inl rfl)) (pss_one (ps_dput hu (pv 1) (pe_ix ix_list (pv 0) (pv 2) (fun _ _ => rfl)) (pe_op op_oneShl pe_int (pv 2)) rfl)))
    (pss_one (ps_ret (pv 1))))), ?_⟩
    intro d nd0
    have sd := same_new (o := .dK []) nd0
    refine ⟨_, rfl, t, _, rfl, .inl (SqL.of (sd _ _ ht)), _, rfl, by omega, by rw [List.length_map]; omega, ?_⟩
    refine for_range (fun i σ' H' => ∃ kvs y, σ' = [some (.ref t), some (.ref d), y] ∧ Same H H' ∧ H' d = some (.dK kvs) ∧ BitK kvs ys i) ⟨[], _, rfl, sd, upd_same, Nat.le_refl _, fun _ _ h => absurd h (Nat.not_lt_zero _)⟩ ?_ ?_
    · rintro i σ' H' hi ⟨kvs, y, rfl, sm, hd, hb⟩
      have hil : i < ys.length := by
        rw [List.length_map] at hi
        omega
      have hx : ys[i]? = some ys[i] := List.getElem?_eq_getElem hil
      refine ⟨_, rfl, i, rfl, by rw [Int.zero_add], by omega, _, rfl, _, rfl, _, rfl, t, _, _, V.str ys[i], rfl, rfl, SqL.of (sm _ _ ht), at_of (j := i) (by omega) (by rw [List.getElem?_map, hx]; rfl), d, _, rfl, DPut.k (k := .inr ys[i]) hd (Nat.lt_of_le_of_lt (show kvs.length ≤ 8 by have := hb.1; omega) (by decide)), ?_⟩
      refine ⟨_, _, rfl, sm.put nd0, upd_same, Nat.le_trans (length_putK _ _ _) (Nat.succ_le_succ hb.1), fun k x hk hkx => ?_⟩
      rw [valV_put]
      by_cases e : k = i
      · subst e
        rw [hx] at hkx
        cases hkx
        rw [if_pos rfl, Int.natCast_pow]
        rfl
      · have ne : x ≠ ys[i] := fun ex => by
          have h1 := idxS_of nd hkx
          have h2 := idxS_of nd hx
          rw [ex, h2] at h1
          exact e h1.symm
        rw [if_neg (fun z => ne (Sum.inr.inj z))]
        exact hb.2 k x (by omega) hkx
    · rintro σ' H' ⟨kvs, y, rfl, sm, hd, hb⟩
      rw [List.length_map] at hb
      exact ⟨_, rfl, k d H' sm nd0 ⟨⟨kvs, hd, by simpa using hb⟩, nd⟩⟩
theorem scMask : FnScope ["_law_bits_here", "_law_lot_here", "_law_name"] ["_law_bits_here", "_law_lot_here"] (defScope sLMask) := ⟨rfl, rfl, rfl, by decide +kernel, rfl, by decide +kernel, by decide +kernel⟩
theorem ok_lmask {f : Addr} {fd : FuncData} (F : FnP K "_law_mask" sLMask f fd) (T : Bi mg) : FnOk P w K mg base CX0 1 f fd ["_law_bits_here", "_law_lot_here"] (spLMask K) := by
  refine F.ok scMask (fun vs H Q E h => ?_) (fun cdv A outer s H vs Q E hr h => ?_)
  · obtain ⟨d, a, ys, S, rfl, _⟩ := h
    rfl
  · obtain ⟨d, a, ys, S, rfl, hb, l8, hS, k⟩ := h
    have hu := hu_of hr
    refine ⟨_, PSs.nox (pss_one (ps_ret (pe_callB (cr_sum rfl) (by rfl) T.b_sum (by decide +kernel) (pa_cons (pe_lcS (own := [("_law_name", 2)]) (g := gName 2) (tt := tYes) (by rfl) scMask.nd (pi_tup (pv 1)) (blkOk_by (N := ["_law_bits_here", "_law_lot_here", "_law_name"]) (sc := defScope sLMask) (by decide +kernel)) (fun _ _ _ _ _ => (pg_name (i := 2) scMask.nd rfl (Or.inl rfl))) (fun _ _ _ _ _ => pts_nil) (fun _ _ _ _ _ => (pe_dget hu (pv 0) (pv 2) (fun _ _ => rfl)))) pa_nil)))), ?_⟩
    refine lc_into ?_
    refine ⟨_, rfl, a, rfl, ⟨_, hS⟩, ?_⟩
    have hfl := List.length_filter_le S ys
    refine lc_overA (p := none) (as := ys.filter S) (zs := (ys.filter S).map V.str) (Rel := fun _ c y => y = .int ((2 ^ idxS ys c : Nat) : Int)) it_tup ?_ (fun _ _ _ _ _ h => h) (fun _ h => nomatch h) ?_ (fun H' _ pt => pt.sq hS) ?_ ?_
    · rw [List.length_map]
    · rw [List.length_map]
      exact Nat.lt_of_le_of_lt (show _ ≤ 8 by omega) (by decide)
    · intro j z x hz hx H3 kq pt3 R kR
      rw [List.getElem?_map, hx] at hz
      cases hz
      have hm : x ∈ ys := (List.mem_filter.mp (List.mem_of_getElem? hx)).1
      exact ⟨rfl, _, rfl, _, rfl, d, _, rfl, (hb.same kq.same).get hm, kR _ _ (Same.kq fun _ _ h => h) (Pt.refl _) rfl⟩
    · intro D zs H3 kq pt3 nD hD all
      have e := All2.map all
      subst e
      refine ⟨D, ((ys.filter S).map fun c => 2 ^ idxS ys c).map fun m : Nat => (m : Int), rfl, SqL.of (by rw [hD, List.map_map, List.map_map]; rfl), ?_⟩
      have hsum : (((ys.filter S).map fun c => 2 ^ idxS ys c).map fun m : Nat => (m : Int)).sum = ((((ys.filter S).map fun c => 2 ^ idxS ys c).sum : Nat) : Int) := by
        induction (ys.filter S).map fun c => 2 ^ idxS ys c with
        | nil => rfl
        | cons c l ih =>
          rw [List.map_cons, List.sum_cons, List.sum_cons, ih]
          omega
      rw [hsum, mask_sum S hb.nd]
      exact k H3 kq.same
theorem scLot : FnScope ["_law_names_here", "_law_mask_here", "_law_k"] ["_law_names_here", "_law_mask_here"] (defScope sLLot) := ⟨rfl, rfl, rfl, by decide +kernel, rfl, by decide +kernel, by decide +kernel⟩
theorem ok_llot {f : Addr} {fd : FuncData} (F : FnP K "_law_lot" sLLot f fd) (T : Bi mg) : FnOk P w K mg base CX0 1 f fd ["_law_names_here", "_law_mask_here"] (spLLot K) := by
  refine F.ok scLot (fun vs H Q E h => ?_) (fun cdv A outer s H vs Q E hr h => ?_)
  · obtain ⟨t, ys, S, rfl, _⟩ := h
    rfl
  · obtain ⟨t, ys, S, rfl, ht, l8, k⟩ := h
    refine ⟨_, PSs.nox (pss_one (ps_ret (pe_callTy call_tuple_of (by rfl) T.b_tuple (by decide +kernel) (pa_cons (pe_lcS (own := [("_law_k", 2)]) (g := gName 2) (te := tOp (rIxL K) (tVar 0) (tVar 2)) (by rfl) scLot.nd (pi_range1 rfl T.b_range (pa_cons (pe_callB call_len_seq (by rfl) T.b_len (by decide +kernel) (pa_cons (pv 0) pa_nil)) pa_nil)) (blkOk_by (N := ["_law_names_here", "_law_mask_here", "_law_k"]) (sc := defScope sLLot) (by decide +kernel)) (fun _ _ _ _ _ => (pg_name (i := 2) scLot.nd rfl (Or.inl rfl))) (fun _ _ _ _ _ => (pts_one (pt_cmpR op_eq (pe_op op_and (pe_op op_shrN (pv 1) (pv 2)) pe_int) pe_int (nomark _)))) (fun _ _ _ _ _ => (pe_ix ix_list (pv 0) (pv 2) (fun _ _ => rfl)))) pa_nil)))), ?_⟩
    refine lc_into ?_
    refine ⟨_, rfl, t, _, rfl, .inl (SqL.of ht), _, rfl, by omega, by rw [List.length_map]; omega, ?_⟩
    refine lc_overF (as := ys) (Rel := fun _ c y => y = .str c) S it_range ?_ (fun _ _ _ _ _ h => h) ?_ (fun _ _ _ => trivial) ?_ ?_
    · rw [List.length_map, List.length_range, List.length_map]
      omega
    · rw [List.length_map, List.length_range, List.length_map]
      exact Nat.lt_of_le_of_lt (show _ ≤ 8 by omega) (by decide)
    · intro j z x hz hx H3 s3 pt3 R N kR kN
      have hjl : j < ys.length := (List.getElem?_eq_some_iff.mp hx).1
      have ez : z = V.int (0 + (j : Int)) := by
        rw [List.getElem?_map] at hz
        rw [List.getElem?_range (by rw [List.length_map]; omega)] at hz
        cases hz
        rfl
      subst ez
      have et : ((maskS ys S : Nat) : Int) / 2 ^ j = ((maskS ys S / 2 ^ j : Nat) : Int) := by
        rw [Int.natCast_ediv, Int.natCast_pow]
        rfl
      refine ⟨rfl, _, rfl, _, rfl, _, j, rfl, by rw [Int.zero_add], ?_⟩
      rw [et]
      refine ⟨_, 1, rfl, rfl, rfl, _, rfl, ?_⟩
      have eb : decide (V.int (Builtin.bitAnd ((maskS ys S / 2 ^ j : Nat) : Int) 1) = V.int 1) = S x := by
        have h1 := maskS_bit (S := S) hx
        rw [Nat.testBit_eq_decide_div_mod_eq] at h1
        rw [← h1, show Builtin.bitAnd ((maskS ys S / 2 ^ j : Nat) : Int) 1 = ((maskS ys S / 2 ^ j &&& 1 : Nat) : Int) from rfl, Nat.and_one_is_mod]
        congr 1
        apply propext
        constructor
        · intro h
          have := V.int.inj h
          omega
        · intro h
          rw [h]
          rfl
      rw [eb]
      refine ite2 (fun e => ?_) (fun e => ?_)
      · exact ⟨_, rfl, _, rfl, t, _, _, _, rfl, rfl, SqL.of (s3 _ _ ht), at_of (j := j) (by omega) (by rw [List.getElem?_map, hx]; rfl), kR e _ _ (fun _ _ h => h) rfl⟩
      · exact kN (Bool.eq_false_iff.mpr e) _ fun _ _ h => h
    · intro D zs H3 s3 pt3 nD hD all
      have e := All2.map all
      subst e
      refine ⟨D, _, rfl, .inl ⟨SqL.of hD, fun q nq => ?_⟩⟩
      exact k q _ (s3.trans (same_new nq)) (.inl (.inl upd_same))
end
end K25
set_option Elab.async false
set_option linter.all false
set_option maxRecDepth 100000
set_option maxHeartbeats 4000000
namespace PM
open PySem PySem.Spec PyProof.Rows L2 ZX ZR
/-- the lot along these places -/
def alongS (rows : List Rw) : List Nat → Option (Str → Bool) → Option (Str → Bool)
  | [], o => o
  | p :: ps, o => alongS rows ps (o.bind fun S => (rows[p]?).bind fun r => moveS r S)
theorem alongS_snoc (rows : List Rw) : ∀ (ps : List Nat) (p : Nat) (o : Option (Str → Bool)), alongS rows (ps ++ [p]) o = (alongS rows ps o).bind fun S => (rows[p]?).bind fun r => moveS r S
  | [], _, _ => rfl
  | q :: ps, p, o => by
    rw [List.cons_append, alongS, alongS, alongS_snoc rows ps p]
theorem mOf_nn {ys : List Str} {o : Option (Str → Bool)} : 0 ≤ mOf ys o ↔ o.isSome = true := by
  cases o with
  | none => simp [mOf]
  | some S => simp [mOf]
theorem and_pos {ys : List Str} {S : Str → Bool} {x : Str} (nd : ys.Nodup) (hx : x ∈ ys) : decide (((maskS ys S &&& 2 ^ idxS ys x : Nat) : Int) > 0) = S x := by
  rw [and_pow, maskS_bit (idxS_at hx)]
  have := Nat.two_pow_pos (idxS ys x)
  cases S x with
  | true => exact decide_eq_true (Int.ofNat_lt.mpr (by rw [if_pos rfl]; exact this))
  | false => exact decide_eq_false (by simp)
end PM
namespace K25
open PySem PySem.Spec PyProof.Rows L2 ZX PM ZR
abbrev sLMoved : Stmt := top 58
abbrev sLAlong : Stmt := top 59
def spLMoved (K : PySem.W.Frag) : Sp := fun vs H Q _ => ∃ (v : V) (r : Rw) (d : Addr) (ys : List Str) (S : Str → Bool), vs = [v, .int (maskS ys S : Nat), .ref d] ∧ RV K H v r ∧ Bits H d ys ∧ (∀ x ∈ namesR r, x ∈ ys) ∧ (namesR r).length ≤ 4 ∧ ∀ H', Same H H' → Q (.int (mOf ys (moveS r S))) H'
section
variable {P : Program} {w : World} {K : PySem.W.Frag} {mg : Str → Option Value} {base : Heap}
theorem scMoved : FnScope ["_law_row", "_law_mask_here", "_law_bits_here", "_law_own", "_law_kept", "_law_name"] ["_law_row", "_law_mask_here", "_law_bits_here"] (defScope sLMoved) := ⟨rfl, rfl, rfl, by decide +kernel, rfl, by decide +kernel, by decide +kernel⟩
theorem ok_lmoved {f : Addr} {fd : FuncData} (F : FnP K "_law_moved" sLMoved f fd) (T : Bi mg) : FnOk P w K mg base CX0 1 f fd ["_law_row", "_law_mask_here", "_law_bits_here"] (spLMoved K) := by
  refine F.ok scMoved (fun vs H Q E h => ?_) (fun cdv A outer s H vs Q E hr h => ?_)
  · obtain ⟨v, r, d, ys, S, rfl, _⟩ := h
    rfl
  · obtain ⟨v, r, d, ys, S, rfl, tr, hb, hn, hl4, k⟩ := h
    have hu := hu_of hr
    have nd := hb.nd
    refine ⟨_, PSs.nox (pss_cons (ps_if (pt_cmpR op_in_seq (pe_ix ix_tup (pv 0) pe_int (fun _ _ => rfl)) (pe_tup (pa_cons pe_str (pa_cons pe_str pa_nil))) (by with_unfolding_all rfl)) (pss_one (ps_ret (pv 1))) pss_nil)
    (pss_cons (ps_set (i := 3) scMoved.nd rfl (Or.inl rfl) (pe_dget hu (pv 2) (pe_ix ix_tup (pv 0) pe_int (fun _ _ => rfl)) (fun _ _ => rfl)))
    (pss_cons (ps_set (i := 4) scMoved.nd rfl (Or.inl rfl) (pe_op op_sub (pv 1) (pe_op op_and (pv 1) (pv 3))))
    (pss_cons (ps_if (pt_cmpR op_eq (pe_ix ix_tup (pv 0) pe_int (fun _ _ => rfl)) pe_str (nomark _)) (pss_one (ps_ret (pe_ifExp (pt_cmpR op_gt (pe_callB call_len_seq (by rfl) T.b_len (by decide +kernel) (pa_cons (pe_lcS (own := [("_law_name", 5)]) (g := gName 5) (by rfl) scMoved.nd (pi_tup (pe_ix ix_tup (pv 0) pe_int (fun _ _ => rfl))) (blkOk_by (N := ["_law_row", "_law_mask_here", "_law_bits_here", "_law_own", "_law_kept", "_law_name"]) (sc := defScope sLMoved) (by decide +kernel)) (fun _ _ _ _ _ => (pg_name (i := 5) scMoved.nd rfl (Or.inl rfl))) (fun _ _ _ _ _ => (pts_one (pt_cmpR op_gt (pe_op op_and (pv 1) (pe_dget hu (pv 2) (pv 5) (fun _ _ => rfl))) pe_int (nomark _)))) (fun _ _ _ _ _ => (pv 5))) pa_nil)) pe_int (nomark _)) (pe_op op_add (pv 4) (pv 3)) (pv 4)))) pss_nil)
    (pss_cons (ps_if (pt_cmpR op_eq (pe_ix ix_tup (pv 0) pe_int (fun _ _ => rfl)) pe_str (nomark _)) (pss_one (ps_ret (pe_ifExp (pt_cmpR op_gt (pe_op op_and (pv 1) (pe_dget hu (pv 2) (pe_ix ix_tup (pv 0) pe_int (fun _ _ => rfl)) (fun _ _ => rfl))) pe_int (nomark _)) (pe_op op_add (pv 4) (pv 3)) (pv 4)))) pss_nil)
    (pss_cons (ps_if (pt_cmpR op_eq (pe_ix ix_tup (pv 0) pe_int (fun _ _ => rfl)) pe_str (nomark _)) (pss_one (ps_ret (pv 4))) pss_nil)
    (pss_one (ps_ret (pe_ifExp (pt_cmpR op_gt (pe_op op_and (pv 1) (pv 3)) pe_int (nomark _)) (pe_un un_neg pe_int) (pv 1)))))))))), ?_⟩
    obtain ⟨ra, tl, rfl, hrS, hrt⟩ := tr.rowI
    refine ⟨_, rfl, _, _, _, _, rfl, rfl, hrS, at0, by decide, fun t nt => ?_⟩
    have st := same_new (o := .tup [V.str "either", V.str "again"]) nt
    refine ⟨_, _, rfl, .inr (.inl (.inl upd_same)), rfl, rfl, _, rfl, ?_⟩
    show if inV (V.str (wordR r)) [V.str "either", V.str "again"] = true then _ else _
    have hS1 := st.pt.sq hrS
    have hb1 := hb.same st
    -- the own bit, what is kept
    have kept : ∀ x ∈ ys, ((maskS ys S : Nat) : Int) - Builtin.bitAnd ((maskS ys S : Nat) : Int) ((2 ^ idxS ys x : Nat) : Int) = ((maskS ys (putS S x false) : Nat) : Int) := fun x hx => by
      have := maskS_kept (S := S) nd (idxS_at hx)
      rw [bitAnd_nat]
      omega
    have own : ∀ x ∈ ys, ((maskS ys (putS S x false) : Nat) : Int) + ((2 ^ idxS ys x : Nat) : Int) = ((maskS ys (putS S x true) : Nat) : Int) := fun x hx => by
      have := maskS_put (S := putS S x false) nd (idxS_at hx) (if_pos rfl)
      rw [putS_putS] at this
      omega
    have pick : ∀ (x : Str), x ∈ ys → ∀ b : Bool, (if b = true then V.int (maskS ys (putS S x true) : Nat) else V.int (maskS ys (putS S x false) : Nat)) = V.int (mOf ys (some (putS S x b))) := fun x _ b => by
      cases b <;> rfl
    cases r with
    | either b1 b2 => exact ifB (by rw [word_in]; rfl) ⟨_, rfl, k _ st⟩
    | again b1 => exact ifB (by rw [word_in]; rfl) ⟨_, rfl, k _ st⟩
    | note x o ps =>
      have hx : x ∈ ys := hn x List.mem_cons_self
      obtain ⟨v1, v2, v3, rfl, t1, t2, t3⟩ := hrt.three
      cases t1.strI
      cases t2.strI
      obtain ⟨a3, xs3, rfl, hS3, ht3⟩ := t3.tupI
      have e3 := Tvs.strs ht3
      subst e3
      refine ifBF (by rw [word_in]; rfl) ⟨_, rfl, _, rfl, _, _, _, _, rfl, rfl, hS1, rfl, d, _, rfl, hb1.get hx, ?_⟩
      refine ⟨_, rfl, _, rfl, _, rfl, _, _, rfl, rfl, _, _, rfl, rfl, ?_⟩
      simp only [kept x hx]
      refine ⟨_, rfl, _, _, _, _, rfl, rfl, hS1, at0, rfl, _, rfl, ifD rfl ?_⟩
      have hpl : ps.length ≤ 3 := by
        have : ps.length + 1 ≤ 4 := hl4
        omega
      have hS31 := st.pt.sq hS3
      refine lc_into ?_
      refine ⟨_, rfl, _, _, _, _, rfl, rfl, hS1, rfl, a3, rfl, ⟨_, hS31⟩, ?_⟩
      refine lc_overF (as := ps) (Rel := fun _ c y => y = .str c) S it_tup ?_ (fun _ _ _ _ _ h => h) ?_ (fun H' _ pt => pt.sq hS31) ?_ ?_
      · rw [List.length_map]
      · rw [List.length_map]
        exact Nat.lt_of_le_of_lt hpl (by decide)
      · intro j z y hz hy H3 s3 pt3 R N kR kN
        rw [List.getElem?_map, hy] at hz
        cases hz
        have hym : y ∈ ys := hn y (List.mem_cons_of_mem _ (List.mem_of_getElem? hy))
        refine ⟨rfl, _, rfl, _, rfl, _, rfl, d, _, rfl, (hb1.same s3).get hym, _, _, rfl, rfl, _, _, rfl, rfl, _, rfl, ?_⟩
        rw [bitAnd_nat, and_pos nd hym]
        refine ite2 (fun e => ⟨_, rfl, kR e _ _ (fun _ _ h => h) rfl⟩) (fun e => kN (Bool.eq_false_iff.mpr e) _ fun _ _ h => h)
      · intro D zs H3 s3 pt3 nD hD all
        refine ⟨D, _, rfl, .inl (SqL.of hD), _, _, rfl, rfl, _, rfl, ?_⟩
        have e : decide (((zs.length : Nat) : Int) > 0) = ps.any S := by
          rw [← all.len]
          cases e : ps.any S with
          | true =>
            obtain ⟨y, hy, hy2⟩ := List.any_eq_true.mp e
            have := List.length_pos_of_mem (List.mem_filter.mpr ⟨hy, hy2⟩)
            exact decide_eq_true (by omega)
          | false =>
            have : ps.filter S = [] := List.filter_eq_nil_iff.mpr fun y hy h => by
              rw [List.any_eq_true.mpr ⟨y, hy, h⟩] at e
              cases e
            rw [this]
            rfl
        rw [e]
        refine rd_ifE (x := V.int (maskS ys (putS S x true) : Nat)) (y := V.int (maskS ys (putS S x false) : Nat)) (fun R h => ⟨_, rfl, _, rfl, _, _, rfl, rfl, by simp only [own x hx]; exact h⟩) (fun R h => ⟨_, rfl, h⟩) ?_
        rw [pick x hx]
        exact k _ (st.trans s3)
    | copy x y =>
      have hx : x ∈ ys := hn x List.mem_cons_self
      have hy : y ∈ ys := hn y (List.mem_cons_of_mem _ List.mem_cons_self)
      obtain ⟨v1, v2, rfl, t1, t2⟩ := hrt.two
      cases t1.strI
      cases t2.strI
      refine ifBF (by rw [word_in]; rfl) ⟨_, rfl, _, rfl, _, _, _, _, rfl, rfl, hS1, rfl, d, _, rfl, hb1.get hx, ?_⟩
      refine ⟨_, rfl, _, rfl, _, rfl, _, _, rfl, rfl, _, _, rfl, rfl, ?_⟩
      simp only [kept x hx]
      refine ⟨_, rfl, _, _, _, _, rfl, rfl, hS1, at0, rfl, _, rfl, ifDF (neS (a := "copy") (b := "note") (by decide +kernel)) ?_⟩
      refine ⟨_, rfl, _, _, _, _, rfl, rfl, hS1, at0, rfl, _, rfl, ifD rfl ?_⟩
      refine ⟨_, rfl, _, rfl, _, rfl, _, _, _, _, rfl, rfl, hS1, rfl, d, _, rfl, hb1.get hy, _, _, rfl, rfl, _, _, rfl, rfl, _, rfl, ?_⟩
      rw [bitAnd_nat, and_pos nd hy]
      refine rd_ifE (x := V.int (maskS ys (putS S x true) : Nat)) (y := V.int (maskS ys (putS S x false) : Nat)) (fun R h => ⟨_, rfl, _, rfl, _, _, rfl, rfl, by simp only [own x hx]; exact h⟩) (fun R h => ⟨_, rfl, h⟩) ?_
      rw [pick x hx]
      exact k _ st
    | give x i =>
      have hx : x ∈ ys := hn x List.mem_cons_self
      obtain ⟨v1, v2, rfl, t1, t2⟩ := hrt.two
      cases t1.strI
      refine ifBF (by rw [word_in]; rfl) ⟨_, rfl, _, rfl, _, _, _, _, rfl, rfl, hS1, rfl, d, _, rfl, hb1.get hx, ?_⟩
      refine ⟨_, rfl, _, rfl, _, rfl, _, _, rfl, rfl, _, _, rfl, rfl, ?_⟩
      simp only [kept x hx]
      refine ⟨_, rfl, _, _, _, _, rfl, rfl, hS1, at0, rfl, _, rfl, ifDF (neS (a := "give") (b := "note") (by decide +kernel)) ?_⟩
      refine ⟨_, rfl, _, _, _, _, rfl, rfl, hS1, at0, rfl, _, rfl, ifDF (neS (a := "give") (b := "copy") (by decide +kernel)) ?_⟩
      refine ⟨_, rfl, _, _, _, _, rfl, rfl, hS1, at0, rfl, _, rfl, ifD rfl ?_⟩
      exact ⟨_, rfl, k _ st⟩
    | ask x =>
      have hx : x ∈ ys := hn x List.mem_cons_self
      obtain ⟨v1, rfl, t1⟩ := hrt.one
      cases t1.strI
      refine ifBF (by rw [word_in]; rfl) ⟨_, rfl, _, rfl, _, _, _, _, rfl, rfl, hS1, rfl, d, _, rfl, hb1.get hx, ?_⟩
      refine ⟨_, rfl, _, rfl, _, rfl, _, _, rfl, rfl, _, _, rfl, rfl, ?_⟩
      refine ⟨_, rfl, _, _, _, _, rfl, rfl, hS1, at0, rfl, _, rfl, ifDF (neS (a := "ask") (b := "note") (by decide +kernel)) ?_⟩
      refine ⟨_, rfl, _, _, _, _, rfl, rfl, hS1, at0, rfl, _, rfl, ifDF (neS (a := "ask") (b := "copy") (by decide +kernel)) ?_⟩
      refine ⟨_, rfl, _, _, _, _, rfl, rfl, hS1, at0, rfl, _, rfl, ifDF (neS (a := "ask") (b := "give") (by decide +kernel)) ?_⟩
      refine ⟨_, rfl, _, rfl, _, _, rfl, rfl, _, _, rfl, rfl, _, rfl, ?_⟩
      rw [bitAnd_nat, and_pos nd hx]
      refine rd_ifE (x := V.int (-1)) (y := V.int (maskS ys S : Nat)) (fun R h => ⟨_, rfl, h⟩) (fun R h => ⟨_, rfl, h⟩) ?_
      have e : (if S x = true then V.int (-1) else V.int (maskS ys S : Nat)) = V.int (mOf ys (moveS (.ask x) S)) := by
        show _ = V.int (mOf ys (if S x = true then none else some S))
        cases S x <;> rfl
      rw [e]
      exact k _ st
    | prt x =>
      have hx : x ∈ ys := hn x List.mem_cons_self
      obtain ⟨v1, rfl, t1⟩ := hrt.one
      cases t1.strI
      refine ifBF (by rw [word_in]; rfl) ⟨_, rfl, _, rfl, _, _, _, _, rfl, rfl, hS1, rfl, d, _, rfl, hb1.get hx, ?_⟩
      refine ⟨_, rfl, _, rfl, _, rfl, _, _, rfl, rfl, _, _, rfl, rfl, ?_⟩
      refine ⟨_, rfl, _, _, _, _, rfl, rfl, hS1, at0, rfl, _, rfl, ifDF (neS (a := "print") (b := "note") (by decide +kernel)) ?_⟩
      refine ⟨_, rfl, _, _, _, _, rfl, rfl, hS1, at0, rfl, _, rfl, ifDF (neS (a := "print") (b := "copy") (by decide +kernel)) ?_⟩
      refine ⟨_, rfl, _, _, _, _, rfl, rfl, hS1, at0, rfl, _, rfl, ifDF (neS (a := "print") (b := "give") (by decide +kernel)) ?_⟩
      refine ⟨_, rfl, _, rfl, _, _, rfl, rfl, _, _, rfl, rfl, _, rfl, ?_⟩
      rw [bitAnd_nat, and_pos nd hx]
      refine rd_ifE (x := V.int (-1)) (y := V.int (maskS ys S : Nat)) (fun R h => ⟨_, rfl, h⟩) (fun R h => ⟨_, rfl, h⟩) ?_
      have e : (if S x = true then V.int (-1) else V.int (maskS ys S : Nat)) = V.int (mOf ys (moveS (.prt x) S)) := by
        show _ = V.int (mOf ys (if S x = true then none else some S))
        cases S x <;> rfl
      rw [e]
      exact k _ st
/-- numbers of places -/
def plV (ps : List Nat) : List V := ps.map fun (n : Nat) => V.int (n : Int)
theorem cut_init {xs : List V} {x : V} : cutV (xs ++ [x]) none (some (-1)) = xs := by
  unfold cutV
  have h1 : HT.sIx (xs ++ [x]).length 0 none = 0 := rfl
  have h2 : HT.sIx (xs ++ [x]).length (xs ++ [x]).length (some (-1)) = xs.length := by
    simp [HT.sIx]
    omega
  rw [h1, h2, List.drop_zero, Nat.sub_zero, List.take_left]
theorem plV_app (ps qs : List Nat) : plV (ps ++ qs) = plV ps ++ plV qs := List.map_append
/-- .. with a table and the bits -/
def spLAlong (K : PySem.W.Frag) : Sp := fun vs H Q _ => ∃ (l d a : Addr) (us : List V) (b : List Rw) (ys : List Str) (ps : List Nat) (q : Nat) (o : Option (Str → Bool)), vs = [.ref l, .ref d, .ref a, .int (mOf ys o)] ∧ H l = some (.lst us) ∧ Tvs K H us ((tabB b).map dE) ∧ Bits H d ys ∧ SqT K H a (plV (ps ++ [q])) ∧ (∀ p ∈ ps, p < (rowsB b).length) ∧ (∀ x ∈ (rowsB b).flatMap namesR, x ∈ ys) ∧ Good b ∧ ∀ H', Same H H' → Q (.int (mOf ys (alongS (rowsB b) ps o))) H'
/-- the row of a place in a table -/
theorem tab_get {K : PySem.W.Frag} {H : Hp} {us : List V} {b : List Rw} (hu : Tvs K H us ((tabB b).map dE)) {p : Nat} {r : Rw} (hr : (rowsB b)[p]? = some r) : ∃ a x y ls, us[p]? = some (.ref a) ∧ SqT K H a [x, y] ∧ RV K H x r ∧ Tv K H y (encL ls) ∧ (leadsB b 0 (rowsB b).length)[p]? = some ls := by
  have hl : p < (rowsB b).length := (List.getElem?_eq_some_iff.mp hr).1
  have hl2 : p < (leadsB b 0 (rowsB b).length).length := by rw [leadsB_len]; exact hl
  have ht : (tabB b)[p]? = some (r, (leadsB b 0 (rowsB b).length)[p]) := by
    unfold tabB entsB
    rw [List.getElem?_zip_eq_some]
    exact ⟨hr, List.getElem?_eq_getElem hl2⟩
  obtain ⟨v, hv, tv⟩ := Tvs.get (i := p) (d := dE (r, (leadsB b 0 (rowsB b).length)[p])) hu (by rw [List.getElem?_map, ht]; rfl)
  obtain ⟨a, x, y, rfl, hS, h1, h2⟩ := tv.ent
  exact ⟨a, x, y, _, hv, hS, h1, h2, List.getElem?_eq_getElem hl2⟩
theorem names_mem {b : List Rw} {ys : List Str} (h : ∀ x ∈ (rowsB b).flatMap namesR, x ∈ ys) {r : Rw} (hr : r ∈ rowsB b) : ∀ x ∈ namesR r, x ∈ ys := fun x hx => h x (List.mem_flatMap.mpr ⟨r, hr, hx⟩)
theorem scAlong : FnScope ["_law_table_here", "_law_bits_here", "_law_way", "_law_mask_here", "_law_place"] ["_law_table_here", "_law_bits_here", "_law_way", "_law_mask_here"] (defScope sLAlong) := ⟨rfl, rfl, rfl, by decide +kernel, rfl, by decide +kernel, by decide +kernel⟩
theorem ok_lalong {f : Addr} {fd : FuncData} (F : FnP K "_law_along" sLAlong f fd) (T : Bi mg) (C__law_moved : Cal P w K mg base "_law_moved" 1 ["_law_row", "_law_mask_here", "_law_bits_here"] (spLMoved K)) : FnOk P w K mg base CX0 2 f fd ["_law_table_here", "_law_bits_here", "_law_way", "_law_mask_here"] (spLAlong K) := by
  refine F.ok scAlong (fun vs H Q E h => ?_) (fun cdv A outer s H vs Q E hr h => ?_)
  · obtain ⟨l, d, a, us, b, ys, ps, q, o, rfl, _⟩ := h
    rfl
  · obtain ⟨l, d, a, us, b, ys, ps, q, o, rfl, hl, hu, hb, hS, hps, hn, G, k⟩ := h
    have hr__law_moved := hr
    have hn4 := ok_names_B G.ok
    refine ⟨_, PSs.nox (pss_cons (ps_for PassesOwn.never rfl (pi_tup (pe_slice sl_tupZ (pv 2) po_none (po_some (pe_un un_neg pe_int)))) (pg_name (i := 4) scAlong.nd rfl (Or.inl rfl)) (pss_one (ps_if (pt_cmpR op_ge (pv 3) pe_int (nomark _)) (pss_one (ps_set (i := 3) scAlong.nd rfl (Or.inl rfl) (pcal C__law_moved hr__law_moved rfl (pa_cons (pe_ix ix_tup (pe_ix ix_list (pv 0) (pv 4) (fun _ _ => rfl)) pe_int (fun _ _ => rfl)) (pa_cons (pv 3) (pa_cons (pv 1) pa_nil)))))) pss_nil)))
    (pss_one (ps_ret (pv 3)))), ?_⟩
    have ecut : cutV (plV (ps ++ [q])) none (some (-1)) = plV ps := by
      rw [plV_app]
      exact cut_init
    refine ⟨_, rfl, _, rfl, _, rfl, a, _, rfl, hS, fun c H1 s1 hc => ?_⟩
    rw [ecut] at hc
    refine ⟨c, rfl, ⟨_, hc⟩, ?_⟩
    refine for_tup (xs := plV ps) (fun i σ' H' => ∃ y, σ' = [some (.ref l), some (.ref d), some (.ref a), some (.int (mOf ys (alongS (rowsB b) (ps.take i) o))), y] ∧ Same H H' ∧ SqT K H' c (plV ps)) ⟨_, rfl, s1, hc⟩ ?_ ?_ ?_
    · rintro i σ' H' _ ⟨y, rfl, sm, hc'⟩
      exact hc'
    · rintro i x σ' H' hx ⟨y, rfl, sm, hc'⟩
      obtain ⟨p, hp, rfl⟩ : ∃ p, ps[i]? = some p ∧ x = V.int (p : Nat) := by
        unfold plV at hx
        rw [List.getElem?_map] at hx
        cases e : ps[i]? with
        | none => rw [e] at hx; cases hx
        | some p => rw [e] at hx; exact ⟨p, rfl, (Option.some.inj hx).symm⟩
      have hpm := hps p (List.mem_of_getElem? hp)
      have hr0 : (rowsB b)[p]? = some (rowsB b)[p] := List.getElem?_eq_getElem hpm
      have etk : ps.take (i + 1) = ps.take i ++ [p] := by
        rw [List.take_succ, hp]
        rfl
      obtain ⟨ea, ex, ey, ls, hea, hES, hEr, _⟩ := tab_get hu hr0
      refine ⟨_, rfl, _, _, rfl, rfl, _, rfl, ?_⟩
      rw [etk, alongS_snoc, hr0]
      cases e : alongS (rowsB b) (ps.take i) o with
      | none => exact ifDF (show ¬ (-1 : Int) ≥ 0 by decide) ⟨_, rfl, sm, hc'⟩
      | some S =>
        refine ifD (by show ((maskS ys S : Nat) : Int) ≥ 0; omega) ?_
        have hrm : (rowsB b)[p] ∈ rowsB b := List.getElem_mem hpm
        refine ⟨_, rfl, _, rfl, l, _, _, _, rfl, rfl, SqL.of (sm _ _ hl), at_of (j := p) rfl hea, ea, _, _, _, rfl, rfl, sm.pt.sq hES, rfl, _, rfl, _, rfl, ex, (rowsB b)[p], d, ys, S, rfl, hEr.pt sm.pt, hb.same sm, names_mem hn hrm, hn4 _ hrm, fun H4 s4 => ?_⟩
        exact ⟨_, rfl, sm.trans s4, s4.pt.sq hc'⟩
    · rintro σ' H' ⟨y, rfl, sm, _⟩
      have e : (plV ps).length = ps.length := List.length_map ..
      rw [e, List.take_length]
      exact ⟨_, rfl, k H' sm⟩
end
end K25
set_option Elab.async false
set_option linter.all false
set_option maxRecDepth 100000
set_option maxHeartbeats 4000000
namespace PM
open PySem PySem.Spec PyProof.Rows L2 ZX ZR
theorem _root_.L2.TyX.same {K : PySem.W.Frag} {H H' : Hp} {v : V} {t : Value} (s : Same H H') (h : TyX K H v t) : TyX K H' v t := by
  cases h with
  | base h =>
    cases h with
    | non => exact .base .non
    | bl x => exact .base (.bl x)
    | int i => exact .base (.int i)
    | str x => exact .base (.str x)
    | flt x => exact .base (.flt x)
    | lst e => exact .base (.lst (s _ _ e))
    | frz e => exact .base (.frz (s _ _ e))
    | tup e => exact .base (.tup (s _ _ e))
    | dK e => exact .base (.dK (s _ _ e))
    | dT e => exact .base (.dT (s _ _ e))
    | ins e cl ha hn ht hm => exact .base (.ins (s _ _ e) cl ha hn ht hm)
  | byt b => exact .byt b
  | set e => exact .set (s _ _ e)
  | kList e c => exact .kList e c
  | kTuple e c => exact .kTuple e c
  | kDict e c => exact .kDict e c
  | fTuple e => exact .fTuple (s _ _ e)
  | fDict e => exact .fDict (s _ _ e)
theorem Tvs.ints {K : PySem.W.Frag} {H : Hp} : ∀ {vs : List V} {l : List Nat}, Tvs K H vs (l.map fun (n : Nat) => PyData.int (n : Int)) → vs = l.map fun (n : Nat) => V.int (n : Int)
  | _, [], .nil => rfl
  | _, _ :: _, .cons h t => by
    cases h
    rw [List.map_cons, Tvs.ints t]
theorem flat_ints (l : List Nat) : (l.map fun (n : Nat) => V.int (n : Int)).all flatV = true := by
  induction l with
  | nil => rfl
  | cons n l ih => exact ih
theorem inV_ints (m : Nat) (l : List Nat) : inV (.int (m : Int)) (l.map fun (n : Nat) => V.int (n : Int)) = decide (m ∈ l) := by
  induction l with
  | nil => rfl
  | cons n l ih =>
    show ((n : Int) == (m : Int) || inV (.int (m : Int)) (l.map fun (n : Nat) => V.int (n : Int))) = _
    rw [ih]
    by_cases e : n = m
    · subst e
      simp
    · have e1 : ((n : Int) == (m : Int)) = false := by
        rw [beq_eq_false_iff_ne]
        omega
      have e2 : ¬ m = n := fun z => e z.symm
      rw [e1, Bool.false_or]
      simp [e2]
/-- judging ways -/
def inRg (n : Nat) : Option Int → Bool
  | some i => decide (0 ≤ i) && decide (i < n)
  | none => false
def natOf : Option Int → Nat
  | some i => i.toNat
  | none => 0
def stepB (ls : List (List Nat)) (ns : List Nat) (k : Nat) : Bool := decide (ns.getD (k + 1) 0 ∈ ls.getD (ns.getD k 0) [])
def judge (ls : List (List Nat)) (cs : List (Option Int)) : Bool := !cs.isEmpty && ((cs.map (inRg ls.length)).all id && ((List.range (cs.length - 1)).map (stepB ls (cs.map natOf))).all id)
theorem inR_all {n : Nat} {cs : List (Option Int)} (h : (cs.map (inRg n)).all id = true) {k : Nat} {c : Option Int} (hc : cs[k]? = some c) : ∃ m : Nat, c = some (m : Int) ∧ m < n ∧ (cs.map natOf).getD k 0 = m := by
  have h1 := List.all_eq_true.mp h (inRg n c) (List.mem_map.mpr ⟨c, List.mem_of_getElem? hc, rfl⟩)
  cases c with
  | none => cases h1
  | some i =>
    obtain ⟨h2, h3⟩ := Bool.and_eq_true_iff.mp (show (decide (0 ≤ i) && decide (i < n)) = true from h1)
    have h4 := of_decide_eq_true h2
    have h5 := of_decide_eq_true h3
    refine ⟨i.toNat, by rw [Int.toNat_of_nonneg h4], by omega, ?_⟩
    rw [List.getD_eq_getElem?_getD, List.getElem?_map, hc]
    rfl
end PM
namespace K25
open PySem PySem.Spec PyProof.Rows L2 ZX PM ZR
theorem NumV.same {K : PySem.W.Frag} {H H' : Hp} {v : V} {c : Bool} (s : Same H H') (h : NumV K H v c) : NumV K H' v c := by
  cases h with
  | int i => exact .int i
  | bl b => exact .bl b
  | oth h e => exact .oth (h.same s) e
/-- an item: an integer or none -/
inductive Itm (K : PySem.W.Frag) (H : Hp) : V → Option Int → Prop
  | int (i : Int) : Itm K H (.int i) (some i)
  | oth {v : V} (h : NumV K H v false) : Itm K H v none
theorem Itm.same {K : PySem.W.Frag} {H H' : Hp} {v : V} {c : Option Int} (s : Same H H') (h : Itm K H v c) : Itm K H' v c := by
  cases h with
  | int i => exact .int i
  | oth h => exact .oth (NumV.same s h)
theorem All2.get {α β : Type} {R : α → β → Prop} : ∀ {as : List α} {bs : List β} {i : Nat} {a : α}, All2 R as bs → as[i]? = some a → ∃ b, bs[i]? = some b ∧ R a b
  | _, _, i, _, .nil, h => by simp at h
  | _, _, 0, _, .cons r t, h => by
    cases h
    exact ⟨_, rfl, r⟩
  | _, _, i + 1, _, .cons r t, h => All2.get (i := i) t h
end K25
set_option Elab.async false
set_option linter.all false
set_option maxRecDepth 100000
set_option maxHeartbeats 4000000
namespace K25
open PySem PySem.Spec PyProof.Rows L2 ZX PM ZR
abbrev sIsWay : Stmt := top 34
def spIsWay (K : PySem.W.Frag) (C : Addr) : Sp := fun vs H Q _ => ∃ (x : Addr) (v : V) (b : List Rw), vs = [.ref x, v] ∧ PrAt K C H x b ∧
  ((∃ t, TyX K H v t ∧ PySem.W.kitOne K t (.type "tuple") = some false ∧ ∀ H', Same H H' → Q (.bl false) H') ∨
   (∃ (a : Addr) (xs : List V) (cs : List (Option Int)), v = .ref a ∧ SqT K H a xs ∧ All2 (Itm K H) xs cs ∧ xs.length ≤ 100000 ∧ ∀ H', Same H H' → Q (.bl (judge (leadsP b) cs)) H'))
/-- the words of the two comprehensions -/
def rLenQ (K : PySem.W.Frag) : List V → Hp → VK → Prop := fun xs H Q => ∃ p ys, xs = [.ref p] ∧ (SqL K H p ys ∨ SqT K H p ys) ∧ Q (.int ys.length) H
abbrev teA (K : PySem.W.Frag) : TE := tCall (spBelow K) [] E0 (tCons (tCB (rLenQ K) (tCons (tFld K (tVar 0) "_leads") tNil)) (tCons (tVar 2) tNil))
abbrev teB (K : PySem.W.Frag) : TE := tOp (rIn K false) (tVar 3) (tOp (rIxT K) (tFld K (tVar 0) "_leads") (tVar 2))
section
variable {P : Program} {w : World} {K : PySem.W.Frag} {mg : Str → Option Value} {base : Heap}
theorem scIsWay : FnScope ["program", "thing", "place", "after"] ["program", "thing"] (defScope sIsWay) := ⟨rfl, rfl, rfl, by decide +kernel, rfl, by decide +kernel, by decide +kernel⟩
theorem ok_is_way {C f : Addr} {fd : FuncData} (F : FnP K "is_way" sIsWay f fd) (T : Bi mg) (c : PrC K C) (C_is_number_below : Cal P w K mg base "is_number_below" 2 ["limit", "thing"] (spBelow K)) : FnOk P w K mg base CX0 3 f fd ["program", "thing"] (spIsWay K C) := by
  refine F.ok scIsWay (fun vs H Q E h => ?_) (fun cdv A outer s H vs Q E hr h => ?_)
  · obtain ⟨x, v, b, rfl, _⟩ := h
    rfl
  · obtain ⟨x, v, b, rfl, ⟨dx, vb, ra, na, la, rs, ls, yn, hx, tv, G, h1, h2, h3, h4, h5, h6⟩, h⟩ := h
    have hr_is_number_below := hr
    have hln := h4.len
    rw [List.length_map] at hln
    refine ⟨_, PSs.nox (pss_cons (ps_if (PW.pt (pw_or (pt_not (pt_val (pe_callB call_isi (by rfl) T.b_isinstance (by decide +kernel) (pa_cons (pv 1) (pa_cons (pe_bltn (v := .ty "tuple") (by rfl) T.b_tuple (by decide +kernel) rfl) pa_nil))))) (pw_or1 (pt_not (pt_truth (pv 1) (by intro _; rfl)))))) (pss_one (ps_ret pe_bl)) pss_nil)
    (pss_cons (ps_if (pt_not (pt_val (pe_callB (cr_all rfl) (by rfl) T.b_all (by decide +kernel) (pa_cons (pe_lcS (own := [("place", 2)]) (g := gName 2) (tt := tYes) (te := teA K) (by rfl) scIsWay.nd (pi_tup (pv 1)) (blkOk_by (N := ["program", "thing", "place", "after"]) (sc := defScope sIsWay) (by decide +kernel)) (fun _ _ _ _ _ => (pg_name (i := 2) scIsWay.nd rfl (Or.inl rfl))) (fun _ _ _ _ _ => pts_nil) (fun _ _ _ _ _ => ((pcal C_is_number_below hr_is_number_below rfl (pa_cons (pe_callB call_len_seq (by rfl) T.b_len (by decide +kernel) (pa_cons (pe_fld (pv 0) (by rfl)) pa_nil)) (pa_cons (pv 2) pa_nil)))))) pa_nil)))) (pss_one (ps_ret pe_bl)) pss_nil)
    (pss_one (ps_ret (pe_callB (cr_all rfl) (by rfl) T.b_all (by decide +kernel) (pa_cons (pe_lcS (own := [("place", 2), ("after", 3)]) (g := gTup K 2 (gCons (gName 2) (gCons (gName 3) gNil))) (te := teB K) (tt := tYes) (by rfl) scIsWay.nd (RZ.pi_zipA (by rfl) T.b_zip (pa_cons (pv 1) (pa_cons (pe_slice sl_tupZ (pv 1) (po_some pe_int) po_none) pa_nil))) (blkOk_by (N := ["program", "thing", "place", "after"]) (sc := defScope sIsWay) (by decide +kernel)) (fun _ _ _ _ _ => (pg_tup rfl (pgs_cons (pg_name (i := 2) scIsWay.nd rfl (Or.inl rfl)) (pgs_cons (pg_name (i := 3) scIsWay.nd rfl (Or.inl rfl)) pgs_nil)))) (fun _ _ _ _ _ => pts_nil) (fun _ _ _ _ _ => ((pe_cmpR op_in_seq (pv 3) (pe_ix ix_tup (pe_fld (pv 0) (by rfl)) (pv 2) (fun _ _ => rfl)) (by with_unfolding_all rfl))))) pa_nil)))))), ?_⟩
    rcases h with ⟨t, ht, e, k⟩ | ⟨a, xs, cs, rfl, hS, hcs, hxl, k⟩
    · exact ⟨_, rfl, _, _, _, _, false, rfl, .ty "tuple", ht, e, false, rfl, k _ (fun _ _ h => h)⟩
    · have hcl := hcs.len
      refine ⟨_, rfl, _, _, _, _, true, rfl, .ty "tuple", tyT hS, rfl, true, rfl, _, rfl, !xs.isEmpty, .inr (.inl ⟨_, hS, rfl⟩), ?_⟩
      cases hcs with
      | nil => exact k _ (fun _ _ h => h)
      | @cons y0 c0 xs' cs' hi0 hi =>
        have hcs := All2.cons hi0 hi
        refine lc_into ?_
        refine ⟨_, rfl, a, rfl, ⟨_, hS⟩, ?_⟩
        refine lc_overA (p := none) (as := c0 :: cs') (Rel := fun _ e y => y = .bl (inRg (leadsP b).length e)) it_tup hcl.symm (fun _ _ _ _ _ h => h) (fun _ h => nomatch h) (Nat.lt_of_le_of_lt hxl (by decide)) (fun H' _ pt => pt.sq hS) ?_ ?_
        · intro i z e hz he H' kq pt R kR
          obtain ⟨e', he', itm⟩ := All2.get hcs hz
          rw [he] at he'
          cases he'
          have sm := Kq.same kq
          refine ⟨rfl, _, rfl, x, C, dx, _, _, rfl, sm _ _ hx, c.c, c.n3, rfl, la, _, rfl, .inr (pt.sq h3), _, rfl, ?_⟩
          rw [hln]
          cases itm.same sm with
          | int j => exact ⟨_, _, rfl, .inl ⟨j, rfl, kR _ _ Kq.refl (Pt.refl _) rfl⟩⟩
          | oth hn => exact ⟨_, _, rfl, .inr ⟨hn, kR _ _ Kq.refl (Pt.refl _) rfl⟩⟩
        · intro D ys H2 kq pt nD hD all
          have ey := All2.map all
          subst ey
          have s2 := Kq.same kq
          refine ⟨D, (c0 :: cs').map (inRg (leadsP b).length), rfl, SqL.of (by rw [hD, List.map_map]; rfl), _, rfl, ?_⟩
          cases hall : ((c0 :: cs').map (inRg (leadsP b).length)).all id with
          | false =>
            have ej : judge (leadsP b) (c0 :: cs') = false := by
              unfold judge
              rw [hall]
              simp
            rw [ej] at k
            exact k _ s2
          | true =>
            refine lc_into ?_
            refine ⟨_, rfl, _, rfl, 1, rfl, a, _, rfl, pt.sq hS, fun q H3 s3 hq => ?_⟩
            rw [show cutV (y0 :: xs') (some 1) none = xs' from cut1] at hq
            have s23 := s2.trans s3
            refine ⟨a, q, y0 :: xs', xs', rfl, .inr ⟨s23.pt.sq hS, hq, ?_⟩⟩
            have hcl' : cs'.length = xs'.length := by
              have := hcl
              simp only [List.length_cons] at this
              omega
            refine lc_overY (as := List.range ((c0 :: cs').length - 1)) (Rel := fun _ kk y => y = .bl (stepB (leadsP b) ((c0 :: cs').map natOf) kk)) it_zipT ?_ (fun _ _ _ _ _ h => h) ?_ (fun H' _ pt => ⟨pt.sq (s23.pt.sq hS), pt.sq hq⟩) ?_ ?_
            · rw [List.length_range, List.length_cons, List.length_cons, hcl']
              omega
            · refine Nat.lt_of_le_of_lt (Nat.le_trans (Nat.min_le_left _ _) hxl) (by decide)
            · rintro i y kk hk H4 s4 pt4 ⟨T', x1, x2, rfl, hT, e1, e2⟩ R kR
              have hik : kk = i := by
                have := List.getElem?_eq_some_iff.mp hk
                obtain ⟨_, h⟩ := this
                rw [List.getElem_range] at h
                exact h.symm
              subst hik
              obtain ⟨o1, q1, it1⟩ := All2.get hcs e1
              obtain ⟨o2, q2, it2⟩ := All2.get hcs (i := kk + 1) (a := x2) (by rw [List.getElem?_cons_succ]; exact e2)
              obtain ⟨m1, rfl, hm1, g1⟩ := inR_all hall q1
              obtain ⟨m2, rfl, hm2, g2⟩ := inR_all hall q2
              cases it1
              cases it2
              have hl1 : (leadsP b)[m1]? = some (leadsP b)[m1] := List.getElem?_eq_getElem hm1
              have s24 := s23.trans s4
              obtain ⟨yl, hyl, tyl⟩ := Tvs.get (i := m1) (d := encL (leadsP b)[m1]) (h4.pt s24.pt) (by rw [List.getElem?_map, hl1]; rfl)
              obtain ⟨al, xl, rfl, hal, tal⟩ := tyl.tupI
              have exl := Tvs.ints tal
              subst exl
              refine ⟨T', _, rfl, .inl (.inl hT), rfl, _, _, rfl, _, _, rfl, rfl, rfl, ?_⟩
              refine ⟨_, rfl, _, rfl, x, C, dx, _, _, rfl, s24 _ _ hx, c.c, c.n3, rfl, _, rfl, la, _, _, _, rfl, rfl, s24.pt.sq h3, at_of (j := m1) rfl hyl, al, _, rfl, .inr hal, rfl, flat_ints _, ?_⟩
              refine kR _ _ (fun _ _ h => h) ?_
              show V.bl (inV (.int (m2 : Int)) _) = _
              rw [inV_ints]
              unfold stepB
              rw [g1, g2, List.getD_eq_getElem?_getD, hl1]
              rfl
            · intro D2 ys2 H4 s4 pt4 nD2 hD2 all2
              have ey2 := All2.map all2
              subst ey2
              refine ⟨D2, (List.range ((c0 :: cs').length - 1)).map (stepB (leadsP b) ((c0 :: cs').map natOf)), rfl, SqL.of (by rw [hD2, List.map_map]; rfl), ?_⟩
              have ej : judge (leadsP b) (c0 :: cs') = ((List.range ((c0 :: cs').length - 1)).map (stepB (leadsP b) ((c0 :: cs').map natOf))).all id := by
                unfold judge
                rw [hall]
                rfl
              rw [← ej]
              exact k _ (s23.trans s4)
end
end K25
set_option Elab.async false
set_option linter.all false
set_option maxRecDepth 100000
set_option maxHeartbeats 4000000
namespace PM
open PySem PySem.Spec PyProof.Rows L2 ZX ZR
mutual
theorem leadsR_le : ∀ (r : Rw) (p e : Nat), ∀ l ∈ leadsR r p e, ∀ n ∈ l, n ≤ max (p + (rowsR r).length) e
  | .either a b, p, e, l, hl, n, hn => by
    have hlen : (rowsR (.either a b)).length = (rowsB a).length + (rowsB b).length + 1 := by
      show ((rowsB a ++ rowsB b).length + 1) = _
      rw [List.length_append]
    rw [hlen]
    rcases List.mem_cons.mp hl with rfl | hl
    · simp only [List.mem_cons, List.not_mem_nil, or_false] at hn
      rcases hn with rfl | rfl
      · split <;> omega
      · split <;> omega
    · rcases List.mem_append.mp hl with hl | hl
      · have := leadsB_le a (p + 1) e l hl n hn
        omega
      · have := leadsB_le b (p + 1 + (rowsB a).length) e l hl n hn
        omega
  | .again a, p, e, l, hl, n, hn => by
    have hlen : (rowsR (.again a)).length = (rowsB a).length + 1 := rfl
    rw [hlen]
    rcases List.mem_cons.mp hl with rfl | hl
    · simp only [List.mem_cons, List.not_mem_nil, or_false] at hn
      rcases hn with rfl | rfl
      · split <;> omega
      · omega
    · have := leadsB_le a (p + 1) p l hl n hn
      omega
  | .note _ _ _, p, e, l, hl, n, hn => by
    rw [List.mem_singleton.mp hl] at hn
    rw [List.mem_singleton.mp hn]
    exact Nat.le_max_right _ _
  | .copy _ _, p, e, l, hl, n, hn => by
    rw [List.mem_singleton.mp hl] at hn
    rw [List.mem_singleton.mp hn]
    exact Nat.le_max_right _ _
  | .give _ _, p, e, l, hl, n, hn => by
    rw [List.mem_singleton.mp hl] at hn
    rw [List.mem_singleton.mp hn]
    exact Nat.le_max_right _ _
  | .ask _, p, e, l, hl, n, hn => by
    rw [List.mem_singleton.mp hl] at hn
    rw [List.mem_singleton.mp hn]
    exact Nat.le_max_right _ _
  | .prt _, p, e, l, hl, n, hn => by
    rw [List.mem_singleton.mp hl] at hn
    rw [List.mem_singleton.mp hn]
    exact Nat.le_max_right _ _
theorem leadsB_le : ∀ (b : List Rw) (p e : Nat), ∀ l ∈ leadsB b p e, ∀ n ∈ l, n ≤ max (p + (rowsB b).length) e
  | [], p, e, l, hl, n, hn => nomatch hl
  | r :: b, p, e, l, hl, n, hn => by
    have hlen : (rowsB (r :: b)).length = (rowsR r).length + (rowsB b).length := List.length_append
    rw [hlen]
    rcases List.mem_append.mp hl with hl | hl
    · have := leadsR_le r p _ l hl n hn
      split at this <;> omega
    · have := leadsB_le b (p + (rowsR r).length) e l hl n hn
      omega
end
mutual
theorem leadsR_two : ∀ (r : Rw) (p e : Nat), ∀ l ∈ leadsR r p e, l.length ≤ 2
  | .either a b, p, e, l, hl => by
    rcases List.mem_cons.mp hl with rfl | hl
    · exact Nat.le_refl _
    · rcases List.mem_append.mp hl with hl | hl
      · exact leadsB_two a _ _ l hl
      · exact leadsB_two b _ _ l hl
  | .again a, p, e, l, hl => by
    rcases List.mem_cons.mp hl with rfl | hl
    · exact Nat.le_refl _
    · exact leadsB_two a _ _ l hl
  | .note _ _ _, p, e, l, hl => by
    rw [List.mem_singleton.mp hl]
    exact Nat.le_succ 1
  | .copy _ _, p, e, l, hl => by
    rw [List.mem_singleton.mp hl]
    exact Nat.le_succ 1
  | .give _ _, p, e, l, hl => by
    rw [List.mem_singleton.mp hl]
    exact Nat.le_succ 1
  | .ask _, p, e, l, hl => by
    rw [List.mem_singleton.mp hl]
    exact Nat.le_succ 1
  | .prt _, p, e, l, hl => by
    rw [List.mem_singleton.mp hl]
    exact Nat.le_succ 1
theorem leadsB_two : ∀ (b : List Rw) (p e : Nat), ∀ l ∈ leadsB b p e, l.length ≤ 2
  | [], p, e, l, hl => nomatch hl
  | r :: b, p, e, l, hl => by
    rcases List.mem_append.mp hl with hl | hl
    · exact leadsR_two r _ _ l hl
    · exact leadsB_two b _ _ l hl
end
theorem leads_two {b : List Rw} {l : List Nat} (h : l ∈ leadsP b) : l.length ≤ 2 := by
  rcases List.mem_append.mp h with h | h
  · exact leadsB_two b _ _ l h
  · rw [List.mem_singleton.mp h]
    exact Nat.zero_le _
theorem leadsP_lt {b : List Rw} {i : Nat} {l : List Nat} (h : (leadsP b)[i]? = some l) : ∀ n ∈ l, n < (leadsP b).length := fun n hn => by
  rw [leadsP_len]
  have hm := List.mem_of_getElem? h
  rcases List.mem_append.mp hm with hm | hm
  · have := leadsB_le b 0 _ l hm n hn
    omega
  · rw [List.mem_singleton.mp hm] at hn
    cases hn
/-- a way: places, each a next one of the one ahead -/
structure WayOk (ls : List (List Nat)) (ns : List Nat) : Prop where
  ne : ns ≠ []
  lt : ∀ n ∈ ns, n < ls.length
  st : ∀ k, k + 1 < ns.length → stepB ls ns k = true
theorem nat_map (ns : List Nat) : (ns.map fun (n : Nat) => (some (n : Int) : Option Int)).map natOf = ns := by
  induction ns with
  | nil => rfl
  | cons n ns ih => rw [List.map_cons, List.map_cons, ih]; rfl
theorem WayOk.judge {ls : List (List Nat)} {ns : List Nat} (w : WayOk ls ns) : judge ls (ns.map fun (n : Nat) => (some (n : Int) : Option Int)) = true := by
  unfold PM.judge
  rw [nat_map]
  have h1 : (ns.map fun (n : Nat) => (some (n : Int) : Option Int)).isEmpty = false := by
    cases ns with
    | nil => exact absurd rfl w.ne
    | cons _ _ => rfl
  have h2 : ((ns.map fun (n : Nat) => (some (n : Int) : Option Int)).map (inRg ls.length)).all id = true := by
    refine List.all_eq_true.mpr fun x hx => ?_
    obtain ⟨c, hc, rfl⟩ := List.mem_map.mp hx
    obtain ⟨n, hn, rfl⟩ := List.mem_map.mp hc
    have := w.lt n hn
    show (decide (0 ≤ (n : Int)) && decide ((n : Int) < (ls.length : Int))) = true
    rw [decide_eq_true (by omega), decide_eq_true (by omega)]
    rfl
  have h3 : ((List.range ((ns.map fun (n : Nat) => (some (n : Int) : Option Int)).length - 1)).map (stepB ls ns)).all id = true := by
    refine List.all_eq_true.mpr fun x hx => ?_
    obtain ⟨k, hk, rfl⟩ := List.mem_map.mp hx
    rw [List.length_map] at hk
    have := List.mem_range.mp hk
    exact w.st k (by omega)
  rw [h1, h2, h3]
  rfl
theorem WayOk.one {ls : List (List Nat)} {n : Nat} (h : n < ls.length) : WayOk ls [n] :=
  ⟨by simp, fun m hm => by rw [List.mem_singleton.mp hm]; exact h, fun k hk => by simp at hk⟩
theorem getD_app {ns : List Nat} {m k : Nat} (h : k < ns.length) : (ns ++ [m]).getD k 0 = ns.getD k 0 := by
  rw [List.getD_eq_getElem?_getD, List.getD_eq_getElem?_getD, List.getElem?_append_left h]
theorem WayOk.snoc {ls : List (List Nat)} {ns : List Nat} {m : Nat} {l : List Nat} (w : WayOk ls ns) (hl : ls[ns.getD (ns.length - 1) 0]? = some l) (hm : m ∈ l) (h : m < ls.length) : WayOk ls (ns ++ [m]) := by
  have hp : 0 < ns.length := List.length_pos_iff.mpr w.ne
  refine ⟨by simp, fun n hn => ?_, fun k hk => ?_⟩
  · rcases List.mem_append.mp hn with hn | hn
    · exact w.lt n hn
    · rw [List.mem_singleton.mp hn]
      exact h
  · rw [List.length_append, List.length_singleton] at hk
    by_cases hk2 : k + 1 < ns.length
    · have := w.st k hk2
      unfold stepB at this ⊢
      rw [getD_app hk2, getD_app (by omega)]
      exact this
    · have e : k = ns.length - 1 := by omega
      unfold stepB
      rw [getD_app (by omega), e, List.getD_eq_getElem?_getD (l := ns ++ [m]), List.getElem?_append_right (by omega), List.getD_eq_getElem?_getD (l := ls), hl]
      have e2 : ns.length - 1 + 1 - ns.length = 0 := by omega
      rw [e2]
      show decide (m ∈ l) = true
      exact decide_eq_true hm
end PM
set_option Elab.async false
set_option linter.all false
set_option maxRecDepth 100000
set_option maxHeartbeats 4000000
/-! A written dict of one entry whose key is a tuple. -/
namespace ZR
open PySem PySem.Spec PyProof.Rows L2 ZX PM RZ
theorem wpAny_Dict_of {prog : Program} {w : World} {κ : Type} [DecidableEq κ] {knd : HeapKind prog w κ} {A : Around} {E : Value → Shared → Prop} {s : Shared} {env : Env} {keys : List (Option Expr)} {values : List Expr} {pos : Pos} {pairs : List (Sem Value × Sem Value)} {Q : Value → Shared → Prop}
    (hu : knd.room A) (hshape : (evalEachOpt keys env).zip (List.map (fun v => do let x ← v; standAt pos; pure x) (evalEach values env)) = List.map (fun p => (some p.fst, p.snd)) pairs) (h0 : pairs ≠ []) (hlen : pairs.length ≤ 15)
    (h : wpAny (model prog w) A (evalPairs pairs) (fun vs s₁ => ∃ ps, CarriesH knd s₁.heap vs ps ∧ Heap.DictOfH knd s₁.heap s.heap.objs.size [] ∧ ∀ (h' : Heap) (tk : Nat), Heap.DictOfH knd h' s.heap.objs.size (storedAllH [] ps) → Heap.SameBut s.heap.objs.size s₁.heap h' → Q (Value.ref s.heap.objs.size) { heap := h', gens := s₁.gens, drawn := s₁.drawn, toks := tk, os := s₁.os }) E
      { heap := s.heap.push { cls := Value.type "dict", data := Data.dict #[] }, gens := s.gens, drawn := s.drawn, toks := s.toks, os := s.os }) :
    wpAny (model prog w) A (eval (Expr.Dict keys values pos) env) Q E s := by
  rw [arm_eval_Dict, hshape, dictDisplay_pairs pairs h0 (by omega)]
  refine wpAny_bind (wpAny_standAt (wpAny_bind (wpAny_subDictH hu hlen (wpAny_mono h (fun vs s₁ h₁ => ?_) fun _ _ e => e))))
  obtain ⟨ps, hc, hm, hq⟩ := h₁
  exact ⟨ps, hc, hm, fun h' tk a b => wpAny_pure (hq h' tk a b)⟩
section
variable {X : Cx}
/-- {k: v}: the key is a tuple of numbers and texts -/
def tDispT (tk tv : TE) : TE := fun σ H Q => ∀ p, H p = none → tk σ (upd H p (.dT [])) fun x H1 => tv σ H1 fun y H2 => H2 p = some (.dT []) ∧ ∃ (b : Addr) (ks : List Key), x = .ref b ∧ H2 b = some (.tup (ks.map kV)) ∧ Q (.ref p) (upd H2 p (.dT [(ks, y)]))
theorem pe_dispT {k v : Expr} {pos : Pos} {tk tv : TE} (hu : X.A.units + 1 < cLine) (hk : PE X k tk) (hv : PE X v tv) : PE X (.Dict [some k] [v] pos) (tDispT tk tv) := by
  refine ⟨fun pins s σ H Q I q => ?_⟩
  have hn := HOk.fresh I.hok (Nat.le_refl s.heap.objs.size)
  have I1 := Inv.laid (t' := s.toks) I (fun x x_1 q => Heap.get?_push_of_some { cls := Value.type "dict", data := Data.dict #[] } q) (Nat.le_refl s.heap.objs.size) (dt_empty s.heap (Inv.big I))
  have hp : PPs X pos [some k] [v] [(tk, tv)] := pps_cons hk hv pps_nil
  refine wpAny_Dict_of (knd := tupleKind (mixKind X.prog X.w)) (pairs := pairTrees [some k] [v] X.env pos) ?_ rfl (by intro z; cases z) (by show 1 ≤ 15; decide) ?_
  · show X.A.units < cLine
    omega
  · refine thn (hp.run pins _ σ _ (fun ps H2 => match ps with
      | [(x, y)] => H2 s.heap.objs.size = some (.dT []) ∧ ∃ (b : Addr) (ks : List Key), x = .ref b ∧ H2 b = some (.tup (ks.map kV)) ∧ Q (.ref s.heap.objs.size) (upd H2 s.heap.objs.size (.dT [(ks, y)]))
      | _ => False) I1 (q s.heap.objs.size hn)) fun ws s2 h2 => ?_
    obtain ⟨ps, H2, I2, rel, hq⟩ := h2
    match ps, ws, rel, hq with
    | [(x, y)], [(u1, u2)], rel, ⟨e, b, ks, ex, hb, hQ⟩ =>
      subst ex
      obtain ⟨z, hd, xs0, r0, dd⟩ := dt_of I2.hok e
      cases r0
      cases rel with
      | cons h t =>
        have hr1 : L2.RelV (.ref b) u1 := h.1
        have hr2 : L2.RelV y u2 := h.2
        cases hr1
        have nb : b ≠ s.heap.objs.size := fun z => by
          rw [z, e] at hb
          cases hb
        refine ⟨[(ks, b, u2)], ?_, dd, fun h' tk dd' hs => ?_⟩
        · simp only [CarriesH]
          exact ⟨trivial, trivial, key_of I2.hok hb, trivial⟩
        · refine ⟨.ref s.heap.objs.size, upd H2 s.heap.objs.size (.dT [(ks, y)]), d_write I2 (by rw [e]; trivial) hs ?_ ?_, rfl, hQ⟩
          · obtain ⟨o, es, ep, ho, _⟩ := dd'
            exact ⟨o, ho⟩
          · refine ⟨by show 1 ≤ sizeLine; decide, hd, [(ks, b, u2)], .cons ⟨rfl, by rw [upd_ne nb]; exact hb, hr2⟩ .nil, ?_⟩
            obtain ⟨o, es, ep, h1, h2, h3, h4, _, h6⟩ := dd'
            exact ⟨o, es, ep, h1, h2, h3, h4, h6⟩
end
end ZR
set_option Elab.async false
set_option linter.all false
set_option maxRecDepth 100000
set_option maxHeartbeats 4000000
namespace K25
open PySem PySem.Spec PyProof.Rows L2 ZX PM ZR
abbrev sLLots : Stmt := top 60
/-- a table, its bits, the names of its rows -/
structure Tab (K : PySem.W.Frag) (H : Hp) (l d : Addr) (us : List V) (b : List Rw) (ys : List Str) : Prop where
  hl : H l = some (.lst us)
  hu : Tvs K H us ((tabB b).map dE)
  hb : Bits H d ys
  hn : ∀ x ∈ (rowsB b).flatMap namesR, x ∈ ys
  G : Good b
  l8 : ys.length ≤ 8
theorem Tab.mv {K : PySem.W.Frag} {H H' : Hp} {l d : Addr} {us : List V} {b : List Rw} {ys : List Str} (t : Tab K H l d us b ys) {r : Addr} (nl : l ≠ r) (nd : d ≠ r) (k : Kp r H H') (pt : Pt H H') : Tab K H' l d us b ys :=
  ⟨k _ _ nl t.hl, t.hu.pt pt, t.hb.kp nd k, t.hn, t.G, t.l8⟩
theorem Tab.same {K : PySem.W.Frag} {H H' : Hp} {l d : Addr} {us : List V} {b : List Rw} {ys : List Str} (t : Tab K H l d us b ys) (s : Same H H') : Tab K H' l d us b ys :=
  ⟨s _ _ t.hl, t.hu.pt s.pt, t.hb.same s, t.hn, t.G, t.l8⟩
theorem Tab.len {K : PySem.W.Frag} {H : Hp} {l d : Addr} {us : List V} {b : List Rw} {ys : List Str} (t : Tab K H l d us b ys) : us.length = (rowsB b).length := by
  rw [t.hu.len, List.length_map, tab_len]
/-- the next places of a place -/
theorem leads_at {b : List Rw} {p : Nat} {ls : List Nat} (h : (leadsB b 0 (rowsB b).length)[p]? = some ls) : ls.length ≤ 2 ∧ ∀ n ∈ ls, n ≤ (rowsB b).length := by
  have hm := List.mem_of_getElem? h
  exact ⟨leadsB_two _ _ _ _ hm, fun n hn => by have := leadsB_le _ _ _ _ hm n hn; omega⟩
mutual
theorem entsR_one : ∀ (r : Rw) (p e : Nat), ∀ x ∈ entsR r p e, 1 ≤ x.2.length ∧ (inner x.1 = [] → x.2.length = 1)
  | .either a b, p, e, x, h => by
    rw [entsR_either] at h
    rcases List.mem_cons.mp h with rfl | h
    · exact ⟨by show 1 ≤ 2; decide, fun z => nomatch z⟩
    · rcases List.mem_append.mp h with h | h
      · exact entsB_one a _ _ x h
      · exact entsB_one b _ _ x h
  | .again a, p, e, x, h => by
    rw [entsR_again] at h
    rcases List.mem_cons.mp h with rfl | h
    · exact ⟨by show 1 ≤ 2; decide, fun z => nomatch z⟩
    · exact entsB_one a _ _ x h
  | .note _ _ _, p, e, x, h => by
    rw [List.mem_singleton.mp (show x ∈ [_] from h)]
    exact ⟨Nat.le_refl 1, fun _ => rfl⟩
  | .copy _ _, p, e, x, h => by
    rw [List.mem_singleton.mp (show x ∈ [_] from h)]
    exact ⟨Nat.le_refl 1, fun _ => rfl⟩
  | .give _ _, p, e, x, h => by
    rw [List.mem_singleton.mp (show x ∈ [_] from h)]
    exact ⟨Nat.le_refl 1, fun _ => rfl⟩
  | .ask _, p, e, x, h => by
    rw [List.mem_singleton.mp (show x ∈ [_] from h)]
    exact ⟨Nat.le_refl 1, fun _ => rfl⟩
  | .prt _, p, e, x, h => by
    rw [List.mem_singleton.mp (show x ∈ [_] from h)]
    exact ⟨Nat.le_refl 1, fun _ => rfl⟩
theorem entsB_one : ∀ (b : List Rw) (p e : Nat), ∀ x ∈ entsB b p e, 1 ≤ x.2.length ∧ (inner x.1 = [] → x.2.length = 1)
  | [], _, _, _, h => nomatch h
  | r :: b, p, e, x, h => by
    rw [entsB_cons] at h
    rcases List.mem_append.mp h with h | h
    · exact entsR_one r _ _ x h
    · exact entsB_one b _ _ x h
end
theorem tab_pair {b : List Rw} {p : Nat} {r : Rw} {ls : List Nat} (hr : (rowsB b)[p]? = some r) (hl : (leadsB b 0 (rowsB b).length)[p]? = some ls) : (r, ls) ∈ tabB b := by
  refine List.mem_of_getElem? (i := p) ?_
  unfold tabB entsB
  rw [List.getElem?_zip_eq_some]
  exact ⟨hr, hl⟩
/-- a mask of names -/
def MaskN (ys : List Str) (m : Nat) : Prop := ∃ S : Str → Bool, m = maskS ys S
/-- the first next place and the own bit of a note row -/
theorem note_at {K : PySem.W.Frag} {H : Hp} {l d : Addr} {us : List V} {b : List Rw} {ys : List Str} (t : Tab K H l d us b ys) {p : Nat} {x o : Str} {ps : List Str} (hp : (rowsB b)[p]? = some (.note x o ps)) :
    ∃ ea ex ey q, us[p]? = some (.ref ea) ∧ SqT K H ea [.ref ex, .ref ey] ∧ RV K H (.ref ex) (.note x o ps) ∧ (∃ tl, SqT K H ex (V.str "note" :: V.str x :: tl)) ∧ SqT K H ey [.int (q : Nat)] ∧ q ≤ (rowsB b).length ∧ (leadsB b 0 (rowsB b).length)[p]? = some [q] ∧ x ∈ ys ∧ DGet H d (.str x) (some (.int ((2 ^ idxS ys x : Nat) : Int))) ∧ MaskN ys (2 ^ idxS ys x) := by
  obtain ⟨ea, vx, vy, ls, hea, hES, hEr, hEl, hls⟩ := tab_get t.hu hp
  obtain ⟨ex, tl, rfl, hxS, hxt⟩ := hEr.rowI
  obtain ⟨v1, v2, v3, rfl, t1, t2, t3⟩ := hxt.three
  cases t1.strI
  obtain ⟨ey, zs, rfl, hyS, hyt⟩ := hEl.tupI
  have h1 := (entsB_one _ _ _ _ (tab_pair hp hls)).2 rfl
  obtain ⟨q, rfl⟩ : ∃ q, ls = [q] := by
    match ls, h1 with
    | [q], _ => exact ⟨q, rfl⟩
  rw [Tvs.ints hyt] at hyS
  have hx : x ∈ ys := names_mem t.hn (List.mem_of_getElem? hp) x List.mem_cons_self
  refine ⟨ea, ex, ey, q, hea, hES, hEr, ⟨_, hxS⟩, hyS, (leads_at hls).2 q List.mem_cons_self, hls, hx, t.hb.get hx, putS (fun _ => false) x true, ?_⟩
  have := maskS_put (S := fun _ => false) t.hb.nd (idxS_at hx) rfl
  rw [this, maskS_zero, Nat.zero_add]
end K25
set_option Elab.async false
set_option linter.all false
set_option maxRecDepth 100000
set_option maxHeartbeats 4000000
namespace K25
open PySem PySem.Spec PyProof.Rows L2 ZX PM ZR
theorem at1 {a b : V} {tl : List V} : atI (a :: b :: tl) 1 = some b := at_of (j := 1) rfl rfl
/-- what stands in the search for lots -/
structure LotB (H0 : Hp) (r sd st fo : Addr) (ys : List Str) (R N M n : Nat) (ts : List Addr) (ms : List Nat) (kvs : List (List Key × V)) (H : Hp) : Prop where
  kp : Kp r H0 H
  hr : H r = some (.lst [.int (n : Nat)])
  hst : H st = some (.lst (ts.map V.ref))
  hfo : H fo = some (.lst (plV ms))
  hsd : H sd = some (.dT kvs)
  lk : kvs.length ≤ N
  lt : ts.length ≤ N
  lm : ms.length ≤ M
  et : ∀ t ∈ ts, ∃ h m : Nat, H t = some (.tup [.int h, .int m]) ∧ h ≤ R ∧ MaskN ys m
  em : ∀ m ∈ ms, MaskN ys m
section
variable {H0 : Hp} {r sd st fo : Addr} {ys : List Str} {R N M n : Nat} {ts : List Addr} {ms : List Nat} {kvs : List (List Key × V)} {H : Hp}
theorem LotB.same (h : LotB H0 r sd st fo ys R N M n ts ms kvs H) {H' : Hp} (s : Same H H') : LotB H0 r sd st fo ys R N M n ts ms kvs H' :=
  ⟨h.kp.same s, s _ _ h.hr, s _ _ h.hst, s _ _ h.hfo, s _ _ h.hsd, h.lk, h.lt, h.lm, fun t ht => let ⟨a, m, h1, h2⟩ := h.et t ht; ⟨a, m, s _ _ h1, h2⟩, h.em⟩
theorem LotB.room (h : LotB H0 r sd st fo ys R N M n ts ms kvs H) (n1 : st ≠ r) (n2 : fo ≠ r) (n3 : sd ≠ r) (m : Nat) : LotB H0 r sd st fo ys R N M m ts ms kvs (upd H r (.lst [.int (m : Nat)])) :=
  ⟨h.kp.put, upd_same, by rw [upd_ne n1]; exact h.hst, by rw [upd_ne n2]; exact h.hfo, by rw [upd_ne n3]; exact h.hsd, h.lk, h.lt, h.lm, fun t ht => let ⟨a, m, h1, h2⟩ := h.et t ht; ⟨a, m, by rw [upd_ne (ne_of h1 h.hr (by intro z; cases z))]; exact h1, h2⟩, h.em⟩
theorem LotB.found (h : LotB H0 r sd st fo ys R N M n ts ms kvs H) (f0 : H0 fo = none) (n1 : st ≠ fo) (n2 : fo ≠ r) {m : Nat} (hm : MaskN ys m) : LotB H0 r sd st fo ys R N (M + 1) n ts (ms ++ [m]) kvs (upd H fo (.lst (plV ms ++ [.int (m : Nat)]))) :=
  ⟨h.kp.fresh f0, by rw [upd_ne n2.symm]; exact h.hr, by rw [upd_ne n1]; exact h.hst, by rw [upd_same, plV_app]; rfl, by rw [upd_ne (ne_of h.hsd h.hfo (by intro z; cases z))]; exact h.hsd, h.lk, h.lt, by rw [List.length_append]; exact Nat.succ_le_succ h.lm, fun t ht => let ⟨a, m, h1, h2⟩ := h.et t ht; ⟨a, m, by rw [upd_ne (ne_of h1 h.hfo (by intro z; cases z))]; exact h1, h2⟩, fun x hx => (List.mem_append.mp hx).elim (h.em x) fun hx => by rw [List.mem_singleton.mp hx]; exact hm⟩
theorem LotB.wk (h : LotB H0 r sd st fo ys R N M n ts ms kvs H) {N' : Nat} (e : N ≤ N') : LotB H0 r sd st fo ys R N' M n ts ms kvs H :=
  ⟨h.kp, h.hr, h.hst, h.hfo, h.hsd, Nat.le_trans h.lk e, Nat.le_trans h.lt e, h.lm, h.et, h.em⟩
theorem LotB.seen (h : LotB H0 r sd st fo ys R N M n ts ms kvs H) (s0 : H0 sd = none) (k : List Key) (v : V) : LotB H0 r sd st fo ys R (N + 1) M n ts ms (putK kvs k v) (upd H sd (.dT (putK kvs k v))) :=
  ⟨h.kp.fresh s0, by rw [upd_ne (ne_of h.hr h.hsd (by intro z; cases z))]; exact h.hr, by rw [upd_ne (ne_of h.hst h.hsd (by intro z; cases z))]; exact h.hst, by rw [upd_ne (ne_of h.hfo h.hsd (by intro z; cases z))]; exact h.hfo, upd_same, Nat.le_trans (length_putK _ _ _) (Nat.succ_le_succ h.lk), Nat.le_succ_of_le h.lt, h.lm, fun t ht => let ⟨a, m, h1, h2⟩ := h.et t ht; ⟨a, m, by rw [upd_ne (ne_of h1 h.hsd (by intro z; cases z))]; exact h1, h2⟩, h.em⟩
theorem LotB.put (h : LotB H0 r sd st fo ys R (N + 1) M n ts ms kvs H) (hlt : ts.length ≤ N) (s0 : H0 st = none) (n1 : st ≠ fo) (n2 : st ≠ r) {t : Addr} {a m : Nat} (ht : H t = some (.tup [.int a, .int m])) (ha : a ≤ R) (hm : MaskN ys m) : LotB H0 r sd st fo ys R (N + 1) M n (ts ++ [t]) ms kvs (upd H st (.lst (ts.map V.ref ++ [.ref t]))) :=
  ⟨h.kp.fresh s0, by rw [upd_ne n2.symm]; exact h.hr, by rw [upd_same, List.map_append]; rfl, by rw [upd_ne n1.symm]; exact h.hfo, by rw [upd_ne (ne_of h.hsd h.hst (by intro z; cases z))]; exact h.hsd, h.lk, by rw [List.length_append]; exact Nat.succ_le_succ hlt, h.lm, fun u hu => by
    have go : ∀ {w : Addr} {xs : List V}, H w = some (.tup xs) → upd H st (.lst (ts.map V.ref ++ [.ref t])) w = some (.tup xs) := fun e => by
      rw [upd_ne (ne_of e h.hst (by intro z; cases z))]
      exact e
    rcases List.mem_append.mp hu with hu | hu
    · obtain ⟨a, m, h1, h2⟩ := h.et u hu
      exact ⟨a, m, go h1, h2⟩
    · rw [List.mem_singleton.mp hu]
      exact ⟨a, m, go ht, ha, hm⟩, h.em⟩
end
def spLLots (K : PySem.W.Frag) : Sp := fun vs H Q _ => ∃ (l d r : Addr) (p : Nat) (us : List V) (b : List Rw) (ys : List Str) (x o : Str) (ps : List Str) (n : Nat), vs = [.ref l, .ref d, .int p, .ref r] ∧ Tab K H l d us b ys ∧ (rowsB b)[p]? = some (.note x o ps) ∧ H r = some (.lst [.int (n : Nat)]) ∧ n ≤ 1500 ∧ l ≠ r ∧
  ∀ (f : Addr) (ms : List Nat) (n' : Nat) (H' : Hp), Kp r H H' → H' r = some (.lst [.int (n' : Nat)]) → n' ≤ n → H f = none → H' f = some (.lst (plV ms)) → ms.length ≤ 1500 → (∀ m ∈ ms, MaskN ys m) → Q (.ref f) H'
section
variable {P : Program} {w : World} {K : PySem.W.Frag} {mg : Str → Option Value} {base : Heap}
theorem scLots : FnScope ["_law_table_here", "_law_bits_here", "_law_place", "_law_room", "_law_first", "_law_seen", "_law_states", "_law_found", "_law_at", "_law_here", "_law_mask_here", "_law_later", "_law_goal"] ["_law_table_here", "_law_bits_here", "_law_place", "_law_room"] (defScope sLLots) := ⟨rfl, rfl, rfl, by decide +kernel, rfl, by decide +kernel, by decide +kernel⟩
theorem ok_llots {f : Addr} {fd : FuncData} (F : FnP K "_law_lots_back" sLLots f fd) (T : Bi mg) (C__law_moved : Cal P w K mg base "_law_moved" 1 ["_law_row", "_law_mask_here", "_law_bits_here"] (spLMoved K)) : FnOk P w K mg base CX0 2 f fd ["_law_table_here", "_law_bits_here", "_law_place", "_law_room"] (spLLots K) := by
  refine F.ok scLots (fun vs H Q E h => ?_) (fun cdv A outer s H vs Q E hr h => ?_)
  · obtain ⟨l, d, r, p, us, b, ys, x, o, ps, n, rfl, _⟩ := h
    rfl
  · obtain ⟨l, d, r, p, us, b, ys, x, o, ps, n0, rfl, t0, hp, hr0, hn0, nlr, k⟩ := h
    have hr__law_moved := hr
    have hu := hu_of hr
    refine ⟨_, PSs.nox (pss_cons (ps_set (i := 4) scLots.nd rfl (Or.inl rfl) (pe_tup (pa_cons (pe_ix ix_tup (pe_ix ix_tup (pe_ix ix_list (pv 0) (pv 2) (fun _ _ => rfl)) pe_int (fun _ _ => rfl)) pe_int (fun _ _ => rfl)) (pa_cons (pe_dget hu (pv 1) (pe_ix ix_tup (pe_ix ix_tup (pe_ix ix_list (pv 0) (pv 2) (fun _ _ => rfl)) pe_int (fun _ _ => rfl)) pe_int (fun _ _ => rfl)) (fun _ _ => rfl)) pa_nil))))
    (pss_cons (ps_asg (pe_tup (pa_cons (pe_dispT hu (pv 4) pe_bl) (pa_cons (pe_lst (pa_cons (pv 4) pa_nil)) (pa_cons (pe_lst pa_nil) (pa_cons pe_int pa_nil))))) (pg_tup rfl (pgs_cons (pg_name (i := 5) scLots.nd rfl (Or.inl rfl)) (pgs_cons (pg_name (i := 6) scLots.nd rfl (Or.inl rfl)) (pgs_cons (pg_name (i := 7) scLots.nd rfl (Or.inl rfl)) (pgs_cons (pg_name (i := 8) scLots.nd rfl (Or.inl rfl)) pgs_nil))))))
    (pss_cons (ps_while PassesOwn.never (pt_cut (PW.pt (pw_and (pt_cmpR op_lt (pv 8) (pe_callB call_len_seq (by rfl) T.b_len (by decide +kernel) (pa_cons (pv 6) pa_nil)) (nomark _)) (pw_and1 (pt_cmpR op_gt (pe_ix ix_list (pv 3) pe_int (fun _ _ => rfl)) pe_int (nomark _)))))) (pss_cons (ps_asg (pe_ix ix_list (pv 6) (pv 8) (fun _ _ => rfl)) (pg_tup rfl (pgs_cons (pg_name (i := 9) scLots.nd rfl (Or.inl rfl)) (pgs_cons (pg_name (i := 10) scLots.nd rfl (Or.inl rfl)) pgs_nil))))
      (pss_cons (ps_set (i := 8) scLots.nd rfl (Or.inl rfl) (pe_op op_add (pv 8) pe_int))
      (pss_cons (ps_asg (pe_op op_sub (pe_ix ix_list (pv 3) pe_int (fun _ _ => rfl)) pe_int) (pg_sub (pv 3) pe_int set_list))
      (pss_cut (ps_set (i := 11) scLots.nd rfl (Or.inl rfl) (pe_ifExp (pt_cmpR op_lt (pv 9) (pe_callB call_len_seq (by rfl) T.b_len (by decide +kernel) (pa_cons (pv 0) pa_nil)) (nomark _)) (pcal C__law_moved hr__law_moved rfl (pa_cons (pe_ix ix_tup (pe_ix ix_list (pv 0) (pv 9) (fun _ _ => rfl)) pe_int (fun _ _ => rfl)) (pa_cons (pv 10) (pa_cons (pv 1) pa_nil)))) (pe_un un_neg pe_int)))
      (pss_one (ps_if (pt_cmpR op_gt (pv 11) pe_int (nomark _)) (pss_cut (ps_if (PW.pt (pw_and (pt_cmpR op_eq (pv 9) (pv 2) (nomark _)) (pw_and1 (pt_cmpR op_notIn_seq (pv 11) (pv 7) (by with_unfolding_all rfl))))) (pss_one (ps_expr (pe_bm PySem.F.plainAttrs_list PySem.F.slot_list_append PySem.F.type_list_append mt_append (pv 7) (pa_cons (pv 11) pa_nil)))) pss_nil)
        (pss_one (ps_for PassesOwn.never rfl (pi_tup (pe_ix ix_tup (pe_ix ix_list (pv 0) (pv 9) (fun _ _ => rfl)) pe_int (fun _ _ => rfl))) (pg_name (i := 12) scLots.nd rfl (Or.inl rfl)) (pss_one (ps_if (pt_cmp (pc_dnotin hu (pe_tup (pa_cons (pv 12) (pa_cons (pv 11) pa_nil))) (pv 5)) (by with_unfolding_all rfl)) (pss_cons (ps_dput hu (pv 5) (pe_tup (pa_cons (pv 12) (pa_cons (pv 11) pa_nil))) pe_bl rfl)
            (pss_one (ps_expr (pe_bm PySem.F.plainAttrs_list PySem.F.slot_list_append PySem.F.type_list_append mt_append (pv 6) (pa_cons (pe_tup (pa_cons (pv 12) (pa_cons (pv 11) pa_nil))) pa_nil))))) pss_nil))))) pss_nil)))))))
    (pss_one (ps_ret (pv 7)))))), ?_⟩
    obtain ⟨ea, ex, ey, q, hea, hES, hEr, ⟨tl, hxS⟩, hyS, hq, hls, hx, hg, hm⟩ := note_at t0 hp
    refine ⟨_, rfl, _, rfl, l, _, _, _, rfl, rfl, SqL.of t0.hl, at_of (j := p) rfl hea, ea, _, _, _, rfl, rfl, hES, rfl, ey, _, _, _, rfl, rfl, hyS, rfl, ?_⟩
    refine ⟨_, rfl, _, rfl, _, rfl, l, _, _, _, rfl, rfl, SqL.of t0.hl, at_of (j := p) rfl hea, ea, _, _, _, rfl, rfl, hES, rfl, ex, _, _, _, rfl, rfl, hxS, at1, d, _, rfl, hg, by show 2 ≤ sizeLine; decide, fun ft nft => ?_⟩
    have sft := same_new (o := .tup [V.int (q : Nat), V.int ((2 ^ idxS ys x : Nat) : Int)]) nft
    -- seen, states, found, at
    intro sd nsd
    have nsf : ft ≠ sd := ne_of_none upd_same nsd
    refine ⟨_, rfl, upd_same, ft, [.inl (q : Nat), .inl ((2 ^ idxS ys x : Nat) : Int)], rfl, by rw [upd_ne nsf]; exact upd_same, _, rfl, by show 1 ≤ sizeLine; decide, fun st nst => ⟨by decide, fun fo nfo => ⟨by show 4 ≤ sizeLine; decide, fun qt nqt => ?_⟩⟩⟩
    have eu : upd (upd (upd H ft (.tup [V.int (q : Nat), V.int ((2 ^ idxS ys x : Nat) : Int)])) sd (.dT [])) sd (.dT [([.inl (q : Nat), .inl ((2 ^ idxS ys x : Nat) : Int)], .bl true)]) = upd (upd H ft (.tup [V.int (q : Nat), V.int ((2 ^ idxS ys x : Nat) : Int)])) sd (.dT [([.inl (q : Nat), .inl ((2 ^ idxS ys x : Nat) : Int)], .bl true)]) := upd_upd
    rw [eu] at nst nfo nqt ⊢
    clear eu
    have ssd := same_new (o := .dT [([.inl (q : Nat), .inl ((2 ^ idxS ys x : Nat) : Int)], .bl true)]) nsd
    have sst := same_new (o := .lst [V.ref ft]) nst
    have sfo := same_new (o := .lst []) nfo
    have sqt := same_new (o := .tup [V.ref sd, V.ref st, V.ref fo, V.int 0]) nqt
    have sd0 : H sd = none := sft.free nsd
    have st0 : H st = none := (sft.trans ssd).free nst
    have fo0 : H fo = none := ((sft.trans ssd).trans sst).free nfo
    have sAll := (((sft.trans ssd).trans sst).trans sfo).trans sqt
    have nsr : st ≠ r := (ne_of_none hr0 st0).symm
    have nfr : fo ≠ r := (ne_of_none hr0 fo0).symm
    have ndr : sd ≠ r := (ne_of_none hr0 sd0).symm
    have nsfo : st ≠ fo := ne_of_none upd_same nfo
    have nbr : d ≠ r := by
      obtain ⟨kvs, hk, _⟩ := t0.hb.ex
      exact ne_of hk hr0 (by intro z; cases z)
    have B0 : LotB H r sd st fo ys (rowsB b).length 1 0 n0 [ft] [] [([.inl (q : Nat), .inl ((2 ^ idxS ys x : Nat) : Int)], .bl true)] _ := ⟨sAll.kp, sAll _ _ hr0, sqt _ _ (sfo _ _ upd_same), sqt _ _ upd_same, sqt _ _ (sfo _ _ (sst _ _ upd_same)), Nat.le_refl _, Nat.le_refl _, Nat.le_refl _, fun t ht => by
      rw [List.mem_singleton.mp ht]
      exact ⟨q, _, sqt _ _ (sfo _ _ (sst _ _ (ssd _ _ upd_same))), hq, hm⟩, fun _ h => nomatch h⟩
    have tg : upd (upd (upd (upd (upd H ft (.tup [V.int (q : Nat), V.int ((2 ^ idxS ys x : Nat) : Int)])) sd (.dT [([.inl (q : Nat), .inl ((2 ^ idxS ys x : Nat) : Int)], .bl true)])) st (.lst [V.ref ft])) fo (.lst [])) qt (.tup [V.ref sd, V.ref st, V.ref fo, V.int 0]) qt = some (.tup [V.ref sd, V.ref st, V.ref fo, V.int 0]) := upd_same
    generalize upd (upd (upd (upd (upd H ft (.tup [V.int (q : Nat), V.int ((2 ^ idxS ys x : Nat) : Int)])) sd (.dT [([.inl (q : Nat), .inl ((2 ^ idxS ys x : Nat) : Int)], .bl true)])) st (.lst [V.ref ft])) fo (.lst [])) qt (.tup [V.ref sd, V.ref st, V.ref fo, V.int 0]) = G at B0 tg ⊢
    refine ⟨qt, _, rfl, .inl (.inl tg), rfl, _, _, rfl, _, _, rfl, _, _, rfl, _, _, rfl, rfl, ?_⟩
    refine while_by (fun σ' H' => ∃ (ts : List Addr) (ms : List Nat) (kvs : List (List Key × V)) (n at' N M : Nat) (y4 y9 y10 y11 y12 : Option V), σ' = [some (.ref l), some (.ref d), some (.int p), some (.ref r), y4, some (.ref sd), some (.ref st), some (.ref fo), some (.int (at' : Nat)), y9, y10, y11, y12] ∧ LotB H r sd st fo ys (rowsB b).length N M n ts ms kvs H' ∧ N + 2 * n ≤ 3001 ∧ M + n ≤ 1500 ∧ n ≤ n0)
      (fun _ H' => match H' r with
        | some (.lst [.int z]) => z.toNat
        | _ => 0) ⟨[ft], [], _, n0, 0, 1, 0, _, _, _, _, _, rfl, B0, by omega, by omega, Nat.le_refl _⟩ ?_ ?_
    · rintro σ1 H1 ⟨ts, ms, kvs, n, at', N, M, y4, y9, y10, y11, y12, rfl, B1, hN, hM, hn⟩
      refine ⟨fun b' H2 => H2 = H1 ∧ (b' = true → at' < ts.length ∧ 0 < n), ?_, ?_⟩
      · refine ⟨_, rfl, _, rfl, st, _, rfl, .inl (SqL.of B1.hst), _, _, rfl, rfl, _, rfl, ?_⟩
        refine ite2 (fun e1 => ?_) (fun _ => ⟨rfl, fun z => nomatch z⟩)
        refine ⟨_, rfl, r, _, _, _, rfl, rfl, SqL.of B1.hr, rfl, _, _, rfl, rfl, _, rfl, rfl, fun e2 => ?_⟩
        have q1 : (at' : Int) < ((ts.map V.ref).length : Nat) := of_decide_eq_true e1
        have q2 : (n : Int) > 0 := of_decide_eq_true e2
        rw [List.length_map] at q1
        exact ⟨by omega, by omega⟩
      · rintro b' H2 ⟨rfl, hb'⟩
        cases b' with
        | false =>
          have hlm := B1.lm
          exact ifBF rfl ⟨_, rfl, k fo ms n H2 B1.kp B1.hr hn fo0 B1.hfo (by omega) B1.em⟩
        | true =>
          obtain ⟨hat, hn1⟩ := hb' rfl
          refine ifB rfl ?_
          have hxt : ts[at']? = some ts[at'] := List.getElem?_eq_getElem hat
          obtain ⟨h, m, hte, hhR, hmm⟩ := B1.et _ (List.mem_of_getElem? hxt)
          obtain ⟨S, rfl⟩ := hmm
          generalize ts[at'] = t at hxt hte
          refine ⟨_, rfl, _, rfl, st, _, _, _, rfl, rfl, SqL.of B1.hst, at_of (j := at') rfl (by rw [List.getElem?_map, hxt]; rfl), t, _, rfl, .inl (.inl hte), rfl, _, _, rfl, _, _, rfl, rfl, ?_⟩
          refine ⟨_, rfl, _, _, rfl, rfl, ?_⟩
          refine ⟨_, rfl, r, _, _, _, rfl, rfl, SqL.of B1.hr, rfl, _, _, rfl, rfl, _, rfl, r, _, _, 0, rfl, rfl, B1.hr, rfl, ?_⟩
          have B2 := B1.room nsr nfr ndr (n - 1)
          have en : ((n - 1 : Nat) : Int) = (n : Int) - 1 := by omega
          rw [en] at B2
          have B2' : LotB H r sd st fo ys (rowsB b).length N M (n - 1) ts ms kvs (upd H2 r (.lst [.int ((n : Int) - 1)])) := by
            rw [← en]
            exact B1.room nsr nfr ndr (n - 1)
          clear B2
          have hmeas : n = (match H2 r with
            | some (.lst [.int z]) => z.toNat
            | _ => 0) := by
            rw [B1.hr]
            rfl
          have tab2 := t0.mv nlr nbr B2'.kp (Kp.pt hr0 B2'.kp)
          refine ⟨fun σ3 H3 => ∃ o : Option (Str → Bool), σ3 = [some (.ref l), some (.ref d), some (.int p), some (.ref r), y4, some (.ref sd), some (.ref st), some (.ref fo), some (.int ((at' : Int) + 1)), some (.int h), some (.int (maskS ys S : Nat)), some (.int (mOf ys o)), y12] ∧ Same (upd H2 r (.lst [.int ((n : Int) - 1)])) H3 ∧ (o.isSome = true → h < (rowsB b).length), ?_, ?_⟩
          · refine ⟨_, rfl, _, rfl, l, _, rfl, .inl (SqL.of tab2.hl), _, _, rfl, rfl, _, rfl, ?_⟩
            rw [tab2.len]
            refine ite2 (fun e => ?_) (fun _ => ?_)
            · have hlt : h < (rowsB b).length := by
                have : (h : Int) < ((rowsB b).length : Nat) := of_decide_eq_true e
                omega
              have hr1 : (rowsB b)[h]? = some (rowsB b)[h] := List.getElem?_eq_getElem hlt
              obtain ⟨fa, fx, fy, gs, hfa, hFS, hFr, _⟩ := tab_get tab2.hu hr1
              have hrm : (rowsB b)[h] ∈ rowsB b := List.getElem_mem hlt
              refine ⟨_, rfl, _, rfl, l, _, _, _, rfl, rfl, SqL.of tab2.hl, at_of (j := h) rfl hfa, fa, _, _, _, rfl, rfl, hFS, rfl, _, rfl, _, rfl, fx, (rowsB b)[h], d, ys, S, rfl, hFr, tab2.hb, names_mem tab2.hn hrm, ok_names_B tab2.G.ok _ hrm, fun H4 s4 => ?_⟩
              exact ⟨_, rfl, s4, fun _ => hlt⟩
            · exact ⟨_, rfl, none, rfl, fun _ _ h => h, fun z => nomatch z⟩
          rintro σ3 H3 ⟨o, rfl, s3, ho⟩
          have B3 := B2'.same s3
          have tab3 := tab2.same s3
          refine ⟨_, rfl, _, _, rfl, rfl, _, rfl, ?_⟩
          refine ite2 (fun e => ?_) (fun _ => ?_)
          · obtain ⟨S', rfl, hpos⟩ : ∃ S', o = some S' ∧ 0 < maskS ys S' := by
              cases o with
              | none => exact absurd (of_decide_eq_true e) (by show ¬ (-1 : Int) > 0; decide)
              | some S' =>
                have : ((maskS ys S' : Nat) : Int) > 0 := of_decide_eq_true e
                exact ⟨S', rfl, by omega⟩
            have hlt := ho rfl
            have hr1 : (rowsB b)[h]? = some (rowsB b)[h] := List.getElem?_eq_getElem hlt
            refine ⟨fun σ4 H4 => ∃ (ms' : List Nat) (M' : Nat), σ4 = [some (.ref l), some (.ref d), some (.int p), some (.ref r), y4, some (.ref sd), some (.ref st), some (.ref fo), some (.int ((at' : Int) + 1)), some (.int h), some (.int (maskS ys S : Nat)), some (.int (maskS ys S' : Nat)), y12] ∧ LotB H r sd st fo ys (rowsB b).length N M' (n - 1) ts ms' kvs H4 ∧ M' ≤ M + 1, ?_, ?_⟩
            · refine ⟨_, rfl, _, rfl, rfl, _, rfl, ?_⟩
              refine ite2 (fun _ => ?_) (fun _ => ⟨ms, M, rfl, B3, Nat.le_succ M⟩)
              refine ⟨_, rfl, _, rfl, fo, _, rfl, .inl (SqL.of B3.hfo), rfl, flat_ints ms, _, rfl, ?_⟩
              refine ite2 (fun _ => ?_) (fun _ => ⟨ms, M, rfl, B3, Nat.le_succ M⟩)
              have hlm := B3.lm
              refine ⟨_, rfl, .inl ⟨rfl, _, SqL.of B3.hfo⟩, _, rfl, fo, _, _, rfl, rfl, B3.hfo, Nat.lt_of_le_of_lt (show (plV ms).length ≤ 1500 by unfold plV; rw [List.length_map]; omega) (by decide), ?_⟩
              exact ⟨ms ++ [maskS ys S'], M + 1, rfl, B3.found fo0 nsfo nfr ⟨S', rfl⟩, Nat.le_refl _⟩
            rintro σ4 H4 ⟨ms', M', rfl, B4, hM'⟩
            have tab4 := t0.mv nlr nbr B4.kp (Kp.pt hr0 B4.kp)
            obtain ⟨fa, fx, fy, gs, hfa, hFS, hFr, hFl, hgs⟩ := tab_get tab4.hu hr1
            obtain ⟨ga, zs, rfl, hgS, hgt⟩ := hFl.tupI
            rw [Tvs.ints hgt] at hgS
            obtain ⟨hg2, hgR⟩ := leads_at hgs
            refine ⟨_, rfl, _, rfl, l, _, _, _, rfl, rfl, SqL.of tab4.hl, at_of (j := h) rfl hfa, fa, _, _, _, rfl, rfl, hFS, rfl, ga, rfl, ⟨_, hgS⟩, ?_⟩
            refine for_tup (xs := plV gs) (fun i σ5 H5 => ∃ (ts : List Addr) (kvs : List (List Key × V)) (y12 : Option V), σ5 = [some (.ref l), some (.ref d), some (.int p), some (.ref r), y4, some (.ref sd), some (.ref st), some (.ref fo), some (.int ((at' : Int) + 1)), some (.int h), some (.int (maskS ys S : Nat)), some (.int (maskS ys S' : Nat)), y12] ∧ LotB H r sd st fo ys (rowsB b).length (N + i) M' (n - 1) ts ms' kvs H5 ∧ SqT K H5 ga (plV gs)) ⟨ts, kvs, _, rfl, B4, hgS⟩ ?_ ?_ ?_
            · rintro i σ5 H5 _ ⟨_, _, _, _, _, h⟩
              exact h
            · rintro i z σ5 H5 hz ⟨ts5, kvs5, y12, rfl, B5, hgS5⟩
              obtain ⟨g, hg, rfl⟩ : ∃ g, gs[i]? = some g ∧ z = V.int (g : Nat) := by
                unfold plV at hz
                rw [List.getElem?_map] at hz
                cases e : gs[i]? with
                | none => rw [e] at hz; cases hz
                | some p => rw [e] at hz; exact ⟨p, rfl, (Option.some.inj hz).symm⟩
              have hgb := hgR g (List.mem_of_getElem? hg)
              have hil : i < gs.length := (List.getElem?_eq_some_iff.mp hg).1
              refine ⟨_, rfl, _, rfl, by show 2 ≤ sizeLine; decide, fun c1 nc1 => ?_⟩
              have s1 := same_new (o := .tup [V.int (g : Nat), V.int (maskS ys S' : Nat)]) nc1
              have B6 := B5.same s1
              refine ⟨_, rfl, sd, _, rfl, .inr ⟨kvs5, [.inl (g : Nat), .inl (maskS ys S' : Nat)], c1, .inl B6.hsd, rfl, upd_same, rfl⟩, _, rfl, ?_⟩
              refine ite2 (fun _ => ?_) (fun _ => ⟨ts5, kvs5, _, rfl, ?_, s1.pt.sq hgS5⟩)
              · have hlk := B6.lk
                have hlt6 := B6.lt
                refine ⟨_, rfl, _, rfl, _, rfl, by show 2 ≤ sizeLine; decide, fun c2 nc2 => ?_⟩
                have s2 := same_new (o := .tup [V.int (g : Nat), V.int (maskS ys S' : Nat)]) nc2
                have B7 := B6.same s2
                refine ⟨sd, _, rfl, .inr ⟨kvs5, [.inl (g : Nat), .inl (maskS ys S' : Nat)], c2, B7.hsd, rfl, upd_same, Nat.lt_of_le_of_lt (show kvs5.length ≤ 4000 by omega) (by decide), rfl⟩, ?_⟩
                have B8 := B7.seen sd0 [.inl (g : Nat), .inl (maskS ys S' : Nat)] (.bl true)
                have hgS8 := (s1.pt.trans s2.pt).sq hgS5
                have pd : ∀ (o : HO), Pt (upd (upd H5 c1 (.tup [V.int (g : Nat), V.int (maskS ys S' : Nat)])) c2 (.tup [V.int (g : Nat), V.int (maskS ys S' : Nat)])) (upd (upd (upd H5 c1 (.tup [V.int (g : Nat), V.int (maskS ys S' : Nat)])) c2 (.tup [V.int (g : Nat), V.int (maskS ys S' : Nat)])) sd o) := fun o b xs hb => by
                  have ne : b ≠ sd := fun e => by
                    subst e
                    rcases hb with hb | ⟨o, hb⟩ <;> rw [B7.hsd] at hb <;> cases hb
                  exact hb.elim (fun h => .inl (by rw [upd_ne ne]; exact h)) fun ⟨o, h⟩ => .inr ⟨o, by rw [upd_ne ne]; exact h⟩
                refine ⟨_, rfl, .inl ⟨rfl, _, SqL.of B8.hst⟩, _, rfl, _, rfl, by show 2 ≤ sizeLine; decide, fun c3 nc3 => ?_⟩
                have s3 := same_new (o := .tup [V.int (g : Nat), V.int (maskS ys S' : Nat)]) nc3
                have B9 := B8.same s3
                refine ⟨st, _, _, rfl, rfl, B9.hst, Nat.lt_of_le_of_lt (show (ts5.map V.ref).length ≤ 4000 by rw [List.length_map]; omega) (by decide), ?_⟩
                exact ⟨ts5 ++ [c3], _, _, rfl, B9.put hlt6 st0 nsfo nsr upd_same hgb ⟨S', rfl⟩, (Pt.lst B9.hst).sq (s3.pt.sq ((pd _).sq hgS8))⟩
              · exact B6.wk (by omega)
            · rintro σ5 H5 ⟨ts5, kvs5, y12, rfl, B5, _⟩
              have hgl : (plV gs).length = gs.length := List.length_map ..
              rw [hgl] at B5
              refine ⟨⟨ts5, ms', kvs5, n - 1, at' + 1, N + gs.length, M', _, _, _, _, _, rfl, B5, by omega, by omega, by omega⟩, ?_⟩
              rw [← hmeas, B5.hr]
              show ((n - 1 : Nat) : Int).toNat < n
              omega
          · refine ⟨⟨ts, ms, kvs, n - 1, at' + 1, N, M, _, _, _, _, _, rfl, B3, by omega, by omega, by omega⟩, ?_⟩
            rw [← hmeas, B3.hr]
            show ((n - 1 : Nat) : Int).toNat < n
            omega
    · rintro σ1 H1 Q1 Q2 mono ⟨Mi, h1, h2⟩
      exact ⟨Mi, h1, fun b' H' q => mono _ _ (h2 b' H' q)⟩
end
end K25
set_option Elab.async false
set_option linter.all false
set_option maxRecDepth 100000
set_option maxHeartbeats 4000000
namespace K25
open PySem PySem.Spec PyProof.Rows L2 ZX PM ZR
abbrev sLChain : Stmt := top 62
/-- a state's key: a place, two masks -/
def K3 (h m1 m2 : Nat) : List Key := [.inl (h : Int), .inl (m1 : Int), .inl (m2 : Int)]
/-- a chain of so many states -/
inductive Chn (H : Hp) (kvs : List (List Key × V)) : Nat → List Key → Prop
  | one {h m1 m2 : Nat} (e : valV kvs (K3 h m1 m2) = some .non) : Chn H kvs 1 (K3 h m1 m2)
  | more {h m1 m2 n : Nat} {k : List Key} {t : Addr} (e : valV kvs (K3 h m1 m2) = some (.ref t)) (ht : H t = some (.tup (k.map kV))) (c : Chn H kvs n k) : Chn H kvs (n + 1) (K3 h m1 m2)
theorem Chn.mv {H H' : Hp} {kvs kvs' : List (List Key × V)} (hk : ∀ k v, valV kvs k = some v → valV kvs' k = some v) (ht : ∀ t xs, H t = some (.tup xs) → H' t = some (.tup xs)) {n : Nat} {k : List Key} (c : Chn H kvs n k) : Chn H' kvs' n k := by
  induction c with
  | one e => exact .one (hk _ _ e)
  | more e h _ ih => exact .more (hk _ _ e) (ht _ _ h) ih
def spLChain (K : PySem.W.Frag) : Sp := fun vs H Q _ => ∃ (d t : Addr) (kvs : List (List Key × V)) (k : List Key) (n : Nat), vs = [.ref d, .ref t] ∧ H d = some (.dT kvs) ∧ H t = some (.tup (k.map kV)) ∧ Chn H kvs n k ∧ n ≤ 4000 ∧ ∀ (a : Addr) (hs : List Nat) (H' : Hp), Same H H' → SqT K H' a (plV hs) → hs.length = n → Q (.ref a) H'
section
variable {P : Program} {w : World} {K : PySem.W.Frag} {mg : Str → Option Value} {base : Heap}
theorem scChain : FnScope ["_law_came", "_law_state", "_law_found"] ["_law_came", "_law_state"] (defScope sLChain) := ⟨rfl, rfl, rfl, by decide +kernel, rfl, by decide +kernel, by decide +kernel⟩
theorem ok_lchain {f : Addr} {fd : FuncData} (F : FnP K "_law_chain" sLChain f fd) (T : Bi mg) : FnOk P w K mg base CX0 1 f fd ["_law_came", "_law_state"] (spLChain K) := by
  refine F.ok scChain (fun vs H Q E h => ?_) (fun cdv A outer s H vs Q E hr h => ?_)
  · obtain ⟨d, t, kvs, k, n, rfl, _⟩ := h
    rfl
  · obtain ⟨d, t, kvs, k0, n, rfl, hd, ht, hc, hn, k⟩ := h
    have hu := hu_of hr
    refine ⟨_, PSs.nox (pss_cons (ps_set (i := 2) scChain.nd rfl (Or.inl rfl) (pe_lst pa_nil))
    (pss_cons (ps_while PassesOwn.never (pt_cmpR op_notN (pv 1) pe_non (nomark _)) (pss_cons (ps_expr (pe_bm PySem.F.plainAttrs_list PySem.F.slot_list_append PySem.F.type_list_append mt_append (pv 2) (pa_cons (pe_ix ix_tup (pv 1) pe_int (fun _ _ => rfl)) pa_nil)))
      (pss_one (ps_set (i := 1) scChain.nd rfl (Or.inl rfl) (pe_dget hu (pv 0) (pv 1) (fun _ _ => rfl))))))
    (pss_one (ps_ret (pe_callTy call_tuple_of (by rfl) T.b_tuple (by decide +kernel) (pa_cons (pe_revL (pv 2)) pa_nil)))))), ?_⟩
    refine ⟨by decide, fun fo nfo => ?_⟩
    have sfo := same_new (o := .lst []) nfo
    refine ⟨fun m σ' H' => ∃ (x : V) (hs : List Nat), σ' = [some (.ref d), some x, some (.ref fo)] ∧ Same H H' ∧ H' fo = some (.lst (plV hs)) ∧ hs.length + m = n ∧ ((m = 0 ∧ x = .non) ∨ ∃ t k, x = .ref t ∧ H t = some (.tup (k.map kV)) ∧ Chn H kvs m k), ⟨n, .ref t, [], rfl, sfo, upd_same, Nat.zero_add _, .inr ⟨t, k0, rfl, ht, hc⟩⟩, ?_⟩
    rintro m σ1 H1 ⟨x, hs, rfl, sm, hfo, hl, hx⟩
    refine ⟨_, rfl, rfl, _, rfl, ?_⟩
    rcases hx with ⟨rfl, rfl⟩ | ⟨t, kk, rfl, ht, hc⟩
    · refine ifBF rfl ⟨_, rfl, fo, _, rfl, SqL.of hfo, fun q nq => ?_⟩
      have sq := same_new (o := .lst (plV hs).reverse) nq
      refine ⟨q, _, rfl, .inl ⟨SqL.of upd_same, fun a na => ?_⟩⟩
      refine k a hs.reverse _ ((sm.trans sq).trans (same_new na)) (.inl (.inl ?_)) (by rw [List.length_reverse]; omega)
      unfold plV
      rw [List.map_reverse]
      exact upd_same
    · refine ifB rfl ⟨fun σ' H' => ∃ m', m' < m ∧ ∃ (x : V) (hs : List Nat), σ' = [some (.ref d), some x, some (.ref fo)] ∧ Same H H' ∧ H' fo = some (.lst (plV hs)) ∧ hs.length + m' = n ∧ ((m' = 0 ∧ x = .non) ∨ ∃ t k, x = .ref t ∧ H t = some (.tup (k.map kV)) ∧ Chn H kvs m' k), fun _ _ h => h, ?_⟩
      have hlt : (plV hs).length < sizeLine := Nat.lt_of_le_of_lt (show (plV hs).length ≤ 4000 by unfold plV; rw [List.length_map]; omega) (by decide)
      cases hc with
      | @one h m1 m2 e =>
        refine ⟨_, rfl, .inl ⟨rfl, _, SqL.of hfo⟩, _, rfl, t, _, _, _, rfl, rfl, .inl (.inl (sm _ _ ht)), rfl, fo, _, _, rfl, rfl, hfo, hlt, ?_⟩
        have s2 : Same H (upd H1 fo (.lst (plV hs ++ [.int (h : Nat)]))) := sm.put nfo
        refine ⟨_, rfl, _, rfl, d, _, rfl, .inr ⟨kvs, _, t, .inl (s2 _ _ hd), rfl, s2 _ _ ht, e.symm⟩, ?_⟩
        exact ⟨0, Nat.zero_lt_one, _, hs ++ [h], rfl, s2, by rw [plV_app]; exact upd_same, by rw [List.length_append]; exact hl, .inl ⟨rfl, rfl⟩⟩
      | @more h m1 m2 n' k' t' e ht' c =>
        refine ⟨_, rfl, .inl ⟨rfl, _, SqL.of hfo⟩, _, rfl, t, _, _, _, rfl, rfl, .inl (.inl (sm _ _ ht)), rfl, fo, _, _, rfl, rfl, hfo, hlt, ?_⟩
        have s2 : Same H (upd H1 fo (.lst (plV hs ++ [.int (h : Nat)]))) := sm.put nfo
        refine ⟨_, rfl, _, rfl, d, _, rfl, .inr ⟨kvs, _, t, .inl (s2 _ _ hd), rfl, s2 _ _ ht, e.symm⟩, ?_⟩
        exact ⟨n', Nat.lt_succ_self _, _, hs ++ [h], rfl, s2, by rw [plV_app]; exact upd_same, by rw [List.length_append]; show hs.length + 1 + n' = n; omega, .inr ⟨t', k', rfl, ht', c⟩⟩
end
end K25
set_option Elab.async false
set_option linter.all false
set_option maxRecDepth 100000
set_option maxHeartbeats 4000000
namespace K25
open PySem PySem.Spec PyProof.Rows L2 ZX PM ZR
abbrev sLWayB : Stmt := top 61
/-- what stands in the search for a way -/
structure WayB (H0 : Hp) (r cd st : Addr) (ys : List Str) (R N n : Nat) (ts : List Addr) (kvs : List (List Key × V)) (H : Hp) : Prop where
  kp : Kp r H0 H
  hr : H r = some (.lst [.int (n : Nat)])
  hst : H st = some (.lst (ts.map V.ref))
  hcd : H cd = some (.dT kvs)
  lk : kvs.length ≤ N
  lt : ts.length ≤ N
  et : ∀ t ∈ ts, ∃ h m1 m2 c : Nat, H t = some (.tup ((K3 h m1 m2).map kV)) ∧ h ≤ R ∧ MaskN ys m1 ∧ MaskN ys m2 ∧ c ≤ N ∧ Chn H kvs c (K3 h m1 m2)
section
variable {H0 : Hp} {r cd st : Addr} {ys : List Str} {R N n : Nat} {ts : List Addr} {kvs : List (List Key × V)} {H : Hp}
theorem WayB.same (h : WayB H0 r cd st ys R N n ts kvs H) {H' : Hp} (s : Same H H') : WayB H0 r cd st ys R N n ts kvs H' :=
  ⟨h.kp.same s, s _ _ h.hr, s _ _ h.hst, s _ _ h.hcd, h.lk, h.lt, fun t ht => let ⟨a, m1, m2, c, h1, h2, h3, h4, h5, h6⟩ := h.et t ht; ⟨a, m1, m2, c, s _ _ h1, h2, h3, h4, h5, h6.mv (fun _ _ e => e) fun _ _ e => s _ _ e⟩⟩
theorem WayB.wk (h : WayB H0 r cd st ys R N n ts kvs H) {N' : Nat} (e : N ≤ N') : WayB H0 r cd st ys R N' n ts kvs H :=
  ⟨h.kp, h.hr, h.hst, h.hcd, Nat.le_trans h.lk e, Nat.le_trans h.lt e, fun t ht => let ⟨a, m1, m2, c, h1, h2, h3, h4, h5, h6⟩ := h.et t ht; ⟨a, m1, m2, c, h1, h2, h3, h4, Nat.le_trans h5 e, h6⟩⟩
theorem WayB.room (h : WayB H0 r cd st ys R N n ts kvs H) (n1 : st ≠ r) (n3 : cd ≠ r) (m : Nat) : WayB H0 r cd st ys R N m ts kvs (upd H r (.lst [.int (m : Nat)])) :=
  have go : ∀ {w : Addr} {xs : List V}, H w = some (.tup xs) → upd H r (.lst [.int (m : Nat)]) w = some (.tup xs) := fun e => by
    rw [upd_ne (ne_of e h.hr (by intro z; cases z))]
    exact e
  ⟨h.kp.put, upd_same, by rw [upd_ne n1]; exact h.hst, by rw [upd_ne n3]; exact h.hcd, h.lk, h.lt, fun t ht => let ⟨a, m1, m2, c, h1, h2, h3, h4, h5, h6⟩ := h.et t ht; ⟨a, m1, m2, c, go h1, h2, h3, h4, h5, h6.mv (fun _ _ e => e) fun _ _ e => go e⟩⟩
theorem WayB.came (h : WayB H0 r cd st ys R N n ts kvs H) (s0 : H0 cd = none) {k : List Key} {v : V} (hk : valV kvs k = none) : WayB H0 r cd st ys R (N + 1) n ts (putK kvs k v) (upd H cd (.dT (putK kvs k v))) :=
  have go : ∀ {w : Addr} {xs : List V}, H w = some (.tup xs) → upd H cd (.dT (putK kvs k v)) w = some (.tup xs) := fun e => by
    rw [upd_ne (ne_of e h.hcd (by intro z; cases z))]
    exact e
  have hv : ∀ k' v', valV kvs k' = some v' → valV (putK kvs k v) k' = some v' := fun k' v' e => by
    rw [valV_put, if_neg, e]
    intro z
    rw [z, hk] at e
    cases e
  ⟨h.kp.fresh s0, by rw [upd_ne (ne_of h.hr h.hcd (by intro z; cases z))]; exact h.hr, by rw [upd_ne (ne_of h.hst h.hcd (by intro z; cases z))]; exact h.hst, upd_same, Nat.le_trans (length_putK _ _ _) (Nat.succ_le_succ h.lk), Nat.le_succ_of_le h.lt, fun t ht => let ⟨a, m1, m2, c, h1, h2, h3, h4, h5, h6⟩ := h.et t ht; ⟨a, m1, m2, c, go h1, h2, h3, h4, Nat.le_succ_of_le h5, h6.mv hv fun _ _ e => go e⟩⟩
theorem WayB.put (h : WayB H0 r cd st ys R (N + 1) n ts kvs H) (hlt : ts.length ≤ N) (s0 : H0 st = none) (n2 : st ≠ r) {t : Addr} {a m1 m2 c : Nat} (ht : H t = some (.tup ((K3 a m1 m2).map kV))) (ha : a ≤ R) (hm1 : MaskN ys m1) (hm2 : MaskN ys m2) (hc : c ≤ N + 1) (ch : Chn H kvs c (K3 a m1 m2)) :
    WayB H0 r cd st ys R (N + 1) n (ts ++ [t]) kvs (upd H st (.lst (ts.map V.ref ++ [.ref t]))) :=
  have go : ∀ {w : Addr} {xs : List V}, H w = some (.tup xs) → upd H st (.lst (ts.map V.ref ++ [.ref t])) w = some (.tup xs) := fun e => by
    rw [upd_ne (ne_of e h.hst (by intro z; cases z))]
    exact e
  ⟨h.kp.fresh s0, by rw [upd_ne n2.symm]; exact h.hr, by rw [upd_same, List.map_append]; rfl, by rw [upd_ne (ne_of h.hcd h.hst (by intro z; cases z))]; exact h.hcd, h.lk, by rw [List.length_append]; exact Nat.succ_le_succ hlt, fun u hu => by
    rcases List.mem_append.mp hu with hu | hu
    · obtain ⟨a, m1, m2, c, h1, h2, h3, h4, h5, h6⟩ := h.et u hu
      exact ⟨a, m1, m2, c, go h1, h2, h3, h4, h5, h6.mv (fun _ _ e => e) fun _ _ e => go e⟩
    · rw [List.mem_singleton.mp hu]
      exact ⟨a, m1, m2, c, go ht, ha, hm1, hm2, hc, ch.mv (fun _ _ e => e) fun _ _ e => go e⟩⟩
end
/-- nothing, or a way -/
def WayV (K : PySem.W.Frag) (H : Hp) (v : V) : Prop := v = .non ∨ ∃ (a : Addr) (hs : List Nat), v = .ref a ∧ SqT K H a (plV hs) ∧ 1 ≤ hs.length ∧ hs.length ≤ 4001
def spLWayB (K : PySem.W.Frag) : Sp := fun vs H Q _ => ∃ (l d r : Addr) (p m : Nat) (us : List V) (b : List Rw) (ys : List Str) (x o : Str) (ps : List Str) (n : Nat), vs = [.ref l, .ref d, .int p, .int m, .ref r] ∧ Tab K H l d us b ys ∧ (rowsB b)[p]? = some (.note x o ps) ∧ MaskN ys m ∧ H r = some (.lst [.int (n : Nat)]) ∧ n ≤ 1500 ∧ l ≠ r ∧
  ∀ (v : V) (n' : Nat) (H' : Hp), Kp r H H' → H' r = some (.lst [.int (n' : Nat)]) → n' ≤ n → WayV K H' v → Q v H'
section
variable {P : Program} {w : World} {K : PySem.W.Frag} {mg : Str → Option Value} {base : Heap}
theorem scWayB : FnScope ["_law_table_here", "_law_bits_here", "_law_place", "_law_lot_here", "_law_room", "_law_first", "_law_came", "_law_states", "_law_at", "_law_state", "_law_here", "_law_new", "_law_old", "_law_goal"] ["_law_table_here", "_law_bits_here", "_law_place", "_law_lot_here", "_law_room"] (defScope sLWayB) := ⟨rfl, rfl, rfl, by decide +kernel, rfl, by decide +kernel, by decide +kernel⟩
theorem ok_lwayb {f : Addr} {fd : FuncData} (F : FnP K "_law_way_back" sLWayB f fd) (T : Bi mg) (C__law_moved : Cal P w K mg base "_law_moved" 1 ["_law_row", "_law_mask_here", "_law_bits_here"] (spLMoved K)) (C__law_chain : Cal P w K mg base "_law_chain" 1 ["_law_came", "_law_state"] (spLChain K)) : FnOk P w K mg base CX0 2 f fd ["_law_table_here", "_law_bits_here", "_law_place", "_law_lot_here", "_law_room"] (spLWayB K) := by
  refine F.ok scWayB (fun vs H Q E h => ?_) (fun cdv A outer s H vs Q E hr h => ?_)
  · obtain ⟨l, d, r, p, m, us, b, ys, x, o, ps, n, rfl, _⟩ := h
    rfl
  · obtain ⟨l, d, r, p, m, us, b, ys, x, o, ps, n0, rfl, t0, hp, hmm, hr0, hn0, nlr, k⟩ := h
    have hr__law_moved := hr
    have hr__law_chain := hr
    have hu := hu_of hr
    refine ⟨_, PSs.nox (pss_cons (ps_set (i := 5) scWayB.nd rfl (Or.inl rfl) (pe_tup (pa_cons (pe_ix ix_tup (pe_ix ix_tup (pe_ix ix_list (pv 0) (pv 2) (fun _ _ => rfl)) pe_int (fun _ _ => rfl)) pe_int (fun _ _ => rfl)) (pa_cons (pe_dget hu (pv 1) (pe_ix ix_tup (pe_ix ix_tup (pe_ix ix_list (pv 0) (pv 2) (fun _ _ => rfl)) pe_int (fun _ _ => rfl)) pe_int (fun _ _ => rfl)) (fun _ _ => rfl)) (pa_cons (pv 3) pa_nil)))))
    (pss_cons (ps_par3 (by rfl) scWayB.nd (i := 6) (j := 7) (l := 8) rfl rfl rfl (by decide) (by decide) (by decide) rfl rfl rfl (pa_cons (pe_dispT hu (pv 5) pe_non) (pa_cons (pe_lst (pa_cons (pv 5) pa_nil)) (pa_cons pe_int pa_nil))) (by rfl))
    (pss_cons (ps_while PassesOwn.never (pt_cut (PW.pt (pw_and (pt_cmpR op_lt (pv 8) (pe_callB call_len_seq (by rfl) T.b_len (by decide +kernel) (pa_cons (pv 7) pa_nil)) (nomark _)) (pw_and1 (pt_cmpR op_gt (pe_ix ix_list (pv 4) pe_int (fun _ _ => rfl)) pe_int (nomark _)))))) (pss_cons (ps_set (i := 9) scWayB.nd rfl (Or.inl rfl) (pe_ix ix_list (pv 7) (pv 8) (fun _ _ => rfl)))
      (pss_cons (ps_set (i := 10) scWayB.nd rfl (Or.inl rfl) (pe_ix ix_tup (pv 9) pe_int (fun _ _ => rfl)))
      (pss_cons (ps_set (i := 8) scWayB.nd rfl (Or.inl rfl) (pe_op op_add (pv 8) pe_int))
      (pss_cons (ps_asg (pe_op op_sub (pe_ix ix_list (pv 4) pe_int (fun _ _ => rfl)) pe_int) (pg_sub (pv 4) pe_int set_list))
      (pss_cut (ps_set (i := 11) scWayB.nd rfl (Or.inl rfl) (pe_ifExp (pt_cmpR op_lt (pv 10) (pe_callB call_len_seq (by rfl) T.b_len (by decide +kernel) (pa_cons (pv 0) pa_nil)) (nomark _)) (pcal C__law_moved hr__law_moved rfl (pa_cons (pe_ix ix_tup (pe_ix ix_list (pv 0) (pv 10) (fun _ _ => rfl)) pe_int (fun _ _ => rfl)) (pa_cons (pe_ix ix_tup (pv 9) pe_int (fun _ _ => rfl)) (pa_cons (pv 1) pa_nil)))) (pe_un un_neg pe_int)))
      (pss_cut (ps_set (i := 12) scWayB.nd rfl (Or.inl rfl) (pe_ifExp (pt_cmpR op_lt (pv 10) (pe_callB call_len_seq (by rfl) T.b_len (by decide +kernel) (pa_cons (pv 0) pa_nil)) (nomark _)) (pcal C__law_moved hr__law_moved rfl (pa_cons (pe_ix ix_tup (pe_ix ix_list (pv 0) (pv 10) (fun _ _ => rfl)) pe_int (fun _ _ => rfl)) (pa_cons (pe_ix ix_tup (pv 9) pe_int (fun _ _ => rfl)) (pa_cons (pv 1) pa_nil)))) (pe_un un_neg pe_int)))
      (pss_one (ps_if (PW.pt (pw_and (pt_cmpR op_gt (pv 11) pe_int (nomark _)) (pw_and1 (pt_cmpR op_gt (pv 12) pe_int (nomark _))))) (pss_cut (ps_if (PW.pt (pw_and (pt_cmpR op_eq (pv 10) (pv 2) (nomark _)) (pw_and (pt_cmpR op_eq (pv 11) (pv 3) (nomark _)) (pw_and1 (pt_cmpR op_eq (pv 12) (pv 3) (nomark _)))))) (pss_one (ps_ret (pe_op op_catZ (pcal C__law_chain hr__law_chain rfl (pa_cons (pv 6) (pa_cons (pv 9) pa_nil))) (pe_tup (pa_cons (pe_ix ix_tup (pe_ix ix_tup (pe_ix ix_list (pv 0) (pv 10) (fun _ _ => rfl)) pe_int (fun _ _ => rfl)) pe_int (fun _ _ => rfl)) pa_nil))))) pss_nil)
        (pss_one (ps_for PassesOwn.never rfl (pi_tup (pe_ix ix_tup (pe_ix ix_list (pv 0) (pv 10) (fun _ _ => rfl)) pe_int (fun _ _ => rfl))) (pg_name (i := 13) scWayB.nd rfl (Or.inl rfl)) (pss_one (ps_if (pt_cmp (pc_dnotin hu (pe_tup (pa_cons (pv 13) (pa_cons (pv 11) (pa_cons (pv 12) pa_nil)))) (pv 6)) (by with_unfolding_all rfl)) (pss_cons (ps_dput hu (pv 6) (pe_tup (pa_cons (pv 13) (pa_cons (pv 11) (pa_cons (pv 12) pa_nil)))) (pv 9) rfl)
            (pss_one (ps_expr (pe_bm PySem.F.plainAttrs_list PySem.F.slot_list_append PySem.F.type_list_append mt_append (pv 7) (pa_cons (pe_tup (pa_cons (pv 13) (pa_cons (pv 11) (pa_cons (pv 12) pa_nil)))) pa_nil))))) pss_nil))))) pss_nil)))))))))
    (pss_one (ps_ret pe_non))))), ?_⟩
    obtain ⟨ea, ex, ey, q, hea, hES, hEr, ⟨tl, hxS⟩, hyS, hq, hls, hx, hg, hm⟩ := note_at t0 hp
    refine ⟨_, rfl, _, rfl, l, _, _, _, rfl, rfl, SqL.of t0.hl, at_of (j := p) rfl hea, ea, _, _, _, rfl, rfl, hES, rfl, ey, _, _, _, rfl, rfl, hyS, rfl, ?_⟩
    refine ⟨_, rfl, _, rfl, _, rfl, l, _, _, _, rfl, rfl, SqL.of t0.hl, at_of (j := p) rfl hea, ea, _, _, _, rfl, rfl, hES, rfl, ex, _, _, _, rfl, rfl, hxS, at1, d, _, rfl, hg, _, rfl, by show 3 ≤ sizeLine; decide, fun ft nft => ?_⟩
    have sft := same_new (o := .tup ((K3 q (2 ^ idxS ys x) m).map kV)) nft
    -- came, states, at
    intro cd ncd
    have nsf : ft ≠ cd := ne_of_none upd_same ncd
    refine ⟨_, rfl, upd_same, ft, K3 q (2 ^ idxS ys x) m, rfl, by rw [upd_ne nsf]; exact upd_same, _, rfl, by show 1 ≤ sizeLine; decide, fun st nst => ⟨_, _, _, rfl, ?_⟩⟩
    have eu : upd (upd (upd H ft (.tup ((K3 q (2 ^ idxS ys x) m).map kV))) cd (.dT [])) cd (.dT [(K3 q (2 ^ idxS ys x) m, .non)]) = upd (upd H ft (.tup ((K3 q (2 ^ idxS ys x) m).map kV))) cd (.dT [(K3 q (2 ^ idxS ys x) m, .non)]) := upd_upd
    have ncd0 : upd H ft (.tup ((K3 q (2 ^ idxS ys x) m).map kV)) cd = none := ncd
    have nst0 : upd (upd H ft (.tup ((K3 q (2 ^ idxS ys x) m).map kV))) cd (.dT [(K3 q (2 ^ idxS ys x) m, .non)]) st = none := by
      rw [← eu]
      exact nst
    have scd := same_new (o := .dT [(K3 q (2 ^ idxS ys x) m, .non)]) ncd0
    have sst := same_new (o := .lst [V.ref ft]) nst0
    have cd0 : H cd = none := sft.free ncd0
    have st0 : H st = none := (sft.trans scd).free nst0
    have sAll := (sft.trans scd).trans sst
    have nsr : st ≠ r := (ne_of_none hr0 st0).symm
    have ndr : cd ≠ r := (ne_of_none hr0 cd0).symm
    have nbr : d ≠ r := by
      obtain ⟨kvs, hk, _⟩ := t0.hb.ex
      exact ne_of hk hr0 (by intro z; cases z)
    have hft := sst _ _ (scd _ _ (upd_same (H := H) (a := ft) (o := .tup ((K3 q (2 ^ idxS ys x) m).map kV))))
    have B0 : WayB H r cd st ys (rowsB b).length 1 n0 [ft] [(K3 q (2 ^ idxS ys x) m, .non)] (upd (upd (upd H ft (.tup ((K3 q (2 ^ idxS ys x) m).map kV))) cd (.dT [(K3 q (2 ^ idxS ys x) m, .non)])) st (.lst [V.ref ft])) := ⟨sAll.kp, sAll _ _ hr0, upd_same, sst _ _ upd_same, Nat.le_refl _, Nat.le_refl _, fun t ht => by
      rw [List.mem_singleton.mp ht]
      refine ⟨q, _, m, 1, hft, hq, hm, hmm, Nat.le_refl _, .one ?_⟩
      simp [valV]⟩
    have eG : upd (upd (upd (upd H ft (.tup ((K3 q (2 ^ idxS ys x) m).map kV))) cd (.dT [])) cd (.dT [(K3 q (2 ^ idxS ys x) m, .non)])) st (.lst [V.ref ft]) = upd (upd (upd H ft (.tup ((K3 q (2 ^ idxS ys x) m).map kV))) cd (.dT [(K3 q (2 ^ idxS ys x) m, .non)])) st (.lst [V.ref ft]) := by rw [eu]
    rw [← eG] at B0
    refine while_by (fun σ' H' => ∃ (ts : List Addr) (kvs : List (List Key × V)) (n at' N : Nat) (y5 y9 y10 y11 y12 y13 : Option V), σ' = [some (.ref l), some (.ref d), some (.int p), some (.int m), some (.ref r), y5, some (.ref cd), some (.ref st), some (.int (at' : Nat)), y9, y10, y11, y12, y13] ∧ WayB H r cd st ys (rowsB b).length N n ts kvs H' ∧ N + 2 * n ≤ 3001 ∧ n ≤ n0)
      (fun _ H' => match H' r with
        | some (.lst [.int z]) => z.toNat
        | _ => 0) ⟨[ft], _, n0, 0, 1, _, _, _, _, _, _, rfl, B0, by omega, Nat.le_refl _⟩ ?_ ?_
    · rintro σ1 H1 ⟨ts, kvs, n, at', N, y5, y9, y10, y11, y12, y13, rfl, B1, hN, hn⟩
      refine ⟨fun b' H2 => H2 = H1 ∧ (b' = true → at' < ts.length ∧ 0 < n), ?_, ?_⟩
      · refine ⟨_, rfl, _, rfl, st, _, rfl, .inl (SqL.of B1.hst), _, _, rfl, rfl, _, rfl, ?_⟩
        refine ite2 (fun e1 => ?_) (fun _ => ⟨rfl, fun z => nomatch z⟩)
        refine ⟨_, rfl, r, _, _, _, rfl, rfl, SqL.of B1.hr, rfl, _, _, rfl, rfl, _, rfl, rfl, fun e2 => ?_⟩
        have q1 : (at' : Int) < ((ts.map V.ref).length : Nat) := of_decide_eq_true e1
        have q2 : (n : Int) > 0 := of_decide_eq_true e2
        rw [List.length_map] at q1
        exact ⟨by omega, by omega⟩
      · rintro b' H2 ⟨rfl, hb'⟩
        cases b' with
        | false => exact ifBF rfl (k .non n H2 B1.kp B1.hr hn (.inl rfl))
        | true =>
          obtain ⟨hat, hn1⟩ := hb' rfl
          refine ifB rfl ?_
          have hxt : ts[at']? = some ts[at'] := List.getElem?_eq_getElem hat
          obtain ⟨h, m1, m2, cc, hte, hhR, hmm1, hmm2, hcN, hch⟩ := B1.et _ (List.mem_of_getElem? hxt)
          obtain ⟨S, rfl⟩ := hmm1
          obtain ⟨U, rfl⟩ := hmm2
          generalize ts[at'] = t at hxt hte
          refine ⟨_, rfl, _, rfl, st, _, _, _, rfl, rfl, SqL.of B1.hst, at_of (j := at') rfl (by rw [List.getElem?_map, hxt]; rfl), ?_⟩
          refine ⟨_, rfl, t, _, _, _, rfl, rfl, .inl (.inl hte), rfl, ?_⟩
          refine ⟨_, rfl, _, _, rfl, rfl, ?_⟩
          refine ⟨_, rfl, r, _, _, _, rfl, rfl, SqL.of B1.hr, rfl, _, _, rfl, rfl, _, rfl, r, _, _, 0, rfl, rfl, B1.hr, rfl, ?_⟩
          have en : ((n - 1 : Nat) : Int) = (n : Int) - 1 := by omega
          have B2' : WayB H r cd st ys (rowsB b).length N (n - 1) ts kvs (upd H2 r (.lst [.int ((n : Int) - 1)])) := by
            rw [← en]
            exact B1.room nsr ndr (n - 1)
          have hte2 : upd H2 r (.lst [.int ((n : Int) - 1)]) t = some (.tup ((K3 h (maskS ys S) (maskS ys U)).map kV)) := by
            rw [upd_ne (ne_of hte B1.hr (by intro z; cases z))]
            exact hte
          have hch2 : Chn (upd H2 r (.lst [.int ((n : Int) - 1)])) kvs cc (K3 h (maskS ys S) (maskS ys U)) := hch.mv (fun _ _ e => e) fun u xs e => by
            rw [upd_ne (ne_of e B1.hr (by intro z; cases z))]
            exact e
          have hmeas : n = (match H2 r with
            | some (.lst [.int z]) => z.toNat
            | _ => 0) := by
            rw [B1.hr]
            rfl
          have tab2 := t0.mv nlr nbr B2'.kp (Kp.pt hr0 B2'.kp)
          refine ⟨fun σ3 H3 => ∃ o : Option (Str → Bool), σ3 = [some (.ref l), some (.ref d), some (.int p), some (.int m), some (.ref r), y5, some (.ref cd), some (.ref st), some (.int ((at' : Int) + 1)), some (.ref t), some (.int h), some (.int (mOf ys o)), y12, y13] ∧ Same (upd H2 r (.lst [.int ((n : Int) - 1)])) H3 ∧ (o.isSome = true → h < (rowsB b).length), ?_, ?_⟩
          · refine ⟨_, rfl, _, rfl, l, _, rfl, .inl (SqL.of tab2.hl), _, _, rfl, rfl, _, rfl, ?_⟩
            rw [tab2.len]
            refine ite2 (fun e => ?_) (fun _ => ?_)
            · have hlt : h < (rowsB b).length := by
                have : (h : Int) < ((rowsB b).length : Nat) := of_decide_eq_true e
                omega
              have hr1 : (rowsB b)[h]? = some (rowsB b)[h] := List.getElem?_eq_getElem hlt
              obtain ⟨fa, fx, fy, gs, hfa, hFS, hFr, _⟩ := tab_get tab2.hu hr1
              have hrm : (rowsB b)[h] ∈ rowsB b := List.getElem_mem hlt
              refine ⟨_, rfl, _, rfl, l, _, _, _, rfl, rfl, SqL.of tab2.hl, at_of (j := h) rfl hfa, fa, _, _, _, rfl, rfl, hFS, rfl, _, rfl, t, _, _, _, rfl, rfl, .inl (.inl hte2), rfl, _, rfl, fx, (rowsB b)[h], d, ys, S, rfl, hFr, tab2.hb, names_mem tab2.hn hrm, ok_names_B tab2.G.ok _ hrm, fun H4 s4 => ?_⟩
              exact ⟨_, rfl, s4, fun _ => hlt⟩
            · exact ⟨_, rfl, none, rfl, fun _ _ h => h, fun z => nomatch z⟩
          rintro σ3 H3 ⟨o1, rfl, s3, ho1⟩
          have B3 := B2'.same s3
          have tab3 := tab2.same s3
          have hte3 := s3 _ _ hte2
          refine ⟨fun σ4 H4 => ∃ o : Option (Str → Bool), σ4 = [some (.ref l), some (.ref d), some (.int p), some (.int m), some (.ref r), y5, some (.ref cd), some (.ref st), some (.int ((at' : Int) + 1)), some (.ref t), some (.int h), some (.int (mOf ys o1)), some (.int (mOf ys o)), y13] ∧ Same H3 H4 ∧ (o.isSome = true → h < (rowsB b).length), ?_, ?_⟩
          · refine ⟨_, rfl, _, rfl, l, _, rfl, .inl (SqL.of tab3.hl), _, _, rfl, rfl, _, rfl, ?_⟩
            rw [tab3.len]
            refine ite2 (fun e => ?_) (fun _ => ?_)
            · have hlt : h < (rowsB b).length := by
                have : (h : Int) < ((rowsB b).length : Nat) := of_decide_eq_true e
                omega
              have hr1 : (rowsB b)[h]? = some (rowsB b)[h] := List.getElem?_eq_getElem hlt
              obtain ⟨fa, fx, fy, gs, hfa, hFS, hFr, _⟩ := tab_get tab3.hu hr1
              have hrm : (rowsB b)[h] ∈ rowsB b := List.getElem_mem hlt
              refine ⟨_, rfl, _, rfl, l, _, _, _, rfl, rfl, SqL.of tab3.hl, at_of (j := h) rfl hfa, fa, _, _, _, rfl, rfl, hFS, rfl, _, rfl, t, _, _, _, rfl, rfl, .inl (.inl hte3), rfl, _, rfl, fx, (rowsB b)[h], d, ys, U, rfl, hFr, tab3.hb, names_mem tab3.hn hrm, ok_names_B tab3.G.ok _ hrm, fun H4 s4 => ?_⟩
              exact ⟨_, rfl, s4, fun _ => hlt⟩
            · exact ⟨_, rfl, none, rfl, fun _ _ h => h, fun z => nomatch z⟩
          rintro σ4 H4 ⟨o2, rfl, s4, ho2⟩
          have B4 := B3.same s4
          have tab4 := tab3.same s4
          have hte4 := s4 _ _ hte3
          have hch4 : Chn H4 kvs cc (K3 h (maskS ys S) (maskS ys U)) := hch2.mv (fun _ _ e => e) fun _ _ e => s4 _ _ (s3 _ _ e)
          have done : ∀ (y : Option V) , (∃ (ts : List Addr) (kvs : List (List Key × V)) (n2 at2 N : Nat) (y5' y9 y10 y11 y12 y13 : Option V), [some (.ref l), some (.ref d), some (.int p), some (.int m), some (.ref r), y5, some (.ref cd), some (.ref st), some (.int ((at' : Int) + 1)), some (.ref t), some (.int h), some (.int (mOf ys o1)), some (.int (mOf ys o2)), y] = [some (.ref l), some (.ref d), some (.int p), some (.int m), some (.ref r), y5', some (.ref cd), some (.ref st), some (.int (at2 : Nat)), y9, y10, y11, y12, y13] ∧ WayB H r cd st ys (rowsB b).length N n2 ts kvs H4 ∧ N + 2 * n2 ≤ 3001 ∧ n2 ≤ n0) := fun y => ⟨ts, kvs, n - 1, at' + 1, N, _, _, _, _, _, _, rfl, B4, by omega, by omega⟩
          have less : ∀ {H' : Hp}, H' r = some (.lst [.int (((n - 1 : Nat) : Int))]) → (match H' r with
            | some (.lst [.int z]) => z.toNat
            | _ => 0) < (match H2 r with
            | some (.lst [.int z]) => z.toNat
            | _ => 0) := fun {H'} e => by
            rw [← hmeas, e]
            show ((n - 1 : Nat) : Int).toNat < n
            omega
          refine ⟨_, rfl, _, _, rfl, rfl, _, rfl, ?_⟩
          refine ite2 (fun e1 => ?_) (fun _ => ⟨done _, less B4.hr⟩)
          refine ⟨_, rfl, _, _, rfl, rfl, _, rfl, ?_⟩
          refine ite2 (fun e2 => ?_) (fun _ => ⟨done _, less B4.hr⟩)
          have pos : ∀ {o : Option (Str → Bool)}, decide (mOf ys o > 0) = true → ∃ S', o = some S' := fun {o} e => by
            cases o with
            | none => exact absurd (of_decide_eq_true e) (by show ¬ (-1 : Int) > 0; decide)
            | some S' => exact ⟨S', rfl⟩
          obtain ⟨S', rfl⟩ := pos e1
          obtain ⟨U', rfl⟩ := pos e2
          have hlt := ho1 rfl
          have hr1 : (rowsB b)[h]? = some (rowsB b)[h] := List.getElem?_eq_getElem hlt
          obtain ⟨fa, fx, fy, gs, hfa, hFS, hFr, hFl, hgs⟩ := tab_get tab4.hu hr1
          obtain ⟨ga, zs, rfl, hgS, hgt⟩ := hFl.tupI
          rw [Tvs.ints hgt] at hgS
          obtain ⟨hg2, hgR⟩ := leads_at hgs
          have hg1 := (entsB_one _ _ _ _ (tab_pair hr1 hgs)).1
          obtain ⟨g0, gs', rfl⟩ : ∃ g0 gs', gs = g0 :: gs' := by
            cases gs with
            | nil => exact absurd hg1 (show ¬ 1 ≤ 0 by decide)
            | cons a t => exact ⟨a, t, rfl⟩
          refine ⟨fun σ5 H5 => σ5 = [some (.ref l), some (.ref d), some (.int p), some (.int m), some (.ref r), y5, some (.ref cd), some (.ref st), some (.int ((at' : Int) + 1)), some (.ref t), some (.int h), some (.int (maskS ys S' : Nat)), some (.int (maskS ys U' : Nat)), y13] ∧ H5 = H4, ?_, ?_⟩
          · refine ⟨_, rfl, _, rfl, rfl, _, rfl, ?_⟩
            refine ite2 (fun _ => ?_) (fun _ => ⟨rfl, rfl⟩)
            refine ⟨_, rfl, _, rfl, rfl, _, rfl, ?_⟩
            refine ite2 (fun _ => ?_) (fun _ => ⟨rfl, rfl⟩)
            refine ⟨_, rfl, _, rfl, rfl, _, rfl, ?_⟩
            refine ite2 (fun _ => ?_) (fun _ => ⟨rfl, rfl⟩)
            refine ⟨_, rfl, _, rfl, cd, t, kvs, _, cc, rfl, B4.hcd, hte4, hch4, by omega, fun a hs H5 s5 ha hl => ?_⟩
            have tab5 := tab4.same s5
            refine ⟨_, rfl, _, rfl, l, _, _, _, rfl, rfl, SqL.of tab5.hl, at_of (j := h) rfl hfa, fa, _, _, _, rfl, rfl, s5.pt.sq hFS, rfl, ga, _, _, _, rfl, rfl, s5.pt.sq hgS, at0, by show 1 ≤ sizeLine; decide, fun u nu => ?_⟩
            have su := same_new (o := .tup [V.int (g0 : Nat)]) nu
            refine ⟨a, u, _, _, rfl, rfl, su.pt.sq ha, .inl (.inl upd_same), Nat.le_trans (show (plV hs).length + 1 ≤ 4001 by unfold plV; rw [List.length_map]; omega) (by decide), fun w H6 s6 hw => ?_⟩
            have hcc : 1 ≤ cc := by
              cases hch4 with
              | one e => exact Nat.le_refl _
              | more e _ _ => exact Nat.succ_le_succ (Nat.zero_le _)
            have B6 := B4.same ((s5.trans su).trans s6)
            exact k (.ref w) (n - 1) H6 B6.kp B6.hr (by omega) (.inr ⟨w, hs ++ [g0], rfl, by rw [plV_app]; exact hw, by rw [List.length_append]; show 1 ≤ _ + 1; omega, by rw [List.length_append]; show hs.length + 1 ≤ 4001; omega⟩)
          rintro σ5 H5 ⟨rfl, rfl⟩
          refine ⟨_, rfl, _, rfl, l, _, _, _, rfl, rfl, SqL.of tab4.hl, at_of (j := h) rfl hfa, fa, _, _, _, rfl, rfl, hFS, rfl, ga, rfl, ⟨_, hgS⟩, ?_⟩
          refine for_tup (xs := plV (g0 :: gs')) (fun i σ6 H6 => ∃ (ts : List Addr) (kvs : List (List Key × V)) (y13 : Option V), σ6 = [some (.ref l), some (.ref d), some (.int p), some (.int m), some (.ref r), y5, some (.ref cd), some (.ref st), some (.int ((at' : Int) + 1)), some (.ref t), some (.int h), some (.int (maskS ys S' : Nat)), some (.int (maskS ys U' : Nat)), y13] ∧ WayB H r cd st ys (rowsB b).length (N + i) (n - 1) ts kvs H6 ∧ SqT K H6 ga (plV (g0 :: gs')) ∧ H6 t = some (.tup ((K3 h (maskS ys S) (maskS ys U)).map kV)) ∧ Chn H6 kvs cc (K3 h (maskS ys S) (maskS ys U))) ⟨ts, kvs, _, rfl, B4, hgS, hte4, hch4⟩ ?_ ?_ ?_
          · rintro i σ5 H5 _ ⟨_, _, _, _, _, h, _⟩
            exact h
          · rintro i z σ5 H5 hz ⟨ts5, kvs5, y13, rfl, B5, hgS5, hte5, hch5⟩
            obtain ⟨g, hg, rfl⟩ : ∃ g, (g0 :: gs')[i]? = some g ∧ z = V.int (g : Nat) := by
              unfold plV at hz
              rw [List.getElem?_map] at hz
              cases e : (g0 :: gs')[i]? with
              | none => rw [e] at hz; cases hz
              | some p => rw [e] at hz; exact ⟨p, rfl, (Option.some.inj hz).symm⟩
            have hgb := hgR g (List.mem_of_getElem? hg)
            have hil : i < (g0 :: gs').length := (List.getElem?_eq_some_iff.mp hg).1
            refine ⟨_, rfl, _, rfl, _, rfl, by show 3 ≤ sizeLine; decide, fun c1 nc1 => ?_⟩
            have s1 := same_new (o := .tup ((K3 g (maskS ys S') (maskS ys U')).map kV)) nc1
            have B6 := B5.same s1
            refine ⟨_, rfl, cd, _, rfl, .inr ⟨kvs5, K3 g (maskS ys S') (maskS ys U'), c1, .inl B6.hcd, rfl, upd_same, rfl⟩, _, rfl, ?_⟩
            refine ite2 (fun eo => ?_) (fun _ => ⟨ts5, kvs5, _, rfl, B6.wk (by omega), s1.pt.sq hgS5, s1 _ _ hte5, hch5.mv (fun _ _ e => e) fun _ _ e => s1 _ _ e⟩)
            have hno : valV kvs5 (K3 g (maskS ys S') (maskS ys U')) = none := by
              cases e : valV kvs5 (K3 g (maskS ys S') (maskS ys U')) with
              | none => rfl
              | some v =>
                rw [e] at eo
                cases eo
            have hlk := B6.lk
            have hlt6 := B6.lt
            refine ⟨_, rfl, _, rfl, _, rfl, _, rfl, _, rfl, by show 3 ≤ sizeLine; decide, fun c2 nc2 => ?_⟩
            have s2 := same_new (o := .tup ((K3 g (maskS ys S') (maskS ys U')).map kV)) nc2
            have B7 := B6.same s2
            refine ⟨cd, _, rfl, .inr ⟨kvs5, K3 g (maskS ys S') (maskS ys U'), c2, B7.hcd, rfl, upd_same, Nat.lt_of_le_of_lt (show kvs5.length ≤ 4000 by omega) (by decide), rfl⟩, ?_⟩
            have B8 := B7.came cd0 (v := .ref t) hno
            have hte7 := s2 _ _ (s1 _ _ hte5)
            have gocd : ∀ {w : Addr} {xs : List V}, upd (upd H5 c1 (.tup ((K3 g (maskS ys S') (maskS ys U')).map kV))) c2 (.tup ((K3 g (maskS ys S') (maskS ys U')).map kV)) w = some (.tup xs) → upd (upd (upd H5 c1 (.tup ((K3 g (maskS ys S') (maskS ys U')).map kV))) c2 (.tup ((K3 g (maskS ys S') (maskS ys U')).map kV))) cd (.dT (putK kvs5 (K3 g (maskS ys S') (maskS ys U')) (.ref t))) w = some (.tup xs) := fun e => by
              rw [upd_ne (ne_of e B7.hcd (by intro z; cases z))]
              exact e
            have hte8 := gocd hte7
            have hv : ∀ k' v', valV kvs5 k' = some v' → valV (putK kvs5 (K3 g (maskS ys S') (maskS ys U')) (.ref t)) k' = some v' := fun k' v' e => by
              rw [valV_put, if_neg, e]
              intro z
              rw [z, hno] at e
              cases e
            have hch8 : Chn _ (putK kvs5 (K3 g (maskS ys S') (maskS ys U')) (.ref t)) cc (K3 h (maskS ys S) (maskS ys U)) := hch5.mv hv fun _ _ e => gocd (s2 _ _ (s1 _ _ e))
            have hgS8 : SqT K (upd (upd (upd H5 c1 (.tup ((K3 g (maskS ys S') (maskS ys U')).map kV))) c2 (.tup ((K3 g (maskS ys S') (maskS ys U')).map kV))) cd (.dT (putK kvs5 (K3 g (maskS ys S') (maskS ys U')) (.ref t)))) ga (plV (g0 :: gs')) := by
              refine Pt.sq (fun b xs hb => ?_) ((s1.pt.trans s2.pt).sq hgS5)
              have ne : b ≠ cd := fun e => by
                subst e
                rcases hb with hb | ⟨o, hb⟩ <;> rw [B7.hcd] at hb <;> cases hb
              exact hb.elim (fun h => .inl (by rw [upd_ne ne]; exact h)) fun ⟨o, h⟩ => .inr ⟨o, by rw [upd_ne ne]; exact h⟩
            refine ⟨_, rfl, .inl ⟨rfl, _, SqL.of B8.hst⟩, _, rfl, _, rfl, _, rfl, by show 3 ≤ sizeLine; decide, fun c3 nc3 => ?_⟩
            have s3' := same_new (o := .tup ((K3 g (maskS ys S') (maskS ys U')).map kV)) nc3
            have B9 := B8.same s3'
            have hch9 := hch8.mv (fun _ _ e => e) fun _ _ e => s3' _ _ e
            have hte9 := s3' _ _ hte8
            have gost : ∀ {w : Addr} {xs : List V}, upd (upd (upd (upd H5 c1 (.tup ((K3 g (maskS ys S') (maskS ys U')).map kV))) c2 (.tup ((K3 g (maskS ys S') (maskS ys U')).map kV))) cd (.dT (putK kvs5 (K3 g (maskS ys S') (maskS ys U')) (.ref t)))) c3 (.tup ((K3 g (maskS ys S') (maskS ys U')).map kV)) w = some (.tup xs) → upd (upd (upd (upd (upd H5 c1 (.tup ((K3 g (maskS ys S') (maskS ys U')).map kV))) c2 (.tup ((K3 g (maskS ys S') (maskS ys U')).map kV))) cd (.dT (putK kvs5 (K3 g (maskS ys S') (maskS ys U')) (.ref t)))) c3 (.tup ((K3 g (maskS ys S') (maskS ys U')).map kV))) st (.lst (ts5.map V.ref ++ [.ref c3])) w = some (.tup xs) := fun e => by
              rw [upd_ne (ne_of e B9.hst (by intro z; cases z))]
              exact e
            refine ⟨st, _, _, rfl, rfl, B9.hst, Nat.lt_of_le_of_lt (show (ts5.map V.ref).length ≤ 4000 by rw [List.length_map]; omega) (by decide), ?_⟩
            refine ⟨ts5 ++ [c3], _, _, rfl, B9.put hlt6 st0 nsr upd_same hgb ⟨S', rfl⟩ ⟨U', rfl⟩ (c := cc + 1) (by omega) (.more (by rw [valV_put, if_pos rfl]) hte9 hch9), (Pt.lst B9.hst).sq (s3'.pt.sq hgS8), gost hte9, hch9.mv (fun _ _ e => e) fun _ _ e => gost e⟩
          · rintro σ5 H5 ⟨ts5, kvs5, y13, rfl, B5, _, _, _⟩
            have hgl : (plV (g0 :: gs')).length = (g0 :: gs').length := List.length_map ..
            rw [hgl] at B5
            exact ⟨⟨ts5, kvs5, n - 1, at' + 1, N + (g0 :: gs').length, _, _, _, _, _, _, rfl, B5, by omega, by omega⟩, less B5.hr⟩
    · rintro σ1 H1 Q1 Q2 mono ⟨Mi, h1, h2⟩
      exact ⟨Mi, h1, fun b' H' q => mono _ _ (h2 b' H' q)⟩
end
end K25
set_option Elab.async false
set_option linter.all false
set_option maxRecDepth 100000
set_option maxHeartbeats 4000000
namespace K25
open PySem PySem.Spec PyProof.Rows L2 ZX PM ZR
abbrev sLRing : Stmt := top 63
abbrev sLLed : Stmt := top 54
/-- a place, a way, a lot -/
def Tri (K : PySem.W.Frag) (H : Hp) (R : Nat) (v : V) (p : Nat) (hs : List Nat) (L : List Str) : Prop := ∃ a wa la, v = .ref a ∧ SqT K H a [.int (p : Nat), .ref wa, .ref la] ∧ SqT K H wa (plV hs) ∧ SqT K H la (L.map V.str) ∧ p < R ∧ 1 ≤ hs.length ∧ hs.length ≤ 9000 ∧ L.length ≤ 8
theorem Tri.pt {K : PySem.W.Frag} {H H' : Hp} {R : Nat} {v : V} {p : Nat} {hs : List Nat} {L : List Str} (pt : Pt H H') (h : Tri K H R v p hs L) : Tri K H' R v p hs L := by
  obtain ⟨a, wa, la, e, h1, h2, h3, h4⟩ := h
  exact ⟨a, wa, la, e, pt.sq h1, pt.sq h2, pt.sq h3, h4⟩
def spLRing (K : PySem.W.Frag) : Sp := fun vs H Q _ => ∃ (l t r : Addr) (us : List V) (b : List Rw) (ys : List Str), vs = [.ref l, .ref t, .ref r] ∧ H l = some (.lst us) ∧ Tvs K H us ((tabB b).map dE) ∧ Good b ∧ IsLot ys ((rowsB b).flatMap namesR) ∧ H t = some (.lst (ys.map V.str)) ∧ H r = some (.lst [.int ((1500 : Nat) : Int)]) ∧ l ≠ r ∧ t ≠ r ∧
  ∀ (v : V) (H' : Hp), Kp r H H' → (v = .non ∨ ∃ p hs L, Tri K H' (rowsB b).length v p hs L ∧ hs.length ≤ 4001) → Q v H'
section
variable {P : Program} {w : World} {K : PySem.W.Frag} {mg : Str → Option Value} {base : Heap}
theorem scRing : FnScope ["_law_table_here", "_law_names_here", "_law_room", "_law_bits_here", "_law_place", "_law_lot_here", "_law_way"] ["_law_table_here", "_law_names_here", "_law_room"] (defScope sLRing) := ⟨rfl, rfl, rfl, by decide +kernel, rfl, by decide +kernel, by decide +kernel⟩
theorem ok_lring {f : Addr} {fd : FuncData} (F : FnP K "_law_ring" sLRing f fd) (T : Bi mg) (C__law_bits : Cal P w K mg base "_law_bits" 1 ["_law_names_here"] spLBits) (C__law_lots_back : Cal P w K mg base "_law_lots_back" 2 ["_law_table_here", "_law_bits_here", "_law_place", "_law_room"] (spLLots K)) (C__law_way_back : Cal P w K mg base "_law_way_back" 2 ["_law_table_here", "_law_bits_here", "_law_place", "_law_lot_here", "_law_room"] (spLWayB K)) (C__law_lot : Cal P w K mg base "_law_lot" 1 ["_law_names_here", "_law_mask_here"] (spLLot K)) : FnOk P w K mg base CX0 3 f fd ["_law_table_here", "_law_names_here", "_law_room"] (spLRing K) := by
  refine F.ok scRing (fun vs H Q E h => ?_) (fun cdv A outer s H vs Q E hr h => ?_)
  · obtain ⟨l, t, r, us, b, ys, rfl, _⟩ := h
    rfl
  · obtain ⟨l, t, r, us, b, ys, rfl, hl, hut, G, hlot, ht, hr0, nlr, ntr, k⟩ := h
    have hr__law_bits := hr.mono (show 1 ≤ 2 by decide)
    have hr__law_lot := hr.mono (show 1 ≤ 2 by decide)
    have hr__law_lots_back := hr
    have hr__law_way_back := hr
    refine ⟨_, PSs.nox (pss_cons (ps_set (i := 3) scRing.nd rfl (Or.inl rfl) (pcal C__law_bits hr__law_bits rfl (pa_cons (pv 1) pa_nil)))
    (pss_cons (ps_for PassesOwn.never rfl (pi_range1 rfl T.b_range (pa_cons (pe_callB call_len_seq (by rfl) T.b_len (by decide +kernel) (pa_cons (pv 0) pa_nil)) pa_nil)) (pg_name (i := 4) scRing.nd rfl (Or.inl rfl)) (pss_one (ps_if (pt_cmpR op_eq (pe_ix ix_tup (pe_ix ix_tup (pe_ix ix_list (pv 0) (pv 4) (fun _ _ => rfl)) pe_int (fun _ _ => rfl)) pe_int (fun _ _ => rfl)) pe_str (nomark _)) (pss_one (ps_for PassesOwn.never rfl (pi_list (pcal C__law_lots_back hr__law_lots_back rfl (pa_cons (pv 0) (pa_cons (pv 3) (pa_cons (pv 4) (pa_cons (pv 2) pa_nil)))))) (pg_name (i := 5) scRing.nd rfl (Or.inl rfl)) (pss_cons (ps_set (i := 6) scRing.nd rfl (Or.inl rfl) (pcal C__law_way_back hr__law_way_back rfl (pa_cons (pv 0) (pa_cons (pv 3) (pa_cons (pv 4) (pa_cons (pv 5) (pa_cons (pv 2) pa_nil)))))))
          (pss_one (ps_if (pt_cmpR op_notN (pv 6) pe_non (nomark _)) (pss_one (ps_ret (pe_tup (pa_cons (pv 4) (pa_cons (pv 6) (pa_cons (pcal C__law_lot hr__law_lot rfl (pa_cons (pv 1) (pa_cons (pv 5) pa_nil))) pa_nil)))))) pss_nil))))) pss_nil)))
    (pss_one (ps_ret pe_non)))), ?_⟩
    have l8 := G.n8 ys hlot
    refine ⟨_, rfl, t, ys, rfl, ht, hlot.nd, l8, fun d H1 s1 nd hb => ?_⟩
    have tab1 : Tab K H1 l d us b ys := ⟨s1 _ _ hl, hut.pt s1.pt, hb, fun x hx => (hlot.me x).mpr hx, G, l8⟩
    have hr1 := s1 _ _ hr0
    have ht1 := s1 _ _ ht
    have ndr : d ≠ r := by
      obtain ⟨kvs, hk, _⟩ := hb.ex
      exact ne_of hk hr1 (by intro z; cases z)
    refine ⟨_, rfl, l, _, rfl, .inl (SqL.of tab1.hl), _, rfl, by omega, by rw [tab1.len]; have := G.l30; omega, ?_⟩
    rw [show (us.length : Int) = (((rowsB b).length : Nat) : Int) by rw [tab1.len]]
    refine for_range (fun i σ' H' => ∃ (n : Nat) (y4 y5 y6 : Option V), σ' = [some (.ref l), some (.ref t), some (.ref r), some (.ref d), y4, y5, y6] ∧ Kp r H H' ∧ Kp r H1 H' ∧ H' r = some (.lst [.int (n : Nat)]) ∧ n ≤ 1500) ⟨1500, _, _, _, rfl, s1.kp, Kp.refl _ _, hr1, Nat.le_refl _⟩ ?_ ?_
    · rintro i σ' H' hi ⟨n, y4, y5, y6, rfl, kp, kp1, hrn, hn⟩
      have tab := tab1.mv nlr ndr kp1 (Kp.pt hr1 kp1)
      have hil : i < (rowsB b).length := by omega
      have hr2 : (rowsB b)[i]? = some (rowsB b)[i] := List.getElem?_eq_getElem hil
      obtain ⟨fa, fx, fy, gs, hfa, hFS, hFr, hFl, hgs⟩ := tab_get tab.hu hr2
      generalize (rowsB b)[i] = rw0 at hr2 hFr
      obtain ⟨ra, tl, rfl, hrS, hrt⟩ := hFr.rowI
      refine ⟨_, rfl, _, rfl, l, _, _, _, rfl, rfl, SqL.of tab.hl, at_of (j := i) (by omega) hfa, fa, _, _, _, rfl, rfl, hFS, rfl, ra, _, _, _, rfl, rfl, hrS, at0, rfl, _, rfl, ?_⟩
      refine ite2 (fun e => ?_) (fun _ => ⟨n, _, _, _, rfl, kp, kp1, hrn, hn⟩)
      obtain ⟨x, o, ps, rfl⟩ : ∃ x o ps, rw0 = .note x o ps := by
        have e' := of_decide_eq_true e
        cases rw0 with
        | note x o ps => exact ⟨x, o, ps, rfl⟩
        | copy _ _ => exact absurd e' (neS (a := "copy") (b := "note") (by decide +kernel))
        | give _ _ => exact absurd e' (neS (a := "give") (b := "note") (by decide +kernel))
        | ask _ => exact absurd e' (neS (a := "ask") (b := "note") (by decide +kernel))
        | prt _ => exact absurd e' (neS (a := "print") (b := "note") (by decide +kernel))
        | either _ _ => exact absurd e' (neS (a := "either") (b := "note") (by decide +kernel))
        | again _ => exact absurd e' (neS (a := "again") (b := "note") (by decide +kernel))
      refine ⟨_, rfl, _, rfl, _, rfl, _, rfl, l, d, r, i, us, b, ys, x, o, ps, n, by rw [Int.zero_add]; rfl, tab, hr2, hrn, hn, nlr, fun f ms n' H2 k2 hr3 hn' nf hf hml hms => ?_⟩
      have nfr : f ≠ r := (ne_of_none hrn nf).symm
      refine ⟨f, rfl, ⟨_, SqL.of hf⟩, ?_⟩
      refine for_list (xs := plV ms) (fun j σ3 H3 => ∃ (n : Nat) (y5 y6 : Option V), σ3 = [some (.ref l), some (.ref t), some (.ref r), some (.ref d), some (.int (0 + (i : Nat))), y5, y6] ∧ Kp r H H3 ∧ Kp r H1 H3 ∧ H3 r = some (.lst [.int (n : Nat)]) ∧ n ≤ 1500 ∧ H3 f = some (.lst (plV ms))) ⟨n', _, _, rfl, kp.trans k2, kp1.trans k2, hr3, by omega, hf⟩ ?_ ?_ ?_
      · rintro j σ3 H3 _ ⟨_, _, _, _, _, _, _, _, h⟩
        exact SqL.of h
      · rintro j z σ3 H3 hz ⟨n3, y5, y6, rfl, kp3, kp13, hrn3, hn3, hf3⟩
        obtain ⟨m, hm, rfl⟩ : ∃ m, ms[j]? = some m ∧ z = V.int (m : Nat) := by
          unfold plV at hz
          rw [List.getElem?_map] at hz
          cases e : ms[j]? with
          | none => rw [e] at hz; cases hz
          | some p => rw [e] at hz; exact ⟨p, rfl, (Option.some.inj hz).symm⟩
        have hmm := hms m (List.mem_of_getElem? hm)
        obtain ⟨S, rfl⟩ := hmm
        have tab3 := tab1.mv nlr ndr kp13 (Kp.pt hr1 kp13)
        refine ⟨_, rfl, _, rfl, _, rfl, _, rfl, _, rfl, l, d, r, i, maskS ys S, us, b, ys, x, o, ps, n3, by rw [Int.zero_add]; rfl, tab3, hr2, ⟨S, rfl⟩, hrn3, hn3, nlr, fun v n4 H4 k4 hr4 hn4 hv => ?_⟩
        have kp4 := kp3.trans k4
        have kp14 := kp13.trans k4
        have hf4 := k4 _ _ nfr hf3
        refine ⟨_, rfl, rfl, _, rfl, ?_⟩
        rcases hv with rfl | ⟨wa, hs, rfl, hw, h1, h2⟩
        · exact ifBF rfl ⟨n4, _, _, rfl, kp4, kp14, hr4, by omega, hf4⟩
        · refine ifB rfl ⟨_, rfl, _, rfl, _, rfl, _, rfl, t, ys, S, rfl, kp14 _ _ ntr ht1, l8, fun la H5 s5 hla => ⟨by show 3 ≤ sizeLine; decide, fun q nq => ?_⟩⟩
          have sq := same_new (o := .tup [V.int (0 + (i : Int)), V.ref wa, V.ref la]) nq
          refine k _ _ ((kp4.same s5).same sq) (.inr ⟨i, hs, ys.filter S, ⟨q, wa, la, rfl, .inl (.inl ?_), (s5.trans sq).pt.sq hw, sq.pt.sq hla, hil, h1, by omega, Nat.le_trans (List.length_filter_le _ _) l8⟩, h2⟩)
          rw [upd_same, Int.zero_add]
      · rintro σ3 H3 ⟨n3, y5, y6, rfl, kp3, kp13, hrn3, hn3, _⟩
        exact ⟨n3, _, _, _, rfl, kp3, kp13, hrn3, hn3⟩
    · rintro σ' H' ⟨n, y4, y5, y6, rfl, kp, _⟩
      exact k .non H' kp (.inl rfl)
def spLLed (K : PySem.W.Frag) : Sp := fun vs H Q _ => ∃ (p c l : Addr) (q : Nat) (us : List V) (b : List Rw), vs = [.ref p, .ref l, .int q, .int 30] ∧ HandAt H p c ∧ H l = some (.lst us) ∧ Tvs K H us ((tabB b).map dE) ∧ Good b ∧ q ≤ (rowsB b).length ∧ l ≠ p ∧
  ∀ (a : Addr) (hs : List Nat) (g : Nat) (H' : Hp), HandAt H' p c → Kp p H H' → SqT K H' a (plV (hs ++ [g])) → hs.length ≤ 30 → (∀ n ∈ hs, n < (rowsB b).length) → Q (.ref a) H'
theorem scLed : FnScope ["_law_hand_here", "_law_table_here", "_law_place", "_law_many", "_law_way", "_law_step"] ["_law_hand_here", "_law_table_here", "_law_place", "_law_many"] (defScope sLLed) := ⟨rfl, rfl, rfl, by decide +kernel, rfl, by decide +kernel, by decide +kernel⟩
theorem ok_lled {f : Addr} {fd : FuncData} (F : FnP K "_law_led" sLLed f fd) (T : Bi mg) (C__law_any : Cal P w K mg base "_law_any" 2 ["_law_hand_here", "_law_things"] (spAny K)) : FnOk P w K mg base CX0 3 f fd ["_law_hand_here", "_law_table_here", "_law_place", "_law_many"] (spLLed K) := by
  refine F.ok scLed (fun vs H Q E h => ?_) (fun cdv A outer s H vs Q E hr h => ?_)
  · obtain ⟨p, c, l, q, us, b, rfl, _⟩ := h
    rfl
  · obtain ⟨p, c, l, q, us, b, rfl, hh0, hl, hu, G, hq, nlp, k⟩ := h
    have hr__law_any := hr
    refine ⟨_, PSs.nox (pss_cons (ps_set (i := 4) scLed.nd rfl (Or.inl rfl) (pe_tup (pa_cons (pv 2) pa_nil)))
    (pss_cons (ps_for PassesOwn.never rfl (pi_range1 rfl T.b_range (pa_cons (pv 3) pa_nil)) (pg_name (i := 5) scLed.nd rfl (Or.inl rfl)) (pss_one (ps_if (pt_cmpR op_lt (pe_ix ix_tup (pv 4) (pe_un un_neg pe_int) (fun _ _ => rfl)) (pe_callB call_len_seq (by rfl) T.b_len (by decide +kernel) (pa_cons (pv 1) pa_nil)) (nomark _)) (pss_one (ps_set (i := 4) scLed.nd rfl (Or.inl rfl) (pe_op op_catZ (pv 4) (pe_tup (pa_cons (pcal C__law_any hr__law_any rfl (pa_cons (pv 0) (pa_cons (pe_ix ix_tup (pe_ix ix_list (pv 1) (pe_ix ix_tup (pv 4) (pe_un un_neg pe_int) (fun _ _ => rfl)) (fun _ _ => rfl)) pe_int (fun _ _ => rfl)) pa_nil))) pa_nil))))) pss_nil)))
    (pss_one (ps_ret (pv 4))))), ?_⟩
    have hul : us.length = (rowsB b).length := by rw [hu.len, List.length_map, tab_len]
    refine ⟨_, rfl, by show 1 ≤ sizeLine; decide, fun a na => ?_⟩
    have sa := same_new (o := .tup [V.int (q : Nat)]) na
    refine ⟨_, rfl, _, rfl, by decide, by decide, ?_⟩
    refine for_range (fun i σ' H' => ∃ (a : Addr) (hs : List Nat) (g : Nat) (y5 : Option V), σ' = [some (.ref p), some (.ref l), some (.int q), some (.int 30), some (.ref a), y5] ∧ HandAt H' p c ∧ Kp p H H' ∧ SqT K H' a (plV (hs ++ [g])) ∧ hs.length ≤ i ∧ (∀ n ∈ hs, n < (rowsB b).length) ∧ g ≤ (rowsB b).length) ⟨a, [], q, _, rfl, hh0.kp sa, sa.kp, .inl (.inl upd_same), Nat.le_refl _, (fun _ h => nomatch h), hq⟩ ?_ ?_
    · rintro i σ' H' hi ⟨a, hs, g, y5, rfl, hh, kp, hS, hle, hlt, hg⟩
      have pt := hh0.pt kp
      have hl' := kp _ _ nlp hl
      have hlast : atI (plV (hs ++ [g])) (-1) = some (V.int (g : Nat)) := by
        rw [plV_app]
        exact atI_last _ _
      have hi30 : i < 30 := hi
      refine ⟨_, rfl, _, rfl, a, _, _, _, rfl, rfl, hS, hlast, _, rfl, l, _, rfl, .inl (SqL.of hl'), _, _, rfl, rfl, _, rfl, ?_⟩
      refine ite2 (fun e => ?_) (fun _ => ⟨a, hs, g, _, rfl, hh, kp, hS, by omega, hlt, hg⟩)
      have hgl : g < (rowsB b).length := by
        have : (g : Int) < (us.length : Nat) := of_decide_eq_true e
        omega
      have hr1 : (rowsB b)[g]? = some (rowsB b)[g] := List.getElem?_eq_getElem hgl
      obtain ⟨fa, fx, fy, gs, hfa, hFS, hFr, hFl, hgs⟩ := tab_get (hu.pt pt) hr1
      obtain ⟨ga, zs, rfl, hgS, hgt⟩ := hFl.tupI
      rw [Tvs.ints hgt] at hgS
      obtain ⟨hg2, hgR⟩ := leads_at hgs
      have hg1 := (entsB_one _ _ _ _ (tab_pair hr1 hgs)).1
      refine ⟨_, rfl, _, rfl, _, rfl, _, rfl, _, rfl, a, _, _, _, rfl, rfl, hS, hlast, l, _, _, _, rfl, rfl, SqL.of hl', at_of (j := g) rfl hfa, fa, _, _, _, rfl, rfl, hFS, rfl, p, c, ga, _, rfl, hh, .inr hgS, ?_, ?_, fun x H2 hx hh2 ch2 => ?_⟩
      · intro z
        have := congrArg List.length z
        rw [List.length_map] at this
        simp at this
        rw [this] at hg1
        exact absurd hg1 (show ¬ 1 ≤ 0 by decide)
      · rw [List.length_map]
        have : gs.length ≤ 2 := hg2
        omega
      · obtain ⟨g', hg', rfl⟩ := List.mem_map.mp hx
        refine ⟨by show 1 ≤ sizeLine; decide, fun u nu => ?_⟩
        have su := same_new (o := .tup [V.int (g' : Nat)]) nu
        have pt2 := (hh.pt ch2.kp).trans su.pt
        refine ⟨a, u, _, _, rfl, rfl, pt2.sq hS, .inl (.inl upd_same), Nat.le_trans (show (plV (hs ++ [g])).length + 1 ≤ 40 by unfold plV; rw [List.length_map, List.length_append]; show hs.length + 1 + 1 ≤ 40; omega) (by decide), fun w H3 s3 hw => ?_⟩
        refine ⟨w, hs ++ [g], g', _, rfl, (hh2.kp su).kp s3, ((kp.trans ch2.kp).same su).same s3, by rw [plV_app]; exact hw, by rw [List.length_append]; show hs.length + 1 ≤ i + 1; omega, fun n hn => ?_, hgR g' hg'⟩
        rcases List.mem_append.mp hn with hn | hn
        · exact hlt n hn
        · rw [List.mem_singleton.mp hn]
          exact hgl
    · rintro σ' H' ⟨a, hs, g, y5, rfl, hh, kp, hS, hle, hlt, hg⟩
      exact ⟨_, rfl, k a hs g H' hh kp hS hle hlt⟩
end
end K25
set_option Elab.async false
set_option linter.all false
set_option maxRecDepth 100000
set_option maxHeartbeats 4000000
namespace K25
open PySem PySem.Spec PyProof.Rows L2 ZX PM ZR
abbrev sLPassed : Stmt := top 70
/-- things that are triples -/
def Tris (K : PySem.W.Frag) (H : Hp) (R : Nat) (xs : List V) : Prop := ∀ v ∈ xs, ∃ p hs L, Tri K H R v p hs L
theorem Tris.pt {K : PySem.W.Frag} {H H' : Hp} {R : Nat} {xs : List V} (pt : Pt H H') (h : Tris K H R xs) : Tris K H' R xs := fun v hv => by
  obtain ⟨p, hs, L, h⟩ := h v hv
  exact ⟨p, hs, L, h.pt pt⟩
def spLPassed (K : PySem.W.Frag) : Sp := fun vs H Q _ => ∃ (h c l t : Addr) (p : Nat) (us : List V) (b : List Rw) (ys : List Str) (x o : Str) (ps : List Str), vs = [.ref h, .ref l, .ref t, .int p] ∧ HandAt H h c ∧ H l = some (.lst us) ∧ Tvs K H us ((tabB b).map dE) ∧ Good b ∧ IsLot ys ((rowsB b).flatMap namesR) ∧ H t = some (.lst (ys.map V.str)) ∧ (rowsB b)[p]? = some (.note x o ps) ∧
  ∀ (f : Addr) (xs : List V) (H' : Hp), HandAt H' h c → Kp h H H' → H f = none → H' f = some (.lst xs) → xs.length ≤ 4 → Tris K H' (rowsB b).length xs → Q (.ref f) H'
theorem cut_to {xs : List V} {n : Nat} (h : n ≤ xs.length) : cutV xs none (some (n : Int)) = xs.take n := by
  unfold cutV
  have h1 : HT.sIx xs.length 0 none = 0 := rfl
  rw [h1, HT.sIx_nat, List.drop_zero, Nat.sub_zero, Nat.min_eq_left h]
section
variable {P : Program} {w : World} {K : PySem.W.Frag} {mg : Str → Option Value} {base : Heap}
theorem scPassed : FnScope ["_law_hand_here", "_law_table_here", "_law_names_here", "_law_place", "_law_bits_here", "_law_way", "_law_found", "_law_k", "_law_mask_here"] ["_law_hand_here", "_law_table_here", "_law_names_here", "_law_place"] (defScope sLPassed) := ⟨rfl, rfl, rfl, by decide +kernel, rfl, by decide +kernel, by decide +kernel⟩
theorem ok_lpassed {f : Addr} {fd : FuncData} (F : FnP K "_law_passed" sLPassed f fd) (T : Bi mg) (bmax : mg "max" = none) (C__law_bits : Cal P w K mg base "_law_bits" 1 ["_law_names_here"] spLBits) (C__law_led : Cal P w K mg base "_law_led" 3 ["_law_hand_here", "_law_table_here", "_law_place", "_law_many"] (spLLed K)) (C__law_along : Cal P w K mg base "_law_along" 2 ["_law_table_here", "_law_bits_here", "_law_way", "_law_mask_here"] (spLAlong K)) (C__law_lot : Cal P w K mg base "_law_lot" 1 ["_law_names_here", "_law_mask_here"] (spLLot K)) : FnOk P w K mg base CX0 4 f fd ["_law_hand_here", "_law_table_here", "_law_names_here", "_law_place"] (spLPassed K) := by
  refine F.ok scPassed (fun vs H Q E h => ?_) (fun cdv A outer s H vs Q E hr h => ?_)
  · obtain ⟨h, c, l, t, p, us, b, ys, x, o, ps, rfl, _⟩ := h
    rfl
  · obtain ⟨h, c, l, t, p, us, b, ys, x, o, ps, rfl, hh0, hl, hut, G, hlot, ht, hp, k⟩ := h
    have hr__law_bits := hr.mono (show 1 ≤ 3 by decide)
    have hr__law_lot := hr.mono (show 1 ≤ 3 by decide)
    have hr__law_along := hr.mono (show 2 ≤ 3 by decide)
    have hr__law_led := hr
    have hu := hu_of hr
    refine ⟨_, PSs.nox (pss_cons (ps_set (i := 4) scPassed.nd rfl (Or.inl rfl) (pcal C__law_bits hr__law_bits rfl (pa_cons (pv 2) pa_nil)))
    (pss_cons (ps_set (i := 5) scPassed.nd rfl (Or.inl rfl) (pcal C__law_led hr__law_led rfl (pa_cons (pv 0) (pa_cons (pv 1) (pa_cons (pe_ix ix_tup (pe_ix ix_tup (pe_ix ix_list (pv 1) (pv 3) (fun _ _ => rfl)) pe_int (fun _ _ => rfl)) pe_int (fun _ _ => rfl)) (pa_cons pe_int pa_nil))))))
    (pss_cons (ps_set (i := 6) scPassed.nd rfl (Or.inl rfl) (pe_lst pa_nil))
    (pss_cons (ps_for PassesOwn.never rfl (pi_range2 rfl T.b_range (pa_cons pe_int (pa_cons (pe_op op_sub (pe_callB call_len_seq (by rfl) T.b_len (by decide +kernel) (pa_cons (pv 5) pa_nil)) pe_int) pa_nil))) (pg_name (i := 7) scPassed.nd rfl (Or.inl rfl)) (pss_one (ps_if (PW.pt (pw_and (pt_cmpR op_eq (pe_ix ix_tup (pv 5) (pv 7) (fun _ _ => rfl)) (pv 3) (nomark _)) (pw_and1 (pt_cmpR op_lt (pe_callB call_len_seq (by rfl) T.b_len (by decide +kernel) (pa_cons (pv 6) pa_nil)) pe_int (nomark _))))) (pss_cut (ps_set (i := 8) scPassed.nd rfl (Or.inl rfl) (pcal C__law_along hr__law_along rfl (pa_cons (pv 1) (pa_cons (pv 4) (pa_cons (pe_slice sl_tupZ (pv 5) po_none (po_some (pe_op op_add (pv 7) pe_int))) (pa_cons (pe_dget hu (pv 4) (pe_ix ix_tup (pe_ix ix_tup (pe_ix ix_list (pv 1) (pv 3) (fun _ _ => rfl)) pe_int (fun _ _ => rfl)) pe_int (fun _ _ => rfl)) (fun _ _ => rfl)) pa_nil))))))
        (pss_one (ps_expr (pe_bm PySem.F.plainAttrs_list PySem.F.slot_list_append PySem.F.type_list_append mt_append (pv 6) (pa_cons (pe_tup (pa_cons (pv 3) (pa_cons (pe_slice sl_tupZ (pv 5) po_none (po_some (pe_op op_add (pv 7) pe_int))) (pa_cons (pcal C__law_lot hr__law_lot rfl (pa_cons (pv 2) (pa_cons (pe_callB (call_max2 rfl) (by rfl) bmax (by decide +kernel) (pa_cons (pv 8) (pa_cons pe_int pa_nil))) pa_nil))) pa_nil)))) pa_nil))))) pss_nil)))
    (pss_one (ps_ret (pv 6))))))), ?_⟩
    have l8 := G.n8 ys hlot
    refine ⟨_, rfl, t, ys, rfl, ht, hlot.nd, l8, fun d H1 s1 nd hb => ?_⟩
    have tab1 : Tab K H1 l d us b ys := ⟨s1 _ _ hl, hut.pt s1.pt, hb, fun x hx => (hlot.me x).mpr hx, G, l8⟩
    have hh1 := hh0.kp s1
    have nlh : l ≠ h := by
      obtain ⟨cs, i1, g1, k1, d1, hh⟩ := hh0
      exact ne_of hl hh.hp (by intro z; cases z)
    have nth : t ≠ h := by
      obtain ⟨cs, i1, g1, k1, d1, hh⟩ := hh0
      exact ne_of ht hh.hp (by intro z; cases z)
    have ndh : d ≠ h := hh0.nep nd
    obtain ⟨ea, ex, ey, q, hea, hES, hEr, ⟨tl, hxS⟩, hyS, hq, hls, hx, hg, hm⟩ := note_at tab1 hp
    refine ⟨_, rfl, _, rfl, _, rfl, _, rfl, l, _, _, _, rfl, rfl, SqL.of tab1.hl, at_of (j := p) rfl hea, ea, _, _, _, rfl, rfl, hES, rfl, ey, _, _, _, rfl, rfl, hyS, rfl, h, c, l, q, us, b, rfl, hh1, tab1.hl, tab1.hu, G, hq, nlh, fun wa hs g H2 hh2 k2 hw hle hlt => ?_⟩
    refine ⟨by decide, fun fo nfo => ?_⟩
    have sfo := same_new (o := .lst []) nfo
    have kp2 : Kp h H (upd H2 fo (.lst [])) := (s1.kp.trans k2).same sfo
    have fo0 : H fo = none := hh2.free (s1.kp.trans k2) nfo
    have pt2 := hh1.pt k2
    have tab2 := (tab1.mv nlh ndh k2 pt2).same sfo
    have hg2 := tab2.hb.get hx
    have hwl : (plV (hs ++ [g])).length = hs.length + 1 := by
      unfold plV
      rw [List.length_map, List.length_append]
      rfl
    refine ⟨_, rfl, wa, _, rfl, .inr (sfo.pt.sq hw), _, _, rfl, rfl, _, _, rfl, ⟨by omega, by omega, by omega, by omega⟩, ?_⟩
    refine for_range (fun i σ' H' => ∃ (xs : List V) (y7 y8 : Option V), σ' = [some (.ref h), some (.ref l), some (.ref t), some (.int p), some (.ref d), some (.ref wa), some (.ref fo), y7, y8] ∧ HandAt H' h c ∧ Kp h H H' ∧ Kp fo (upd H2 fo (.lst [])) H' ∧ H' fo = some (.lst xs) ∧ xs.length ≤ 4 ∧ Tris K H' (rowsB b).length xs) ⟨[], _, _, rfl, hh2.kp sfo, kp2, Kp.refl _ _, upd_same, Nat.zero_le _, fun _ h => nomatch h⟩ ?_ ?_
    · rintro i σ' H' hi ⟨xs, y7, y8, rfl, hh, kp, kf, hfo, hxl, htr⟩
      have ptf : Pt (upd H2 fo (.lst [])) H' := Kp.pt upd_same kf
      have nlf : l ≠ fo := ne_of_none (k2 _ _ nlh tab1.hl) nfo
      have ndf : d ≠ fo := by
        obtain ⟨kvs, hk, _⟩ := tab1.hb.ex
        exact ne_of_none (k2 _ _ ndh hk) nfo
      have ntf : t ≠ fo := ne_of_none (k2 _ _ nth (s1 _ _ ht)) nfo
      have tab := tab2.mv nlf ndf kf ptf
      have hw' := ptf.sq (sfo.pt.sq hw)
      have ht' := kp _ _ nth ht
      have hil : i + 2 ≤ hs.length := by
        rw [hwl] at hi
        omega
      have hxi : (plV (hs ++ [g]))[i + 1]? = some (plV (hs ++ [g]))[i + 1] := List.getElem?_eq_getElem (by omega)
      obtain ⟨hn, hhn, hvn⟩ : ∃ hn : Nat, (hs ++ [g])[i + 1]? = some hn ∧ (plV (hs ++ [g]))[i + 1]? = some (V.int (hn : Nat)) := by
        have hl : i + 1 < (hs ++ [g]).length := by
          rw [List.length_append]
          show i + 1 < hs.length + 1
          omega
        refine ⟨(hs ++ [g])[i + 1], List.getElem?_eq_getElem hl, ?_⟩
        unfold plV
        rw [List.getElem?_map, List.getElem?_eq_getElem hl]
        rfl
      refine ⟨_, rfl, _, rfl, wa, _, _, _, rfl, rfl, hw', at_of (j := i + 1) (by omega) hvn, _, rfl, rfl, _, rfl, ?_⟩
      refine ite2 (fun _ => ?_) (fun _ => ⟨xs, _, _, rfl, hh, kp, kf, hfo, hxl, htr⟩)
      refine ⟨_, rfl, fo, _, rfl, .inl (SqL.of hfo), _, _, rfl, rfl, _, rfl, ?_⟩
      refine ite2 (fun e4 => ?_) (fun _ => ⟨xs, _, _, rfl, hh, kp, kf, hfo, hxl, htr⟩)
      have hx3 : xs.length < 4 := by
        have : (xs.length : Int) < 4 := of_decide_eq_true e4
        omega
      have ecut : cutV (plV (hs ++ [g])) none (some (1 + (i : Int) + 2)) = plV ((hs ++ [g]).take (i + 3)) := by
        rw [show (1 + (i : Int) + 2) = ((i + 3 : Nat) : Int) by omega, cut_to (by rw [hwl]; omega)]
        unfold plV
        rw [List.map_take]
      obtain ⟨q2, hq2⟩ : ∃ q2, (hs ++ [g])[i + 2]? = some q2 := ⟨_, List.getElem?_eq_getElem (by rw [List.length_append]; show i + 2 < hs.length + 1; omega)⟩
      have esp : (hs ++ [g]).take (i + 3) = (hs ++ [g]).take (i + 2) ++ [q2] := by
        rw [List.take_succ, hq2]
        rfl
      have elt : ∀ n ∈ (hs ++ [g]).take (i + 2), n < (rowsB b).length := fun n hn => by
        rw [List.take_append_of_le_length (by omega)] at hn
        exact hlt n (List.mem_of_mem_take hn)
      obtain ⟨S0, hS0⟩ := hm
      refine ⟨fun σ3 H3 => ∃ o : Option (Str → Bool), σ3 = [some (.ref h), some (.ref l), some (.ref t), some (.int p), some (.ref d), some (.ref wa), some (.ref fo), some (.int (1 + (i : Int))), some (.int (mOf ys o))] ∧ Same H' H3, ?_, ?_⟩
      · obtain ⟨ea', ex', ey', q', hea', hES', hEr', ⟨tl', hxS'⟩, _, _, _, _, hg', _⟩ := note_at tab hp
        refine ⟨_, rfl, _, rfl, _, rfl, _, rfl, _, _, rfl, rfl, _, rfl, wa, _, rfl, hw', fun wc H3 s3 hwc => ?_⟩
        rw [ecut, esp] at hwc
        have tab3 := tab.same s3
        refine ⟨_, rfl, _, rfl, _, rfl, l, _, _, _, rfl, rfl, SqL.of tab3.hl, at_of (j := p) rfl hea', ea', _, _, _, rfl, rfl, s3.pt.sq hES', rfl, ex', _, _, _, rfl, rfl, s3.pt.sq hxS', at1, d, _, rfl, tab3.hb.get hx, ?_⟩
        refine ⟨l, d, wc, us, b, ys, (hs ++ [g]).take (i + 2), q2, some S0, ?_, tab3.hl, tab3.hu, tab3.hb, hwc, elt, tab3.hn, G, fun H4 s4 => ⟨_, rfl, s3.trans s4⟩⟩
        show [V.ref l, V.ref d, V.ref wc, V.int ((2 ^ idxS ys x : Nat) : Int)] = _
        rw [hS0]
        rfl
      · rintro σ3 H3 ⟨o2, rfl, s3⟩
        refine ⟨_, rfl, .inl ⟨rfl, _, SqL.of (s3 _ _ hfo)⟩, _, rfl, _, rfl, _, rfl, _, _, rfl, rfl, _, rfl, wa, _, rfl, s3.pt.sq hw', fun wc H4 s4 hwc => ?_⟩
        rw [ecut] at hwc
        obtain ⟨S2, hS2⟩ : ∃ S2 : Str → Bool, (if (0 : Int) > mOf ys o2 then 0 else mOf ys o2) = ((maskS ys S2 : Nat) : Int) := by
          cases o2 with
          | none => exact ⟨fun _ => false, by rw [maskS_zero]; rfl⟩
          | some S => exact ⟨S, if_neg (by show ¬ (0 : Int) > ((maskS ys S : Nat) : Int); omega)⟩
        have s34 := s3.trans s4
        refine ⟨_, rfl, _, rfl, _, _, rfl, t, ys, S2, ?_, s34 _ _ ht', l8, fun la H5 s5 hla => ⟨by show 3 ≤ sizeLine; decide, fun u nu => ?_⟩⟩
        · rw [hS2]
          rfl
        · have su := same_new (o := .tup [V.int (p : Nat), V.ref wc, V.ref la]) nu
          have s6 := (s34.trans s5).trans su
          refine ⟨fo, xs, _, rfl, rfl, s6 _ _ hfo, Nat.lt_of_lt_of_le hx3 (by decide), ?_⟩
          have pl := Pt.lst (o := .lst (xs ++ [V.ref u])) (s6 _ _ hfo)
          refine ⟨xs ++ [V.ref u], _, _, rfl, (hh.kp s6).away hh0 fo0, (kp.same s6).fresh fo0, (kf.same s6).put, upd_same, by rw [List.length_append]; exact hx3, fun v hv => ?_⟩
          rcases List.mem_append.mp hv with hv | hv
          · obtain ⟨p', hs', L', h'⟩ := htr v hv
            exact ⟨p', hs', L', (h'.pt s6.pt).pt pl⟩
          · rw [List.mem_singleton.mp hv]
            have hpl : p < (rowsB b).length := (List.getElem?_eq_some_iff.mp hp).1
            refine ⟨p, (hs ++ [g]).take (i + 3), ys.filter S2, Tri.pt pl ⟨u, wc, la, rfl, .inl (.inl upd_same), (s5.pt.trans su.pt).sq hwc, su.pt.sq hla, hpl, ?_, ?_, Nat.le_trans (List.length_filter_le _ _) l8⟩⟩
            · rw [List.length_take, List.length_append]
              show 1 ≤ min (i + 3) (hs.length + 1)
              omega
            · rw [List.length_take, List.length_append]
              show min (i + 3) (hs.length + 1) ≤ 9000
              omega
    · rintro σ' H' ⟨xs, y7, y8, rfl, hh, kp, kf, hfo, hxl, htr⟩
      exact ⟨_, rfl, k fo xs H' hh kp fo0 hfo hxl htr⟩
end
end K25
set_option Elab.async false
set_option linter.all false
set_option maxRecDepth 100000
set_option maxHeartbeats 4000000
/-! Calls of defs that may let something out. -/
namespace PM
open PySem PySem.Spec PyProof.Rows L2 ZX ZR
/-- a def that may be called by its name and may let something out -/
structure CalX (P : Program) (w : World) (K : PySem.W.Frag) (mg : Str → Option Value) (base : Heap) (x : Str) (k : Nat) (ps : List Str) (sp : Sp) : Prop where
  ex : ∃ (f : Addr) (fd : FuncData), FnOk P w K mg base (L2.CX P w) k f fd ps sp ∧ mg x = some (.ref f) ∧ PySem.W.keepIn K (.ref f) = true ∧ Binds K fd ps []
section
variable {X : Cx} {e : Expr} {es : List Expr} {t : TA} {x : Str} {p pos : Pos} {k : Nat} {ps : List Str} {sp : Sp}
theorem pcalS {W : WX} (C : CalX X.prog X.w X.K X.mg X.base x k ps sp) (hr : Room k X.A) (tk : Takes X W) (hg : Gl X x) (ha : PA X (e :: es) t)
    (hdb : (x == ("__debug__" : Str)) = false := by decide) (he : starEach (e :: es) X.env = (false, eval e X.env) :: starEach es X.env := by rfl) (hpl : (backTo pos (starEach es X.env)).any (·.1) = false := by rfl) :
    PE X (.Call (.Name x p) (e :: es) [] pos) (tCallS sp (WE W) t) := by
  obtain ⟨f, fd, G, g, kp, b⟩ := C.ex
  exact pe_callS G hr hg g kp b (fun σ => passAt tk σ) ha hdb he hpl
/-- a call that lets nothing out -/
theorem pcalN (C : CalX X.prog X.w X.K X.mg X.base x k ps sp) (hr : Room k X.A) (hg : Gl X x) (ha : PA X (e :: es) t)
    (hdb : (x == ("__debug__" : Str)) = false := by decide) (he : starEach (e :: es) X.env = (false, eval e X.env) :: starEach es X.env := by rfl) (hpl : (backTo pos (starEach es X.env)).any (·.1) = false := by rfl) :
    PE X (.Call (.Name x p) (e :: es) [] pos) (tCall sp [] E0 t) := by
  obtain ⟨f, fd, G, g, kp, b⟩ := C.ex
  refine pe_call G hr hg g kp b .nil (fun pins σ H s e s' I c => ?_) ha hdb he hpl
  obtain ⟨_, _, _, _, _, _, _, _, _, _, _, h⟩ := c
  exact h.2.elim
end
end PM
set_option Elab.async false
set_option linter.all false
set_option maxRecDepth 100000
set_option maxHeartbeats 4000000
/-! == and in of things unlike a text. -/
namespace ZR
open PySem PySem.Spec PyProof.Rows L2 ZX PM RZ
theorem dict_declines_str (l : Addr) (es : Array DictEntry) (n : Nat) (dd : Option Addr) (sl : Array (Option Value)) (b : Str) (u : Tok) :
    Meets (Builtin.«dict.__eq__» { pos := [Value.ref l, Value.str b u] }) fun x R s => s.heap.get? l = some { cls := Value.type "dict", dict := dd, data := Data.dict es n, slots := sl } ∧ R (Except.ok (Flow.ret Value.notImplemented)) s :=
  Meets.of_wp fun prog w A R s h => by
    obtain ⟨hl, h⟩ := h
    have f1 := F.sub_str_dict
    show wpAny (model prog w) A.in1 (Builtin.«dict.__eq__» { pos := [Value.ref l, Value.str b u] }) _ _ s
    refine wpAny_bind ?_
    have e1 : Builtin.Dict.dictSlotArgs "__eq__" { pos := [Value.ref l, Value.str b u] } = pure (Value.ref l, Value.str b u) := by
      rfl
    rw [e1]
    refine wpAny_pure ?_
    show wpAny (model prog w) A.in1 (isInstance (Value.str b u) (Value.type "dict") >>= _) _ _ s
    have e2 : isInstance (Value.str b u) (Value.type "dict") = pure false := by
      rw [← f1]
      rfl
    rw [e2]
    refine wpAny_bind (wpAny_pure (wpAny_ite_true rfl ?_))
    exact wpAny_bind (wpAny_rule (wpAny_pure ⟨_, rfl, h⟩))
theorem str_declines_dict (b : Str) (u : Tok) (l : Addr) (es : Array DictEntry) (n : Nat) (dd : Option Addr) (sl : Array (Option Value)) :
    Meets (Builtin.«str.__eq__» { pos := [Value.str b u, Value.ref l] }) fun x R s => s.heap.get? l = some { cls := Value.type "dict", dict := dd, data := Data.dict es n, slots := sl } ∧ R (Except.ok (Flow.ret Value.notImplemented)) s :=
  Meets.of_wp fun prog w A R s h => by
    obtain ⟨hl, h⟩ := h
    show wpAny (model prog w) A.in1 (Builtin.«str.__eq__» { pos := [Value.str b u, Value.ref l] }) _ _ s
    refine wpAny_bind (wpAny_bind ?_)
    have e1 : slotArgs "__eq__" 1 { pos := [Value.str b u, Value.ref l] } = pure (Value.str b u, [Value.ref l]) := by
      rfl
    rw [e1]
    refine wpAny_pure ?_
    refine wpAny_bind ?_
    refine wpAny_pure ?_
    refine wpAny_pure ?_
    refine wpAny_bind ?_
    refine wpAny_bind (wpAny_load hl (wpAny_pure ?_))
    exact wpAny_bind (wpAny_rule (wpAny_pure ⟨_, rfl, h⟩))
theorem rc_dict_str {A : Around} {s : Shared} {l : Addr} {es : Array DictEntry} {n : Nat} {dd : Option Addr} {sl : Array (Option Value)} (b : Str) (u : Tok) (ho : s.heap.get? l = some { cls := Value.type "dict", dict := dd, data := Data.dict es n, slots := sl }) (hu : A.units < cLine) : SeqAt.RcAt A s (Value.ref l) (Value.str b u) false := fun prog w E Q h =>
  SeqAt.rc_eq_decline_or ⟨_, ho, rfl⟩ (typeIs_str s b u) (by decide) F.sub_str_dict F.slot_dict_eq F.slot_str_eq_refl
    (fun x hq => call_meets F.slot_dict_eq ⟨_, ho, rfl⟩ F.entry_dict_eq (F.args_dict_eq_2 (Value.ref l) (Value.str b u)) (dict_declines_str l es n dd sl b u) ⟨ho, hq⟩)
    (fun x hq => call_meets F.slot_str_eq_refl (typeIs_str s b u) F.entry_str_eq (F.args_str_eq_2 (Value.str b u) (Value.ref l)) (str_declines_dict b u l es n dd sl) ⟨ho, hq⟩)
    (fun x hq => wpAny_of_eq rfl hq) (Or.inr hu) h
/-- == of an object and a text, where comparing tells False -/
theorem eq_of_rc {A : Around} {s : Shared} {l : Addr} {b : Str} {u : Tok} (h : SeqAt.RcAt A s (Value.ref l) (Value.str b u) false) : SeqAt.EqAt A s (Value.ref l) (Value.str b u) false := fun prog w E Q hq => by
  unfold eqBool
  refine wpAny_holding ?_
  refine wpAny_ite_false rfl ?_
  refine wpAny_bind (h prog w E _ ?_)
  exact wpAny_truthy_bool hq
/-- a list, a tuple, a dict -/
inductive Cnt (K : PySem.W.Frag) (H : Hp) : V → Prop
  | lst {a : Addr} {xs : List V} (h : SqL K H a xs) : Cnt K H (.ref a)
  | tup {a : Addr} {xs : List V} (h : SqT K H a xs) : Cnt K H (.ref a)
  | dic {a : Addr} {kvs : List (Key × V)} (h : H a = some (.dK kvs)) : Cnt K H (.ref a)
/-- an item that may be held against a text -/
def ItL (K : PySem.W.Frag) (H : Hp) (v : V) : Prop := flatV v = true ∨ Cnt K H v
theorem eqU_str {z : Str} {v : V} {u : Value} (r : L2.RelV v u) {K : PySem.W.Frag} {H : Hp} (h : ItL K H v) : eqU (.str z) u = decide (v = .str z) := by
  cases v with
  | non => cases r; rfl
  | bl b => cases r; rfl
  | int i =>
    obtain ⟨t, rfl⟩ := r
    rfl
  | str x =>
    obtain ⟨t, rfl⟩ := r
    show (x == z) = _
    by_cases e : x = z
    · subst e
      simp
    · rw [beq_eq_false_iff_ne.mpr e, decide_eq_false (fun q => e (V.str.inj q))]
  | ref a => cases r; rfl
  | _ => rcases h with h | h <;> cases h
section
variable {X : Cx} {pins : List (Addr × Obj)} {σ : L2.St} {H : Hp} {s : Shared}
theorem itl_eq {A : Around} (I : L2.Inv X pins σ H s) {v : V} {u : Value} (r : L2.RelV v u) (h : ItL X.K H v) {z : Str} {w : Value} (rw0 : L2.RelV (.str z) w) (hu : A.units < cLine) : SeqAt.EqAt A s u w (eqU (.str z) u) := by
  rcases h with h | h
  · exact mem_eqAt rw0 rfl (.cons r .nil) (by simp [h]) u List.mem_cons_self
  · obtain ⟨t, rfl⟩ := rw0
    cases h with
    | lst h =>
      cases r
      obtain ⟨its, _, pl, _⟩ := I.list h
      exact eq_of_rc (SeqAt.RcAt.list_str z t (PlainL.isList pl) hu)
    | tup h =>
      cases r
      obtain ⟨its, _, pl, _⟩ := I.tuple h
      exact eq_of_rc (SeqAt.RcAt.tuple_str z t pl hu)
    | dic h =>
      cases r
      obtain ⟨_, _, vs, _, o, es, ep, ho, hx, hd, _⟩ := dk_of I.hok h
      cases o with
      | mk cls dd data sl =>
        have hc : cls = Value.type "dict" := by first | exact hx | exact hx.1 | exact hx.2
        have hd' : data = Data.dict es ep := hd
        subst hc
        subst hd'
        exact eq_of_rc (rc_dict_str z t ho hu)
end
section
variable {X : Cx}
/-- a text in a tuple of such items -/
def rInL (K : PySem.W.Frag) : R2 := fun x y H Q => ∃ (z : Str) (a : Addr) (xs : List V), x = .str z ∧ y = .ref a ∧ SqT K H a xs ∧ (∀ v ∈ xs, ItL K H v) ∧ Q (.bl (decide (V.str z ∈ xs))) H
theorem any_itl {K : PySem.W.Frag} {H : Hp} {z : Str} : ∀ {xs : List V} {its : List Value}, Vals xs its → (∀ v ∈ xs, ItL K H v) → its.any (eqU (.str z)) = decide (V.str z ∈ xs)
  | _, _, .nil, _ => by simp
  | _, _, .cons (a := v) (l₁ := vs) r t, h => by
    rw [List.any_cons, eqU_str r (h _ List.mem_cons_self), any_itl t fun v hv => h v (List.mem_cons_of_mem _ hv)]
    by_cases e : v = .str z
    · subst e
      simp
    · have e2 : ¬ V.str z = v := fun q => e q.symm
      simp [e, e2]
theorem vals_mem {R : V → Value → Prop} : ∀ {xs : List V} {its : List Value}, Vals xs its → ∀ u ∈ its, ∃ v ∈ xs, L2.RelV v u
  | _, _, .nil, _, h => nomatch h
  | _, _, .cons r t, u, h => by
    rcases List.mem_cons.mp h with rfl | h
    · exact ⟨_, List.mem_cons_self, r⟩
    · obtain ⟨v, hv, r⟩ := vals_mem (R := R) t u h
      exact ⟨v, List.mem_cons_of_mem _ hv, r⟩
theorem vals_get : ∀ {xs : List V} {its : List Value} {j : Nat} {u : Value}, Vals xs its → its[j]? = some u → ∃ v, xs[j]? = some v ∧ L2.RelV v u
  | _, _, j, _, .nil, h => by simp at h
  | _, _, 0, _, .cons r t, h => by
    cases h
    exact ⟨_, rfl, r⟩
  | _, _, j + 1, _, .cons r t, h => vals_get (j := j) t h
theorem op_inL (hu : X.A.units + 1 < cLine) : OpR X (compareOp .In) (rInL X.K) := by
  intro pins s σ H x y v u Q I rx ry h
  obtain ⟨z, a, xs, rfl, rfl, ha, hi, q⟩ := h
  cases ry
  obtain ⟨its, r, pl, _⟩ := I.tuple ha
  refine SeqAt.in_tupleAt (eqU (.str z)) pl (fun w hw => ?_) ?_
  · obtain ⟨v', hv', r'⟩ := vals_mem (R := L2.RelV) r w (by simpa using hw)
    exact itl_eq I r' (hi v' hv') rx hu
  · have e : its.toArray.any (eqU (.str z)) = decide (V.str z ∈ xs) := by
      rw [← any_itl r hi]
      simp
    rw [e]
    exact ⟨.bl _, H, I, rfl, q⟩
/-- such a tuple == a tuple of texts -/
def rEqL (K : PySem.W.Frag) : R2 := fun x y H Q => ∃ (a b : Addr) (xs : List V) (L : List Str), x = .ref a ∧ y = .ref b ∧ SqT K H a xs ∧ SqT K H b (L.map V.str) ∧ (∀ v ∈ xs, ItL K H v) ∧ Q (.bl (decide (xs = L.map V.str))) H
theorem op_eqL (hu : X.A.units + 1 < cLine) : OpR X (compareOp .Eq) (rEqL X.K) := by
  intro pins s σ H x y v u Q I rx ry h
  obtain ⟨a, b, xs, L, rfl, rfl, ha, hb, hi, q⟩ := h
  cases rx
  cases ry
  obtain ⟨its, r1, p1, _⟩ := I.tuple ha
  obtain ⟨its2, r2, p2, _⟩ := I.tuple hb
  show wpAny (model X.prog X.w) X.A (richCompare .Eq (.ref a) (.ref b)) (EP X pins σ Q) X.xe s
  have hl1 := r1.length
  have hl2 := r2.length
  refine SeqAt.RcAt.tuples (e := fun j => decide (xs[j]? = (L.map V.str)[j]?)) p1 p2 (Nat.lt_of_succ_lt hu) (fun j h1 h2 => ?_) X.prog X.w _ _ ?_
  · obtain ⟨v, hv, rv⟩ := vals_get (j := j) (u := its.toArray[j]) r1 (by simp at h1 ⊢)
    obtain ⟨w, hw, rw0⟩ := vals_get (j := j) (u := its2.toArray[j]) r2 (by simp at h2 ⊢)
    obtain ⟨z, rfl⟩ : ∃ z, w = V.str z := by
      rw [List.getElem?_map] at hw
      cases e : L[j]? with
      | none => rw [e] at hw; cases hw
      | some z => rw [e] at hw; exact ⟨z, (Option.some.inj hw).symm⟩
    have hiv := hi v (List.mem_of_getElem? hv)
    have e : decide (xs[j]? = (L.map V.str)[j]?) = eqU (.str z) its.toArray[j] := by
      rw [eqU_str rv hiv, hv, hw]
      congr 1
      exact propext ⟨Option.some.inj, fun e => by rw [e]⟩
    rw [e]
    exact itl_eq I rv hiv rw0 hu
  · have e : ((List.range (min its.toArray.size its2.toArray.size)).all (fun j => decide (xs[j]? = (L.map V.str)[j]?)) && its.toArray.size == its2.toArray.size) = decide (xs = L.map V.str) := by
      have s1 : its.toArray.size = xs.length := by rw [List.size_toArray, hl1]
      have s2 : its2.toArray.size = (L.map V.str).length := by rw [List.size_toArray, hl2]
      rw [s1, s2]
      by_cases h : xs = L.map V.str
      · rw [← h]
        simp
      · rw [decide_eq_false h]
        by_cases hl : xs.length = (L.map V.str).length
        · have : ∃ j, xs[j]? ≠ (L.map V.str)[j]? := Classical.byContradiction fun hn => h (List.ext_getElem? fun j => Classical.byContradiction fun q => hn ⟨j, q⟩)
          obtain ⟨j, hj⟩ := this
          have hjl : j < xs.length := Nat.lt_of_not_le fun q => hj (by rw [List.getElem?_eq_none q, List.getElem?_eq_none (by omega)])
          have : ((List.range (min xs.length (L.map V.str).length)).all fun j => decide (xs[j]? = (L.map V.str)[j]?)) = false := by
            rw [List.all_eq_false]
            exact ⟨j, List.mem_range.mpr (by omega), by simpa using hj⟩
          rw [this, Bool.false_and]
        · have : (xs.length == (L.map V.str).length) = false := by
            rw [beq_eq_false_iff_ne]
            exact hl
          rw [this, Bool.and_false]
    rw [e]
    exact ⟨.bl _, H, I, rfl, q⟩
end
end ZR
set_option Elab.async false
set_option linter.all false
set_option maxRecDepth 100000
set_option maxHeartbeats 4000000
namespace PM
open PySem PySem.Spec PyProof.Rows L2 ZX ZR
/-- a sorted lot of names -/
structure Nms (ys : List Str) : Prop where
  so : sortedS ys = true
  nd : ys.Nodup
  l8 : ys.length ≤ 8
theorem Nms.pw {ys : List Str} (n : Nms ys) : ys.Pairwise leS := sorted_pw n.so
/-- a sorted list of the names of a set -/
theorem Nms.filt {ys zs : List Str} (n : Nms ys) {S : Str → Bool} (hs : sortedS zs = true) (nd : zs.Nodup) (me : ∀ x, x ∈ zs ↔ x ∈ ys ∧ S x = true) : zs = ys.filter S :=
  List.Perm.eq_of_pairwise (fun _ _ _ _ => leS_anti) (sorted_pw hs) (n.pw.sublist List.filter_sublist) ((List.perm_ext_iff_of_nodup nd (n.nd.sublist List.filter_sublist)).mpr fun x => by rw [me, List.mem_filter])
theorem flat_strs (L : List Str) : (L.map V.str).all flatV = true := by
  induction L with
  | nil => rfl
  | cons x L ih => exact ih
theorem inV_strs (x : Str) (L : List Str) : inV (.str x) (L.map V.str) = decide (x ∈ L) := by
  induction L with
  | nil => rfl
  | cons y L ih =>
    show (y == x || inV (.str x) (L.map V.str)) = _
    rw [ih]
    by_cases e : y = x
    · subst e
      simp
    · have e2 : ¬ x = y := fun z => e z.symm
      rw [beq_eq_false_iff_ne.mpr e, Bool.false_or]
      simp [e2]
end PM
namespace K25
open PySem PySem.Spec PyProof.Rows L2 ZX PM ZR
abbrev sWithName : Stmt := top 37
abbrev sLotBehind : Stmt := top 36
def spWithName (K : PySem.W.Frag) : Sp := fun vs H Q _ => ∃ (a : Addr) (x : Str) (c : Bool) (ys : List Str) (S : Str → Bool), vs = [.ref a, .str x, .bl c] ∧ Nms ys ∧ SqT K H a ((ys.filter S).map V.str) ∧ x ∈ ys ∧ ∀ q H', Same H H' → SqT K H' q ((ys.filter (putS S x c)).map V.str) → Q (.ref q) H'
section
variable {P : Program} {w : World} {K : PySem.W.Frag} {mg : Str → Option Value} {base : Heap}
theorem scWithName : FnScope ["lot", "name", "is_in", "others", "each"] ["lot", "name", "is_in"] (defScope sWithName) := ⟨rfl, rfl, rfl, by decide +kernel, rfl, by decide +kernel, by decide +kernel⟩
theorem ok_with_name {f : Addr} {fd : FuncData} (F : FnP K "with_name" sWithName f fd) (T : Bi mg) : FnOk P w K mg base CX0 1 f fd ["lot", "name", "is_in"] (spWithName K) := by
  refine F.ok scWithName (fun vs H Q E h => ?_) (fun cdv A outer s H vs Q E hr h => ?_)
  · obtain ⟨a, x, c, ys, S, rfl, _⟩ := h
    rfl
  · obtain ⟨a, x, c, ys, S, rfl, n, hS, hx, k⟩ := h
    refine ⟨_, PSs.nox (pss_cons (ps_setLcS (i := 3) (own := [("each", 4)]) (g := gName 4) rfl scWithName.nd rfl rfl (sw_true rfl rfl rfl (by decide +kernel)) (pi_tup (pv 0)) (blkOk_by (N := ["lot", "name", "is_in", "others", "each"]) (sc := defScope sWithName) (by decide +kernel)) (fun _ _ _ _ _ => (pg_name (i := 4) scWithName.nd rfl (Or.inl rfl))) (fun _ _ _ _ _ => (pts_one (pt_cmpR op_ne (pv 4) (pv 1) (nomark _)))) (fun _ _ _ _ _ => (pv 4)))
    (pss_one (ps_ret (pe_ifExp (pt_val (pv 2)) (pe_callTy call_tuple_of (by rfl) T.b_tuple (by decide +kernel) (pa_cons (pe_callB cr_sortedS (by rfl) T.b_sorted (by decide +kernel) (pa_cons (pe_op op_cat (pv 3) (pe_lst (pa_cons (pv 1) pa_nil))) pa_nil)) pa_nil)) (pe_callTy call_tuple_of (by rfl) T.b_tuple (by decide +kernel) (pa_cons (pv 3) pa_nil)))))), ?_⟩
    have l8 := n.l8
    have lf := List.length_filter_le S ys
    refine lc_into ?_
    refine ⟨_, rfl, a, rfl, ⟨_, hS⟩, ?_⟩
    refine lc_overF (as := ys.filter S) (Rel := fun _ c y => y = .str c) (fun z => decide (¬ z = x)) it_tup ?_ (fun _ _ _ _ _ h => h) ?_ (fun H' _ pt => pt.sq hS) ?_ ?_
    · rw [List.length_map]
    · rw [List.length_map]
      exact Nat.lt_of_le_of_lt (show _ ≤ 8 by omega) (by decide)
    · intro j z y hz hy H3 s3 pt3 R N kR kN
      rw [List.getElem?_map, hy] at hz
      cases hz
      refine ⟨rfl, _, rfl, _, rfl, rfl, _, rfl, ?_⟩
      by_cases e : y = x
      · subst e
        exact ifBF (by simp) (kN (by simp) _ fun _ _ h => h)
      · exact ifB (by simp [e]) ⟨_, rfl, kR (by simp [e]) _ _ (fun _ _ h => h) rfl⟩
    · intro D zs H3 s3 pt3 nD hD all
      have e := All2.map all
      subst e
      have lg := List.length_filter_le (fun z => decide (¬ z = x)) (ys.filter S)
      have hso : sortedS ((ys.filter S).filter fun z => decide (¬ z = x)) = true → True := fun _ => trivial
      have nd1 : ((ys.filter S).filter fun z => decide (¬ z = x)).Nodup := (n.nd.sublist List.filter_sublist).sublist List.filter_sublist
      refine ⟨_, rfl, c, rfl, ?_⟩
      cases c with
      | true =>
        refine ifB rfl ⟨_, rfl, _, rfl, by show 1 ≤ sizeLine; decide, fun q nq => ?_⟩
        have sq := same_new (o := .lst [V.str x]) nq
        refine ⟨D, q, _, _, rfl, rfl, sq _ _ hD, upd_same, ?_, fun u nu => ?_⟩
        · rw [List.length_map]
          exact Nat.le_trans (show _ + 1 ≤ 9 by omega) (by decide)
        have su := same_new (o := .lst ((((ys.filter S).filter fun z => decide (¬ z = x)).map V.str) ++ [V.str x])) nu
        refine ⟨u, ((ys.filter S).filter fun z => decide (¬ z = x)) ++ [x], rfl, SqL.of ?_, ?_, fun zs p pm so np => ⟨p, _, rfl, .inl ⟨SqL.of upd_same, fun t nt => ?_⟩⟩⟩
        · rw [upd_same, List.map_append]
          rfl
        · rw [List.length_append]
          show _ + 1 < 64
          omega
        have sp := same_new (o := .lst (zs.map V.str)) np
        have st := same_new (o := .tup (zs.map V.str)) nt
        have nd2 : (((ys.filter S).filter fun z => decide (¬ z = x)) ++ [x]).Nodup := by
          rw [List.nodup_append]
          refine ⟨nd1, by simp, fun y hy z hz => ?_⟩
          rw [List.mem_singleton.mp hz]
          have := (List.mem_filter.mp hy).2
          simpa using this
        have ez : zs = ys.filter (putS S x true) := n.filt so (pm.nodup_iff.mpr nd2) fun y => by
          rw [pm.mem_iff, List.mem_append, List.mem_singleton, List.mem_filter, List.mem_filter]
          unfold putS
          by_cases e : y = x
          · subst e
            simp [hx]
          · simp [e]
        rw [← ez] at k
        exact k t _ ((((s3.trans sq).trans su).trans sp).trans st) (.inl (.inl upd_same))
      | false =>
        refine ifBF rfl ⟨_, rfl, D, _, rfl, .inl ⟨SqL.of hD, fun t nt => ?_⟩⟩
        have st := same_new (o := .tup (((ys.filter S).filter fun z => decide (¬ z = x)).map V.str)) nt
        have ez : ((ys.filter S).filter fun z => decide (¬ z = x)) = ys.filter (putS S x false) := by
          rw [List.filter_filter]
          congr 1
          funext y
          unfold putS
          by_cases e : y = x
          · simp [e]
          · simp [e]
        rw [← ez] at k
        exact k t _ (s3.trans st) (.inl (.inl upd_same))
end
end K25
set_option Elab.async false
set_option linter.all false
set_option maxRecDepth 100000
set_option maxHeartbeats 4000000
namespace K25
open PySem PySem.Spec PyProof.Rows L2 ZX PM ZR
def spLotBehind (K : PySem.W.Frag) : Sp := fun vs H Q _ => ∃ (v : V) (r : Rw) (a : Addr) (ys : List Str) (S : Str → Bool), vs = [v, .ref a] ∧ RV K H v r ∧ Nms ys ∧ SqT K H a ((ys.filter S).map V.str) ∧ (∀ x ∈ namesR r, x ∈ ys) ∧ (namesR r).length ≤ 4 ∧
  (∀ S', moveS r S = some S' → ∀ q H', Same H H' → SqT K H' q ((ys.filter S').map V.str) → Q (.ref q) H') ∧ (moveS r S = none → ∀ H', Same H H' → Q .non H')
section
variable {P : Program} {w : World} {K : PySem.W.Frag} {mg : Str → Option Value} {base : Heap}
theorem scLotBehind : FnScope ["row", "lot", "word", "y"] ["row", "lot"] (defScope sLotBehind) := ⟨rfl, rfl, rfl, by decide +kernel, rfl, by decide +kernel, by decide +kernel⟩
theorem ok_lot_behind {f : Addr} {fd : FuncData} (F : FnP K "lot_behind" sLotBehind f fd) (T : Bi mg) (hA : Asking K mg) (bany : mg "any" = none) (C_with_name : Cal P w K mg base "with_name" 1 ["lot", "name", "is_in"] (spWithName K)) : FnOk P w K mg base CX0 2 f fd ["row", "lot"] (spLotBehind K) := by
  refine F.ok scLotBehind (fun vs H Q E h => ?_) (fun cdv A outer s H vs Q E hr h => ?_)
  · obtain ⟨v, r, a, ys, S, rfl, _⟩ := h
    rfl
  · obtain ⟨v, r, a, ys, S, rfl, tr, n, hS, hn, hl4, k1, k2⟩ := h
    obtain ⟨ask, m_ASKING, hask⟩ := hA
    have hr_with_name := hr
    refine ⟨_, PSs.nox (pss_cons (ps_set (i := 2) scLotBehind.nd rfl (Or.inl rfl) (pe_ix ix_tup (pv 0) pe_int (fun _ _ => rfl)))
    (pss_cons (ps_if (pt_cmpR op_in_seq (pv 2) (pe_glob (v := .ref _) rfl m_ASKING rfl) (by with_unfolding_all rfl)) (pss_one (ps_ret (pe_ifExp (pt_cmpR op_in_seq (pe_ix ix_tup (pv 0) pe_int (fun _ _ => rfl)) (pv 1) (by with_unfolding_all rfl)) pe_non (pv 1)))) pss_nil)
    (pss_cons (ps_if (pt_cmpR op_eq (pv 2) pe_str (nomark _)) (pss_one (ps_ret (pcal C_with_name hr_with_name rfl (pa_cons (pv 1) (pa_cons (pe_ix ix_tup (pv 0) pe_int (fun _ _ => rfl)) (pa_cons (pe_callB (cr_any rfl) (by rfl) bany (by decide +kernel) (pa_cons (pe_lcS (own := [("y", 3)]) (g := gName 3) (tt := tYes) (te := tOp (rIn K false) (tVar 3) (tVar 1)) (by rfl) scLotBehind.nd (pi_tup (pe_ix ix_tup (pv 0) pe_int (fun _ _ => rfl))) (blkOk_by (N := ["row", "lot", "word", "y"]) (sc := defScope sLotBehind) (by decide +kernel)) (fun _ _ _ _ _ => (pg_name (i := 3) scLotBehind.nd rfl (Or.inl rfl))) (fun _ _ _ _ _ => pts_nil) (fun _ _ _ _ _ => (pe_cmpR op_in_seq (pv 3) (pv 1) (by with_unfolding_all rfl)))) pa_nil)) pa_nil)))))) pss_nil)
    (pss_cons (ps_if (pt_cmpR op_eq (pv 2) pe_str (nomark _)) (pss_one (ps_ret (pcal C_with_name hr_with_name rfl (pa_cons (pv 1) (pa_cons (pe_ix ix_tup (pv 0) pe_int (fun _ _ => rfl)) (pa_cons (pe_cmpR op_in_seq (pe_ix ix_tup (pv 0) pe_int (fun _ _ => rfl)) (pv 1) (by with_unfolding_all rfl)) pa_nil)))))) pss_nil)
    (pss_cons (ps_if (pt_cmpR op_eq (pv 2) pe_str (nomark _)) (pss_one (ps_ret (pcal C_with_name hr_with_name rfl (pa_cons (pv 1) (pa_cons (pe_ix ix_tup (pv 0) pe_int (fun _ _ => rfl)) (pa_cons pe_bl pa_nil)))))) pss_nil)
    (pss_one (ps_ret (pv 1)))))))), ?_⟩
    obtain ⟨ra, tl, rfl, hrS, hrt⟩ := tr.rowI
    have inL : ∀ {x : Str}, x ∈ ys → inV (.str x) ((ys.filter S).map V.str) = S x := fun {x} hx => by
      rw [inV_strs]
      cases e : S x with
      | true => exact decide_eq_true (List.mem_filter.mpr ⟨hx, e⟩)
      | false =>
        refine decide_eq_false ?_
        intro z
        have h2 := (List.mem_filter.mp z).2
        rw [e] at h2
        cases h2
    have hfl := PM.flat_strs (ys.filter S)
    refine ⟨_, rfl, _, _, _, _, rfl, rfl, hrS, at0, ?_⟩
    refine ⟨_, rfl, _, _, rfl, .inr (hask _), rfl, rfl, _, rfl, ?_⟩
    show if inV (V.str (wordR r)) [V.str "ask", V.str "print"] = true then _ else _
    cases r with
    | ask x =>
      have hx : x ∈ ys := hn x List.mem_cons_self
      obtain ⟨v1, rfl, t1⟩ := hrt.one
      cases t1.strI
      refine ifB (show inV (V.str (Str.ofString "ask")) [V.str (Str.ofString "ask"), V.str (Str.ofString "print")] = true by decide +kernel) ⟨_, rfl, _, _, _, _, rfl, rfl, hrS, rfl, _, rfl, a, _, rfl, .inr hS, rfl, hfl, _, rfl, ?_⟩
      show if inV (.str x) ((ys.filter S).map V.str) = true then _ else _
      rw [inL hx]
      refine ite2 (fun e => k2 (by show (if S x = true then none else some S) = none; rw [if_pos e]) _ fun _ _ h => h) (fun e => ⟨_, rfl, k1 S (by show (if S x = true then none else some S) = some S; rw [if_neg e]) a _ (fun _ _ h => h) hS⟩)
    | prt x =>
      have hx : x ∈ ys := hn x List.mem_cons_self
      obtain ⟨v1, rfl, t1⟩ := hrt.one
      cases t1.strI
      refine ifB (show inV (V.str (Str.ofString "print")) [V.str (Str.ofString "ask"), V.str (Str.ofString "print")] = true by decide +kernel) ⟨_, rfl, _, _, _, _, rfl, rfl, hrS, rfl, _, rfl, a, _, rfl, .inr hS, rfl, hfl, _, rfl, ?_⟩
      show if inV (.str x) ((ys.filter S).map V.str) = true then _ else _
      rw [inL hx]
      refine ite2 (fun e => k2 (by show (if S x = true then none else some S) = none; rw [if_pos e]) _ fun _ _ h => h) (fun e => ⟨_, rfl, k1 S (by show (if S x = true then none else some S) = some S; rw [if_neg e]) a _ (fun _ _ h => h) hS⟩)
    | note x o ps =>
      have hx : x ∈ ys := hn x List.mem_cons_self
      obtain ⟨v1, v2, v3, rfl, t1, t2, t3⟩ := hrt.three
      cases t1.strI
      cases t2.strI
      obtain ⟨a3, xs3, rfl, hS3, ht3⟩ := t3.tupI
      have e3 := Tvs.strs ht3
      subst e3
      have hpl : ps.length ≤ 3 := by
        have : ps.length + 1 ≤ 4 := hl4
        omega
      refine ifBF (show inV (V.str (Str.ofString "note")) [V.str (Str.ofString "ask"), V.str (Str.ofString "print")] = false by decide +kernel) ⟨_, rfl, rfl, _, rfl, ifD rfl ?_⟩
      refine ⟨_, rfl, _, rfl, _, _, _, _, rfl, rfl, hrS, rfl, ?_⟩
      refine lc_into ?_
      refine ⟨_, rfl, _, _, _, _, rfl, rfl, hrS, rfl, a3, rfl, ⟨_, hS3⟩, ?_⟩
      refine lc_overA (p := none) (as := ps) (zs := ps.map V.str) (Rel := fun _ c y => y = .bl (S c)) it_tup ?_ (fun _ _ _ _ _ h => h) (fun _ h => nomatch h) ?_ (fun H' _ pt => pt.sq hS3) ?_ ?_
      · rw [List.length_map]
      · rw [List.length_map]
        exact Nat.lt_of_le_of_lt hpl (by decide)
      · intro j z y hz hy H3 kq pt3 R kR
        rw [List.getElem?_map, hy] at hz
        cases hz
        have hym : y ∈ ys := hn y (List.mem_cons_of_mem _ (List.mem_of_getElem? hy))
        refine ⟨rfl, _, rfl, _, rfl, a, _, rfl, .inr (pt3.sq hS), rfl, hfl, ?_⟩
        exact kR _ _ (Same.kq fun _ _ h => h) (Pt.refl _) (by rw [← inL hym]; rfl)
      · intro D zs H3 kq pt3 nD hD all
        have e := All2.map all
        subst e
        refine ⟨D, ps.map S, rfl, SqL.of (by rw [hD, List.map_map]; rfl), ?_⟩
        refine ⟨a, x, ps.any S, ys, S, ?_, n, pt3.sq hS, hx, fun q H4 s4 hq => k1 _ rfl q _ (kq.same.trans s4) hq⟩
        have e : (ps.map S).any id = ps.any S := by rw [List.any_map]; rfl
        rw [← e]
        rfl
    | copy x y =>
      have hx : x ∈ ys := hn x List.mem_cons_self
      have hy : y ∈ ys := hn y (List.mem_cons_of_mem _ List.mem_cons_self)
      obtain ⟨v1, v2, rfl, t1, t2⟩ := hrt.two
      cases t1.strI
      cases t2.strI
      refine ifBF (show inV (V.str (Str.ofString "copy")) [V.str (Str.ofString "ask"), V.str (Str.ofString "print")] = false by decide +kernel) ⟨_, rfl, rfl, _, rfl, ifDF (neS (a := "copy") (b := "note") (by decide +kernel)) ⟨_, rfl, rfl, _, rfl, ifD rfl ?_⟩⟩
      refine ⟨_, rfl, _, rfl, _, _, _, _, rfl, rfl, hrS, rfl, _, rfl, _, _, _, _, rfl, rfl, hrS, rfl, _, rfl, a, _, rfl, .inr hS, rfl, hfl, ?_⟩
      refine ⟨a, x, S y, ys, S, ?_, n, hS, hx, fun q H4 s4 hq => k1 _ rfl q _ s4 hq⟩
      rw [← inL hy]
      rfl
    | give x i =>
      have hx : x ∈ ys := hn x List.mem_cons_self
      obtain ⟨v1, v2, rfl, t1, t2⟩ := hrt.two
      cases t1.strI
      refine ifBF (show inV (V.str (Str.ofString "give")) [V.str (Str.ofString "ask"), V.str (Str.ofString "print")] = false by decide +kernel) ⟨_, rfl, rfl, _, rfl, ifDF (neS (a := "give") (b := "note") (by decide +kernel)) ⟨_, rfl, rfl, _, rfl, ifDF (neS (a := "give") (b := "copy") (by decide +kernel)) ⟨_, rfl, rfl, _, rfl, ifD rfl ?_⟩⟩⟩
      exact ⟨_, rfl, _, rfl, _, _, _, _, rfl, rfl, hrS, rfl, a, x, false, ys, S, rfl, n, hS, hx, fun q H4 s4 hq => k1 _ rfl q _ s4 hq⟩
    | either b1 b2 =>
      refine ifBF (show inV (V.str (Str.ofString "either")) [V.str (Str.ofString "ask"), V.str (Str.ofString "print")] = false by decide +kernel) ⟨_, rfl, rfl, _, rfl, ifDF (neS (a := "either") (b := "note") (by decide +kernel)) ⟨_, rfl, rfl, _, rfl, ifDF (neS (a := "either") (b := "copy") (by decide +kernel)) ⟨_, rfl, rfl, _, rfl, ifDF (neS (a := "either") (b := "give") (by decide +kernel)) ?_⟩⟩⟩
      exact ⟨_, rfl, k1 S rfl a _ (fun _ _ h => h) hS⟩
    | again b1 =>
      refine ifBF (show inV (V.str (Str.ofString "again")) [V.str (Str.ofString "ask"), V.str (Str.ofString "print")] = false by decide +kernel) ⟨_, rfl, rfl, _, rfl, ifDF (neS (a := "again") (b := "note") (by decide +kernel)) ⟨_, rfl, rfl, _, rfl, ifDF (neS (a := "again") (b := "copy") (by decide +kernel)) ⟨_, rfl, rfl, _, rfl, ifDF (neS (a := "again") (b := "give") (by decide +kernel)) ?_⟩⟩⟩
      exact ⟨_, rfl, k1 S rfl a _ (fun _ _ h => h) hS⟩
end
end K25
set_option Elab.async false
set_option linter.all false
set_option maxRecDepth 100000
set_option maxHeartbeats 4000000
namespace PM
open PySem PySem.Spec PyProof.Rows L2 ZX ZR
/-- a lot, judged: flat items that are just the names among them -/
def lotV (ys : List Str) (xs : List V) : Bool := decide (xs = (ys.filter fun y => decide (V.str y ∈ xs)).map V.str)
theorem mem_filt {ys : List Str} (S : Str → Bool) {y : Str} (hy : y ∈ ys) : decide (V.str y ∈ (ys.filter S).map V.str) = S y := by
  cases e : S y with
  | true => exact decide_eq_true (List.mem_map.mpr ⟨y, List.mem_filter.mpr ⟨hy, e⟩, rfl⟩)
  | false =>
    refine decide_eq_false ?_
    intro z
    obtain ⟨w, hw, ew⟩ := List.mem_map.mp z
    cases ew
    have h2 := (List.mem_filter.mp hw).2
    rw [e] at h2
    cases h2
theorem lotV_filt (ys : List Str) (S : Str → Bool) : lotV ys ((ys.filter S).map V.str) = true := by
  refine decide_eq_true ?_
  congr 1
  exact List.filter_congr fun y hy => (mem_filt S hy).symm
end PM
namespace K25
open PySem PySem.Spec PyProof.Rows L2 ZX PM ZR
abbrev sHolders : Stmt := top 38
abbrev sEndOf : Stmt := top 31
/-- a class of errors without a field, as the walk asks of it -/
structure NoE (P : Program) (w : World) (K : PySem.W.Frag) (mg : Str → Option Value) (base : Heap) (nm : Str) (CN fI : Addr) (fd : FuncData) (ps : List Str) : Prop where
  T : OexC K CN
  iC : PySem.W.findIn K (.ref CN) "__init__" = some (some (.ref fI))
  tI : PySem.W.typeIn K (.ref fI) = some (.type "function")
  F1 : FnOk P w K mg base CX0 1 fI fd ps spP
  bd : Binds K fd ps []
  g : mg nm = some (.ref CN)
/-- what may stand for a lot -/
def LotTh (K : PySem.W.Frag) (H : Hp) (v : V) (ys : List Str) (r : Bool) : Prop :=
  (∃ t, TyX K H v t ∧ PySem.W.kitOne K t (.type "tuple") = some false ∧ r = false) ∨
  (∃ a xs, v = .ref a ∧ SqT K H a xs ∧ (∀ x ∈ xs, ItL K H x) ∧ xs.length ≤ 100000 ∧ r = lotV ys xs)
def spIsLot (K : PySem.W.Frag) : Sp := fun vs H Q _ => ∃ (m : Addr) (v : V) (ys : List Str) (r : Bool), vs = [.ref m, v] ∧ SqT K H m (ys.map V.str) ∧ Nms ys ∧ LotTh K H v ys r ∧ ∀ H', Same H H' → Q (.bl r) H'
def spHolders (K : PySem.W.Frag) (C : Addr) : Sp := fun vs H Q _ => ∃ (x wa la : Addr) (b : List Rw) (ys : List Str) (S : Str → Bool) (ps : List Nat) (q : Nat), vs = [.ref x, .ref wa, .ref la] ∧ PrAt K C H x b ∧ IsLot ys ((rowsB b).flatMap namesR) ∧ SqT K H wa (plV (ps ++ [q])) ∧ ps.length ≤ 50000 ∧ judge (leadsP b) ((ps ++ [q]).map fun (n : Nat) => (some (n : Int) : Option Int)) = true ∧ (∀ p ∈ ps, p < (rowsB b).length) ∧ SqT K H la ((ys.filter S).map V.str) ∧
  (∀ S', alongS (rowsB b) ps (some S) = some S' → ∀ q H', Same H H' → SqT K H' q ((ys.filter S').map V.str) → Q (.ref q) H') ∧ (alongS (rowsB b) ps (some S) = none → ∀ H', Same H H' → Q .non H')
def spEndOf (K : PySem.W.Frag) (C : Addr) : Sp := fun vs H Q _ => ∃ (x : Addr) (b : List Rw), vs = [.ref x] ∧ PrAt K C H x b ∧ Q (.int ((rowsB b).length : Nat)) H
section
variable {P : Program} {w : World} {K : PySem.W.Frag} {mg : Str → Option Value} {base : Heap}
theorem scEndOf : FnScope ["program"] ["program"] (defScope sEndOf) := ⟨rfl, rfl, rfl, by decide +kernel, rfl, by decide +kernel, by decide +kernel⟩
theorem ok_end_of {C f : Addr} {fd : FuncData} (F : FnP K "end_of" sEndOf f fd) (T : Bi mg) (c : PrC K C) : FnOk P w K mg base CX0 1 f fd ["program"] (spEndOf K C) := by
  refine F.ok scEndOf (fun vs H Q E h => ?_) (fun cdv A outer s H vs Q E hr h => ?_)
  · obtain ⟨x, b, rfl, _⟩ := h
    rfl
  · obtain ⟨x, b, rfl, ⟨dx, v, ra, na, la, rs, ls, ys, hx, tv, G, h1, h2, h3, h4, h5, ly⟩, k⟩ := h
    refine ⟨_, PSs.nox (pss_one (ps_ret (pe_callB call_len_seq (by rfl) T.b_len (by decide +kernel) (pa_cons (pe_fld (pv 0) rfl) pa_nil)))), ?_⟩
    have hl := h2.len
    rw [List.length_map] at hl
    refine ⟨_, rfl, x, C, dx, _, _, rfl, hx, c.c, c.n2, rfl, ra, _, rfl, .inr h1, ?_⟩
    rw [hl]
    exact k
theorem alongS_none (rows : List Rw) : ∀ ps : List Nat, alongS rows ps none = none
  | [] => rfl
  | _ :: ps => alongS_none rows ps
theorem itm_ints {K : PySem.W.Frag} {H : Hp} : ∀ ns : List Nat, All2 (Itm K H) (plV ns) (ns.map fun (n : Nat) => (some (n : Int) : Option Int))
  | [] => .nil
  | n :: ns => .cons (.int (n : Int)) (itm_ints ns)
theorem scHolders : FnScope ["program", "way", "lot", "place"] ["program", "way", "lot"] (defScope sHolders) := ⟨rfl, rfl, rfl, by decide +kernel, rfl, by decide +kernel, by decide +kernel⟩
theorem ok_holders {C CN CW CL fW fL f : Addr} {fdW fdL fd : FuncData} {psW psL : List Str} (F : FnP K "holders" sHolders f fd) (T : Bi mg) (c : PrC K C) (NW : NoE P w K mg base "NoWay" CW fW fdW psW) (NL : NoE P w K mg base "NoLot" CL fL fdL psL) (C_is_way : Cal P w K mg base "is_way" 3 ["program", "thing"] (spIsWay K C)) (C_is_lot : Cal P w K mg base "is_lot" 1 ["members", "thing"] (spIsLot K)) (C_names : Cal P w K mg base "names" 1 ["program"] (spNames K C)) (C_lot_behind : Cal P w K mg base "lot_behind" 2 ["row", "lot"] (spLotBehind K)) (C_row_at : CalX P w K mg base "row_at" 3 ["program", "place"] (spRowAt K C CN)) :
    FnOk P w K mg base (L2.CX P w) 4 f fd ["program", "way", "lot"] (spHolders K C) := by
  refine F.ok scHolders (fun vs H Q E h => ?_) (fun cdv A outer s H vs Q E hr h => ?_)
  · obtain ⟨x, wa, la, b, ys, S, ps, q, rfl, _⟩ := h
    rfl
  · obtain ⟨x, wa, la, b, ys, S, ps, q, rfl, hp, hlot, hw, hpl, hj, hlt, hS, k1, k2⟩ := h
    have hr3 := hr
    have hr1 := hr.mono (show 1 ≤ 3 by decide)
    have hr2 := hr.mono (show 2 ≤ 3 by decide)
    refine ⟨_, (pss_cons (ps_if (pt_not (pt_val (pcal C_is_way hr3 rfl (pa_cons (pv 0) (pa_cons (pv 1) pa_nil))))) (pss_one (ps_raise rfl (takes_of rfl rfl rfl rfl) (pmk_ret rfl (pe_oexN NW.T NW.iC NW.tI NW.F1 (fun _ _ _ _ _ m h => by obtain ⟨a, e, q⟩ := h; exact ⟨a, e, m _ _ q⟩) (hr.mono (by decide)) NW.bd rfl NW.g)))) pss_nil)
    (pss_cons (ps_if (pt_not (pt_val (pcal C_is_lot hr1 rfl (pa_cons (pcal C_names hr1 rfl (pa_cons (pv 0) pa_nil)) (pa_cons (pv 2) pa_nil))))) (pss_one (ps_raise rfl (takes_of rfl rfl rfl rfl) (pmk_ret rfl (pe_oexN NL.T NL.iC NL.tI NL.F1 (fun _ _ _ _ _ m h => by obtain ⟨a, e, q⟩ := h; exact ⟨a, e, m _ _ q⟩) (hr.mono (by decide)) NL.bd rfl NL.g)))) pss_nil)
    (PSs.nox (pss_cons (ps_for PassesOwn.never rfl (pi_tup (pe_slice sl_tupZ (pv 1) po_none (po_some (pe_un un_neg pe_int)))) (pg_name (i := 3) scHolders.nd rfl (Or.inl rfl)) (pss_cons (ps_set (i := 2) scHolders.nd rfl (Or.inl rfl) (pcal C_lot_behind hr2 rfl (pa_cons (pcalN C_row_at hr3 rfl (pa_cons (pv 0) (pa_cons (pv 3) pa_nil))) (pa_cons (pv 2) pa_nil))))
      (pss_one (ps_if (pt_cmpR op_isN (pv 2) pe_non (nomark _)) (pss_one (ps_ret pe_non)) pss_nil))))
    (pss_one (ps_ret (pv 2))))))), ?_⟩
    have hn : Nms ys := by
      obtain ⟨dx, v, ra, na, la', rs, ls, yn, hx, tv, G, _⟩ := hp
      exact ⟨hlot.so, hlot.nd, G.n8 ys hlot⟩
    have hG : Good b := by
      obtain ⟨dx, v, ra, na, la', rs, ls, yn, hx, tv, G, _⟩ := hp
      exact G
    have hwl : (plV (ps ++ [q])).length ≤ 100000 := by
      unfold plV
      rw [List.length_map, List.length_append]
      show ps.length + 1 ≤ 100000
      omega
    refine ⟨_, rfl, _, rfl, x, _, b, rfl, hp, .inr ⟨wa, _, _, rfl, hw, itm_ints _, hwl, fun H1 s1 => ?_⟩⟩
    rw [hj]
    refine ⟨_, rfl, ?_⟩
    have hp1 := hp.same s1
    refine ⟨_, rfl, x, b, rfl, hp1, fun t ys' hlot' ht => ?_⟩
    have ey : ys' = ys := hlot'.uniq hlot fun _ => Iff.rfl
    subst ey
    refine ⟨_, rfl, t, _, ys', true, rfl, ht, hn, .inr ⟨la, _, rfl, s1.pt.sq hS, (fun z hz => by obtain ⟨w, _, rfl⟩ := List.mem_map.mp hz; exact .inl rfl), ?_, (lotV_filt ys' S).symm⟩, fun H2 s2 => ⟨_, rfl, ?_⟩⟩
    · rw [List.length_map]
      have := List.length_filter_le S ys'
      have := hn.l8
      omega
    have s12 := s1.trans s2
    refine ⟨_, rfl, _, rfl, _, rfl, wa, _, rfl, s12.pt.sq hw, fun wc H3 s3 hwc => ?_⟩
    rw [plV_app, show plV [q] = [V.int (q : Nat)] from rfl, cut_init] at hwc
    have s13 := s12.trans s3
    refine ⟨wc, rfl, ⟨_, hwc⟩, ?_⟩
    refine for_tup (xs := plV ps) (fun i σ' H' => ∃ (lc : Addr) (S' : Str → Bool) (y : Option V), σ' = [some (.ref x), some (.ref wa), some (.ref lc), y] ∧ Same H H' ∧ SqT K H' wc (plV ps) ∧ SqT K H' lc ((ys'.filter S').map V.str) ∧ alongS (rowsB b) (ps.take i) (some S) = some S') ⟨la, S, _, rfl, s13, hwc, s13.pt.sq hS, rfl⟩ ?_ ?_ ?_
    · rintro i σ' H' _ ⟨_, _, _, _, _, h, _⟩
      exact h
    · rintro i z σ' H' hz ⟨lc, S', y, rfl, sm, hwc', hlc, ha⟩
      obtain ⟨p, hpp, rfl⟩ : ∃ p, ps[i]? = some p ∧ z = V.int (p : Nat) := by
        unfold plV at hz
        rw [List.getElem?_map] at hz
        cases e : ps[i]? with
        | none => rw [e] at hz; cases hz
        | some p => rw [e] at hz; exact ⟨p, rfl, (Option.some.inj hz).symm⟩
      have hpl2 := hlt p (List.mem_of_getElem? hpp)
      have hr0 : (rowsB b)[p]? = some (rowsB b)[p] := List.getElem?_eq_getElem hpl2
      have etk : ps.take (i + 1) = ps.take i ++ [p] := by
        rw [List.take_succ, hpp]
        rfl
      have hrm : (rowsB b)[p] ∈ rowsB b := List.getElem_mem hpl2
      have eal : alongS (rowsB b) (ps.take (i + 1)) (some S) = moveS (rowsB b)[p] S' := by
        rw [etk, alongS_snoc, ha, hr0]
        rfl
      refine ⟨_, rfl, _, rfl, x, _, b, rfl, hp.same sm, .inl ⟨p, _, rfl, hr0, fun u hu => ?_⟩⟩
      refine ⟨_, rfl, u, (rowsB b)[p], lc, ys', S', rfl, hu, hn, hlc, names_mem (fun z hz => (hlot.me z).mpr hz) hrm, ok_names_B hG.ok _ hrm, fun S2 e2 q2 H4 s4 hq2 => ?_, fun e2 H4 s4 => ?_⟩
      · refine ⟨_, rfl, rfl, _, rfl, ifBF rfl ⟨q2, S2, _, rfl, sm.trans s4, s4.pt.sq hwc', hq2, by rw [eal]; exact e2⟩⟩
      · refine ⟨_, rfl, rfl, _, rfl, ifB rfl ?_⟩
        refine k2 ?_ _ (sm.trans s4)
        have esp : ps = ps.take (i + 1) ++ ps.drop (i + 1) := (List.take_append_drop _ _).symm
        have app : ∀ (as bs : List Nat) (o : Option (Str → Bool)), alongS (rowsB b) (as ++ bs) o = alongS (rowsB b) bs (alongS (rowsB b) as o) := fun as => by
          induction as with
          | nil => intro bs o; rfl
          | cons a as ih => intro bs o; exact ih bs _
        rw [esp, app, eal, e2, alongS_none]
    · rintro σ' H' ⟨lc, S', y, rfl, sm, hwc', hlc, ha⟩
      have e : (plV ps).length = ps.length := List.length_map ..
      rw [e, List.take_length] at ha
      exact ⟨_, rfl, k1 S' ha lc H' sm hlc⟩
end
end K25
set_option Elab.async false
set_option linter.all false
set_option maxRecDepth 100000
set_option maxHeartbeats 4000000
namespace K25
open PySem PySem.Spec PyProof.Rows L2 ZX PM ZR
abbrev sIsLot : Stmt := top 17
def isBl : V → Bool
  | .bl _ => true
  | _ => false
def isSt : V → Bool
  | .str _ => true
  | _ => false
theorem tyL {K : PySem.W.Frag} {H : Hp} {a : Addr} {xs : List V} (h : SqL K H a xs) : TyX K H (.ref a) (.type "list") := by
  rcases h with (h | ⟨o, h⟩) | ⟨o, its, n, h, c, _⟩
  · exact .base (.lst h)
  · exact .base (.frz h)
  · exact .kList h c
/-- the kind of an item -/
theorem itl_ty {K : PySem.W.Frag} {H : Hp} {v : V} (h : ItL K H v) : ∃ t, TyX K H v t ∧ PySem.W.kitOne K t (.type "bool") = some (isBl v) ∧ PySem.W.kitOne K t (.type "str") = some (isSt v) := by
  rcases h with h | h
  · cases v with
    | non => exact ⟨_, .base .non, rfl, rfl⟩
    | bl b => exact ⟨_, .base (.bl b), rfl, rfl⟩
    | int i => exact ⟨_, .base (.int i), rfl, rfl⟩
    | str x => exact ⟨_, .base (.str x), rfl, rfl⟩
    | _ => cases h
  · cases h with
    | lst h => exact ⟨_, tyL h, rfl, rfl⟩
    | tup h => exact ⟨_, tyT h, rfl, rfl⟩
    | dic h => exact ⟨_, .base (.dK h), rfl, rfl⟩
theorem _root_.ZR.ItL.same {K : PySem.W.Frag} {H H' : Hp} {v : V} (h : ItL K H v) (s : Same H H') : ItL K H' v := by
  rcases h with h | h
  · exact .inl h
  · cases h with
    | @lst a xs h =>
      refine .inr (.lst (xs := xs) ?_)
      rcases h with (h | ⟨o, h⟩) | h
      · exact .inl (.inl (s _ _ h))
      · exact .inl (.inr ⟨o, s _ _ h⟩)
      · exact .inr h
    | tup h => exact .inr (.tup (s.pt.sq h))
    | dic h => exact .inr (.dic (s _ _ h))
section
variable {P : Program} {w : World} {K : PySem.W.Frag} {mg : Str → Option Value} {base : Heap}
theorem scIsLot : FnScope ["members", "thing", "item", "member"] ["members", "thing"] (defScope sIsLot) := ⟨rfl, rfl, rfl, by decide +kernel, rfl, by decide +kernel, by decide +kernel⟩
theorem ok_is_lot {f : Addr} {fd : FuncData} (F : FnP K "is_lot" sIsLot f fd) (T : Bi mg) (bany : mg "any" = none) (bbool : mg "bool" = none) : FnOk P w K mg base CX0 1 f fd ["members", "thing"] (spIsLot K) := by
  refine F.ok scIsLot (fun vs H Q E h => ?_) (fun cdv A outer s H vs Q E hr h => ?_)
  · obtain ⟨m, v, ys, r, rfl, _⟩ := h
    rfl
  · obtain ⟨m, v, ys, r, rfl, hm, n, hv, k⟩ := h
    have hu := hu_of hr
    refine ⟨_, PSs.nox (pss_cons (ps_if (PW.pt (pw_or (pt_not (pt_val (pe_callB call_isi (by rfl) T.b_isinstance (by decide +kernel) (pa_cons (pv 1) (pa_cons (pe_bltn (v := .ty "tuple") (by rfl) T.b_tuple (by decide +kernel) rfl) pa_nil))))) (pw_or1 (pt_val (pe_callB (cr_any rfl) (by rfl) bany (by decide +kernel) (pa_cons (pe_lcS (own := [("item", 2)]) (g := gName 2) (tt := tYes) (te := tCB (rIsi K) (tCons (tVar 2) (tCons (tC (V.ty "bool")) tNil))) (by rfl) scIsLot.nd (pi_tup (pv 1)) (blkOk_by (N := ["members", "thing", "item", "member"]) (sc := defScope sIsLot) (by decide +kernel)) (fun _ _ _ _ _ => (pg_name (i := 2) scIsLot.nd rfl (Or.inl rfl))) (fun _ _ _ _ _ => pts_nil) (fun _ _ _ _ _ => (pe_callB (id := "isinstance") (r := rIsi K) call_isi (by rfl) T.b_isinstance (by decide +kernel) (pa_cons (pv 2) (pa_cons (pe_bltn (v := .ty "bool") (by rfl) bbool (by decide +kernel) rfl) pa_nil))))) pa_nil)))))) (pss_one (ps_ret pe_bl)) pss_nil)
    (pss_one (ps_ret (pe_cmpR (op_eqL hu) (pv 1) (pe_callTy call_tuple_of (by rfl) T.b_tuple (by decide +kernel) (pa_cons (pe_lcS (own := [("member", 3)]) (g := gName 3) (tt := tTest (tOp (rInL K) (tVar 3) (tVar 1))) (by rfl) scIsLot.nd (pi_tup (pv 0)) (blkOk_by (N := ["members", "thing", "item", "member"]) (sc := defScope sIsLot) (by decide +kernel)) (fun _ _ _ _ _ => (pg_name (i := 3) scIsLot.nd rfl (Or.inl rfl))) (fun _ _ _ _ _ => (pts_one (pt_cmpR (op_inL hu) (pv 3) (pv 1) (by with_unfolding_all rfl)))) (fun _ _ _ _ _ => (pv 3))) pa_nil)) (nomark _))))), ?_⟩
    rcases hv with ⟨t, ht, e, rfl⟩ | ⟨a, xs, rfl, ha, hi, hl, rfl⟩
    · exact ⟨_, rfl, _, _, _, _, false, rfl, .ty "tuple", ht, e, false, rfl, k _ (fun _ _ h => h)⟩
    · refine ⟨_, rfl, _, _, _, _, true, rfl, .ty "tuple", tyT ha, rfl, true, rfl, ?_⟩
      refine lc_into ?_
      refine ⟨_, rfl, a, rfl, ⟨_, ha⟩, ?_⟩
      have mv : ∀ {H' : Hp}, Same H H' → ∀ x ∈ xs, ItL K H' x := fun s x hx => (hi x hx).same s
      refine lc_overA (p := none) (as := xs) (zs := xs) (Rel := fun _ c y => y = .bl (isBl c)) it_tup rfl (fun _ _ _ _ _ h => h) (fun _ h => nomatch h) (Nat.lt_of_le_of_lt hl (by decide)) (fun H' _ pt => pt.sq ha) ?_ ?_
      · intro j z y hz hy H3 kq pt3 R kR
        rw [hz] at hy
        cases hy
        obtain ⟨t, ht, hb, _⟩ := itl_ty (mv kq.same z (List.mem_of_getElem? hz))
        exact ⟨rfl, _, rfl, _, _, _, _, isBl z, rfl, .ty "bool", ht, hb, kR _ _ (Same.kq fun _ _ h => h) (Pt.refl _) rfl⟩
      · intro D zs H3 kq pt3 nD hD all
        have e := All2.map all
        subst e
        refine ⟨D, xs.map isBl, rfl, SqL.of (by rw [hD, List.map_map]; rfl), ?_⟩
        have s3 := kq.same
        refine ⟨_, rfl, ?_⟩
        cases hb : (xs.map isBl).any id with
        | true =>
          refine ifB rfl ?_
          have e : lotV ys xs = false := by
            refine decide_eq_false ?_
            intro z
            obtain ⟨q, hq, e⟩ := List.any_eq_true.mp hb
            obtain ⟨v, hv, rfl⟩ := List.mem_map.mp hq
            rw [z] at hv
            obtain ⟨w, _, rfl⟩ := List.mem_map.mp hv
            cases e
          rw [e] at k
          exact k _ s3
        | false =>
          refine ifBF rfl ?_
          refine ⟨_, rfl, ?_⟩
          refine lc_into ?_
          refine ⟨_, rfl, m, rfl, ⟨_, s3.pt.sq hm⟩, ?_⟩
          have l8 := n.l8
          refine lc_overF (as := ys) (Rel := fun _ c y => y = .str c) (fun y => decide (V.str y ∈ xs)) it_tup ?_ (fun _ _ _ _ _ h => h) ?_ (fun H' _ pt => pt.sq (s3.pt.sq hm)) ?_ ?_
          · rw [List.length_map]
          · rw [List.length_map]
            exact Nat.lt_of_le_of_lt l8 (by decide)
          · intro j z y hz hy H4 s4 pt4 R N kR kN
            rw [List.getElem?_map, hy] at hz
            cases hz
            refine ⟨rfl, _, rfl, _, rfl, y, a, xs, rfl, rfl, (s3.trans s4).pt.sq ha, mv (s3.trans s4), _, rfl, ?_⟩
            exact ite2 (fun e => ⟨_, rfl, kR e _ _ (fun _ _ h => h) rfl⟩) (fun e => kN (Bool.eq_false_iff.mpr e) _ fun _ _ h => h)
          · intro D2 zs H4 s4 pt4 nD2 hD2 all2
            have e := All2.map all2
            subst e
            have s34 := s3.trans s4
            refine ⟨D2, _, rfl, .inl ⟨SqL.of hD2, fun u nu => ?_⟩⟩
            have su := same_new (o := .tup ((ys.filter fun y => decide (V.str y ∈ xs)).map V.str)) nu
            exact ⟨a, u, xs, _, rfl, rfl, (s34.trans su).pt.sq ha, .inl (.inl upd_same), mv (s34.trans su), k _ (s34.trans su)⟩
end
end K25
set_option Elab.async false
set_option linter.all false
set_option maxRecDepth 100000
set_option maxHeartbeats 4000000
namespace PM
open PySem PySem.Spec PyProof.Rows L2 ZX ZR
/-- a way that is one -/
theorem judge_way {b : List Rw} {cs : List (Option Int)} (h : judge (leadsP b) cs = true) : ∃ ps q, cs = (ps ++ [q]).map (fun (n : Nat) => (some (n : Int) : Option Int)) ∧ (∀ p ∈ ps, p < (rowsB b).length) ∧ q ≤ (rowsB b).length := by
  obtain ⟨h1, h2⟩ := Bool.and_eq_true_iff.mp h
  obtain ⟨h2, h3⟩ := Bool.and_eq_true_iff.mp h2
  have hcs : cs = (cs.map natOf).map (fun (n : Nat) => (some (n : Int) : Option Int)) := by
    rw [List.map_map]
    refine List.ext_getElem? fun k => ?_
    rw [List.getElem?_map]
    cases e : cs[k]? with
    | none => rfl
    | some c =>
      obtain ⟨m, rfl, _, _⟩ := inR_all h2 e
      rfl
  have hne : cs.map natOf ≠ [] := fun e => by
    have := List.map_eq_nil_iff.mp e
    rw [this] at h1
    cases h1
  have hlen : (cs.map natOf).length = cs.length := List.length_map ..
  obtain ⟨ps, q, e⟩ : ∃ ps q, cs.map natOf = ps ++ [q] := (snoc_or _).resolve_left hne
  have at_lt : ∀ (k n : Nat), (ps ++ [q])[k]? = some n → n < (leadsP b).length := fun k n hk => by
    rw [← e, List.getElem?_map] at hk
    cases ec : cs[k]? with
    | none => rw [ec] at hk; cases hk
    | some c =>
      obtain ⟨m, rfl, hm, _⟩ := inR_all h2 ec
      rw [ec] at hk
      cases hk
      exact hm
  refine ⟨ps, q, by rw [← e]; exact hcs, fun p hp => ?_, ?_⟩
  · obtain ⟨k, hk, rfl⟩ := List.mem_iff_getElem.mp hp
    have hkl : k < cs.length - 1 := by
      rw [← hlen, e, List.length_append]
      show k < ps.length + 1 - 1
      omega
    have hs : stepB (leadsP b) (cs.map natOf) k = true := by
      have := List.all_eq_true.mp h3 _ (List.mem_map.mpr ⟨k, List.mem_range.mpr hkl, rfl⟩)
      exact this
    have hs' := of_decide_eq_true hs
    rw [e] at hs'
    have eg : (ps ++ [q]).getD k 0 = ps[k] := by
      rw [List.getD_eq_getElem?_getD, List.getElem?_append_left hk, List.getElem?_eq_getElem hk]
      rfl
    rw [eg] at hs'
    refine Nat.lt_of_not_le fun hle => ?_
    have : (leadsP b).getD ps[k] [] = [] := by
      rw [List.getD_eq_getElem?_getD]
      unfold leadsP
      rw [List.getElem?_append_right (by rw [leadsB_len]; exact hle), leadsB_len]
      cases e2 : ps[k] - (rowsB b).length with
      | zero => rfl
      | succ n => simp
    rw [this] at hs'
    cases hs'
  · have := at_lt ps.length q (by simp)
    rw [leadsP_len] at this
    omega
/-- all names of such rows are right -/
theorem nm_okR {d : Nat} {r : Rw} (h : okR d r) (x : Str) (hx : x ∈ namesR r) : NameOk x := by
  cases r with
  | note y o ps =>
    rcases List.mem_cons.mp hx with rfl | hx
    · exact h.1
    · exact h.2.2.2 x hx
  | copy y z =>
    simp [namesR] at hx
    rcases hx with rfl | rfl
    · exact h.1
    · exact h.2
  | give y i =>
    simp [namesR] at hx
    subst hx
    exact h
  | ask y =>
    simp [namesR] at hx
    subst hx
    exact h
  | prt y =>
    simp [namesR] at hx
    subst hx
    exact h
  | either a b => cases hx
  | again a => cases hx
mutual
theorem rows_okR : ∀ {d : Nat} {r : Rw}, okR d r → ∀ s ∈ rowsR r, ∃ e, okR e s
  | d, .either a b, h, s, hs => by
    have hs' : s ∈ Rw.either a b :: (rowsB a ++ rowsB b) := hs
    rcases List.mem_cons.mp hs' with rfl | hs
    · exact ⟨d, h⟩
    · rcases List.mem_append.mp hs with hs | hs
      · exact rows_okB h.2.2.2.1 s hs
      · exact rows_okB h.2.2.2.2 s hs
  | d, .again a, h, s, hs => by
    have hs' : s ∈ Rw.again a :: rowsB a := hs
    rcases List.mem_cons.mp hs' with rfl | hs
    · exact ⟨d, h⟩
    · exact rows_okB h.2.2 s hs
  | d, .note x o ps, h, s, hs => by
    rw [List.mem_singleton.mp (show s ∈ [Rw.note x o ps] from hs)]
    exact ⟨d, h⟩
  | d, .copy x y, h, s, hs => by
    rw [List.mem_singleton.mp (show s ∈ [Rw.copy x y] from hs)]
    exact ⟨d, h⟩
  | d, .give x i, h, s, hs => by
    rw [List.mem_singleton.mp (show s ∈ [Rw.give x i] from hs)]
    exact ⟨d, h⟩
  | d, .ask x, h, s, hs => by
    rw [List.mem_singleton.mp (show s ∈ [Rw.ask x] from hs)]
    exact ⟨d, h⟩
  | d, .prt x, h, s, hs => by
    rw [List.mem_singleton.mp (show s ∈ [Rw.prt x] from hs)]
    exact ⟨d, h⟩
theorem rows_okB : ∀ {d : Nat} {b : List Rw}, okB d b → ∀ s ∈ rowsB b, ∃ e, okR e s
  | _, [], _, _, hs => nomatch hs
  | d, r :: b, h, s, hs => by
    rcases List.mem_append.mp (show s ∈ rowsR r ++ rowsB b from hs) with hs | hs
    · exact rows_okR h.1 s hs
    · exact rows_okB h.2 s hs
end
theorem nm_lot {b : List Rw} {ys : List Str} {d : Nat} (h : okB d b) (l : IsLot ys ((rowsB b).flatMap namesR)) : ∀ y ∈ ys, NameOk y := fun y hy => by
  obtain ⟨r, hr, hx⟩ := List.mem_flatMap.mp ((l.me y).mp hy)
  obtain ⟨e, he⟩ := rows_okB h r hr
  exact nm_okR he y hx
/-- the last two -/
def last2 (ns : List Nat) : List Nat := ns.drop (ns.length - 2)
/-- the same names -/
def sameO (ys : List Str) (o : Option (Str → Bool)) (S : Str → Bool) : Bool := match o with
  | some S' => decide (ys.filter S' = ys.filter S)
  | none => false
/-- a ring of a way and a lot that are such -/
def ringN (b : List Rw) (ys : List Str) (i : Nat) (ps : List Nat) (q : Nat) (S : Str → Bool) : Bool := match (rowsB b)[i]?, (leadsB b 0 (rowsB b).length)[i]? with
  | some (.note x _ _), some (g :: _) => !(ys.filter S).isEmpty && (decide ((ps ++ [q]).head? = some g) && (decide (last2 (ps ++ [q]) = [i, g]) && (sameO ys (alongS (rowsB b) ps (some fun z => decide (z = x))) S && sameO ys (alongS (rowsB b) ps (some S)) S)))
  | _, _ => false
theorem ringN_note {b : List Rw} {ys : List Str} {i : Nat} {ps : List Nat} {q : Nat} {S : Str → Bool} {x o : Str} {ns : List Str} {g : Nat} (h1 : (rowsB b)[i]? = some (.note x o ns)) (h2 : (leadsB b 0 (rowsB b).length)[i]? = some [g]) :
    ringN b ys i ps q S = (!(ys.filter S).isEmpty && (decide ((ps ++ [q]).head? = some g) && (decide (last2 (ps ++ [q]) = [i, g]) && (sameO ys (alongS (rowsB b) ps (some fun z => decide (z = x))) S && sameO ys (alongS (rowsB b) ps (some S)) S)))) := by
  unfold ringN
  rw [h1, h2]
theorem ringN_not {b : List Rw} {ys : List Str} {i : Nat} {ps : List Nat} {q : Nat} {S : Str → Bool} {r : Rw} (h1 : (rowsB b)[i]? = some r) (h : wordR r ≠ Str.ofString "note") : ringN b ys i ps q S = false := by
  unfold ringN
  rw [h1]
  cases r with
  | note x o ns => exact absurd rfl h
  | _ => rfl
theorem filt_one {ys : List Str} {x : Str} (nd : ys.Nodup) (hx : x ∈ ys) : ys.filter (fun z => decide (z = x)) = [x] := by
  induction ys with
  | nil => cases hx
  | cons y ys ih =>
    have hd := List.nodup_cons.mp nd
    rw [List.filter_cons]
    by_cases e : y = x
    · subst e
      rw [if_pos (by simp)]
      congr 1
      rw [List.filter_eq_nil_iff]
      intro z hz
      simp
      intro e
      exact hd.1 (e ▸ hz)
    · rw [if_neg (by simp [e])]
      exact ih hd.2 ((List.mem_cons.mp hx).resolve_left fun q => e q.symm)
end PM
set_option Elab.async false
set_option linter.all false
set_option maxRecDepth 100000
set_option maxHeartbeats 4000000
namespace PM
open PySem PySem.Spec PyProof.Rows L2 ZX ZR
theorem lay_ints : ∀ ns : List Nat, PyData.canLayAll0 (ns.map fun (n : Nat) => PyData.int (n : Int)) = true
  | [] => rfl
  | n :: ns => by
    show (true && PyData.canLayAll0 (ns.map fun (n : Nat) => PyData.int (n : Int))) = true
    rw [lay_ints ns]
    rfl
theorem dep_ints : ∀ ns : List Nat, PyData.depthAll (ns.map fun (n : Nat) => PyData.int (n : Int)) = 0
  | [] => rfl
  | n :: ns => by
    show max 0 (PyData.depthAll (ns.map fun (n : Nat) => PyData.int (n : Int))) = 0
    rw [dep_ints ns]
    rfl
theorem shaped_ints (ns : List Nat) : SeqAt.shaped (.tuple (ns.map fun (n : Nat) => PyData.int (n : Int))) = true := by
  show (PyData.canLayAll0 (ns.map fun (n : Nat) => PyData.int (n : Int)) && decide (PyData.depthAll (ns.map fun (n : Nat) => PyData.int (n : Int)) + 1 ≤ 64)) = true
  rw [lay_ints, dep_ints]
  rfl
theorem shaped_strs {L : List Str} (h : ∀ y ∈ L, NameOk y) : SeqAt.shaped (.tuple (L.map .str)) = true := by
  show (PyData.canLayAll0 (L.map .str) && decide (PyData.depthAll (L.map .str) + 1 ≤ 64)) = true
  rw [lay_strs h, dep_strs]
  rfl
theorem eqv_strs : ∀ (L M : List Str), PyData.eqv (.tuple (L.map .str)) (.tuple (M.map .str)) = decide (L = M)
  | [], [] => rfl
  | [], _ :: _ => rfl
  | _ :: _, [] => rfl
  | x :: L, y :: M => by
    have ih := eqv_strs L M
    show (x == y && PyData.eqv (.tuple (L.map .str)) (.tuple (M.map .str))) = _
    rw [ih]
    by_cases e : x = y
    · subst e
      simp
    · rw [beq_eq_false_iff_ne.mpr e, Bool.false_and, decide_eq_false fun q => e (List.cons.inj q).1]
theorem eqv_ints : ∀ (L M : List Nat), PyData.eqv (.tuple (L.map fun (n : Nat) => PyData.int (n : Int))) (.tuple (M.map fun (n : Nat) => PyData.int (n : Int))) = decide (L = M)
  | [], [] => rfl
  | [], _ :: _ => rfl
  | _ :: _, [] => rfl
  | x :: L, y :: M => by
    have ih := eqv_ints L M
    show (((x : Int) == (y : Int)) && PyData.eqv (.tuple (L.map fun (n : Nat) => PyData.int (n : Int))) (.tuple (M.map fun (n : Nat) => PyData.int (n : Int)))) = _
    rw [ih]
    by_cases e : x = y
    · subst e
      simp
    · have e2 : ((x : Int) == (y : Int)) = false := by
        rw [beq_eq_false_iff_ne]
        omega
      rw [e2, Bool.false_and, decide_eq_false fun q => e (List.cons.inj q).1]
theorem dp_ints {K : PySem.W.Frag} {H : Hp} : ∀ ns : List Nat, DpAll K H (ns.map fun (n : Nat) => V.int (n : Int)) (ns.map fun (n : Nat) => PyData.int (n : Int))
  | [] => .nil
  | n :: ns => .cons (.int _) (dp_ints ns)
theorem dp_strs {K : PySem.W.Frag} {H : Hp} : ∀ L : List Str, DpAll K H (L.map V.str) (L.map .str)
  | [] => .nil
  | x :: L => .cons (.str _) (dp_strs L)
theorem cut_last2 {ns : List Nat} : cutV (ns.map fun (n : Nat) => V.int (n : Int)) (some (-2)) none = (last2 ns).map fun (n : Nat) => V.int (n : Int) := by
  unfold cutV last2
  have h1 : HT.sIx (ns.map fun (n : Nat) => V.int (n : Int)).length 0 (some (-2)) = ns.length - 2 := by
    simp [HT.sIx]
    omega
  have h2 : HT.sIx (ns.map fun (n : Nat) => V.int (n : Int)).length (ns.map fun (n : Nat) => V.int (n : Int)).length none = ns.length := List.length_map ..
  rw [h1, h2, List.map_drop]
  exact List.take_of_length_le (by rw [List.length_drop, List.length_map]; exact Nat.le_refl _)
end PM
set_option Elab.async false
set_option linter.all false
set_option maxRecDepth 100000
set_option maxHeartbeats 4000000
namespace K25
open PySem PySem.Spec PyProof.Rows L2 ZX PM ZR
abbrev sIsRing : Stmt := top 40
/-- a ring's parts, judged -/
def ringC (b : List Rw) (ys : List Str) : Option Int → Option (List (Option Int)) → Option (Str → Bool) → Bool
  | some i, some cs, some S => decide (0 ≤ i) && decide (i < (rowsB b).length) && judge (leadsP b) cs && ringN b ys i.toNat (cs.map natOf).dropLast ((cs.map natOf).getLastD 0) S
  | _, _, _ => false
/-- what may stand for a way -/
def WyTh (K : PySem.W.Frag) (H : Hp) (v : V) (w : Option (List (Option Int))) : Prop :=
  (∃ t, TyX K H v t ∧ PySem.W.kitOne K t (.type "tuple") = some false ∧ w = none) ∨
  (∃ a xs cs, v = .ref a ∧ SqT K H a xs ∧ All2 (Itm K H) xs cs ∧ xs.length ≤ 50000 ∧ w = some cs)
/-- .. for a lot, with what it is -/
def LtTh (K : PySem.W.Frag) (H : Hp) (v : V) (ys : List Str) (L : Option (Str → Bool)) : Prop :=
  (LotTh K H v ys false ∧ L = none) ∨ (LotTh K H v ys true ∧ ∃ S a, L = some S ∧ v = .ref a ∧ SqT K H a ((ys.filter S).map V.str))
/-- .. for a ring -/
def RgTh (K : PySem.W.Frag) (H : Hp) (v : V) (b : List Rw) (ys : List Str) (r : Bool) : Prop :=
  (∃ t, TyX K H v t ∧ PySem.W.kitOne K t (.type "tuple") = some false ∧ r = false) ∨
  (∃ a xs, v = .ref a ∧ SqT K H a xs ∧ xs.length ≠ 3 ∧ r = false) ∨
  (∃ a u1 u2 u3 c w L, v = .ref a ∧ SqT K H a [u1, u2, u3] ∧ Itm K H u1 c ∧ WyTh K H u2 w ∧ LtTh K H u3 ys L ∧ r = ringC b ys c w L)
theorem itls_same {K : PySem.W.Frag} {H H' : Hp} {xs : List V} {cs : List (Option Int)} (s : Same H H') (h : All2 (Itm K H) xs cs) : All2 (Itm K H') xs cs := h.imp fun _ _ q => q.same s
theorem WyTh.same {K : PySem.W.Frag} {H H' : Hp} {v : V} {w : Option (List (Option Int))} (s : Same H H') (h : WyTh K H v w) : WyTh K H' v w := by
  rcases h with ⟨t, h1, h2⟩ | ⟨a, xs, cs, e, h1, h2, h3⟩
  · exact .inl ⟨t, h1.same s, h2⟩
  · exact .inr ⟨a, xs, cs, e, s.pt.sq h1, itls_same s h2, h3⟩
theorem LotTh.same {K : PySem.W.Frag} {H H' : Hp} {v : V} {ys : List Str} {r : Bool} (s : Same H H') (h : LotTh K H v ys r) : LotTh K H' v ys r := by
  rcases h with ⟨t, h1, h2⟩ | ⟨a, xs, e, h1, h2, h3⟩
  · exact .inl ⟨t, h1.same s, h2⟩
  · exact .inr ⟨a, xs, e, s.pt.sq h1, fun x hx => (h2 x hx).same s, h3⟩
theorem LtTh.same {K : PySem.W.Frag} {H H' : Hp} {v : V} {ys : List Str} {L : Option (Str → Bool)} (s : Same H H') (h : LtTh K H v ys L) : LtTh K H' v ys L := by
  rcases h with ⟨h, e⟩ | ⟨h, S, a, e1, e2, h2⟩
  · exact .inl ⟨h.same s, e⟩
  · exact .inr ⟨h.same s, S, a, e1, e2, s.pt.sq h2⟩
def spIsRing (K : PySem.W.Frag) (C : Addr) : Sp := fun vs H Q _ => ∃ (x : Addr) (v : V) (b : List Rw) (ys : List Str) (r : Bool), vs = [.ref x, v] ∧ PrAt K C H x b ∧ IsLot ys ((rowsB b).flatMap namesR) ∧ RgTh K H v b ys r ∧ ∀ H', Same H H' → Q (.bl r) H'
theorem itm_plV {K : PySem.W.Frag} {H : Hp} : ∀ {xs : List V} {ns : List Nat}, All2 (Itm K H) xs (ns.map fun (n : Nat) => (some (n : Int) : Option Int)) → xs = plV ns
  | _, [], .nil => rfl
  | _, _ :: _, .cons h t => by
    cases h
    rw [itm_plV t]
    rfl
theorem ringC_rng {b : List Rw} {ys : List Str} {i : Int} {w : Option (List (Option Int))} {L : Option (Str → Bool)} (h : (decide (0 ≤ i) && decide (i < ((rowsB b).length : Int))) = false) : ringC b ys (some i) w L = false := by
  cases w with
  | none => rfl
  | some cs => cases L with
    | none => rfl
    | some S =>
      show (decide (0 ≤ i) && decide (i < ((rowsB b).length : Int)) && judge (leadsP b) cs && _) = false
      rw [h]
      rfl
theorem ringC_of {b : List Rw} {ys : List Str} {j : Nat} {ps : List Nat} {q : Nat} {S : Str → Bool} (hj : j < (rowsB b).length) (hw : judge (leadsP b) ((ps ++ [q]).map fun (n : Nat) => (some (n : Int) : Option Int)) = true) : ringC b ys (some (j : Int)) (some ((ps ++ [q]).map fun (n : Nat) => (some (n : Int) : Option Int))) (some S) = ringN b ys j ps q S := by
  show (decide ((0 : Int) ≤ (j : Int)) && decide ((j : Int) < ((rowsB b).length : Int)) && judge (leadsP b) ((ps ++ [q]).map fun (n : Nat) => (some (n : Int) : Option Int)) && ringN b ys (j : Int).toNat ((((ps ++ [q]).map fun (n : Nat) => (some (n : Int) : Option Int))).map natOf).dropLast (((((ps ++ [q]).map fun (n : Nat) => (some (n : Int) : Option Int))).map natOf).getLastD 0) S) = _
  rw [nat_map, hw, decide_eq_true (show (0 : Int) ≤ (j : Int) by omega), decide_eq_true (show (j : Int) < ((rowsB b).length : Int) by omega), List.dropLast_concat]
  simp
section
variable {P : Program} {w : World} {K : PySem.W.Frag} {mg : Str → Option Value} {base : Heap}
theorem scIsRing : FnScope ["program", "thing", "place", "way", "lot", "behind"] ["program", "thing"] (defScope sIsRing) := ⟨rfl, rfl, rfl, by decide +kernel, rfl, by decide +kernel, by decide +kernel⟩
theorem ok_is_ring {C CN CW CL f : Addr} {fd : FuncData} (F : FnP K "is_ring" sIsRing f fd) (T : Bi mg) (C_is_way : Cal P w K mg base "is_way" 3 ["program", "thing"] (spIsWay K C)) (C_is_lot : Cal P w K mg base "is_lot" 1 ["members", "thing"] (spIsLot K)) (C_names : Cal P w K mg base "names" 1 ["program"] (spNames K C)) (C_end_of : Cal P w K mg base "end_of" 1 ["program"] (spEndOf K C)) (C_is_number_below : Cal P w K mg base "is_number_below" 2 ["limit", "thing"] (spBelow K))
    (C_row_at : CalX P w K mg base "row_at" 3 ["program", "place"] (spRowAt K C CN)) (C_nexts : CalX P w K mg base "nexts" 3 ["program", "place"] (spNexts K C CN)) (C_holders : CalX P w K mg base "holders" 4 ["program", "way", "lot"] (spHolders K C)) : FnOk P w K mg base CX0 5 f fd ["program", "thing"] (spIsRing K C) := by
  refine F.ok scIsRing (fun vs H Q E h => ?_) (fun cdv A outer s H vs Q E hr h => ?_)
  · obtain ⟨x, v, b, ys, r, rfl, _⟩ := h
    rfl
  · obtain ⟨x, v, b, ys, r, rfl, hp, hlot, hv, k⟩ := h
    have hr1 := hr.mono (show 1 ≤ 4 by decide)
    have hr2 := hr.mono (show 2 ≤ 4 by decide)
    have hr3 := hr.mono (show 3 ≤ 4 by decide)
    refine ⟨_, PSs.nox (pss_cons (ps_if (PW.pt (pw_or (pt_not (pt_val (pe_callB call_isi (by rfl) T.b_isinstance (by decide +kernel) (pa_cons (pv 1) (pa_cons (pe_bltn (v := .ty "tuple") (by rfl) T.b_tuple (by decide +kernel) rfl) pa_nil))))) (pw_or1 (pt_cmpR op_ne (pe_callB call_len_seq (by rfl) T.b_len (by decide +kernel) (pa_cons (pv 1) pa_nil)) pe_int (nomark _))))) (pss_one (ps_ret pe_bl)) pss_nil)
    (pss_cons (ps_asg (pv 1) (pg_tup rfl (pgs_cons (pg_name (i := 2) scIsRing.nd rfl (Or.inl rfl)) (pgs_cons (pg_name (i := 3) scIsRing.nd rfl (Or.inl rfl)) (pgs_cons (pg_name (i := 4) scIsRing.nd rfl (Or.inl rfl)) pgs_nil)))))
    (pss_cons (ps_if (PW.pt (pw_or (pt_not (pt_val (pcal C_is_number_below hr2 rfl (pa_cons (pcal C_end_of hr1 rfl (pa_cons (pv 0) pa_nil)) (pa_cons (pv 2) pa_nil))))) (pw_or1 (pt_cmpR op_ne (pe_ix ix_tup (pcalN C_row_at hr3 rfl (pa_cons (pv 0) (pa_cons (pv 2) pa_nil))) pe_int (fun _ _ => rfl)) pe_str (nomark _))))) (pss_one (ps_ret pe_bl)) pss_nil)
    (pss_cons (ps_if (PW.pt (pw_or (pt_not (pt_val (pcal C_is_way hr3 rfl (pa_cons (pv 0) (pa_cons (pv 3) pa_nil))))) (pw_or (pt_not (pt_val (pcal C_is_lot hr1 rfl (pa_cons (pcal C_names hr1 rfl (pa_cons (pv 0) pa_nil)) (pa_cons (pv 4) pa_nil))))) (pw_or1 (pt_not (pt_truth (pv 4) (by intro _; rfl))))))) (pss_one (ps_ret pe_bl)) pss_nil)
    (pss_cons (ps_set (i := 5) scIsRing.nd rfl (Or.inl rfl) (pe_ix ix_tup (pcalN C_nexts hr3 rfl (pa_cons (pv 0) (pa_cons (pv 2) pa_nil))) pe_int (fun _ _ => rfl)))
    (pss_cons (ps_if (PW.pt (pw_or (pt_cmpR op_ne (pe_ix ix_tup (pv 3) pe_int (fun _ _ => rfl)) (pv 5) (nomark _)) (pw_or1 (pt_cmpR (op_neD hr.units) (pe_slice sl_tupZ (pv 3) (po_some (pe_un un_neg pe_int)) po_none) (pe_tup (pa_cons (pv 2) (pa_cons (pv 5) pa_nil))) (nomark _))))) (pss_one (ps_ret pe_bl)) pss_nil)
    (pss_one (ps_ret (pe_and (pe_cmpR (op_eqD hr.units) (pcalN C_holders hr rfl (pa_cons (pv 0) (pa_cons (pv 3) (pa_cons (pe_tup (pa_cons (pe_ix ix_tup (pcalN C_row_at hr3 rfl (pa_cons (pv 0) (pa_cons (pv 2) pa_nil))) pe_int (fun _ _ => rfl)) pa_nil)) pa_nil)))) (pv 4) (nomark _)) (pe_one (pe_cmpR (op_eqD hr.units) (pcalN C_holders hr rfl (pa_cons (pv 0) (pa_cons (pv 3) (pa_cons (pv 4) pa_nil)))) (pv 4) (nomark _)))))))))))), ?_⟩
    have sm0 : Same H H := fun _ _ h => h
    have hG : Good b := by
      obtain ⟨dx, v, ra, na, la', rs, ls, yn, hx, tv, G, _⟩ := hp
      exact G
    have hn : Nms ys := ⟨hlot.so, hlot.nd, hG.n8 ys hlot⟩
    rcases hv with ⟨t, ht, e, rfl⟩ | ⟨a, xs, rfl, ha, hl, rfl⟩ | ⟨a, u1, u2, u3, c, wc, L, rfl, ha, h1, h2, h3, rfl⟩
    · exact ⟨_, rfl, _, _, _, _, false, rfl, .ty "tuple", ht, e, false, rfl, k _ sm0⟩
    · refine ⟨_, rfl, _, _, _, _, true, rfl, .ty "tuple", tyT ha, rfl, true, rfl, ?_⟩
      refine ⟨_, rfl, a, _, rfl, .inr ha, rfl, _, rfl, ifB ?_ (k _ sm0)⟩
      have : ¬ V.int ((xs.length : Nat) : Int) = V.int 3 := fun z => hl (by have := V.int.inj z; omega)
      simp [this]
    · refine ⟨_, rfl, _, _, _, _, true, rfl, .ty "tuple", tyT ha, rfl, true, rfl, ?_⟩
      refine ⟨_, rfl, a, _, rfl, .inr ha, rfl, _, rfl, ifBF rfl ?_⟩
      refine ⟨_, rfl, a, _, rfl, ha, rfl, _, _, rfl, _, _, rfl, _, _, rfl, rfl, ?_⟩
      refine ⟨_, rfl, x, b, rfl, hp, ?_⟩
      have no : ringC b ys c wc L = false → ∀ H', Same H H' → Q (.bl false) H' := fun e H' s => by
        have := k H' s
        rw [e] at this
        exact this
      cases h1 with
      | oth hnv => exact ⟨_, rfl, _, _, rfl, .inr ⟨hnv, _, rfl, no rfl _ sm0⟩⟩
      | int i =>
        refine ⟨_, rfl, _, _, rfl, .inl ⟨i, rfl, _, rfl, ?_⟩⟩
        cases hrg : (decide (0 ≤ i) && decide (i < ((rowsB b).length : Int))) with
        | false => exact no (ringC_rng hrg) _ sm0
        | true =>
          obtain ⟨q1, q2⟩ := Bool.and_eq_true_iff.mp hrg
          have q1 := of_decide_eq_true q1
          have q2 := of_decide_eq_true q2
          obtain ⟨j, rfl⟩ := Int.eq_ofNat_of_zero_le q1
          have hj : j < (rowsB b).length := by omega
          have hr0 : (rowsB b)[j]? = some (rowsB b)[j] := List.getElem?_eq_getElem hj
          have hll : j < (leadsB b 0 (rowsB b).length).length := by rw [leadsB_len]; exact hj
          have hl0 : (leadsB b 0 (rowsB b).length)[j]? = some (leadsB b 0 (rowsB b).length)[j] := List.getElem?_eq_getElem hll
          generalize (rowsB b)[j] = r0 at hr0
          generalize (leadsB b 0 (rowsB b).length)[j] = l0 at hl0
          refine ⟨_, rfl, _, rfl, x, _, b, rfl, hp, .inl ⟨j, r0, rfl, hr0, fun y hy => ?_⟩⟩
          obtain ⟨ra, tl, rfl, hrS, hrt⟩ := hy.rowI
          refine ⟨ra, _, _, _, rfl, rfl, hrS, at0, rfl, _, rfl, ?_⟩
          have hN : ∀ {cs : List (Option Int)} {S : Str → Bool}, wordR r0 ≠ Str.ofString "note" → ringC b ys (some (j : Int)) wc L = false := fun {cs S} hw => by
            cases wc with
            | none => rfl
            | some cs => cases L with
              | none => rfl
              | some S =>
                show (_ && ringN b ys j _ _ S) = false
                rw [ringN_not hr0 hw, Bool.and_false]
          by_cases hw : wordR r0 = Str.ofString "note"
          case neg =>
            refine ifB ?_ (no (hN (cs := []) (S := fun _ => false) hw) _ sm0)
            have : ¬ V.str (wordR r0) = V.str (Str.ofString "note") := fun z => hw (V.str.inj z)
            simp [this]
          case pos =>
          refine ifBF (by rw [hw]; simp) ?_
          obtain ⟨xn, on, ns, rfl⟩ : ∃ x o ps, r0 = .note x o ps := by
            cases r0 with
            | note x o ps => exact ⟨x, o, ps, rfl⟩
            | copy _ _ => exact absurd hw (show ¬ Str.ofString "copy" = Str.ofString "note" by decide +kernel)
            | give _ _ => exact absurd hw (show ¬ Str.ofString "give" = Str.ofString "note" by decide +kernel)
            | ask _ => exact absurd hw (show ¬ Str.ofString "ask" = Str.ofString "note" by decide +kernel)
            | prt _ => exact absurd hw (show ¬ Str.ofString "print" = Str.ofString "note" by decide +kernel)
            | either _ _ => exact absurd hw (show ¬ Str.ofString "either" = Str.ofString "note" by decide +kernel)
            | again _ => exact absurd hw (show ¬ Str.ofString "again" = Str.ofString "note" by decide +kernel)
          have hl1 := (entsB_one _ _ _ _ (tab_pair hr0 hl0)).2 rfl
          obtain ⟨g, rfl⟩ : ∃ g, l0 = [g] := by
            match l0, hl1 with
            | [g], _ => exact ⟨g, rfl⟩
          have hxn : xn ∈ ys := (hlot.me xn).mpr (List.mem_flatMap.mpr ⟨_, List.mem_of_getElem? hr0, List.mem_cons_self⟩)
          rcases h2 with ⟨t, ht, e, rfl⟩ | ⟨wa, xs, cs, rfl, hwS, hcs, hxl, rfl⟩
          · exact ⟨_, rfl, _, rfl, x, _, b, rfl, hp, .inl ⟨t, ht, e, fun H1 s1 => ⟨_, rfl, no rfl _ s1⟩⟩⟩
          refine ⟨_, rfl, _, rfl, x, _, b, rfl, hp, .inr ⟨wa, xs, cs, rfl, hwS, hcs, by omega, fun H1 s1 => ?_⟩⟩
          cases hjd : judge (leadsP b) cs with
          | false =>
            refine ⟨_, rfl, no ?_ _ s1⟩
            cases L with
            | none => rfl
            | some S =>
              show (_ && judge (leadsP b) cs && _) = false
              rw [hjd, Bool.and_false, Bool.false_and]
          | true =>
          obtain ⟨ps, q, rfl, hps, hq⟩ := judge_way hjd
          have ex := itm_plV hcs
          subst ex
          refine ⟨_, rfl, ?_⟩
          have hp1 := hp.same s1
          refine ⟨_, rfl, x, b, rfl, hp1, fun t ys' hlot' ht => ?_⟩
          have ey : ys' = ys := hlot'.uniq hlot fun _ => Iff.rfl
          subst ey
          rcases h3 with ⟨h3, rfl⟩ | ⟨h3, S, la, rfl, rfl, hlS⟩
          · exact ⟨_, rfl, t, u3, ys', false, rfl, ht, hn, h3.same s1, fun H2 s2 => ⟨_, rfl, no rfl _ (s1.trans s2)⟩⟩
          refine ⟨_, rfl, t, .ref la, ys', true, rfl, ht, hn, h3.same s1, fun H2 s2 => ⟨_, rfl, ?_⟩⟩
          have s12 := s1.trans s2
          rw [ringC_of hj hjd, ringN_note hr0 hl0] at no k
          refine ⟨_, rfl, !((ys'.filter S).map V.str).isEmpty, .inr (.inl ⟨_, s12.pt.sq hlS, rfl⟩), ?_⟩
          cases hem : (ys'.filter S).isEmpty with
          | true =>
            refine ifB (by rw [List.isEmpty_map, hem]; rfl) (no (by rw [hem]; rfl) _ s12)
          | false =>
          refine ifBF (by rw [List.isEmpty_map, hem]; rfl) ?_
          rw [hem] at no k
          have hlP : (leadsP b)[j]? = some [g] := by
            unfold leadsP
            rw [List.getElem?_append_left hll]
            exact hl0
          refine ⟨_, rfl, _, rfl, x, _, b, rfl, hp.same s12, .inl ⟨j, [g], rfl, hlP, fun y hy => ?_⟩⟩
          obtain ⟨ga, zs, rfl, hgS, hgt⟩ := hy.tupI
          rw [Tvs.ints hgt] at hgS
          refine ⟨ga, _, _, _, rfl, rfl, hgS, at0, ?_⟩
          obtain ⟨n0, nt, en⟩ : ∃ n0 nt, ps ++ [q] = n0 :: nt := by
            cases ps with
            | nil => exact ⟨q, [], rfl⟩
            | cons a t => exact ⟨a, t ++ [q], rfl⟩
          have hw12 := s12.pt.sq hwS
          have hat : atI (plV (ps ++ [q])) 0 = some (V.int (n0 : Nat)) := by
            rw [en]
            exact at0
          refine ⟨_, rfl, wa, _, _, _, rfl, rfl, hw12, hat, _, rfl, rfl, _, rfl, ?_⟩
          have ehd : decide ((ps ++ [q]).head? = some g) = decide (V.int (n0 : Nat) = V.int (g : Nat)) := by
            rw [en]
            by_cases e : n0 = g
            · subst e
              simp
            · have e1 : ¬ (some n0 = some g) := fun z => e (Option.some.inj z)
              have e2 : ¬ V.int (n0 : Nat) = V.int (g : Nat) := fun z => e (by have := V.int.inj z; omega)
              rw [decide_eq_false e2]
              exact decide_eq_false e1
          rw [ehd] at no k
          cases hd : decide (V.int (n0 : Nat) = V.int (g : Nat)) with
          | false =>
            refine ifB rfl (no (by rw [hd]; rfl) _ s12)
          | true =>
          rw [hd] at no k
          refine ifBF rfl ?_
          refine ⟨_, rfl, _, rfl, _, rfl, wa, _, rfl, hw12, fun lc H3 s3 hlc => ?_⟩
          have ecl : cutV (plV (ps ++ [q])) (some (-2)) none = plV (last2 (ps ++ [q])) := cut_last2
          rw [ecl] at hlc
          have s13 := s12.trans s3
          refine ⟨_, rfl, _, rfl, by show 2 ≤ sizeLine; decide, fun u nu => ?_⟩
          have su := same_new (o := .tup [V.int (j : Nat), V.int (g : Nat)]) nu
          have s14 := s13.trans su
          refine ⟨.tuple ((last2 (ps ++ [q])).map fun (n : Nat) => PyData.int (n : Int)), .tuple ([j, g].map fun (n : Nat) => PyData.int (n : Int)), .tup (su.pt.sq hlc) (dp_ints _), .tup (.inl (.inl upd_same)) (dp_ints [j, g]), shaped_ints _, shaped_ints _, _, rfl, ?_⟩
          rw [eqv_ints]
          cases hl2 : decide (last2 (ps ++ [q]) = [j, g]) with
          | false => exact ifB rfl (no (by rw [hl2]; rfl) _ s14)
          | true =>
          rw [hl2] at no k
          refine ifBF rfl ?_
          have hnm := nm_lot hG.ok hlot
          have hps5 : ps.length ≤ 50000 := by
            unfold plV at hxl
            rw [List.length_map, List.length_append] at hxl
            have : ps.length + 1 ≤ 50000 := hxl
            omega
          have shO : ∀ S : Str → Bool, SeqAt.shaped (.tuple ((ys'.filter S).map .str)) = true := fun S => shaped_strs fun y hy => hnm y (List.mem_filter.mp hy).1
          -- the first holders
          refine ⟨_, rfl, _, rfl, _, rfl, _, rfl, x, _, b, rfl, hp.same s14, .inl ⟨j, _, rfl, hr0, fun y hy => ?_⟩⟩
          obtain ⟨ra2, tl2, rfl, hrS2, hrt2⟩ := hy.rowI
          obtain ⟨w1, w2, w3, rfl, z1, z2, z3⟩ := hrt2.three
          cases z1.strI
          refine ⟨ra2, _, _, _, rfl, rfl, hrS2, rfl, by show 1 ≤ sizeLine; decide, fun u2 nu2 => ?_⟩
          have su2 := same_new (o := .tup [V.str xn]) nu2
          have s15 := s14.trans su2
          have e1 := filt_one hn.nd hxn
          have hu2 : SqT K (upd (upd H3 u (.tup [V.int (j : Nat), V.int (g : Nat)])) u2 (.tup [V.str xn])) u2 ((ys'.filter fun z => decide (z = xn)).map V.str) := by
            rw [e1]
            exact .inl (.inl upd_same)
          have k2 : ∀ H', Same H H' → Q (.bl (sameO ys' (alongS (rowsB b) ps (some fun z => decide (z = xn))) S && sameO ys' (alongS (rowsB b) ps (some S)) S)) H' := fun H' s' => k H' s'
          have sec : ∀ (H4 : Hp), Same H H4 → (sameO ys' (alongS (rowsB b) ps (some fun z => decide (z = xn))) S = true) →
              (spHolders K C [.ref x, .ref wa, .ref la] H4 (fun y H5 => ∃ d e, Dp K H5 y d ∧ Dp K H5 (.ref la) e ∧ SeqAt.shaped d = true ∧ SeqAt.shaped e = true ∧ Q (.bl (PyData.eqv d e)) H5) E0) := fun H4 s4 eq1 => by
            refine ⟨x, wa, la, b, ys', S, ps, q, rfl, hp.same s4, hlot, s4.pt.sq hwS, hps5, hjd, hps, s4.pt.sq hlS, fun S' e' q2 H5 s5 hq2 => ?_, fun e' H5 s5 => ?_⟩
            · have := k2 H5 (s4.trans s5)
              rw [eq1, e'] at this
              exact ⟨.tuple ((ys'.filter S').map .str), .tuple ((ys'.filter S).map .str), .tup hq2 (dp_strs _), .tup ((s4.trans s5).pt.sq hlS) (dp_strs _), shO S', shO S, by rw [eqv_strs]; exact this⟩
            · have := k2 H5 (s4.trans s5)
              rw [eq1, e'] at this
              exact ⟨.none, .tuple ((ys'.filter S).map .str), .non, .tup ((s4.trans s5).pt.sq hlS) (dp_strs _), by decide, shO S, this⟩
          refine ⟨x, wa, u2, b, ys', _, ps, q, rfl, hp.same s15, hlot, s15.pt.sq hwS, hps5, hjd, hps, hu2, fun S1 e1' q1' H4 s4 hq1 => ?_, fun e1' H4 s4 => ?_⟩
          · have s16 := s15.trans s4
            refine ⟨_, rfl, .tuple ((ys'.filter S1).map .str), .tuple ((ys'.filter S).map .str), .tup hq1 (dp_strs _), .tup (s16.pt.sq hlS) (dp_strs _), shO S1, shO S, _, rfl, ?_⟩
            rw [eqv_strs]
            have e3 : sameO ys' (alongS (rowsB b) ps (some fun z => decide (z = xn))) S = decide (ys'.filter S1 = ys'.filter S) := by rw [e1']; rfl
            cases hd1 : decide (ys'.filter S1 = ys'.filter S) with
            | false =>
              refine ifBF rfl ?_
              have := k2 H4 s16
              rw [e3, hd1] at this
              exact this
            | true =>
              refine ifB rfl ⟨_, rfl, _, rfl, _, rfl, ?_⟩
              obtain ⟨x', wa', la', b', yy, S', ps', q', ee, r1, r2, r3, r4, r5, r6, r7, r8, r9⟩ := sec H4 s16 (by rw [e3, hd1])
              refine ⟨x', wa', la', b', yy, S', ps', q', ee, r1, r2, r3, r4, r5, r6, r7, fun S2 e2 q2 H5 s5 h5 => ⟨_, rfl, r8 S2 e2 q2 H5 s5 h5⟩, fun e2 H5 s5 => ⟨_, rfl, r9 e2 H5 s5⟩⟩
          · have s16 := s15.trans s4
            refine ⟨_, rfl, .none, .tuple ((ys'.filter S).map .str), .non, .tup (s16.pt.sq hlS) (dp_strs _), by decide, shO S, _, rfl, ?_⟩
            refine ifBF rfl ?_
            have := k2 H4 s16
            rw [e1'] at this
            exact this
end
end K25
set_option Elab.async false
set_option linter.all false
set_option maxRecDepth 100000
set_option maxHeartbeats 4000000
namespace PM
open PySem PySem.Spec PyProof.Rows L2 ZX ZR
theorem inR_map {n : Nat} {cs : List (Option Int)} (h2 : (cs.map (inRg n)).all id = true) : cs = (cs.map natOf).map (fun (n : Nat) => (some (n : Int) : Option Int)) := by
  rw [List.map_map]
  refine List.ext_getElem? fun k => ?_
  rw [List.getElem?_map]
  cases e : cs[k]? with
  | none => rfl
  | some c =>
    obtain ⟨m, rfl, _, _⟩ := inR_all h2 e
    rfl
end PM
namespace K25
open PySem PySem.Spec PyProof.Rows L2 ZX PM ZR
abbrev sLIsInt : Stmt := top 64
abbrev sLIsWay : Stmt := top 65
/-- a way, judged -/
def wayB (b : List Rw) : Option (List (Option Int)) → Bool
  | some cs => judge (leadsP b) cs
  | none => false
def spLIsWay (K : PySem.W.Frag) : Sp := fun vs H Q _ => ∃ (l : Addr) (us : List V) (b : List Rw) (v : V) (w : Option (List (Option Int))), vs = [.ref l, v] ∧ H l = some (.lst us) ∧ Tvs K H us ((tabB b).map dE) ∧ WyTh K H v w ∧ ∀ H', Same H H' → Q (.bl (wayB b w)) H'
abbrev teD (K : PySem.W.Frag) : TE := tAndV (tCall (spIsInt K) [] E0 (tCons (tVar 3) tNil)) (tChain (rI0 fun i j => V.bl (decide (i ≤ j))) (rI0 fun i j => V.bl (decide (i ≤ j))) (tC (V.int 0)) (tVar 3) (tCB (rLenQ K) (tCons (tVar 0) tNil)))
section
variable {P : Program} {w : World} {K : PySem.W.Frag} {mg : Str → Option Value} {base : Heap}
theorem scLIsInt : FnScope ["_law_thing"] ["_law_thing"] (defScope sLIsInt) := ⟨rfl, rfl, rfl, by decide +kernel, rfl, by decide +kernel, by decide +kernel⟩
theorem ok_lis_int {f : Addr} {fd : FuncData} (F : FnP K "_law_is_int" sLIsInt f fd) (T : Bi mg) : FnOk P w K mg base CX0 1 f fd ["_law_thing"] (spIsInt K) := by
  refine F.ok scLIsInt (fun vs H Q E h => ?_) (fun cdv A outer s H vs Q E hr h => ?_)
  · obtain ⟨v, b, rfl, _⟩ := h
    rfl
  · obtain ⟨v, b, rfl, hn, k⟩ := h
    refine ⟨_, PSs.nox (pss_one (ps_ret (pe_and (pe_callB call_isi (by rfl) T.b_isinstance (by decide +kernel) (pa_cons (pv 0) (pa_cons (pe_bltn (v := .ty "int") (by rfl) T.b_int (by decide +kernel) rfl) pa_nil))) (pe_one (pe_not (pe_callB call_isi (by rfl) T.b_isinstance (by decide +kernel) (pa_cons (pv 0) (pa_cons (pe_bltn (v := .ty "bool") (by rfl) T.b_bool (by decide +kernel) rfl) pa_nil)))))))), ?_⟩
    cases hn with
    | int i => exact ⟨_, rfl, _, _, _, _, true, rfl, .ty "int", .base (.int i), rfl, _, rfl, _, rfl, _, _, _, _, false, rfl, .ty "bool", .base (.int i), rfl, _, rfl, k⟩
    | bl c => exact ⟨_, rfl, _, _, _, _, true, rfl, .ty "int", .base (.bl c), rfl, _, rfl, _, rfl, _, _, _, _, true, rfl, .ty "bool", .base (.bl c), rfl, _, rfl, k⟩
    | oth ht e => exact ⟨_, rfl, _, _, _, _, false, rfl, .ty "int", ht, e, _, rfl, k⟩
theorem scLIsWay : FnScope ["_law_table_here", "_law_thing", "_law_k", "_law_place"] ["_law_table_here", "_law_thing"] (defScope sLIsWay) := ⟨rfl, rfl, rfl, by decide +kernel, rfl, by decide +kernel, by decide +kernel⟩
theorem ok_lis_way {f : Addr} {fd : FuncData} (F : FnP K "_law_is_way" sLIsWay f fd) (T : Bi mg) (C__law_is_int : Cal P w K mg base "_law_is_int" 1 ["_law_thing"] (spIsInt K)) : FnOk P w K mg base CX0 2 f fd ["_law_table_here", "_law_thing"] (spLIsWay K) := by
  refine F.ok scLIsWay (fun vs H Q E h => ?_) (fun cdv A outer s H vs Q E hr h => ?_)
  · obtain ⟨l, us, b, v, wc, rfl, _⟩ := h
    rfl
  · obtain ⟨l, us, b, v, wc, rfl, hl, hu, hv, k⟩ := h
    have hr__law_is_int := hr
    refine ⟨_, PSs.nox (pss_cons (ps_if (PW.pt (pw_or (pt_not (pt_val (pe_callB call_isi (by rfl) T.b_isinstance (by decide +kernel) (pa_cons (pv 1) (pa_cons (pe_bltn (v := .ty "tuple") (by rfl) T.b_tuple (by decide +kernel) rfl) pa_nil))))) (pw_or1 (pt_cmpR op_eq (pe_callB call_len_seq (by rfl) T.b_len (by decide +kernel) (pa_cons (pv 1) pa_nil)) pe_int (nomark _))))) (pss_one (ps_ret pe_bl)) pss_nil)
    (pss_cons (ps_if (pt_not (pt_val (pe_callB (cr_all rfl) (by rfl) T.b_all (by decide +kernel) (pa_cons (pe_lcS (own := [("_law_place", 3)]) (g := gName 3) (tt := tYes) (te := teD K) (by rfl) scLIsWay.nd (pi_tup (pv 1)) (blkOk_by (N := ["_law_table_here", "_law_thing", "_law_k", "_law_place"]) (sc := defScope sLIsWay) (by decide +kernel)) (fun _ _ _ _ _ => (pg_name (i := 3) scLIsWay.nd rfl (Or.inl rfl))) (fun _ _ _ _ _ => pts_nil) (fun _ _ _ _ _ => (pe_and (pcal C__law_is_int hr__law_is_int rfl (pa_cons (pv 3) pa_nil)) (pe_one (pe_chain op_le op_le pe_int (pv 3) (pe_callB (id := "len") (r := rLenQ K) call_len_seq (by rfl) T.b_len (by decide +kernel) (pa_cons (pv 0) pa_nil))))))) pa_nil)))) (pss_one (ps_ret pe_bl)) pss_nil)
    (pss_cons (ps_for PassesOwn.never rfl (pi_range2 rfl T.b_range (pa_cons pe_int (pa_cons (pe_callB call_len_seq (by rfl) T.b_len (by decide +kernel) (pa_cons (pv 1) pa_nil)) pa_nil))) (pg_name (i := 2) scLIsWay.nd rfl (Or.inl rfl)) (pss_one (ps_if (PW.pt (pw_or (pt_cmpR op_eq (pe_ix ix_tup (pv 1) (pe_op op_sub (pv 2) pe_int) (fun _ _ => rfl)) (pe_callB call_len_seq (by rfl) T.b_len (by decide +kernel) (pa_cons (pv 0) pa_nil)) (nomark _)) (pw_or1 (pt_cmpR op_notIn_seq (pe_ix ix_tup (pv 1) (pv 2) (fun _ _ => rfl)) (pe_ix ix_tup (pe_ix ix_list (pv 0) (pe_ix ix_tup (pv 1) (pe_op op_sub (pv 2) pe_int) (fun _ _ => rfl)) (fun _ _ => rfl)) pe_int (fun _ _ => rfl)) (by with_unfolding_all rfl))))) (pss_one (ps_ret pe_bl)) pss_nil)))
    (pss_one (ps_ret pe_bl))))), ?_⟩
    have sm0 : Same H H := fun _ _ h => h
    have hul : us.length = (rowsB b).length := by rw [hu.len, List.length_map, tab_len]
    rcases hv with ⟨t, ht, e, rfl⟩ | ⟨a, xs, cs, rfl, ha, hcs, hxl, rfl⟩
    · exact ⟨_, rfl, _, _, _, _, false, rfl, .ty "tuple", ht, e, false, rfl, k _ sm0⟩
    · have hcl := hcs.len
      refine ⟨_, rfl, _, _, _, _, true, rfl, .ty "tuple", tyT ha, rfl, true, rfl, ?_⟩
      refine ⟨_, rfl, a, _, rfl, .inr ha, rfl, _, rfl, ?_⟩
      refine ite2 (fun e => ?_) (fun e0 => ?_)
      · have e' := V.int.inj (of_decide_eq_true e)
        have e2 : cs = [] := List.length_eq_zero_iff.mp (by omega)
        rw [e2] at k
        exact k _ sm0
      have hne : cs.isEmpty = false := by
        cases cs with
        | nil =>
          refine absurd (decide_eq_true ?_) e0
          rw [hcl]
          rfl
        | cons _ _ => rfl
      refine lc_into ?_
      refine ⟨_, rfl, a, rfl, ⟨_, ha⟩, ?_⟩
      refine lc_overA (p := none) (as := cs) (zs := xs) (Rel := fun _ c y => y = .bl (inRg (leadsP b).length c)) it_tup hcl.symm (fun _ _ _ _ _ h => h) (fun _ h => nomatch h) (Nat.lt_of_le_of_lt hxl (by decide)) (fun H' _ pt => pt.sq ha) ?_ ?_
      · intro j z c hz hc H3 kq pt3 R kR
        obtain ⟨c', hc', it⟩ := All2.get hcs hz
        rw [hc] at hc'
        cases hc'
        have s3 := kq.same
        refine ⟨rfl, _, rfl, ?_⟩
        cases it.same s3 with
        | int i =>
          refine ⟨.int i, true, rfl, .int i, true, rfl, _, rfl, _, _, rfl, rfl, _, rfl, ?_⟩
          have hR := kR (.bl (decide (0 ≤ i) && decide (i < ((leadsP b).length : Int)))) H3 (Same.kq fun _ _ h => h) (Pt.refl _) rfl
          cases h0 : decide (0 ≤ i) with
          | true =>
            rw [h0] at hR
            refine ifB rfl ⟨_, rfl, l, _, rfl, .inl (SqL.of (s3 _ _ hl)), _, _, rfl, rfl, ?_⟩
            have e : decide (i ≤ ((us.length : Nat) : Int)) = (true && decide (i < ((leadsP b).length : Int))) := by
              rw [hul, leadsP_len, Bool.true_and]
              congr 1
              apply propext
              constructor <;> intro <;> omega
            simp only [e]
            exact hR
          | false =>
            rw [h0] at hR
            exact ifBF rfl hR
        | oth hn => exact ⟨z, false, rfl, hn, false, rfl, kR _ _ (Same.kq fun _ _ h => h) (Pt.refl _) rfl⟩
      · intro D zs H3 kq pt3 nD hD all
        have ez := All2.map all
        subst ez
        have s3 := kq.same
        refine ⟨D, cs.map (inRg (leadsP b).length), rfl, SqL.of (by rw [hD, List.map_map]; rfl), _, rfl, ?_⟩
        cases hall : (cs.map (inRg (leadsP b).length)).all id with
        | false =>
          refine ifB rfl ?_
          have e : wayB b (some cs) = false := by
            show judge _ _ = false
            unfold judge
            rw [hall, Bool.false_and, Bool.and_false]
          rw [e] at k
          exact k _ s3
        | true =>
          refine ifBF rfl ?_
          have ecs := inR_map hall
          have hns : ∀ n ∈ cs.map natOf, n < (leadsP b).length := fun n hn => by
            obtain ⟨c, hc, rfl⟩ := List.mem_map.mp hn
            obtain ⟨q, hq⟩ := List.mem_iff_getElem?.mp hc
            obtain ⟨m, rfl, hm, _⟩ := inR_all hall hq
            exact hm
          have ej : judge (leadsP b) cs = ((List.range (cs.length - 1)).map (stepB (leadsP b) (cs.map natOf))).all id := by
            unfold judge
            rw [hall, hne]
            rfl
          have k' : ∀ H', Same H H' → Q (.bl (((List.range (cs.length - 1)).map (stepB (leadsP b) (cs.map natOf))).all id)) H' := fun H' s' => by
            rw [← ej]
            exact k H' s'
          have hnl : (cs.map natOf).length = cs.length := List.length_map ..
          generalize cs.map natOf = ns at ecs hns k' hnl
          have hxs : xs = plV ns := by
            rw [ecs] at hcs
            exact itm_plV hcs
          subst hxs
          have hpl : (plV ns).length = ns.length := List.length_map ..
          refine ⟨_, rfl, a, _, rfl, .inr (s3.pt.sq ha), _, _, rfl, ⟨by omega, by omega, by omega, by omega⟩, ?_⟩
          refine for_range (fun i σ' H' => ∃ y, σ' = [some (.ref l), some (.ref a), y, none] ∧ Same H H' ∧ ∀ j, j < i → stepB (leadsP b) ns j = true) ⟨_, rfl, s3, fun _ h => absurd h (Nat.not_lt_zero _)⟩ ?_ ?_
          · rintro i σ' H' hi ⟨y, rfl, sm, hst⟩
            have hi2 : i + 1 < ns.length := by
              rw [hpl] at hi
              omega
            have at_ : ∀ (j : Nat), j < ns.length → (plV ns)[j]? = some (V.int ((ns.getD j 0 : Nat) : Int)) := fun j hj => by
              unfold plV
              rw [List.getElem?_map, List.getElem?_eq_getElem hj, List.getD_eq_getElem?_getD, List.getElem?_eq_getElem hj]
              rfl
            have hlt : ns.getD i 0 < (leadsP b).length := hns _ (by rw [List.getD_eq_getElem?_getD, List.getElem?_eq_getElem (show i < ns.length by omega)]; exact List.getElem_mem _)
            rw [leadsP_len] at hlt
            have bad : stepB (leadsP b) ns i = false → Q (.bl false) H' := fun e => by
              have := k' H' sm
              have e2 : ((List.range (cs.length - 1)).map (stepB (leadsP b) ns)).all id = false := by
                rw [List.all_eq_false]
                exact ⟨_, List.mem_map.mpr ⟨i, List.mem_range.mpr (by omega), rfl⟩, by rw [e]; exact Bool.false_ne_true⟩
              rw [e2] at this
              exact this
            refine ⟨_, rfl, _, rfl, _, _, rfl, rfl, a, _, _, _, rfl, rfl, sm.pt.sq ha, at_of (j := i) (by omega) (at_ i (by omega)), _, rfl, l, _, rfl, .inl (SqL.of (sm _ _ hl)), rfl, _, rfl, ?_⟩
            refine ite2 (fun e => ?_) (fun e => ?_)
            · have e' := V.int.inj (of_decide_eq_true e)
              refine bad ?_
              unfold stepB
              have : (leadsP b).getD (ns.getD i 0) [] = [] := by
                rw [List.getD_eq_getElem?_getD (l := leadsP b)]
                unfold leadsP
                rw [List.getElem?_append_right (by rw [leadsB_len]; omega), leadsB_len, show ns.getD i 0 - (rowsB b).length = 0 by omega]
                rfl
              rw [this]
              rfl
            · have hlt2 : ns.getD i 0 < (rowsB b).length := by
                refine Nat.lt_of_not_le fun hle => e (decide_eq_true ?_)
                have : ns.getD i 0 = us.length := by omega
                rw [this]
              have hr1 : (rowsB b)[ns.getD i 0]? = some (rowsB b)[ns.getD i 0] := List.getElem?_eq_getElem hlt2
              obtain ⟨fa, fx, fy, gs, hfa, hFS, hFr, hFl, hgs⟩ := tab_get (hu.pt sm.pt) hr1
              obtain ⟨ga, zs, rfl, hgS, hgt⟩ := hFl.tupI
              rw [Tvs.ints hgt] at hgS
              refine ⟨_, rfl, _, rfl, a, _, _, _, rfl, rfl, sm.pt.sq ha, at_of (j := i + 1) (by omega) (at_ (i + 1) hi2), _, rfl, _, rfl, _, rfl, _, _, rfl, rfl, a, _, _, _, rfl, rfl, sm.pt.sq ha, at_of (j := i) (by omega) (at_ i (by omega)), l, _, _, _, rfl, rfl, SqL.of (sm _ _ hl), at_of (j := ns.getD i 0) rfl hfa, fa, _, _, _, rfl, rfl, hFS, rfl, ga, _, rfl, .inr hgS, rfl, flat_ints gs, _, rfl, ?_⟩
              have est : stepB (leadsP b) ns i = decide (ns.getD (i + 1) 0 ∈ gs) := by
                unfold stepB
                have : (leadsP b).getD (ns.getD i 0) [] = gs := by
                  rw [List.getD_eq_getElem?_getD (l := leadsP b)]
                  unfold leadsP
                  rw [List.getElem?_append_left (by rw [leadsB_len]; exact hlt2), hgs]
                  rfl
                rw [this]
              show if (!inV (V.int ((ns.getD (i + 1) 0 : Nat) : Int)) (gs.map fun (n : Nat) => V.int (n : Int))) = true then _ else _
              rw [inV_ints]
              cases hd : decide (ns.getD (i + 1) 0 ∈ gs) with
              | false => exact ifB rfl (bad (by rw [est, hd]))
              | true =>
                refine ifBF rfl ⟨_, rfl, sm, fun j hj => ?_⟩
                by_cases ej : j = i
                · rw [ej, est, hd]
                · exact hst j (by omega)
          · rintro σ' H' ⟨y, rfl, sm, hst⟩
            have := k' H' sm
            have e2 : ((List.range (cs.length - 1)).map (stepB (leadsP b) ns)).all id = true := by
              rw [List.all_eq_true]
              intro z hz
              obtain ⟨j, hj, rfl⟩ := List.mem_map.mp hz
              exact hst j (by have := List.mem_range.mp hj; rw [hpl]; omega)
            rw [e2] at this
            exact this
end
end K25
set_option Elab.async false
set_option linter.all false
set_option maxRecDepth 100000
set_option maxHeartbeats 4000000
namespace PM
open PySem PySem.Spec PyProof.Rows L2 ZX ZR
def ltS (a b : Str) : Prop := a.cps.toList < b.cps.toList
instance (a b : Str) : Decidable (ltS a b) := inferInstanceAs (Decidable (a.cps.toList < b.cps.toList))
theorem ltS_trans {a b c : Str} (h : ltS a b) (k : ltS b c) : ltS a c := List.lt_trans h k
theorem ltS_irr (a : Str) : ¬ ltS a a := List.lt_irrefl _
theorem ltS_le {a b : Str} (h : ltS a b) : leS a b := List.not_lt.mp fun z => List.lt_irrefl _ (List.lt_trans h z)
theorem leS_lt {a b : Str} (h : leS a b) (ne : a ≠ b) : ltS a b := Decidable.byContradiction fun z => ne (leS_anti h (List.not_lt.mp z))
/-- each less than the next one -/
def ascB (L : List Str) : Bool := (List.range (L.length - 1)).all fun k => match L[k]?, L[k + 1]? with
  | some x, some y => decide (ltS x y)
  | _, _ => true
theorem asc_pw : ∀ {L : List Str}, (∀ k x y, L[k]? = some x → L[k + 1]? = some y → ltS x y) → L.Pairwise ltS
  | [], _ => .nil
  | [x], _ => List.pairwise_singleton _ _
  | x :: y :: L, h => by
    have ih := asc_pw (L := y :: L) fun k a b h1 h2 => h (k + 1) a b h1 h2
    have hxy := h 0 x y rfl rfl
    refine List.pairwise_cons.mpr ⟨fun z hz => ?_, ih⟩
    rcases List.mem_cons.mp hz with rfl | hz
    · exact hxy
    · exact ltS_trans hxy ((List.pairwise_cons.mp ih).1 z hz)
theorem ascB_iff {L : List Str} : ascB L = true ↔ L.Pairwise ltS := by
  constructor
  · intro h
    refine asc_pw fun k x y hx hy => ?_
    have hk : k + 1 < L.length := (List.getElem?_eq_some_iff.mp hy).1
    have := List.all_eq_true.mp h k (List.mem_range.mpr (by omega))
    rw [hx, hy] at this
    exact of_decide_eq_true this
  · intro h
    refine List.all_eq_true.mpr fun k hk => ?_
    have hk := List.mem_range.mp hk
    have h1 : L[k]? = some L[k] := List.getElem?_eq_getElem (by omega)
    have h2 : L[k + 1]? = some L[k + 1] := List.getElem?_eq_getElem (by omega)
    rw [h1, h2]
    exact decide_eq_true (List.pairwise_iff_getElem.mp h k (k + 1) (by omega) (by omega) (Nat.lt_succ_self k))
theorem Nms.lt {ys : List Str} (n : Nms ys) : ys.Pairwise ltS := by
  have h1 := n.pw
  have h2 : ys.Pairwise (· ≠ ·) := n.nd
  exact (h1.and h2).imp fun q => leS_lt q.1 q.2
/-- a lot of names: those among them, just if they ascend -/
theorem lotV_asc {ys L : List Str} (n : Nms ys) (hL : ∀ x ∈ L, x ∈ ys) : lotV ys (L.map V.str) = ascB L := by
  have inj : ∀ {A B : List Str}, A.map V.str = B.map V.str → A = B := fun {A B} e => by
    have := congrArg (List.map fun v => match v with | V.str x => x | _ => Str.empty) e
    rw [List.map_map, List.map_map] at this
    have id1 : ((fun v => match v with | V.str x => x | _ => Str.empty) ∘ V.str) = id := rfl
    rw [id1, List.map_id, List.map_id] at this
    exact this
  have hm : ∀ y, decide (V.str y ∈ L.map V.str) = decide (y ∈ L) := fun y => by
    congr 1
    apply propext
    rw [List.mem_map]
    constructor
    · rintro ⟨z, hz, e⟩
      cases e
      exact hz
    · exact fun h => ⟨y, h, rfl⟩
  unfold lotV
  rw [show (fun y => decide (V.str y ∈ L.map V.str)) = fun y => decide (y ∈ L) from funext hm]
  cases ha : ascB L with
  | true =>
    have pw := ascB_iff.mp ha
    refine decide_eq_true (congrArg _ ?_)
    have nd : L.Nodup := List.Pairwise.imp (S := fun a b => a ≠ b) (fun {a b} (q : ltS a b) (e : a = b) => by
      rw [e] at q
      exact ltS_irr b q) pw
    exact List.Perm.eq_of_pairwise (fun _ _ _ _ => leS_anti) (pw.imp ltS_le) (n.pw.sublist List.filter_sublist) ((List.perm_ext_iff_of_nodup nd (n.nd.sublist List.filter_sublist)).mpr fun x => by
      rw [List.mem_filter]
      constructor
      · exact fun h => ⟨hL x h, decide_eq_true h⟩
      · exact fun h => of_decide_eq_true h.2)
  | false =>
    refine decide_eq_false fun e => ?_
    have e2 := inj e
    have : ascB L = true := ascB_iff.mpr (by rw [e2]; exact n.lt.sublist List.filter_sublist)
    rw [ha] at this
    cases this
end PM
namespace K25
open PySem PySem.Spec PyProof.Rows L2 ZX PM ZR
abbrev sLIsLot : Stmt := top 66
def spLIsLot (K : PySem.W.Frag) : Sp := fun vs H Q _ => ∃ (t : Addr) (v : V) (ys : List Str) (r : Bool), vs = [.ref t, v] ∧ H t = some (.lst (ys.map V.str)) ∧ Nms ys ∧ LotTh K H v ys r ∧ ∀ H', Same H H' → Q (.bl r) H'
/-- an item is one of the names -/
def nmV (ys : List Str) : V → Bool
  | .str x => decide (x ∈ ys)
  | _ => false
abbrev teF (K : PySem.W.Frag) : TE := tAndV (tCB (rIsi K) (tCons (tVar 2) (tCons (tC (V.ty "str")) tNil))) (tOp (rIn K false) (tVar 2) (tVar 0))
abbrev teG (K : PySem.W.Frag) : TE := tOp (fun x y H Q => ∃ i j, x = V.str i ∧ y = V.str j ∧ Q (V.bl (decide (i.cps.toList < j.cps.toList))) H) (tOp (rIxT K) (tVar 1) (tOp (rI0 fun i j => V.int (i - j)) (tVar 3) (tC (V.int 1)))) (tOp (rIxT K) (tVar 1) (tVar 3))
section
variable {P : Program} {w : World} {K : PySem.W.Frag} {mg : Str → Option Value} {base : Heap}
theorem scLIsLot : FnScope ["_law_names_here", "_law_thing", "_law_item", "_law_k"] ["_law_names_here", "_law_thing"] (defScope sLIsLot) := ⟨rfl, rfl, rfl, by decide +kernel, rfl, by decide +kernel, by decide +kernel⟩
theorem ok_lis_lot {f : Addr} {fd : FuncData} (F : FnP K "_law_is_lot" sLIsLot f fd) (T : Bi mg) : FnOk P w K mg base CX0 1 f fd ["_law_names_here", "_law_thing"] (spLIsLot K) := by
  refine F.ok scLIsLot (fun vs H Q E h => ?_) (fun cdv A outer s H vs Q E hr h => ?_)
  · obtain ⟨t, v, ys, r, rfl, _⟩ := h
    rfl
  · obtain ⟨t, v, ys, r, rfl, ht, n, hv, k⟩ := h
    refine ⟨_, PSs.nox (pss_cons (ps_if (PW.pt (pw_or (pt_not (pt_val (pe_callB call_isi (by rfl) T.b_isinstance (by decide +kernel) (pa_cons (pv 1) (pa_cons (pe_bltn (v := .ty "tuple") (by rfl) T.b_tuple (by decide +kernel) rfl) pa_nil))))) (pw_or1 (pt_not (pt_val (pe_callB (cr_all rfl) (by rfl) T.b_all (by decide +kernel) (pa_cons (pe_lcS (own := [("_law_item", 2)]) (g := gName 2) (tt := tYes) (te := teF K) (by rfl) scLIsLot.nd (pi_tup (pv 1)) (blkOk_by (N := ["_law_names_here", "_law_thing", "_law_item", "_law_k"]) (sc := defScope sLIsLot) (by decide +kernel)) (fun _ _ _ _ _ => (pg_name (i := 2) scLIsLot.nd rfl (Or.inl rfl))) (fun _ _ _ _ _ => pts_nil) (fun _ _ _ _ _ => (pe_and (pe_callB (id := "isinstance") (r := rIsi K) call_isi (by rfl) T.b_isinstance (by decide +kernel) (pa_cons (pv 2) (pa_cons (pe_bltn (v := .ty "str") (by rfl) T.b_str (by decide +kernel) rfl) pa_nil))) (pe_one (pe_cmpR op_in_seq (pv 2) (pv 0) (by with_unfolding_all rfl)))))) pa_nil))))))) (pss_one (ps_ret pe_bl)) pss_nil)
    (pss_one (ps_ret (pe_callB (cr_all rfl) (by rfl) T.b_all (by decide +kernel) (pa_cons (pe_lcS (own := [("_law_k", 3)]) (g := gName 3) (tt := tYes) (te := teG K) (by rfl) scLIsLot.nd (pi_range2 rfl T.b_range (pa_cons pe_int (pa_cons (pe_callB call_len_seq (by rfl) T.b_len (by decide +kernel) (pa_cons (pv 1) pa_nil)) pa_nil))) (blkOk_by (N := ["_law_names_here", "_law_thing", "_law_item", "_law_k"]) (sc := defScope sLIsLot) (by decide +kernel)) (fun _ _ _ _ _ => (pg_name (i := 3) scLIsLot.nd rfl (Or.inl rfl))) (fun _ _ _ _ _ => pts_nil) (fun _ _ _ _ _ => (pe_cmpR op_lt_str (pe_ix ix_tup (pv 1) (pe_op op_sub (pv 3) pe_int) (fun _ _ => rfl)) (pe_ix ix_tup (pv 1) (pv 3) (fun _ _ => rfl)) (nomark _)))) pa_nil))))), ?_⟩
    rcases hv with ⟨t', ht', e, rfl⟩ | ⟨a, xs, rfl, ha, hi, hl, rfl⟩
    · exact ⟨_, rfl, _, _, _, _, false, rfl, .ty "tuple", ht', e, false, rfl, k _ (fun _ _ h => h)⟩
    refine ⟨_, rfl, _, _, _, _, true, rfl, .ty "tuple", tyT ha, rfl, true, rfl, ?_⟩
    refine lc_into ?_
    refine ⟨_, rfl, a, rfl, ⟨_, ha⟩, ?_⟩
    refine lc_overA (p := none) (as := xs) (zs := xs) (Rel := fun _ c y => y = .bl (nmV ys c)) it_tup rfl (fun _ _ _ _ _ h => h) (fun _ h => nomatch h) (Nat.lt_of_le_of_lt hl (by decide)) (fun H' _ pt => pt.sq ha) ?_ ?_
    · intro j z y hz hy H3 kq pt3 R kR
      rw [hz] at hy
      cases hy
      have s3 := kq.same
      obtain ⟨t', ht', _, hst⟩ := itl_ty ((hi z (List.mem_of_getElem? hz)).same s3)
      refine ⟨rfl, _, rfl, _, _, _, _, isSt z, rfl, .ty "str", ht', hst, _, rfl, ?_⟩
      cases z with
      | str x =>
        refine ifB rfl ⟨_, rfl, _, rfl, t, _, rfl, .inl (SqL.of (s3 _ _ ht)), rfl, PM.flat_strs ys, kR _ _ (Same.kq fun _ _ h => h) (Pt.refl _) ?_⟩
        show V.bl (inV (.str x) (ys.map V.str)) = .bl (decide (x ∈ ys))
        rw [inV_strs]
      | _ => exact ifBF rfl (kR _ _ (Same.kq fun _ _ h => h) (Pt.refl _) rfl)
    · intro D zs H3 kq pt3 nD hD all
      have ez := All2.map all
      subst ez
      have s3 := kq.same
      refine ⟨D, xs.map (nmV ys), rfl, SqL.of (by rw [hD, List.map_map]; rfl), _, rfl, ?_⟩
      cases hall : (xs.map (nmV ys)).all id with
      | false =>
        refine ifB rfl ?_
        have e : lotV ys xs = false := by
          refine decide_eq_false fun e => ?_
          have : (xs.map (nmV ys)).all id = true := by
            refine List.all_eq_true.mpr fun q hq => ?_
            obtain ⟨v, hv, rfl⟩ := List.mem_map.mp hq
            rw [e] at hv
            obtain ⟨y, hy, rfl⟩ := List.mem_map.mp hv
            exact decide_eq_true (List.mem_filter.mp hy).1
          rw [hall] at this
          cases this
        rw [e] at k
        exact k _ s3
      | true =>
        refine ifBF rfl ?_
        obtain ⟨L, rfl, hL⟩ : ∃ L : List Str, xs = L.map V.str ∧ ∀ x ∈ L, x ∈ ys := by
          clear hl k all hD hi ha
          induction xs with
          | nil => exact ⟨[], rfl, fun _ h => nomatch h⟩
          | cons v xs ih =>
            obtain ⟨h1, h2⟩ := Bool.and_eq_true_iff.mp (show (nmV ys v && (xs.map (nmV ys)).all id) = true from hall)
            obtain ⟨L, rfl, hL⟩ := ih h2
            cases v with
            | str x => exact ⟨x :: L, rfl, fun z hz => (List.mem_cons.mp hz).elim (fun e => e ▸ of_decide_eq_true h1) (hL z)⟩
            | _ => cases h1
        rw [lotV_asc n hL] at k
        rw [List.length_map] at hl
        refine lc_into ?_
        refine ⟨_, rfl, a, _, rfl, .inr (s3.pt.sq ha), _, _, rfl, ⟨by omega, by omega, by rw [List.length_map]; omega, by rw [List.length_map]; omega⟩, ?_⟩
        have hnl : ((((L.map V.str).length : Nat) : Int) - 1).toNat = L.length - 1 := by
          rw [List.length_map]
          omega
        rw [hnl]
        refine lc_overA (p := none) (as := List.range (L.length - 1)) (Rel := fun _ c y => y = .bl (match L[c]?, L[c + 1]? with | some x, some y => decide (ltS x y) | _, _ => true)) it_range ?_ (fun _ _ _ _ _ h => h) (fun _ h => nomatch h) ?_ (fun _ _ _ => trivial) ?_ ?_
        · rw [List.length_map]
        · rw [List.length_map, List.length_range]
          exact Nat.lt_of_le_of_lt (show _ ≤ 100000 by omega) (by decide)
        · intro j z c hz hc H4 kq4 pt4 R kR
          have hjl : j < L.length - 1 := by
            have := (List.getElem?_eq_some_iff.mp hc).1
            rwa [List.length_range] at this
          have ec : c = j := by
            rw [List.getElem?_range hjl] at hc
            exact (Option.some.inj hc).symm
          subst ec
          have ez : z = V.int (1 + (c : Int)) := by
            rw [List.getElem?_map, List.getElem?_range hjl] at hz
            exact (Option.some.inj hz).symm
          subst ez
          have h1 : L[c]? = some L[c] := List.getElem?_eq_getElem (by omega)
          have h2 : L[c + 1]? = some L[c + 1] := List.getElem?_eq_getElem (by omega)
          have ha4 := pt4.sq (s3.pt.sq ha)
          refine ⟨rfl, _, rfl, _, rfl, _, _, rfl, rfl, a, _, _, _, rfl, rfl, ha4, at_of (j := c) (by omega) (by rw [List.getElem?_map, h1]; rfl), _, rfl, _, rfl, a, _, _, _, rfl, rfl, ha4, at_of (j := c + 1) (by omega) (by rw [List.getElem?_map, h2]; rfl), _, _, rfl, rfl, kR _ _ (Same.kq fun _ _ h => h) (Pt.refl _) ?_⟩
          rw [h1, h2]
          rfl
        · intro D2 zs H4 kq4 pt4 nD2 hD2 all2
          have ez := All2.map all2
          subst ez
          refine ⟨D2, (List.range (L.length - 1)).map fun c => (match L[c]?, L[c + 1]? with | some x, some y => decide (ltS x y) | _, _ => true), rfl, SqL.of (by rw [hD2, List.map_map]; rfl), ?_⟩
          rw [List.all_map]
          exact k _ (s3.trans kq4.same)
end
end K25
set_option Elab.async false
set_option linter.all false
set_option maxRecDepth 100000
set_option maxHeartbeats 4000000
namespace PM
open PySem PySem.Spec PyProof.Rows L2 ZX ZR
theorem filt_mask {ys : List Str} {S S' : Str → Bool} : ys.filter S' = ys.filter S ↔ maskS ys S' = maskS ys S := by
  constructor
  · intro h
    refine maskS_congr fun y hy => ?_
    have : y ∈ ys.filter S' ↔ y ∈ ys.filter S := by rw [h]
    rw [List.mem_filter, List.mem_filter] at this
    cases e : S' y <;> cases e' : S y <;> simp_all
  · intro h
    exact List.filter_congr (maskS_inj h)
theorem sameO_mask {ys : List Str} {o : Option (Str → Bool)} {S : Str → Bool} : sameO ys o S = (mOf ys o == ((maskS ys S : Nat) : Int)) := by
  cases o with
  | none =>
    show false = ((-1 : Int) == _)
    symm
    rw [beq_eq_false_iff_ne]
    omega
  | some S' =>
    show decide (ys.filter S' = ys.filter S) = (((maskS ys S' : Nat) : Int) == _)
    by_cases h : maskS ys S' = maskS ys S
    · rw [decide_eq_true (filt_mask.mpr h), h]
      simp
    · rw [decide_eq_false fun z => h (filt_mask.mp z)]
      symm
      rw [beq_eq_false_iff_ne]
      omega
theorem atI_last2 {xs : List V} {x y : V} : atI (xs ++ [x] ++ [y]) (-2) = some x := by
  unfold atI ixN
  have h1 : ¬ (0 : Int) ≤ -2 := by decide
  have hl : (xs ++ [x] ++ [y]).length = xs.length + 2 := by simp
  rw [if_neg h1, hl, if_pos (by omega)]
  have e : ((-2 : Int) + ((xs.length + 2 : Nat) : Int)).toNat = xs.length := by omega
  rw [e]
  show (xs ++ [x] ++ [y])[xs.length]? = some x
  rw [List.append_assoc, List.getElem?_append_right (Nat.le_refl _), Nat.sub_self]
  rfl
theorem last2_short {q j g : Nat} : decide (last2 ([] ++ [q]) = [j, g]) = false := by
  refine decide_eq_false fun e => ?_
  have := congrArg List.length e
  cases this
theorem last2_long {ps : List Nat} {p q j g : Nat} : decide (last2 ((ps ++ [p]) ++ [q]) = [j, g]) = (decide (q = g) && decide (p = j)) := by
  have e : last2 ((ps ++ [p]) ++ [q]) = [p, q] := by
    unfold last2
    rw [List.append_assoc]
    have : (ps ++ ([p] ++ [q])).length - 2 = ps.length := by
      rw [List.length_append]
      show ps.length + 2 - 2 = _
      omega
    rw [this, List.drop_left]
    rfl
  rw [e]
  by_cases e1 : q = g <;> by_cases e2 : p = j <;> simp [e1, e2]
end PM
namespace K25
open PySem PySem.Spec PyProof.Rows L2 ZX PM ZR
abbrev sLIsRing : Stmt := top 67
def spLIsRing (K : PySem.W.Frag) : Sp := fun vs H Q _ => ∃ (l t : Addr) (v : V) (us : List V) (b : List Rw) (ys : List Str) (r : Bool), vs = [.ref l, .ref t, v] ∧ H l = some (.lst us) ∧ Tvs K H us ((tabB b).map dE) ∧ Good b ∧ IsLot ys ((rowsB b).flatMap namesR) ∧ H t = some (.lst (ys.map V.str)) ∧ RgTh K H v b ys r ∧ ∀ H', Same H H' → Q (.bl r) H'
abbrev teH (K : PySem.W.Frag) : TE := tCall (spLAlong K) [] E0 (tCons (tVar 0) (tCons (tVar 7) (tCons (tVar 4) (tCons (tVar 9) tNil))))
section
variable {P : Program} {w : World} {K : PySem.W.Frag} {mg : Str → Option Value} {base : Heap}
theorem scLIsRing : FnScope ["_law_table_here", "_law_names_here", "_law_thing", "_law_place", "_law_way", "_law_lot_here", "_law_begin", "_law_bits_here", "_law_due", "_law_mask_here"] ["_law_table_here", "_law_names_here", "_law_thing"] (defScope sLIsRing) := ⟨rfl, rfl, rfl, by decide +kernel, rfl, by decide +kernel, by decide +kernel⟩
theorem ok_lis_ring {f : Addr} {fd : FuncData} (F : FnP K "_law_is_ring" sLIsRing f fd) (T : Bi mg) (C__law_is_int : Cal P w K mg base "_law_is_int" 1 ["_law_thing"] (spIsInt K)) (C__law_is_way : Cal P w K mg base "_law_is_way" 2 ["_law_table_here", "_law_thing"] (spLIsWay K)) (C__law_is_lot : Cal P w K mg base "_law_is_lot" 1 ["_law_names_here", "_law_thing"] (spLIsLot K))
    (C__law_bits : Cal P w K mg base "_law_bits" 1 ["_law_names_here"] spLBits) (C__law_mask : Cal P w K mg base "_law_mask" 1 ["_law_bits_here", "_law_lot_here"] (spLMask K)) (C__law_along : Cal P w K mg base "_law_along" 2 ["_law_table_here", "_law_bits_here", "_law_way", "_law_mask_here"] (spLAlong K)) : FnOk P w K mg base CX0 3 f fd ["_law_table_here", "_law_names_here", "_law_thing"] (spLIsRing K) := by
  refine F.ok scLIsRing (fun vs H Q E h => ?_) (fun cdv A outer s H vs Q E hr h => ?_)
  · obtain ⟨l, t, v, us, b, ys, r, rfl, _⟩ := h
    rfl
  · obtain ⟨l, t, v, us, b, ys, r, rfl, hl, hu, hG, hlot, ht, hv, k⟩ := h
    have hr1 := hr.mono (show 1 ≤ 2 by decide)
    have hu1 := hu_of hr
    refine ⟨_, PSs.nox (pss_cons (ps_if (PW.pt (pw_or (pt_not (pt_val (pe_callB call_isi (by rfl) T.b_isinstance (by decide +kernel) (pa_cons (pv 2) (pa_cons (pe_bltn (v := .ty "tuple") (by rfl) T.b_tuple (by decide +kernel) rfl) pa_nil))))) (pw_or1 (pt_cmpR op_ne (pe_callB call_len_seq (by rfl) T.b_len (by decide +kernel) (pa_cons (pv 2) pa_nil)) pe_int (nomark _))))) (pss_one (ps_ret pe_bl)) pss_nil)
    (pss_cons (ps_asg (pe_tup (pa_cons (pe_ix ix_tup (pv 2) pe_int (fun _ _ => rfl)) (pa_cons (pe_ix ix_tup (pv 2) pe_int (fun _ _ => rfl)) (pa_cons (pe_ix ix_tup (pv 2) pe_int (fun _ _ => rfl)) pa_nil)))) (pg_tup rfl (pgs_cons (pg_name (i := 3) scLIsRing.nd rfl (Or.inl rfl)) (pgs_cons (pg_name (i := 4) scLIsRing.nd rfl (Or.inr rfl)) (pgs_cons (pg_name (i := 5) scLIsRing.nd rfl (Or.inl rfl)) pgs_nil)))))
    (pss_cons (ps_if (PW.pt (pw_or (pt_not (pt_val (pcal C__law_is_int hr1 rfl (pa_cons (pv 3) pa_nil)))) (pw_or (pt_not (pt_chain op_le op_lt pe_int (pv 3) (pe_callB call_len_seq (by rfl) T.b_len (by decide +kernel) (pa_cons (pv 0) pa_nil)))) (pw_or1 (pt_cmpR op_ne (pe_ix ix_tup (pe_ix ix_tup (pe_ix ix_list (pv 0) (pv 3) (fun _ _ => rfl)) pe_int (fun _ _ => rfl)) pe_int (fun _ _ => rfl)) pe_str (nomark _)))))) (pss_one (ps_ret pe_bl)) pss_nil)
    (pss_cons (ps_if (PW.pt (pw_or (pt_not (pt_val (pcal C__law_is_way hr rfl (pa_cons (pv 0) (pa_cons (pv 4) pa_nil))))) (pw_or (pt_not (pt_val (pcal C__law_is_lot hr1 rfl (pa_cons (pv 1) (pa_cons (pv 5) pa_nil))))) (pw_or (pt_cmpR op_lt (pe_callB call_len_seq (by rfl) T.b_len (by decide +kernel) (pa_cons (pv 4) pa_nil)) pe_int (nomark _)) (pw_or1 (pt_cmpR (op_eqEmp (Nat.lt_of_succ_lt hu1)) (pv 5) (pe_tup pa_nil) (nomark _))))))) (pss_one (ps_ret pe_bl)) pss_nil)
    (pss_cons (ps_set (i := 6) scLIsRing.nd rfl (Or.inl rfl) (pe_ix ix_tup (pe_ix ix_tup (pe_ix ix_list (pv 0) (pv 3) (fun _ _ => rfl)) pe_int (fun _ _ => rfl)) pe_int (fun _ _ => rfl)))
    (pss_cons (ps_if (PW.pt (pw_or (pt_cmpR op_ne (pe_ix ix_tup (pv 4) pe_int (fun _ _ => rfl)) (pv 6) (nomark _)) (pw_or (pt_cmpR op_ne (pe_ix ix_tup (pv 4) (pe_un un_neg pe_int) (fun _ _ => rfl)) (pv 6) (nomark _)) (pw_or1 (pt_cmpR op_ne (pe_ix ix_tup (pv 4) (pe_un un_neg pe_int) (fun _ _ => rfl)) (pv 3) (nomark _)))))) (pss_one (ps_ret pe_bl)) pss_nil)
    (pss_cons (ps_set (i := 7) scLIsRing.nd rfl (Or.inr rfl) (pcal C__law_bits hr1 rfl (pa_cons (pv 1) pa_nil)))
    (pss_cons (ps_set (i := 8) scLIsRing.nd rfl (Or.inl rfl) (pcal C__law_mask hr1 rfl (pa_cons (pv 7) (pa_cons (pv 5) pa_nil))))
    (pss_one (ps_ret (pe_cmpR (op_eqD hr.units) (pe_lcS (own := [("_law_mask_here", 9)]) (g := gName 9) (tt := tYes) (te := teH K) (by rfl) scLIsRing.nd (pi_list (pe_lst (pa_cons (pe_dget hu1 (pv 7) (pe_ix ix_tup (pe_ix ix_tup (pe_ix ix_list (pv 0) (pv 3) (fun _ _ => rfl)) pe_int (fun _ _ => rfl)) pe_int (fun _ _ => rfl)) (fun _ _ => rfl)) (pa_cons (pv 8) pa_nil)))) (blkOk_by (N := ["_law_table_here", "_law_names_here", "_law_thing", "_law_place", "_law_way", "_law_lot_here", "_law_begin", "_law_bits_here", "_law_due", "_law_mask_here"]) (sc := defScope sLIsRing) (by decide +kernel)) (fun _ _ _ _ _ => (pg_name (i := 9) scLIsRing.nd rfl (Or.inl rfl))) (fun _ _ _ _ _ => pts_nil) (fun _ _ _ _ _ => (pcal C__law_along hr rfl (pa_cons (pv 0) (pa_cons (pv 7) (pa_cons (pv 4) (pa_cons (pv 9) pa_nil))))))) (pe_lst (pa_cons (pv 8) (pa_cons (pv 8) pa_nil))) (nomark _)))))))))))), ?_⟩
    have sm0 : Same H H := fun _ _ h => h
    have hn : Nms ys := ⟨hlot.so, hlot.nd, hG.n8 ys hlot⟩
    have hul : us.length = (rowsB b).length := by rw [hu.len, List.length_map, tab_len]
    rcases hv with ⟨t', ht', e, rfl⟩ | ⟨a, xs, rfl, ha, hl3, rfl⟩ | ⟨a, u1, u2, u3, c, wc, L, rfl, ha, h1, h2, h3, rfl⟩
    · exact ⟨_, rfl, _, _, _, _, false, rfl, .ty "tuple", ht', e, false, rfl, k _ sm0⟩
    · refine ⟨_, rfl, _, _, _, _, true, rfl, .ty "tuple", tyT ha, rfl, true, rfl, ?_⟩
      refine ⟨_, rfl, a, _, rfl, .inr ha, rfl, _, rfl, ifB ?_ (k _ sm0)⟩
      have : ¬ V.int ((xs.length : Nat) : Int) = V.int 3 := fun z => hl3 (by have := V.int.inj z; omega)
      simp [this]
    · refine ⟨_, rfl, _, _, _, _, true, rfl, .ty "tuple", tyT ha, rfl, true, rfl, ?_⟩
      refine ⟨_, rfl, a, _, rfl, .inr ha, rfl, _, rfl, ifBF rfl ?_⟩
      refine ⟨_, rfl, a, _, _, _, rfl, rfl, ha, rfl, _, rfl, a, _, _, _, rfl, rfl, ha, rfl, _, rfl, a, _, _, _, rfl, rfl, ha, rfl, by show 3 ≤ sizeLine; decide, fun q0 nq0 => ⟨q0, _, rfl, .inl (.inl upd_same), rfl, _, _, rfl, _, _, rfl, _, _, rfl, rfl, ?_⟩⟩
      have s1 := same_new (o := .tup [u1, u2, u3]) nq0
      replace h1 := h1.same s1
      replace h2 := h2.same s1
      replace h3 := h3.same s1
      replace hl := s1 _ _ hl
      replace hu := hu.pt s1.pt
      replace ht := s1 _ _ ht
      generalize upd H q0 (.tup [u1, u2, u3]) = H1 at s1 h1 h2 h3 hl hu ht ⊢
      have no : ringC b ys c wc L = false → ∀ H', Same H1 H' → Q (.bl false) H' := fun e H' s => by
        have := k H' (s1.trans s)
        rw [e] at this
        exact this
      have sm1 : Same H1 H1 := fun _ _ h => h
      cases h1 with
      | oth hnv => exact ⟨_, rfl, u1, false, rfl, hnv, _, rfl, no rfl _ sm1⟩
      | int i =>
        refine ⟨_, rfl, .int i, true, rfl, .int i, _, rfl, _, rfl, _, _, rfl, rfl, _, rfl, ?_⟩
        cases h0 : decide ((0 : Int) ≤ i) with
        | false => exact ifBF rfl ⟨_, rfl, no (ringC_rng (by rw [h0]; rfl)) _ sm1⟩
        | true =>
        refine ifB rfl ⟨_, rfl, l, _, rfl, .inl (SqL.of hl), _, _, rfl, rfl, _, rfl, ?_⟩
        rw [hul]
        cases hrg : decide (i < (((rowsB b).length : Nat) : Int)) with
        | false => exact no (ringC_rng (by rw [h0, hrg]; rfl)) _ sm1
        | true =>
          have q1 := of_decide_eq_true h0
          have q2 := of_decide_eq_true hrg
          obtain ⟨j, rfl⟩ := Int.eq_ofNat_of_zero_le q1
          have hj : j < (rowsB b).length := by omega
          have hr0 : (rowsB b)[j]? = some (rowsB b)[j] := List.getElem?_eq_getElem hj
          obtain ⟨fa, fx, fy, gs, hfa, hFS, hFr, hFl, hgs⟩ := tab_get hu hr0
          generalize (rowsB b)[j] = r0 at hr0 hFr
          obtain ⟨ra, tl, rfl, hrS, hrt⟩ := hFr.rowI
          refine ⟨_, rfl, _, rfl, l, _, _, _, rfl, rfl, SqL.of hl, at_of (j := j) rfl hfa, fa, _, _, _, rfl, rfl, hFS, rfl, ra, _, _, _, rfl, rfl, hrS, at0, rfl, _, rfl, ?_⟩
          have hN : wordR r0 ≠ Str.ofString "note" → ringC b ys (some (j : Int)) wc L = false := fun hw => by
            cases wc with
            | none => rfl
            | some cs => cases L with
              | none => rfl
              | some S =>
                show (_ && ringN b ys j _ _ S) = false
                rw [ringN_not hr0 hw, Bool.and_false]
          by_cases hw : wordR r0 = Str.ofString "note"
          case neg =>
            refine ifB ?_ (no (hN hw) _ sm1)
            have : ¬ V.str (wordR r0) = V.str (Str.ofString "note") := fun z => hw (V.str.inj z)
            simp [this]
          case pos =>
          refine ifBF (by rw [hw]; simp) ?_
          obtain ⟨xn, on, ns, rfl⟩ : ∃ x o ps, r0 = .note x o ps := by
            cases r0 with
            | note x o ps => exact ⟨x, o, ps, rfl⟩
            | copy _ _ => exact absurd hw (show ¬ Str.ofString "copy" = Str.ofString "note" by decide +kernel)
            | give _ _ => exact absurd hw (show ¬ Str.ofString "give" = Str.ofString "note" by decide +kernel)
            | ask _ => exact absurd hw (show ¬ Str.ofString "ask" = Str.ofString "note" by decide +kernel)
            | prt _ => exact absurd hw (show ¬ Str.ofString "print" = Str.ofString "note" by decide +kernel)
            | either _ _ => exact absurd hw (show ¬ Str.ofString "either" = Str.ofString "note" by decide +kernel)
            | again _ => exact absurd hw (show ¬ Str.ofString "again" = Str.ofString "note" by decide +kernel)
          have hl1 := (entsB_one _ _ _ _ (tab_pair hr0 hgs)).2 rfl
          obtain ⟨g, rfl⟩ : ∃ g, gs = [g] := by
            match gs, hl1 with
            | [g], _ => exact ⟨g, rfl⟩
          obtain ⟨ga, zs, rfl, hgS, hgt⟩ := hFl.tupI
          rw [Tvs.ints hgt] at hgS
          obtain ⟨w1, w2, w3, rfl, z1, z2, z3⟩ := hrt.three
          cases z1.strI
          have hxn : xn ∈ ys := (hlot.me xn).mpr (List.mem_flatMap.mpr ⟨_, List.mem_of_getElem? hr0, List.mem_cons_self⟩)
          refine ⟨_, rfl, _, rfl, l, us, b, u2, wc, rfl, hl, hu, h2, fun H2 s2 => ⟨_, rfl, ?_⟩⟩
          rcases h2 with ⟨t', ht', e, rfl⟩ | ⟨wa, xs, cs, rfl, hwS, hcs, hxl, rfl⟩
          · exact no rfl _ s2
          cases hjd : judge (leadsP b) cs with
          | false =>
            refine ifB (by show (!judge (leadsP b) cs) = true; rw [hjd]; rfl) (no ?_ _ s2)
            cases L with
            | none => rfl
            | some S =>
              show (_ && judge (leadsP b) cs && _) = false
              rw [hjd, Bool.and_false, Bool.false_and]
          | true =>
          obtain ⟨ps, q, rfl, hps, hq⟩ := judge_way hjd
          have ex := itm_plV hcs
          subst ex
          refine ifBF (by show (!judge (leadsP b) _) = false; rw [hjd]; rfl) ?_
          rcases h3 with ⟨h3, rfl⟩ | ⟨h3, S, la, rfl, rfl, hlS⟩
          · exact ⟨_, rfl, _, rfl, t, u3, ys, false, rfl, s2 _ _ ht, hn, h3.same s2, fun H3 s3 => ⟨_, rfl, no rfl _ (s2.trans s3)⟩⟩
          refine ⟨_, rfl, _, rfl, t, .ref la, ys, true, rfl, s2 _ _ ht, hn, h3.same s2, fun H3 s3 => ⟨_, rfl, ?_⟩⟩
          have s13 := s2.trans s3
          rw [ringC_of hj hjd, ringN_note hr0 hgs] at no k
          have hw3 := s13.pt.sq hwS
          have hpl : (plV (ps ++ [q])).length = ps.length + 1 := by
            unfold plV
            rw [List.length_map, List.length_append]
            rfl
          refine ⟨_, rfl, wa, _, rfl, .inr hw3, _, _, rfl, rfl, _, rfl, ?_⟩
          refine ite2 (fun e2 => ?_) (fun e2 => ?_)
          · have e2' : ((plV (ps ++ [q])).length : Int) < 2 := of_decide_eq_true e2
            have hps0 : ps = [] := List.length_eq_zero_iff.mp (by omega)
            subst hps0
            exact no (by rw [last2_short]; simp) _ s13
          obtain ⟨ps', p, rfl⟩ : ∃ ps' p, ps = ps' ++ [p] := (snoc_or ps).resolve_left fun e => e2 (decide_eq_true (by rw [hpl, e]; decide))
          rw [last2_long] at no k
          refine ⟨_, rfl, by decide, fun e0 ne0 => ?_⟩
          have se0 := same_new (o := .tup []) ne0
          have s14 := s13.trans se0
          refine ⟨la, e0, _, rfl, rfl, s14.pt.sq hlS, .inl (.inl upd_same), _, rfl, ?_⟩
          rw [List.isEmpty_map]
          cases hem : (ys.filter S).isEmpty with
          | true => exact ifB rfl (no (by rw [hem]; rfl) _ s14)
          | false =>
          rw [hem] at no k
          refine ifBF rfl ?_
          have hl4 := s14 _ _ hl
          have hw4 := s14.pt.sq hwS
          refine ⟨_, rfl, _, rfl, l, _, _, _, rfl, rfl, SqL.of hl4, at_of (j := j) rfl hfa, fa, _, _, _, rfl, rfl, s14.pt.sq hFS, rfl, ga, _, _, _, rfl, rfl, s14.pt.sq hgS, rfl, ?_⟩
          obtain ⟨n0, nt, en⟩ : ∃ n0 nt, (ps' ++ [p]) ++ [q] = n0 :: nt := by
            cases ps' with
            | nil => exact ⟨p, [q], rfl⟩
            | cons a t => exact ⟨a, (t ++ [p]) ++ [q], rfl⟩
          have hat : atI (plV ((ps' ++ [p]) ++ [q])) 0 = some (V.int (n0 : Nat)) := by
            rw [en]
            exact at0
          have hat1 : atI (plV ((ps' ++ [p]) ++ [q])) (-1) = some (V.int (q : Nat)) := by
            rw [plV_app]
            exact atI_last _ _
          have hat2 : atI (plV ((ps' ++ [p]) ++ [q])) (-2) = some (V.int (p : Nat)) := by
            rw [plV_app, plV_app]
            exact atI_last2
          have ei : ∀ m n : Nat, decide (V.int (m : Nat) = V.int (n : Nat)) = decide (m = n) := fun m n => by
            congr 1
            apply propext
            constructor
            · intro z
              have := V.int.inj z
              omega
            · intro z
              rw [z]
          have ehd : decide (((ps' ++ [p]) ++ [q]).head? = some g) = decide (n0 = g) := by
            rw [en]
            congr 1
            exact propext ⟨Option.some.inj, fun z => by rw [z]; rfl⟩
          rw [ehd] at no k
          refine ⟨_, rfl, wa, _, _, _, rfl, rfl, hw4, hat, _, rfl, rfl, _, rfl, ?_⟩
          rw [ei]
          cases hd : decide (n0 = g) with
          | false => exact ifB rfl (no (by rw [hd]; rfl) _ s14)
          | true =>
          rw [hd] at no k
          refine ifBF rfl ⟨_, rfl, _, rfl, wa, _, _, _, rfl, rfl, hw4, hat1, _, rfl, rfl, _, rfl, ?_⟩
          rw [ei]
          cases hqd : decide (q = g) with
          | false => exact ifB rfl (no (by rw [hqd]; rfl) _ s14)
          | true =>
          rw [hqd] at no k
          refine ifBF rfl ⟨_, rfl, _, rfl, wa, _, _, _, rfl, rfl, hw4, hat2, _, rfl, rfl, _, rfl, ?_⟩
          rw [ei]
          cases hpd : decide (p = j) with
          | false => exact ifB rfl (no (by rw [hpd]; rfl) _ s14)
          | true =>
          rw [hpd] at no k
          refine ifBF rfl ?_
          have k2 : ∀ H', Same H1 H' → Q (.bl (sameO ys (alongS (rowsB b) (ps' ++ [p]) (some fun z => decide (z = xn))) S && sameO ys (alongS (rowsB b) (ps' ++ [p]) (some S)) S)) H' := fun H' s' => k H' (s1.trans s')
          have ht4 := s14 _ _ ht
          refine ⟨_, rfl, t, ys, rfl, ht4, hn.nd, hn.l8, fun d H5 s5 nd hb => ?_⟩
          have s15 := s14.trans s5
          refine ⟨_, rfl, _, rfl, d, la, ys, S, rfl, hb, hn.l8, s15.pt.sq hlS, fun H6 s6 => ?_⟩
          have s16 := s15.trans s6
          have hb6 := hb.same s6
          have hl6 := s16 _ _ hl
          have own : ((2 ^ idxS ys xn : Nat) : Int) = mOf ys (some fun z => decide (z = xn)) := by
            have := maskS_put (S := fun _ => false) hn.nd (idxS_at hxn) rfl
            rw [maskS_zero, Nat.zero_add] at this
            show _ = ((maskS ys (fun z => decide (z = xn)) : Nat) : Int)
            rw [← this]
            refine congrArg (fun n : Nat => (n : Int)) (maskS_congr fun y _ => ?_)
            unfold putS
            by_cases e : y = xn <;> simp [e]
          refine lc_into ?_
          refine ⟨_, rfl, _, rfl, _, rfl, l, _, _, _, rfl, rfl, SqL.of hl6, at_of (j := j) rfl hfa, fa, _, _, _, rfl, rfl, s16.pt.sq hFS, rfl, ra, _, _, _, rfl, rfl, s16.pt.sq hrS, at1, d, _, rfl, hb6.get hxn, _, rfl, by show 2 ≤ sizeLine; decide, fun ml nml => ?_⟩
          have sml := same_new (o := .lst [V.int ((2 ^ idxS ys xn : Nat) : Int), V.int (maskS ys S : Nat)]) nml
          have hml : upd H6 ml (.lst [V.int ((2 ^ idxS ys xn : Nat) : Int), V.int (maskS ys S : Nat)]) ml = some (.lst [V.int ((2 ^ idxS ys xn : Nat) : Int), V.int (maskS ys S : Nat)]) := upd_same
          refine ⟨ml, rfl, ⟨_, SqL.of hml⟩, ?_⟩
          have s17 := s16.trans sml
          have hb7 := hb6.same sml
          refine lc_overA (p := none) (as := [some (fun z => decide (z = xn)), some S]) (Rel := fun _ (c : Option (Str → Bool)) y => y = .int (mOf ys (alongS (rowsB b) (ps' ++ [p]) c))) it_list rfl (fun _ _ _ _ _ h => h) (fun _ h => nomatch h) (by show 2 < sizeLine; decide) (fun H' kq _ => SqL.of (kq.same _ _ hml)) ?_ ?_
          · intro jx z c hz hc H8 kq8 pt8 R kR
            have s8 := kq8.same
            have ez : z = V.int (mOf ys c) := by
              match jx, hz, hc with
              | 0, hz, hc =>
                cases hz
                cases hc
                rw [own]
              | 1, hz, hc =>
                cases hz
                cases hc
                rfl
              | jx + 2, hz, _ => simp at hz
            subst ez
            refine ⟨rfl, _, rfl, _, rfl, _, rfl, _, rfl, l, d, wa, us, b, ys, ps' ++ [p], q, c, rfl, (s17.trans s8) _ _ hl, hu.pt (s17.trans s8).pt, hb7.same s8, (s17.trans s8).pt.sq hwS, hps, fun x hx => (hlot.me x).mpr hx, hG, fun H9 s9 => kR _ _ (Same.kq s9) s9.pt rfl⟩
          · intro D zs H8 kq8 pt8 nD hD all
            have ezs := All2.map all
            subst ezs
            have s18 := s17.trans kq8.same
            refine ⟨_, rfl, _, rfl, by show 2 ≤ sizeLine; decide, fun ml2 nml2 => ?_⟩
            have sm2 := same_new (o := .lst [V.int (maskS ys S : Nat), V.int (maskS ys S : Nat)]) nml2
            refine ⟨.list [.int (mOf ys (alongS (rowsB b) (ps' ++ [p]) (some fun z => decide (z = xn)))), .int (mOf ys (alongS (rowsB b) (ps' ++ [p]) (some S)))], .list [.int (maskS ys S : Nat), .int (maskS ys S : Nat)], .lst (SqL.of (sm2 _ _ hD)) (.cons (.int _) (.cons (.int _) .nil)), .lst (SqL.of upd_same) (.cons (.int _) (.cons (.int _) .nil)), rfl, rfl, ?_⟩
            have := k2 _ (s18.trans sm2)
            rw [sameO_mask, sameO_mask] at this
            have ee : PyData.eqv (.list [.int (mOf ys (alongS (rowsB b) (ps' ++ [p]) (some fun z => decide (z = xn)))), .int (mOf ys (alongS (rowsB b) (ps' ++ [p]) (some S)))]) (.list [.int (maskS ys S : Nat), .int (maskS ys S : Nat)]) = ((mOf ys (alongS (rowsB b) (ps' ++ [p]) (some fun z => decide (z = xn))) == ((maskS ys S : Nat) : Int)) && (mOf ys (alongS (rowsB b) (ps' ++ [p]) (some S)) == ((maskS ys S : Nat) : Int))) := by
              show (_ && (_ && true)) = _
              rw [Bool.and_true]
              rfl
            rw [ee]
            exact this
end
end K25
set_option Elab.async false
set_option linter.all false
set_option maxRecDepth 100000
set_option maxHeartbeats 4000000
namespace PM
open PySem PySem.Spec PyProof.Rows L2 ZX ZR
/-- what a class of objects is told of -/
structure PgC (K : PySem.W.Frag) (C : Addr) : Prop where
  ty : ∀ {H : Hp} {a dx : Addr} {fs : List (Str × V)}, H a = some (.ins C dx fs) → TyX K H (.ref a) (.ref C)
  tu : PySem.W.kitOne K (.ref C) (.type "tuple") = some false
  ki : PySem.W.kitOne K (.ref C) (.type "int") = some false
end PM
namespace K25
open PySem PySem.Spec PyProof.Rows L2 ZX PM ZR
/-- what stands on -/
structure Mv (K : PySem.W.Frag) (H H' : Hp) : Prop where
  pt : Pt H H'
  ty : ∀ {v : V} {t : Value}, TyX K H v t → TyX K H' v t
  di : ∀ {a : Addr} {kvs : List (Key × V)}, H a = some (.dK kvs) → ∃ kvs', H' a = some (.dK kvs')
  li : ∀ {a : Addr} {xs : List V}, SqL K H a xs → ∃ ys, SqL K H' a ys
  ob : ∀ {a C dx : Addr} {fs : List (Str × V)}, H a = some (.ins C dx fs) → H' a = some (.ins C dx fs)
theorem Mv.same {K : PySem.W.Frag} {H H' : Hp} (s : Same H H') : Mv K H H' := ⟨s.pt, fun h => h.same s, fun h => ⟨_, s _ _ h⟩, fun {a xs} h => ⟨xs, h.imp (fun h => h.imp (s _ _) fun ⟨o, h⟩ => ⟨o, s _ _ h⟩) id⟩, fun h => s _ _ h⟩
theorem Mv.trans {K : PySem.W.Frag} {H H1 H2 : Hp} (a : Mv K H H1) (b : Mv K H1 H2) : Mv K H H2 := ⟨a.pt.trans b.pt, fun h => b.ty (a.ty h), fun h => let ⟨_, h⟩ := a.di h; b.di h, fun h => let ⟨_, h⟩ := a.li h; b.li h, fun h => b.ob (a.ob h)⟩
theorem Mv.hand {K : PySem.W.Frag} {H H' : Hp} {p c : Addr} (hh : HandAt H p c) (hh' : HandAt H' p c) (k : Kp p H H') : Mv K H H' := by
  obtain ⟨cs, i, g, kk, d, hh⟩ := hh
  obtain ⟨cs', i', g', kk', d', hh'⟩ := hh'
  have hp := hh.hp
  have hp' := hh'.hp
  have ne : ∀ {a : Addr} {o : HO}, H a = some o → (∀ kvs, o ≠ .dK kvs) → H' a = some o := fun {a o} h q => k _ _ (fun e => by
    subst e
    rw [hp] at h
    exact q _ (Option.some.inj h).symm) h
  have dk : ∀ {a : Addr} {kvs : List (Key × V)}, H a = some (.dK kvs) → ∃ kvs', H' a = some (.dK kvs') := fun {a kvs} h => by
    by_cases e : a = p
    · subst e
      exact ⟨_, hp'⟩
    · exact ⟨_, k _ _ e h⟩
  refine ⟨Kp.ptK hp k, fun {v t} h => ?_, dk, fun {a xs} h => ⟨xs, h.imp (fun h => h.imp (fun h => ne h (by intro _ z; cases z)) fun ⟨o, h⟩ => ⟨o, ne h (by intro _ z; cases z)⟩) id⟩, fun h => ne h (by intro _ z; cases z)⟩
  cases h with
  | base h =>
    cases h with
    | non => exact .base .non
    | bl x => exact .base (.bl x)
    | int i => exact .base (.int i)
    | str x => exact .base (.str x)
    | flt x => exact .base (.flt x)
    | lst e => exact .base (.lst (ne e (by intro _ z; cases z)))
    | frz e => exact .base (.frz (ne e (by intro _ z; cases z)))
    | tup e => exact .base (.tup (ne e (by intro _ z; cases z)))
    | dK e =>
      obtain ⟨_, e⟩ := dk e
      exact .base (.dK e)
    | dT e => exact .base (.dT (ne e (by intro _ z; cases z)))
    | ins e cl ha hn ht hm => exact .base (.ins (ne e (by intro _ z; cases z)) cl ha hn ht hm)
  | byt b => exact .byt b
  | set e => exact .set (ne e (by intro _ z; cases z))
  | kList e c => exact .kList e c
  | kTuple e c => exact .kTuple e c
  | kDict e c => exact .kDict e c
  | fTuple e => exact .fTuple (ne e (by intro _ z; cases z))
  | fDict e => exact .fDict (ne e (by intro _ z; cases z))
section
variable {K : PySem.W.Frag} {H H' : Hp}
theorem itm_mv (m : Mv K H H') {v : V} {c : Option Int} (h : Itm K H v c) : Itm K H' v c := by
  cases h with
  | int i => exact .int i
  | oth h =>
    refine .oth ?_
    cases h with
    | bl b => exact .bl b
    | oth h e => exact .oth (m.ty h) e
theorem itl_mv (m : Mv K H H') {v : V} (h : ItL K H v) : ItL K H' v := by
  rcases h with h | h
  · exact .inl h
  · cases h with
    | lst h =>
      obtain ⟨_, h⟩ := m.li h
      exact .inr (.lst h)
    | tup h => exact .inr (.tup (m.pt.sq h))
    | dic h =>
      obtain ⟨_, h⟩ := m.di h
      exact .inr (.dic h)
theorem wy_mv (m : Mv K H H') {v : V} {w : Option (List (Option Int))} (h : WyTh K H v w) : WyTh K H' v w := by
  rcases h with ⟨t, h1, h2⟩ | ⟨a, xs, cs, e, h1, h2, h3⟩
  · exact .inl ⟨t, m.ty h1, h2⟩
  · exact .inr ⟨a, xs, cs, e, m.pt.sq h1, h2.imp fun _ _ q => itm_mv m q, h3⟩
theorem lot_mv (m : Mv K H H') {v : V} {ys : List Str} {r : Bool} (h : LotTh K H v ys r) : LotTh K H' v ys r := by
  rcases h with ⟨t, h1, h2⟩ | ⟨a, xs, e, h1, h2, h3⟩
  · exact .inl ⟨t, m.ty h1, h2⟩
  · exact .inr ⟨a, xs, e, m.pt.sq h1, fun x hx => itl_mv m (h2 x hx), h3⟩
theorem lt_mv (m : Mv K H H') {v : V} {ys : List Str} {L : Option (Str → Bool)} (h : LtTh K H v ys L) : LtTh K H' v ys L := by
  rcases h with ⟨h, e⟩ | ⟨h, S, a, e1, e2, h2⟩
  · exact .inl ⟨lot_mv m h, e⟩
  · exact .inr ⟨lot_mv m h, S, a, e1, e2, m.pt.sq h2⟩
theorem rg_mv (m : Mv K H H') {v : V} {b : List Rw} {ys : List Str} {r : Bool} (h : RgTh K H v b ys r) : RgTh K H' v b ys r := by
  rcases h with ⟨t, h1, h2⟩ | ⟨a, xs, e, h1, h2⟩ | ⟨a, u1, u2, u3, c, w, L, e, h1, h2, h3, h4, h5⟩
  · exact .inl ⟨t, m.ty h1, h2⟩
  · exact .inr (.inl ⟨a, xs, e, m.pt.sq h1, h2⟩)
  · exact .inr (.inr ⟨a, u1, u2, u3, c, w, L, e, m.pt.sq h1, itm_mv m h2, wy_mv m h3, lt_mv m h4, h5⟩)
/-- a thing to be bent to, or put for a part -/
inductive Bv (K : PySem.W.Frag) (C : Addr) (H : Hp) : V → Prop
  | flat {v : V} (h : flatV v = true) : Bv K C H v
  | lst {a : Addr} {xs : List V} (h : SqL K H a xs) : Bv K C H (.ref a)
  | dic {a : Addr} {kvs : List (Key × V)} (h : H a = some (.dK kvs)) : Bv K C H (.ref a)
  | prog {a dx : Addr} {fs : List (Str × V)} (h : H a = some (.ins C dx fs)) : Bv K C H (.ref a)
  | tup {a : Addr} {xs : List V} (h : SqT K H a xs) (i : ∀ x ∈ xs, ItL K H x) (l : xs.length ≤ 50000) (f : xs.length ≠ 3 ∨ xs.all flatV = true) : Bv K C H (.ref a)
theorem bv_mv {C : Addr} (m : Mv K H H') {v : V} (h : Bv K C H v) : Bv K C H' v := by
  cases h with
  | flat h => exact .flat h
  | lst h =>
    obtain ⟨_, h⟩ := m.li h
    exact .lst h
  | dic h =>
    obtain ⟨_, h⟩ := m.di h
    exact .dic h
  | prog h => exact .prog (m.ob h)
  | tup h i l f => exact .tup (m.pt.sq h) (fun x hx => itl_mv m (i x hx)) l f
theorem itl_itm {v : V} (h : ItL K H v) : ∃ c, Itm K H v c := by
  rcases h with h | h
  · cases v with
    | non => exact ⟨_, .oth (.oth (.base .non) rfl)⟩
    | bl b => exact ⟨_, .oth (.bl b)⟩
    | int i => exact ⟨_, .int i⟩
    | str x => exact ⟨_, .oth (.oth (.base (.str x)) rfl)⟩
    | _ => cases h
  · cases h with
    | lst h => exact ⟨_, .oth (.oth (tyL h) rfl)⟩
    | tup h => exact ⟨_, .oth (.oth (tyT h) rfl)⟩
    | dic h => exact ⟨_, .oth (.oth (.base (.dK h)) rfl)⟩
theorem itls {xs : List V} (h : ∀ x ∈ xs, ItL K H x) : ∃ cs, All2 (Itm K H) xs cs := by
  induction xs with
  | nil => exact ⟨[], .nil⟩
  | cons x xs ih =>
    obtain ⟨c, hc⟩ := itl_itm (h x List.mem_cons_self)
    obtain ⟨cs, hcs⟩ := ih fun y hy => h y (List.mem_cons_of_mem _ hy)
    exact ⟨c :: cs, .cons hc hcs⟩
/-- what is no tuple -/
def NoTup (K : PySem.W.Frag) (H : Hp) (v : V) : Prop := ∃ t, TyX K H v t ∧ PySem.W.kitOne K t (.type "tuple") = some false
theorem flat_no {v : V} (h : flatV v = true) : NoTup K H v := by
  cases v with
  | non => exact ⟨_, .base .non, rfl⟩
  | bl b => exact ⟨_, .base (.bl b), rfl⟩
  | int i => exact ⟨_, .base (.int i), rfl⟩
  | str x => exact ⟨_, .base (.str x), rfl⟩
  | _ => cases h
theorem bv_or {C : Addr} (O : PgC K C) {v : V} (h : Bv K C H v) : NoTup K H v ∨ ∃ a xs, v = .ref a ∧ SqT K H a xs ∧ (∀ x ∈ xs, ItL K H x) ∧ xs.length ≤ 50000 ∧ (xs.length ≠ 3 ∨ xs.all flatV = true) := by
  cases h with
  | flat h => exact .inl (flat_no h)
  | lst h => exact .inl ⟨_, tyL h, rfl⟩
  | dic h => exact .inl ⟨_, .base (.dK h), rfl⟩
  | prog h => exact .inl ⟨_, O.ty h, O.tu⟩
  | tup h i l f => exact .inr ⟨_, _, rfl, h, i, l, f⟩
theorem bv_itm {C : Addr} (O : PgC K C) {v : V} (h : Bv K C H v) : ∃ c, Itm K H v c := by
  cases h with
  | flat h => exact itl_itm (.inl h)
  | lst h => exact itl_itm (.inr (.lst h))
  | dic h => exact itl_itm (.inr (.dic h))
  | prog h => exact ⟨_, .oth (.oth (O.ty h) O.ki)⟩
  | tup h i l f => exact itl_itm (.inr (.tup h))
theorem bv_way {C : Addr} (O : PgC K C) {v : V} (h : Bv K C H v) : ∃ w, WyTh K H v w := by
  rcases bv_or O h with ⟨t, h1, h2⟩ | ⟨a, xs, rfl, h1, h2, h3, _⟩
  · exact ⟨_, .inl ⟨t, h1, h2, rfl⟩⟩
  · obtain ⟨cs, hcs⟩ := itls h2
    exact ⟨_, .inr ⟨a, xs, cs, rfl, h1, hcs, h3, rfl⟩⟩
theorem lt_of {v : V} {ys : List Str} {r : Bool} (h : LotTh K H v ys r) : ∃ L, LtTh K H v ys L := by
  cases r with
  | false => exact ⟨none, .inl ⟨h, rfl⟩⟩
  | true =>
    have h' := h
    rcases h' with ⟨t, _, _, e⟩ | ⟨a, xs, rfl, h1, h2, h3, e⟩
    · cases e
    · refine ⟨some fun y => decide (V.str y ∈ xs), .inr ⟨h, _, a, rfl, rfl, ?_⟩⟩
      have := of_decide_eq_true (show lotV ys xs = true from e.symm)
      rw [← this]
      exact h1
theorem bv_lot {C : Addr} (O : PgC K C) {v : V} {ys : List Str} (h : Bv K C H v) : ∃ L, LtTh K H v ys L := by
  rcases bv_or O h with ⟨t, h1, h2⟩ | ⟨a, xs, rfl, h1, h2, h3, _⟩
  · exact lt_of (r := false) (.inl ⟨t, h1, h2, rfl⟩)
  · exact lt_of (.inr ⟨a, xs, rfl, h1, h2, by omega, rfl⟩)
theorem flat_way {v : V} (h : flatV v = true) : ∃ w, WyTh K H v w := by
  obtain ⟨t, h1, h2⟩ := flat_no (K := K) (H := H) h
  exact ⟨_, .inl ⟨t, h1, h2, rfl⟩⟩
theorem bv_ring {C : Addr} (O : PgC K C) {v : V} {b : List Rw} {ys : List Str} (h : Bv K C H v) : ∃ r, RgTh K H v b ys r := by
  rcases bv_or O h with ⟨t, h1, h2⟩ | ⟨a, xs, rfl, h1, h2, h3, h4⟩
  · exact ⟨_, .inl ⟨t, h1, h2, rfl⟩⟩
  · by_cases h5 : xs.length = 3
    · have h6 := h4.resolve_left fun q => q h5
      match xs, h5, h6, h1, h2 with
      | [u1, u2, u3], _, h6, h1, h2 =>
        simp at h6
        obtain ⟨c, hc⟩ := itl_itm (h2 u1 List.mem_cons_self)
        obtain ⟨w, hw⟩ := flat_way (K := K) (H := H) h6.2.1
        obtain ⟨t, g1, g2⟩ := flat_no (K := K) (H := H) h6.2.2
        obtain ⟨L, hL⟩ := lt_of (K := K) (H := H) (v := u3) (ys := ys) (r := false) (.inl ⟨t, g1, g2, rfl⟩)
        exact ⟨_, .inr (.inr ⟨a, u1, u2, u3, c, w, L, rfl, h1, hc, hw, hL, rfl⟩)⟩
    · exact ⟨_, .inr (.inl ⟨a, xs, rfl, h1, h5, rfl⟩)⟩
/-- a triple of such parts -/
theorem rg_tri {C : Addr} (O : PgC K C) {a : Addr} {u1 u2 u3 : V} {b : List Rw} {ys : List Str} (h : SqT K H a [u1, u2, u3]) (h1 : Bv K C H u1) (h2 : Bv K C H u2) (h3 : Bv K C H u3) : ∃ r, RgTh K H (.ref a) b ys r := by
  obtain ⟨c, hc⟩ := bv_itm O h1
  obtain ⟨w, hw⟩ := bv_way O h2
  obtain ⟨L, hL⟩ := bv_lot O (ys := ys) h3
  exact ⟨_, .inr (.inr ⟨a, u1, u2, u3, c, w, L, rfl, h, hc, hw, hL, rfl⟩)⟩
theorem deep_bv {C : Addr} {v : V} (h : Deep H v) : Bv K C H v := by
  cases h with
  | non => exact .flat rfl
  | str => exact .flat rfl
  | nil h => exact .tup (.inl (.inl h)) (fun _ h => nomatch h) (by decide) (.inl (by decide))
  | lst h d => exact .lst (.inl (.inl h))
  | tup h d =>
    refine .tup (.inl (.inl h)) (fun x hx => ?_) (by show 1 ≤ 50000; decide) (.inl (by show 1 ≠ 3; decide))
    rw [List.mem_singleton.mp hx]
    cases d with
    | non => exact .inl rfl
    | str => exact .inl rfl
    | nil e1 => exact .inr (.tup (.inl (.inl e1)))
    | lst e1 _ => exact .inr (.lst (.inl (.inl e1)))
    | tup e1 _ => exact .inr (.tup (.inl (.inl e1)))
    | dic e1 _ => exact .inr (.dic e1)
  | dic h d => exact .dic h
theorem bv_flats {C a : Addr} {xs : List V} (h : SqT K H a xs) (f : xs.all flatV = true) (l : xs.length ≤ 50000) : Bv K C H (.ref a) := .tup h (fun x hx => .inl (List.all_eq_true.mp f x hx)) l (.inr f)
end
end K25
set_option Elab.async false
set_option linter.all false
set_option maxRecDepth 100000
set_option maxHeartbeats 4000000
namespace K25
open PySem PySem.Spec PyProof.Rows L2 ZX PM ZR
abbrev sLJudged : Stmt := top 71
def spLJudged (K : PySem.W.Frag) (C : Addr) : Sp := fun vs H Q _ => ∃ (x l t : Addr) (v : V) (us : List V) (b : List Rw) (ys : List Str) (r : Bool), vs = [.ref x, .ref l, .ref t, v] ∧ PrAt K C H x b ∧ H l = some (.lst us) ∧ Tvs K H us ((tabB b).map dE) ∧ Good b ∧ IsLot ys ((rowsB b).flatMap namesR) ∧ H t = some (.lst (ys.map V.str)) ∧ RgTh K H v b ys r ∧ ∀ H', Same H H' → Q (.bl true) H'
section
variable {P : Program} {w : World} {K : PySem.W.Frag} {mg : Str → Option Value} {base : Heap}
theorem scLJudged : FnScope ["_law_program", "_law_table_here", "_law_names_here", "_law_thing", "_law_flag"] ["_law_program", "_law_table_here", "_law_names_here", "_law_thing"] (defScope sLJudged) := ⟨rfl, rfl, rfl, by decide +kernel, rfl, by decide +kernel, by decide +kernel⟩
theorem ok_ljudged {C f : Addr} {fd : FuncData} (F : FnP K "_law_is_judged" sLJudged f fd) (T : Bi mg) (C_is_ring : Cal P w K mg base "is_ring" 5 ["program", "thing"] (spIsRing K C)) (C__law_is_ring : Cal P w K mg base "_law_is_ring" 3 ["_law_table_here", "_law_names_here", "_law_thing"] (spLIsRing K)) : FnOk P w K mg base CX0 6 f fd ["_law_program", "_law_table_here", "_law_names_here", "_law_thing"] (spLJudged K C) := by
  refine F.ok scLJudged (fun vs H Q E h => ?_) (fun cdv A outer s H vs Q E hr h => ?_)
  · obtain ⟨x, l, t, v, us, b, ys, r, rfl, _⟩ := h
    rfl
  · obtain ⟨x, l, t, v, us, b, ys, r, rfl, hp, hl, hu, hG, hlot, ht, hv, k⟩ := h
    have hr3 := hr.mono (show 3 ≤ 5 by decide)
    refine ⟨_, PSs.nox (pss_cons (ps_set (i := 4) scLJudged.nd rfl (Or.inl rfl) (pcal C_is_ring hr rfl (pa_cons (pv 0) (pa_cons (pv 3) pa_nil))))
    (pss_one (ps_ret (pe_and (pe_callB call_isi (by rfl) T.b_isinstance (by decide +kernel) (pa_cons (pv 4) (pa_cons (pe_bltn (v := .ty "bool") (by rfl) T.b_bool (by decide +kernel) rfl) pa_nil))) (pe_one (pe_cmpR op_eq (pv 4) (pcal C__law_is_ring hr3 rfl (pa_cons (pv 1) (pa_cons (pv 2) (pa_cons (pv 3) pa_nil)))) (nomark _))))))), ?_⟩
    refine ⟨_, rfl, _, rfl, x, v, b, ys, r, rfl, hp, hlot, hv, fun H1 s1 => ?_⟩
    refine ⟨_, rfl, _, _, _, _, true, rfl, .ty "bool", .base (.bl r), rfl, _, rfl, ifB rfl ?_⟩
    refine ⟨_, rfl, _, rfl, _, rfl, _, rfl, l, t, v, us, b, ys, r, rfl, s1 _ _ hl, hu.pt s1.pt, hG, hlot, s1 _ _ ht, rg_mv (.same s1) hv, fun H2 s2 => ?_⟩
    refine ⟨rfl, ?_⟩
    have e : decide (V.bl r = V.bl r) = true := decide_eq_true rfl
    rw [e]
    exact k _ (s1.trans s2)
end
end K25
set_option Elab.async false
set_option linter.all false
set_option maxRecDepth 100000
set_option maxHeartbeats 4000000
namespace K25
open PySem PySem.Spec PyProof.Rows L2 ZX PM ZR
abbrev sLBent : Stmt := top 69
/-- a tuple of flat things -/
def Fl (K : PySem.W.Frag) (H : Hp) (v : V) (n : Nat) : Prop := ∃ a xs, v = .ref a ∧ SqT K H a xs ∧ xs.all flatV = true ∧ xs.length ≤ n
section
variable {K : PySem.W.Frag} {H H' : Hp}
theorem Fl.of {a : Addr} {xs : List V} {n : Nat} (h : SqT K H a xs) (f : xs.all flatV = true) (l : xs.length ≤ n) : Fl K H (.ref a) n := ⟨a, xs, rfl, h, f, l⟩
theorem Fl.pt {v : V} {n : Nat} (p : Pt H H') (h : Fl K H v n) : Fl K H' v n := by
  obtain ⟨a, xs, e, h1, h2⟩ := h
  exact ⟨a, xs, e, p.sq h1, h2⟩
theorem Fl.bv {C : Addr} {v : V} {n : Nat} (h : Fl K H v n) (l : n ≤ 50000) : Bv K C H v := by
  obtain ⟨a, xs, rfl, h1, h2, h3⟩ := h
  exact bv_flats h1 h2 (Nat.le_trans h3 l)
theorem cut_fl {xs : List V} {lo hi : Option Int} (f : xs.all flatV = true) : (cutV xs lo hi).all flatV = true := List.all_eq_true.mpr fun x hx => List.all_eq_true.mp f x (List.mem_of_mem_drop (List.mem_of_mem_take hx))
theorem cut_len {xs : List V} {lo hi : Option Int} : (cutV xs lo hi).length ≤ xs.length := by
  unfold cutV
  rw [List.length_take, List.length_drop]
  omega
theorem app_fl {xs ys : List V} (f : xs.all flatV = true) (g : ys.all flatV = true) : (xs ++ ys).all flatV = true := by
  rw [List.all_append, f, g]
  rfl
theorem rev_fl {xs : List V} (f : xs.all flatV = true) : xs.reverse.all flatV = true := by
  rw [List.all_reverse]
  exact f
end
theorem plV_fl (ns : List Nat) : (plV ns).all flatV = true := flat_ints ns
theorem Mv.lst {K : PySem.W.Frag} {H : Hp} {a : Addr} {xs ys : List V} (h : H a = some (.lst xs)) : Mv K H (upd H a (.lst ys)) := by
  have ne : ∀ {b : Addr} {o : HO}, H b = some o → (∀ zs, o ≠ .lst zs) → upd H a (.lst ys) b = some o := fun {b o} hb q => by
    rw [upd_ne (fun e => by
      subst e
      rw [h] at hb
      exact q _ (Option.some.inj hb).symm)]
    exact hb
  have li : ∀ {b : Addr} {zs : List V}, H b = some (.lst zs) → ∃ zs', upd H a (.lst ys) b = some (.lst zs') := fun {b zs} hb => by
    by_cases e : b = a
    · subst e
      exact ⟨_, upd_same⟩
    · exact ⟨_, by rw [upd_ne e]; exact hb⟩
  refine ⟨Pt.lst h, fun {v t} hv => ?_, fun hb => ⟨_, ne hb (by intro _ z; cases z)⟩, fun {b zs} hb => ?_, fun hb => ne hb (by intro _ z; cases z)⟩
  · cases hv with
    | base h =>
      cases h with
      | non => exact .base .non
      | bl x => exact .base (.bl x)
      | int i => exact .base (.int i)
      | str x => exact .base (.str x)
      | flt x => exact .base (.flt x)
      | lst e =>
        obtain ⟨_, e⟩ := li e
        exact .base (.lst e)
      | frz e => exact .base (.frz (ne e (by intro _ z; cases z)))
      | tup e => exact .base (.tup (ne e (by intro _ z; cases z)))
      | dK e => exact .base (.dK (ne e (by intro _ z; cases z)))
      | dT e => exact .base (.dT (ne e (by intro _ z; cases z)))
      | ins e cl ha hn ht hm => exact .base (.ins (ne e (by intro _ z; cases z)) cl ha hn ht hm)
    | byt b => exact .byt b
    | set e => exact .set (ne e (by intro _ z; cases z))
    | kList e c => exact .kList e c
    | kTuple e c => exact .kTuple e c
    | kDict e c => exact .kDict e c
    | fTuple e => exact .fTuple (ne e (by intro _ z; cases z))
    | fDict e => exact .fDict (ne e (by intro _ z; cases z))
  · rcases hb with (hb | ⟨o, hb⟩) | hb
    · obtain ⟨zs', hb⟩ := li hb
      exact ⟨zs', .inl (.inl hb)⟩
    · exact ⟨zs, .inl (.inr ⟨o, ne hb (by intro _ z; cases z)⟩)⟩
    · exact ⟨zs, .inr hb⟩
/-- a list of things put for parts -/
structure Lb (K : PySem.W.Frag) (C : Addr) (H : Hp) (l : Addr) : Prop where
  ex : ∃ xs, H l = some (.lst xs) ∧ (∀ x ∈ xs, Bv K C H x) ∧ xs ≠ [] ∧ xs.length ≤ 20
theorem Lb.mv {K : PySem.W.Frag} {C : Addr} {H H' : Hp} {l : Addr} (h : Lb K C H l) (m : Mv K H H') (hl : ∀ xs, H l = some (.lst xs) → H' l = some (.lst xs)) : Lb K C H' l := by
  obtain ⟨xs, h1, h2, h3⟩ := h.ex
  exact ⟨xs, hl _ h1, fun x hx => bv_mv m (h2 x hx), h3⟩
def spLBent (K : PySem.W.Frag) (C : Addr) : Sp := fun vs H Q _ => ∃ (h c l t x : Addr) (v : V) (us : List V) (b : List Rw) (ys : List Str) (p : Nat) (hs : List Nat) (L : List Str), vs = [.ref h, v, .ref l, .ref t, .ref x] ∧ HandAt H h c ∧ Tri K H (rowsB b).length v p hs L ∧ H l = some (.lst us) ∧ Tvs K H us ((tabB b).map dE) ∧ Good b ∧ IsLot ys ((rowsB b).flatMap namesR) ∧ H t = some (.lst (ys.map V.str)) ∧ PrAt K C H x b ∧
  ∀ (v' : V) (H' : Hp), HandAt H' h c → Kp h H H' → (∃ r, RgTh K H' v' b ys r) → Q v' H'
section
variable {P : Program} {w : World} {K : PySem.W.Frag} {mg : Str → Option Value} {base : Heap}
theorem scLBent : FnScope ["_law_hand_here", "_law_thing", "_law_table_here", "_law_names_here", "_law_program", "_law_place", "_law_way", "_law_lot_here", "_law_at", "_law_other", "_law_drawn", "_law_odd", "_law_ways", "_law_lots", "_law_kind"] ["_law_hand_here", "_law_thing", "_law_table_here", "_law_names_here", "_law_program"] (defScope sLBent) := ⟨rfl, rfl, rfl, by decide +kernel, rfl, by decide +kernel, by decide +kernel⟩
theorem ok_lbent {C f : Addr} {fd : FuncData} (F : FnP K "_law_bent" sLBent f fd) (T : Bi mg) (O : PgC K C) (C__law_draw : Cal P w K mg base "_law_draw" 1 ["_law_hand_here", "_law_many"] spDraw) (C__law_any : Cal P w K mg base "_law_any" 2 ["_law_hand_here", "_law_things"] (spAny K)) (C__law_deep : Cal P w K mg base "_law_deep" 2 ["_law_hand_here"] spDeep) (C__law_lot : Cal P w K mg base "_law_lot" 1 ["_law_names_here", "_law_mask_here"] (spLLot K)) : FnOk P w K mg base CX0 3 f fd ["_law_hand_here", "_law_thing", "_law_table_here", "_law_names_here", "_law_program"] (spLBent K C) := by
  refine F.ok scLBent (fun vs H Q E h => ?_) (fun cdv A outer s H vs Q E hr h => ?_)
  · obtain ⟨h, c, l, t, x, v, us, b, ys, p, hs, L, rfl, _⟩ := h
    rfl
  · obtain ⟨h, c, l, t, x, v, us, b, ys, p, hs, L, rfl, hh0, ⟨ta, wa, la, rfl, hta, hwa, hla, hpR, hs1, hs2, hL8⟩, hl, hut, hG, hlot, ht, hp, k⟩ := h
    have hr__law_draw := hr.mono (show 1 ≤ 2 by decide)
    have hr__law_lot := hr.mono (show 1 ≤ 2 by decide)
    have hr__law_any := hr
    have hr__law_deep := hr
    refine ⟨_, PSs.nox (pss_cons (ps_par3 (by rfl) scLBent.nd (i := 5) (j := 6) (l := 7) rfl rfl rfl (by decide) (by decide) (by decide) rfl rfl rfl (pa_cons (pe_ix ix_tup (pv 1) pe_int (fun _ _ => rfl)) (pa_cons (pe_ix ix_tup (pv 1) pe_int (fun _ _ => rfl)) (pa_cons (pe_ix ix_tup (pv 1) pe_int (fun _ _ => rfl)) pa_nil))) (by rfl))
    (pss_cons (ps_par (by rfl) scLBent.nd (i := 8) (j := 9) rfl rfl (by decide) rfl rfl (pa_cons (pcal C__law_draw hr__law_draw rfl (pa_cons (pv 0) (pa_cons (pe_callB call_len_seq (by rfl) T.b_len (by decide +kernel) (pa_cons (pv 6) pa_nil)) pa_nil))) (pa_cons (pcal C__law_draw hr__law_draw rfl (pa_cons (pv 0) (pa_cons (pe_op op_add (pe_callB call_len_seq (by rfl) T.b_len (by decide +kernel) (pa_cons (pv 2) pa_nil)) pe_int) pa_nil))) pa_nil)) (by rfl))
    (pss_cons (ps_set (i := 10) scLBent.nd rfl (Or.inl rfl) (pcal C__law_lot hr__law_lot rfl (pa_cons (pv 3) (pa_cons (pcal C__law_draw hr__law_draw rfl (pa_cons (pv 0) (pa_cons (pe_op op_oneShl pe_int (pe_callB call_len_seq (by rfl) T.b_len (by decide +kernel) (pa_cons (pv 3) pa_nil))) pa_nil))) pa_nil))))
    (pss_cut (ps_set (i := 11) scLBent.nd rfl (Or.inl rfl) (pe_lst (pa_cons pe_non (pa_cons pe_bl (pa_cons (pe_un un_neg pe_int) (pa_cons (pe_op op_pow pe_int pe_int) (pa_cons pe_str (pa_cons (pe_tup (pa_cons (pv 5) pa_nil)) (pa_cons (pcal C__law_deep hr__law_deep rfl (pa_cons (pv 0) pa_nil)) (pa_cons (pv 4) pa_nil))))))))))
    (pss_cut (ps_set (i := 12) scLBent.nd rfl (Or.inl rfl) (pe_lst (pa_cons (pe_op op_catZ (pv 6) (pe_slice sl_tupZ (pv 6) (po_some pe_int) po_none)) (pa_cons (pe_slice sl_tupZ (pv 6) (po_some pe_int) po_none) (pa_cons (pe_slice sl_tupZ (pv 6) po_none (po_some (pe_un un_neg pe_int))) (pa_cons (pe_op op_catZ (pv 6) (pv 6)) (pa_cons (ZR.pe_revT (pv 6)) (pa_cons (pe_callTy call_list_of (by rfl) T.b_list (by decide +kernel) (pa_cons (pv 6) pa_nil)) (pa_cons (pe_op op_catZ (pe_op op_catZ (pe_slice sl_tupZ (pv 6) po_none (po_some (pv 8))) (pe_tup (pa_cons (pv 9) pa_nil))) (pe_slice sl_tupZ (pv 6) (po_some (pe_op op_add (pv 8) pe_int)) po_none)) pa_nil)))))))))
    (pss_cut (ps_expr (pe_bm PySem.F.plainAttrs_list PySem.F.slot_list_extend PySem.F.type_list_extend mt_extend (pv 12) (pa_cons (pe_lst (pa_cons (pe_op op_catZ (pe_slice sl_tupZ (pv 6) po_none (po_some (pv 8))) (pe_slice sl_tupZ (pv 6) (po_some (pe_op op_add (pv 8) pe_int)) po_none)) (pa_cons (pe_op op_catZ (pv 6) (pe_tup (pa_cons (pv 5) pa_nil))) (pa_cons (pe_slice sl_tupZ (pv 6) po_none (po_some pe_int)) (pa_cons (pe_tup pa_nil) (pa_cons (pe_op op_catZ (pe_op op_catZ (pv 6) (pe_slice sl_tupZ (pv 6) (po_some pe_int) po_none)) (pe_slice sl_tupZ (pv 6) (po_some pe_int) po_none)) (pa_cons (pe_op op_catZ (pv 6) (pe_tup (pa_cons pe_bl pa_nil))) pa_nil))))))) pa_nil)))
    (pss_cut (ps_set (i := 13) scLBent.nd rfl (Or.inl rfl) (pe_lst (pa_cons (pv 10) (pa_cons (pe_slice sl_tupZ (pv 7) (po_some pe_int) po_none) (pa_cons (pe_slice sl_tupZ (pv 7) po_none (po_some (pe_un un_neg pe_int))) (pa_cons (pe_op op_catZ (pv 7) (pv 7)) (pa_cons (ZR.pe_revT (pv 7)) (pa_cons (pe_callTy call_list_of (by rfl) T.b_list (by decide +kernel) (pa_cons (pv 7) pa_nil)) (pa_cons (pe_tup pa_nil) (pa_cons (pe_op op_catZ (pv 7) (pe_tup (pa_cons pe_str pa_nil))) (pa_cons (pe_op op_catZ (pv 7) (pe_tup (pa_cons pe_int pa_nil))) (pa_cons (pv 10) pa_nil))))))))))))
    (pss_cons (ps_set (i := 14) scLBent.nd rfl (Or.inl rfl) (pcal C__law_draw hr__law_draw rfl (pa_cons (pv 0) (pa_cons pe_int pa_nil))))
    (pss_cons (ps_if (pt_cmpR op_lt (pv 14) pe_int (nomark _)) (pss_one (ps_ret (pe_tup (pa_cons (pv 5) (pa_cons (pcal C__law_any hr__law_any rfl (pa_cons (pv 0) (pa_cons (pe_op op_cat (pv 12) (pe_lst (pa_cons (pcal C__law_any hr__law_any rfl (pa_cons (pv 0) (pa_cons (pv 11) pa_nil))) pa_nil))) pa_nil))) (pa_cons (pv 7) pa_nil)))))) pss_nil)
    (pss_cons (ps_if (pt_cmpR op_lt (pv 14) pe_int (nomark _)) (pss_one (ps_ret (pe_tup (pa_cons (pv 5) (pa_cons (pv 6) (pa_cons (pcal C__law_any hr__law_any rfl (pa_cons (pv 0) (pa_cons (pe_op op_cat (pv 13) (pe_lst (pa_cons (pcal C__law_any hr__law_any rfl (pa_cons (pv 0) (pa_cons (pv 11) pa_nil))) pa_nil))) pa_nil))) pa_nil)))))) pss_nil)
    (pss_cons (ps_if (pt_cmpR op_eq (pv 14) pe_int (nomark _)) (pss_one (ps_ret (pe_tup (pa_cons (pcal C__law_any hr__law_any rfl (pa_cons (pv 0) (pa_cons (pe_lst (pa_cons (pv 9) (pa_cons (pe_op op_add (pv 5) pe_int) (pa_cons (pe_op op_sub (pv 5) pe_int) (pa_cons (pe_cmpR op_eq (pv 5) pe_int (nomark _)) (pa_cons (pe_callB call_len_seq (by rfl) T.b_len (by decide +kernel) (pa_cons (pv 2) pa_nil)) (pa_cons (pcal C__law_any hr__law_any rfl (pa_cons (pv 0) (pa_cons (pv 11) pa_nil))) pa_nil))))))) pa_nil))) (pa_cons (pv 6) (pa_cons (pv 7) pa_nil)))))) pss_nil)
    (pss_cut (ps_if (pt_cmpR op_eq (pv 14) pe_int (nomark _)) (pss_one (ps_set (i := 11) scLBent.nd rfl (Or.inl rfl) (pe_lst (pa_cons (pe_lst (pa_cons (pv 5) (pa_cons (pv 6) (pa_cons (pv 7) pa_nil)))) (pa_cons (pe_tup (pa_cons (pv 5) (pa_cons (pv 6) pa_nil))) (pa_cons (pe_tup (pa_cons (pv 5) (pa_cons (pv 6) (pa_cons (pv 7) (pa_cons (pv 7) pa_nil))))) (pa_cons (pe_tup (pa_cons (pv 5) (pa_cons (pv 7) (pa_cons (pv 6) pa_nil)))) (pa_cons (pe_tup pa_nil) (pa_cons (pv 6) (pa_cons (pv 1) pa_nil)))))))))) pss_nil)
    (pss_one (ps_ret (pcal C__law_any hr__law_any rfl (pa_cons (pv 0) (pa_cons (pv 11) pa_nil))))))))))))))))), ?_⟩
    have hwl : (plV hs).length = hs.length := by
      unfold plV
      rw [List.length_map]
    have hul : us.length = (rowsB b).length := by rw [hut.len, List.length_map, tab_len]
    have l30 := hG.l30
    have l8 := hG.n8 ys hlot
    have hlh : l ≠ h := by
      obtain ⟨cs, i1, g1, k1, d1, hh⟩ := hh0
      exact ne_of hl hh.hp (by intro z; cases z)
    have hth : t ≠ h := by
      obtain ⟨cs, i1, g1, k1, d1, hh⟩ := hh0
      exact ne_of ht hh.hp (by intro z; cases z)
    refine ⟨_, rfl, ta, _, _, _, rfl, rfl, hta, rfl, _, rfl, ta, _, _, _, rfl, rfl, hta, rfl, _, rfl, ta, _, _, _, rfl, rfl, hta, rfl, _, _, _, rfl, ?_⟩
    refine ⟨_, rfl, _, rfl, wa, _, rfl, .inr hwa, h, c, _, rfl, hh0, by omega, by omega, fun d1 H1 d10 d11 hh1 ch1 => ?_⟩
    have kp1 := ch1.kp
    have pt1 := hh0.pt kp1
    refine ⟨_, rfl, _, rfl, l, _, rfl, .inl (SqL.of (kp1 _ _ hlh hl)), _, _, rfl, rfl, h, c, _, rfl, hh1, by omega, by omega, fun d2 H2 d20 d21 hh2 ch2 => ⟨_, _, rfl, ?_⟩⟩
    have kp2 := kp1.trans ch2.kp
    refine ⟨_, rfl, _, rfl, _, rfl, t, _, rfl, .inl (SqL.of (kp2 _ _ hth ht)), ys.length, rfl, by rw [List.length_map], by omega, h, c, 2 ^ ys.length, rfl, hh2, ?_, ?_, fun d3 H3 d30 d31 hh3 ch3 => ?_⟩
    · have := Nat.two_pow_pos ys.length
      have e : ((2 : Int) ^ ys.length) = ((2 ^ ys.length : Nat) : Int) := by rw [Int.natCast_pow]; rfl
      rw [e]
      omega
    · have e : ((2 : Int) ^ ys.length) = ((2 ^ ys.length : Nat) : Int) := by rw [Int.natCast_pow]; rfl
      have h2 : 2 ^ ys.length ≤ 2 ^ 8 := Nat.pow_le_pow_right (by decide) l8
      rw [e]
      omega
    have hd3 : d3.toNat < 2 ^ ys.length := by
      have e : ((2 : Int) ^ ys.length) = ((2 ^ ys.length : Nat) : Int) := by rw [Int.natCast_pow]; rfl
      rw [e] at d31
      omega
    obtain ⟨S3, hS3⟩ := maskS_of ys hlot.nd d3.toNat hd3
    have kp3 := kp2.trans ch3.kp
    refine ⟨t, ys, S3, ?_, kp3 _ _ hth ht, l8, fun dr H4 s4 hdr => ?_⟩
    · rw [← hS3, Int.toNat_of_nonneg d30]
      rfl
    have kp4 := kp3.same s4
    have hh4 := hh3.kp s4
    have ptH : ∀ {G : Hp}, Kp h H G → Pt H G := fun k => hh0.pt k
    -- odd things
    refine ⟨fun σ5 H5 => ∃ lo, σ5 = [some (.ref h), some (.ref ta), some (.ref l), some (.ref t), some (.ref x), some (.int p), some (.ref wa), some (.ref la), some (.int d1), some (.int d2), some (.ref dr), some (.ref lo), none, none, none] ∧ HandAt H5 h c ∧ Kp h H H5 ∧ SqT K H5 dr ((ys.filter S3).map V.str) ∧ Lb K C H5 lo ∧ lo ≠ h, ?_, ?_⟩
    · refine ⟨_, rfl, _, _, rfl, rfl, ⟨by decide, by decide, by decide⟩, _, rfl, by show 1 ≤ sizeLine; decide, fun a na => ?_⟩
      have sa := same_new (o := .tup [V.int (p : Nat)]) na
      refine ⟨_, rfl, h, c, rfl, hh4.kp sa, fun v H5 hh5 k5 dp => ⟨_, rfl, by show 8 ≤ sizeLine; decide, fun lo nlo => ?_⟩⟩
      have sl := same_new (o := .lst [V.non, V.bl true, V.int (-1), V.int (10 ^ 29), V.str "", V.ref a, v, V.ref x]) nlo
      have pt5 := (hh4.kp sa).pt k5
      have kp5 := (kp4.same sa).trans k5
      refine ⟨lo, rfl, hh5.kp sl, kp5.same sl, (sa.pt.trans (pt5.trans sl.pt)).sq hdr, ⟨_, upd_same, ?_, by simp, by show 8 ≤ 20; decide⟩, hh5.nep nlo⟩
      have ha5 : SqT K (upd H5 lo (.lst [V.non, V.bl true, V.int (-1), V.int (10 ^ 29), V.str "", V.ref a, v, V.ref x])) a [V.int (p : Nat)] := (pt5.trans sl.pt).sq (.inl (.inl upd_same))
      have hx5 := hp.up (fun o e => sl _ _ (kp5 _ _ (by
        obtain ⟨cs, i1, g1, k1, d1', hh⟩ := hh0
        obtain ⟨dx, v', ra, na', la', rs, ls, yn, hx, _⟩ := hp
        exact ne_of hx hh.hp (by intro z; cases z)) e)) ((ptH kp5).trans sl.pt)
      intro y hy
      simp only [List.mem_cons, List.not_mem_nil, or_false] at hy
      rcases hy with rfl | rfl | rfl | rfl | rfl | rfl | rfl | rfl
      · exact .flat rfl
      · exact .flat rfl
      · exact .flat rfl
      · exact .flat rfl
      · exact .flat rfl
      · exact bv_flats ha5 rfl (by show 1 ≤ 50000; decide)
      · exact bv_mv (.same sl) (deep_bv dp)
      · obtain ⟨dx, v', ra, na', la', rs, ls, yn, hx, _⟩ := hx5
        exact .prog hx
    rintro σ5 H5 ⟨lo, rfl, hh5, kp5, hdr5, hlo5, nlo⟩
    -- ways
    refine ⟨fun σ6 H6 => ∃ lw, σ6 = [some (.ref h), some (.ref ta), some (.ref l), some (.ref t), some (.ref x), some (.int p), some (.ref wa), some (.ref la), some (.int d1), some (.int d2), some (.ref dr), some (.ref lo), some (.ref lw), none, none] ∧ HandAt H6 h c ∧ Kp h H H6 ∧ SqT K H6 dr ((ys.filter S3).map V.str) ∧ Lb K C H6 lo ∧ (∃ xs, H6 lw = some (.lst xs) ∧ xs.length = 7 ∧ ∀ y ∈ xs, Bv K C H6 y) ∧ lw ≠ h ∧ lw ≠ lo ∧ H lw = none, ?_, ?_⟩
    · have w5 := (ptH kp5).sq hwa
      have sz : ∀ n, n ≤ 40000 → n ≤ sizeLine := fun n h => Nat.le_trans h (by decide)
      refine ⟨_, rfl, _, rfl, 1, rfl, wa, _, rfl, w5, fun q1 G1 s1 h1 => ⟨wa, q1, _, _, rfl, rfl, s1.pt.sq w5, h1, ?_, fun q2 G2 s2 h2 => ?_⟩⟩
      · refine sz _ ?_
        have := cut_len (xs := plV hs) (lo := some 1) (hi := none)
        omega
      have t2 := s1.trans s2
      have f2 : Fl K G2 (.ref q2) 20000 := .of h2 (app_fl (plV_fl _) (cut_fl (plV_fl _))) (by
        rw [List.length_append]
        have := cut_len (xs := plV hs) (lo := some 1) (hi := none)
        omega)
      have cl : ∀ {lo hi : Option Int}, (cutV (plV hs) lo hi).length ≤ 9000 := fun {lo hi} => by
        have := cut_len (xs := plV hs) (lo := lo) (hi := hi)
        omega
      refine ⟨_, rfl, 1, rfl, wa, _, rfl, t2.pt.sq w5, fun q3 G3 s3 h3 => ?_⟩
      have t3 := t2.trans s3
      refine ⟨_, rfl, _, rfl, _, rfl, wa, _, rfl, t3.pt.sq w5, fun q4 G4 s4' h4 => ?_⟩
      have t4 := t3.trans s4'
      refine ⟨_, rfl, _, rfl, wa, wa, _, _, rfl, rfl, t4.pt.sq w5, t4.pt.sq w5, sz _ (by omega), fun q5 G5 s5 h5 => ?_⟩
      have t5 := t4.trans s5
      refine ⟨_, rfl, wa, _, rfl, t5.pt.sq w5, fun q6 nq6 => ?_⟩
      have s6 := same_new (o := .tup (plV hs).reverse) nq6
      have t6 := t5.trans s6
      refine ⟨_, rfl, wa, _, rfl, .inr (t6.pt.sq w5), fun q7 nq7 => ?_⟩
      have s7 := same_new (o := .lst (plV hs)) nq7
      have t7 := t6.trans s7
      refine ⟨_, rfl, _, rfl, _, rfl, wa, _, rfl, t7.pt.sq w5, fun q8 G8 s8 h8 => ?_⟩
      have t8 := t7.trans s8
      refine ⟨_, rfl, by show 1 ≤ sizeLine; decide, fun u nu => ?_⟩
      have su := same_new (o := .tup [V.int d2]) nu
      have t8' := t8.trans su
      refine ⟨q8, u, _, _, rfl, rfl, su.pt.sq h8, .inl (.inl upd_same), sz _ (by have := cl (lo := none) (hi := some d1); show _ + 1 ≤ 40000; omega), fun q9 G9 s9 h9 => ?_⟩
      have t9 := t8'.trans s9
      refine ⟨_, rfl, _, rfl, _, _, rfl, rfl, _, rfl, wa, _, rfl, t9.pt.sq w5, fun q10 G10 s10 h10 => ?_⟩
      have t10 := t9.trans s10
      refine ⟨q9, q10, _, _, rfl, rfl, s10.pt.sq h9, h10, sz _ (by rw [List.length_append]; have := cl (lo := none) (hi := some d1); have := cl (lo := some (d1 + 1)) (hi := none); show _ + 1 + _ ≤ 40000; omega), fun q11 G11 s11 h11 => ?_⟩
      have t11 := t10.trans s11
      refine ⟨by show 7 ≤ sizeLine; decide, fun lw nlw => ?_⟩
      have slw := same_new (o := .lst [V.ref q2, V.ref q3, V.ref q4, V.ref q5, V.ref q6, V.ref q7, V.ref q11]) nlw
      have tl := t11.trans slw
      refine ⟨lw, rfl, hh5.kp tl, kp5.same tl, tl.pt.sq hdr5, hlo5.mv (.same tl) (fun xs e => tl _ _ e), ⟨_, upd_same, rfl, ?_⟩, (hh5.kp t11).nep nlw, ?_, (hh5.kp t11).free (kp5.same t11) nlw⟩
      · have e2 : Pt G2 (upd G11 lw (.lst [V.ref q2, V.ref q3, V.ref q4, V.ref q5, V.ref q6, V.ref q7, V.ref q11])) := (((((((((s3.pt.trans s4'.pt).trans s5.pt).trans s6.pt).trans s7.pt).trans s8.pt).trans su.pt).trans s9.pt).trans s10.pt).trans s11.pt).trans slw.pt
        have e3 : Pt G3 (upd G11 lw (.lst [V.ref q2, V.ref q3, V.ref q4, V.ref q5, V.ref q6, V.ref q7, V.ref q11])) := ((((((((s4'.pt.trans s5.pt).trans s6.pt).trans s7.pt).trans s8.pt).trans su.pt).trans s9.pt).trans s10.pt).trans s11.pt).trans slw.pt
        have e4 : Pt G4 (upd G11 lw (.lst [V.ref q2, V.ref q3, V.ref q4, V.ref q5, V.ref q6, V.ref q7, V.ref q11])) := (((((((s5.pt.trans s6.pt).trans s7.pt).trans s8.pt).trans su.pt).trans s9.pt).trans s10.pt).trans s11.pt).trans slw.pt
        have e5 : Pt G5 (upd G11 lw (.lst [V.ref q2, V.ref q3, V.ref q4, V.ref q5, V.ref q6, V.ref q7, V.ref q11])) := ((((((s6.pt.trans s7.pt).trans s8.pt).trans su.pt).trans s9.pt).trans s10.pt).trans s11.pt).trans slw.pt
        have s7l : Same _ (upd G11 lw (.lst [V.ref q2, V.ref q3, V.ref q4, V.ref q5, V.ref q6, V.ref q7, V.ref q11])) := ((((s8.trans su).trans s9).trans s10).trans s11).trans slw
        intro y hy
        simp only [List.mem_cons, List.not_mem_nil, or_false] at hy
        rcases hy with rfl | rfl | rfl | rfl | rfl | rfl | rfl
        · exact (f2.pt e2).bv (by decide)
        · exact bv_flats (e3.sq h3) (cut_fl (plV_fl _)) (by have := cl (lo := some 1) (hi := none); omega)
        · exact bv_flats (e4.sq h4) (cut_fl (plV_fl _)) (by have := cl (lo := none) (hi := some (-1)); omega)
        · exact bv_flats (e5.sq h5) (app_fl (plV_fl _) (plV_fl _)) (by rw [List.length_append]; omega)
        · exact bv_flats ((s7.pt.trans s7l.pt).sq (.inl (.inl upd_same))) (rev_fl (plV_fl _)) (by rw [List.length_reverse]; omega)
        · exact .lst (.inl (.inl (s7l _ _ upd_same)))
        · exact bv_flats (slw.pt.sq h11) (app_fl (app_fl (cut_fl (plV_fl _)) rfl) (cut_fl (plV_fl _))) (by rw [List.length_append, List.length_append]; have := cl (lo := none) (hi := some d1); have := cl (lo := some (d1 + 1)) (hi := none); show _ + 1 + _ ≤ 50000; omega)
      · obtain ⟨xs, hx, _⟩ := hlo5.ex
        exact fun e => ne_of_none (t11 _ _ hx) nlw e.symm
    rintro σ6 H6 ⟨lw, rfl, hh6, kp6, hdr6, hlo6, ⟨wx, hwx, hwx7, hwb⟩, nlw, nlwo, lw0⟩
    -- more ways
    refine ⟨fun σ7 H7 => σ7 = [some (.ref h), some (.ref ta), some (.ref l), some (.ref t), some (.ref x), some (.int p), some (.ref wa), some (.ref la), some (.int d1), some (.int d2), some (.ref dr), some (.ref lo), some (.ref lw), none, none] ∧ HandAt H7 h c ∧ Kp h H H7 ∧ SqT K H7 dr ((ys.filter S3).map V.str) ∧ Lb K C H7 lo ∧ Lb K C H7 lw, ?_, ?_⟩
    · have w6 := (ptH kp6).sq hwa
      have sz : ∀ n, n ≤ 50000 → n ≤ sizeLine := fun n h => Nat.le_trans h (by decide)
      have cl : ∀ {lo hi : Option Int}, (cutV (plV hs) lo hi).length ≤ 9000 := fun {lo hi} => by
        have := cut_len (xs := plV hs) (lo := lo) (hi := hi)
        omega
      refine ⟨_, rfl, .inl ⟨rfl, _, SqL.of hwx⟩, ?_⟩
      refine ⟨_, rfl, _, rfl, _, rfl, wa, _, rfl, w6, fun r1 G1 s1 h1 => ?_⟩
      refine ⟨_, rfl, _, rfl, _, _, rfl, rfl, _, rfl, wa, _, rfl, s1.pt.sq w6, fun r2 G2 s2 h2 => ?_⟩
      have t2 := s1.trans s2
      refine ⟨r1, r2, _, _, rfl, rfl, s2.pt.sq h1, h2, sz _ (by have := cl (lo := none) (hi := some d1); have := cl (lo := some (d1 + 1)) (hi := none); have := cl (lo := some 1) (hi := none); have := cl (lo := none) (hi := some 1); omega), fun r3 G3 s3 h3 => ?_⟩
      have t3 := t2.trans s3
      refine ⟨_, rfl, _, rfl, by show 1 ≤ sizeLine; decide, fun r4 n4 => ?_⟩
      have s4 := same_new (o := .tup [V.int (p : Nat)]) n4
      have t4 := t3.trans s4
      refine ⟨wa, r4, _, _, rfl, rfl, t4.pt.sq w6, .inl (.inl upd_same), sz _ (by show _ + 1 ≤ 50000; omega), fun r5 G5 s5 h5 => ?_⟩
      have t5 := t4.trans s5
      refine ⟨_, rfl, 1, rfl, wa, _, rfl, t5.pt.sq w6, fun r6 G6 s6 h6 => ?_⟩
      have t6 := t5.trans s6
      refine ⟨by decide, fun r7 n7 => ?_⟩
      have s7 := same_new (o := .tup []) n7
      have t7 := t6.trans s7
      refine ⟨_, rfl, _, rfl, 1, rfl, wa, _, rfl, t7.pt.sq w6, fun r8 G8 s8 h8 => ?_⟩
      have t8 := t7.trans s8
      refine ⟨wa, r8, _, _, rfl, rfl, t8.pt.sq w6, h8, sz _ (by have := cl (lo := none) (hi := some d1); have := cl (lo := some (d1 + 1)) (hi := none); have := cl (lo := some 1) (hi := none); have := cl (lo := none) (hi := some 1); omega), fun r9 G9 s9 h9 => ?_⟩
      have t9 := t8.trans s9
      refine ⟨_, rfl, 1, rfl, wa, _, rfl, t9.pt.sq w6, fun r10 G10 s10 h10 => ?_⟩
      have t10 := t9.trans s10
      refine ⟨r9, r10, _, _, rfl, rfl, s10.pt.sq h9, h10, sz _ (by rw [List.length_append]; have := cl (lo := none) (hi := some d1); have := cl (lo := some (d1 + 1)) (hi := none); have := cl (lo := some 1) (hi := none); have := cl (lo := none) (hi := some 1); omega), fun r11 G11 s11 h11 => ?_⟩
      have t11 := t10.trans s11
      refine ⟨_, rfl, by show 1 ≤ sizeLine; decide, fun r12 n12 => ?_⟩
      have s12 := same_new (o := .tup [V.bl true]) n12
      have t12 := t11.trans s12
      refine ⟨wa, r12, _, _, rfl, rfl, t12.pt.sq w6, .inl (.inl upd_same), sz _ (by show _ + 1 ≤ 50000; omega), fun r13 G13 s13 h13 => ?_⟩
      have t13 := t12.trans s13
      refine ⟨by show 6 ≤ sizeLine; decide, fun l2 n2 => ?_⟩
      have sl2 := same_new (o := .lst [V.ref r3, V.ref r5, V.ref r6, V.ref r7, V.ref r11, V.ref r13]) n2
      have tl := t13.trans sl2
      have hwx2 := tl _ _ hwx
      refine ⟨lw, l2, wx, _, rfl, rfl, hwx2, upd_same, by rw [hwx7]; show 7 + 6 ≤ sizeLine; decide, ?_⟩
      have kpl := (kp6.same tl).fresh lw0 (o := .lst (wx ++ [V.ref r3, V.ref r5, V.ref r6, V.ref r7, V.ref r11, V.ref r13]))
      have pl := Pt.lst (o := .lst (wx ++ [V.ref r3, V.ref r5, V.ref r6, V.ref r7, V.ref r11, V.ref r13])) hwx2
      have hhl := (hh6.kp tl).away hh0 lw0 (o := .lst (wx ++ [V.ref r3, V.ref r5, V.ref r6, V.ref r7, V.ref r11, V.ref r13]))
      have mlw : Mv K (upd G13 l2 (.lst [V.ref r3, V.ref r5, V.ref r6, V.ref r7, V.ref r11, V.ref r13])) (upd (upd G13 l2 (.lst [V.ref r3, V.ref r5, V.ref r6, V.ref r7, V.ref r11, V.ref r13])) lw (.lst (wx ++ [V.ref r3, V.ref r5, V.ref r6, V.ref r7, V.ref r11, V.ref r13]))) := Mv.lst hwx2
      refine ⟨rfl, hhl, kpl, pl.sq (tl.pt.sq hdr6), (hlo6.mv (.same tl) (fun xs e => tl _ _ e)).mv mlw (fun xs e => by rw [upd_ne nlwo.symm]; exact e), ⟨_, upd_same, ?_, by simp, by rw [List.length_append, hwx7]; show 7 + 6 ≤ 20; decide⟩⟩
      have z12 := s13.trans sl2
      have z11 := s12.trans z12
      have z10 := s11.trans z11
      have z9 := s10.trans z10
      have z8 := s9.trans z9
      have z7 := s8.trans z8
      have z6 := s7.trans z7
      have z5 := s6.trans z6
      have z4 := s5.trans z5
      have z3 := s4.trans z4
      intro y hy
      rcases List.mem_append.mp hy with hy | hy
      · exact bv_mv mlw (bv_mv (.same tl) (hwb y hy))
      refine bv_mv mlw ?_
      simp only [List.mem_cons, List.not_mem_nil, or_false] at hy
      rcases hy with rfl | rfl | rfl | rfl | rfl | rfl
      · exact bv_flats (z3.pt.sq h3) (app_fl (cut_fl (plV_fl _)) (cut_fl (plV_fl _))) (by rw [List.length_append]; have := cl (lo := none) (hi := some d1); have := cl (lo := some (d1 + 1)) (hi := none); have := cl (lo := some 1) (hi := none); have := cl (lo := none) (hi := some 1); omega)
      · exact bv_flats (z5.pt.sq h5) (app_fl (plV_fl _) rfl) (by rw [List.length_append]; show _ + 1 ≤ 50000; omega)
      · exact bv_flats (z6.pt.sq h6) (cut_fl (plV_fl _)) (by have := cl (lo := none) (hi := some d1); have := cl (lo := some (d1 + 1)) (hi := none); have := cl (lo := some 1) (hi := none); have := cl (lo := none) (hi := some 1); omega)
      · exact bv_flats (xs := []) (z7.pt.sq (.inl (.inl upd_same))) rfl (by decide)
      · exact bv_flats (z11.pt.sq h11) (app_fl (app_fl (plV_fl _) (cut_fl (plV_fl _))) (cut_fl (plV_fl _))) (by rw [List.length_append, List.length_append]; have := cl (lo := none) (hi := some d1); have := cl (lo := some (d1 + 1)) (hi := none); have := cl (lo := some 1) (hi := none); have := cl (lo := none) (hi := some 1); omega)
      · exact bv_flats (sl2.pt.sq h13) (app_fl (plV_fl _) rfl) (by rw [List.length_append]; show _ + 1 ≤ 50000; omega)
    rintro σ7 H7 ⟨rfl, hh7, kp7, hdr7, hlo7, hlw7⟩
    -- lots
    refine ⟨fun σ8 H8 => ∃ ll, σ8 = [some (.ref h), some (.ref ta), some (.ref l), some (.ref t), some (.ref x), some (.int p), some (.ref wa), some (.ref la), some (.int d1), some (.int d2), some (.ref dr), some (.ref lo), some (.ref lw), some (.ref ll), none] ∧ HandAt H8 h c ∧ Kp h H H8 ∧ Lb K C H8 lo ∧ Lb K C H8 lw ∧ Lb K C H8 ll ∧ ll ≠ h, ?_, ?_⟩
    · have v7 := (ptH kp7).sq hla
      have fL := PM.flat_strs L
      have lL : (L.map V.str).length ≤ 8 := by
        rw [List.length_map]
        exact hL8
      have cl : ∀ {lo hi : Option Int}, (cutV (L.map V.str) lo hi).length ≤ 8 := fun {lo hi} => Nat.le_trans cut_len lL
      have sz : ∀ n, n ≤ 50000 → n ≤ sizeLine := fun n h => Nat.le_trans h (by decide)
      refine ⟨_, rfl, _, rfl, 1, rfl, la, _, rfl, v7, fun r1 G1 s1 h1 => ?_⟩
      refine ⟨_, rfl, _, rfl, _, rfl, la, _, rfl, s1.pt.sq v7, fun r2 G2 s2 h2 => ?_⟩
      have t2 := s1.trans s2
      refine ⟨_, rfl, _, rfl, la, la, _, _, rfl, rfl, t2.pt.sq v7, t2.pt.sq v7, sz _ (by omega), fun r3 G3 s3 h3 => ?_⟩
      have t3 := t2.trans s3
      refine ⟨_, rfl, la, _, rfl, t3.pt.sq v7, fun r4 n4 => ?_⟩
      have s4 := same_new (o := .tup (L.map V.str).reverse) n4
      have t4 := t3.trans s4
      refine ⟨_, rfl, la, _, rfl, .inr (t4.pt.sq v7), fun r5 n5 => ?_⟩
      have s5 := same_new (o := .lst (L.map V.str)) n5
      have t5 := t4.trans s5
      refine ⟨by decide, fun r6 n6 => ?_⟩
      have s6 := same_new (o := .tup []) n6
      have t6 := t5.trans s6
      refine ⟨_, rfl, by show 1 ≤ sizeLine; decide, fun r7 n7 => ?_⟩
      have s7 := same_new (o := .tup [V.str "nobody"]) n7
      have t7 := t6.trans s7
      refine ⟨la, r7, _, _, rfl, rfl, t7.pt.sq v7, .inl (.inl upd_same), sz _ (by show _ + 1 ≤ 50000; omega), fun r8 G8 s8 h8 => ?_⟩
      have t8 := t7.trans s8
      refine ⟨_, rfl, by show 1 ≤ sizeLine; decide, fun r9 n9 => ?_⟩
      have s9 := same_new (o := .tup [V.int 0]) n9
      have t9 := t8.trans s9
      refine ⟨la, r9, _, _, rfl, rfl, t9.pt.sq v7, .inl (.inl upd_same), sz _ (by show _ + 1 ≤ 50000; omega), fun r10 G10 s10 h10 => ?_⟩
      have t10 := t9.trans s10
      refine ⟨_, rfl, by show 10 ≤ sizeLine; decide, fun ll nll => ?_⟩
      have sl := same_new (o := .lst [V.ref dr, V.ref r1, V.ref r2, V.ref r3, V.ref r4, V.ref r5, V.ref r6, V.ref r8, V.ref r10, V.ref dr]) nll
      have tl := t10.trans sl
      refine ⟨ll, rfl, hh7.kp tl, kp7.same tl, hlo7.mv (.same tl) (fun xs e => tl _ _ e), hlw7.mv (.same tl) (fun xs e => tl _ _ e), ⟨_, upd_same, ?_, by simp, by show 10 ≤ 20; decide⟩, (hh7.kp t10).nep nll⟩
      have z9 := s10.trans sl
      have z8 := s9.trans z9
      have z7 := s8.trans z8
      have z6 := s7.trans z7
      have z5 := s6.trans z6
      have z4 := s5.trans z5
      have z3 := s4.trans z4
      have z2 := s3.trans z3
      have z1 := s2.trans z2
      have hdz := tl.pt.sq hdr7
      have bdr : Bv K C (upd G10 ll (.lst [V.ref dr, V.ref r1, V.ref r2, V.ref r3, V.ref r4, V.ref r5, V.ref r6, V.ref r8, V.ref r10, V.ref dr])) (.ref dr) := bv_flats hdz (PM.flat_strs _) (by rw [List.length_map]; have := List.length_filter_le S3 ys; omega)
      intro y hy
      simp only [List.mem_cons, List.not_mem_nil, or_false] at hy
      rcases hy with rfl | rfl | rfl | rfl | rfl | rfl | rfl | rfl | rfl | rfl
      · exact bdr
      · exact bv_flats (z1.pt.sq h1) (cut_fl fL) (by have := cl (lo := some 1) (hi := none); omega)
      · exact bv_flats (z2.pt.sq h2) (cut_fl fL) (by have := cl (lo := none) (hi := some (-1)); omega)
      · exact bv_flats (z3.pt.sq h3) (app_fl fL fL) (by rw [List.length_append]; omega)
      · exact bv_flats (z4.pt.sq (.inl (.inl upd_same))) (rev_fl fL) (by rw [List.length_reverse]; omega)
      · exact .lst (.inl (.inl (z5 _ _ upd_same)))
      · exact bv_flats (xs := []) (z6.pt.sq (.inl (.inl upd_same))) rfl (by decide)
      · exact bv_flats (z8.pt.sq h8) (app_fl fL rfl) (by rw [List.length_append]; show _ + 1 ≤ 50000; omega)
      · exact bv_flats (sl.pt.sq h10) (app_fl fL rfl) (by rw [List.length_append]; show _ + 1 ≤ 50000; omega)
      · exact bdr
    rintro σ8 H8 ⟨ll, rfl, hh8, kp8, hlo8, hlw8, hll8, nll⟩
    have nlw' : lw ≠ h := nlw
    refine ⟨_, rfl, h, c, 8, rfl, hh8, by decide, by decide, fun dk H9 dk0 dk8 hh9 ch9 => ?_⟩
    have m9 : Mv K H8 H9 := .hand hh8 hh9 ch9.kp
    have kp9 := kp8.trans ch9.kp
    have hlo9 := hlo8.mv m9 (fun xs e => ch9.kp _ _ nlo e)
    have hlw9 := hlw8.mv m9 (fun xs e => ch9.kp _ _ nlw' e)
    have hll9 := hll8.mv m9 (fun xs e => ch9.kp _ _ nll e)
    -- drawing one of a list
    have draw1 : ∀ {G : Hp} {la' : Addr}, HandAt G h c → Lb K C G la' → la' ≠ h → ∀ {Q' : VK} {E' : XK}, (∀ y G', HandAt G' h c → Kp h G G' → Bv K C G' y → Q' y G') → spAny K [.ref h, .ref la'] G Q' E' := fun {G la'} hg hb ne {Q' E'} kk => by
      obtain ⟨xs, hx, hbv, hne, hlen⟩ := hb.ex
      exact ⟨h, c, la', xs, rfl, hg, .inl ⟨ne, .inl (SqL.of hx)⟩, hne, by omega, fun y G' hy hg' ch => kk y G' hg' ch.kp (bv_mv (.hand hg hg' ch.kp) (hbv y hy))⟩
    have wayB' : ∀ {G : Hp}, Kp h H G → Bv K C G (.ref wa) := fun k => bv_flats ((ptH k).sq hwa) (plV_fl _) (by omega)
    have lotB' : ∀ {G : Hp}, Kp h H G → Bv K C G (.ref la) := fun k => bv_flats ((ptH k).sq hla) (PM.flat_strs _) (by rw [List.length_map]; omega)
    refine ⟨_, rfl, _, _, rfl, rfl, _, rfl, ?_⟩
    refine ite2 (fun _ => ?_) (fun _ => ?_)
    · -- another way
      refine ⟨_, rfl, _, rfl, _, rfl, _, rfl, _, rfl, draw1 (E' := E0) hh9 hlo9 nlo fun y G hg kg hy => ⟨by show 1 ≤ sizeLine; decide, fun l1 n1 => ?_⟩⟩
      have m1 : Mv K H9 G := .hand hh9 hg kg
      have hx1 := hlw9.mv m1 (fun xs e => kg _ _ nlw' e)
      obtain ⟨xs, hx, hbv, hne, hlen⟩ := hx1.ex
      have s1 := same_new (o := .lst [y]) n1
      refine ⟨lw, l1, xs, [y], rfl, rfl, s1 _ _ hx, upd_same, Nat.le_trans (show xs.length + 1 ≤ 21 by omega) (by decide), fun l2 n2 => ?_⟩
      have s2 := same_new (o := .lst (xs ++ [y])) n2
      have s12 := s1.trans s2
      refine ⟨h, c, l2, _, rfl, hg.kp s12, .inl ⟨(hg.kp s1).nep n2, .inl (SqL.of upd_same)⟩, by simp, by rw [List.length_append]; show xs.length + 1 < _; omega, fun z G2 hz hg2 ch2 => ?_⟩
      have hzb : Bv K C G2 z := bv_mv (.hand (hg.kp s12) hg2 ch2.kp) (bv_mv (.same s12) (by
        rcases List.mem_append.mp hz with hz | hz
        · exact hbv z hz
        · rw [List.mem_singleton.mp hz]
          exact hy))
      have kpz := ((kp9.trans kg).same s12).trans ch2.kp
      refine ⟨_, rfl, by show 3 ≤ sizeLine; decide, fun q nq => ?_⟩
      have sq := same_new (o := .tup [V.int (p : Nat), z, V.ref la]) nq
      exact k _ _ (hg2.kp sq) (kpz.same sq) (rg_tri O (.inl (.inl upd_same)) (.flat rfl) (bv_mv (.same sq) hzb) (lotB' (kpz.same sq)))
    refine ⟨_, rfl, _, _, rfl, rfl, _, rfl, ?_⟩
    refine ite2 (fun _ => ?_) (fun _ => ?_)
    · -- another lot
      refine ⟨_, rfl, _, rfl, _, rfl, _, rfl, _, rfl, _, rfl, draw1 (E' := E0) hh9 hlo9 nlo fun y G hg kg hy => ⟨by show 1 ≤ sizeLine; decide, fun l1 n1 => ?_⟩⟩
      have m1 : Mv K H9 G := .hand hh9 hg kg
      have hx1 := hll9.mv m1 (fun xs e => kg _ _ nll e)
      obtain ⟨xs, hx, hbv, hne, hlen⟩ := hx1.ex
      have s1 := same_new (o := .lst [y]) n1
      refine ⟨ll, l1, xs, [y], rfl, rfl, s1 _ _ hx, upd_same, Nat.le_trans (show xs.length + 1 ≤ 21 by omega) (by decide), fun l2 n2 => ?_⟩
      have s2 := same_new (o := .lst (xs ++ [y])) n2
      have s12 := s1.trans s2
      refine ⟨h, c, l2, _, rfl, hg.kp s12, .inl ⟨(hg.kp s1).nep n2, .inl (SqL.of upd_same)⟩, by simp, by rw [List.length_append]; show xs.length + 1 < _; omega, fun z G2 hz hg2 ch2 => ?_⟩
      have hzb : Bv K C G2 z := bv_mv (.hand (hg.kp s12) hg2 ch2.kp) (bv_mv (.same s12) (by
        rcases List.mem_append.mp hz with hz | hz
        · exact hbv z hz
        · rw [List.mem_singleton.mp hz]
          exact hy))
      have kpz := ((kp9.trans kg).same s12).trans ch2.kp
      refine ⟨by show 3 ≤ sizeLine; decide, fun q nq => ?_⟩
      have sq := same_new (o := .tup [V.int (p : Nat), V.ref wa, z]) nq
      exact k _ _ (hg2.kp sq) (kpz.same sq) (rg_tri O (.inl (.inl upd_same)) (.flat rfl) (wayB' (kpz.same sq)) (bv_mv (.same sq) hzb))
    refine ⟨_, rfl, rfl, _, rfl, ?_⟩
    refine ite2 (fun _ => ?_) (fun _ => ?_)
    · -- another place
      refine ⟨_, rfl, _, rfl, _, rfl, _, _, rfl, rfl, _, rfl, _, _, rfl, rfl, _, rfl, rfl, _, rfl, l, _, rfl, .inl (SqL.of (kp9 _ _ hlh hl)), _, rfl, _, rfl, draw1 (E' := E0) hh9 hlo9 nlo fun y G hg kg hy => ⟨by show 6 ≤ sizeLine; decide, fun l2 n2 => ?_⟩⟩
      refine ⟨h, c, l2, _, rfl, hg.new n2, .inl ⟨hg.nep n2, .inl (SqL.of upd_same)⟩, by simp, by show 6 < 1073741824; decide, fun z G2 hz hg2 ch2 => ?_⟩
      have s2 := same_new (o := .lst [V.int d2, V.int ((p : Int) + 1), V.int ((p : Int) - 1), V.bl (decide (V.int (p : Int) = V.int 1)), V.int ((us.length : Nat) : Int), y]) n2
      have hzb : Bv K C G2 z := bv_mv (.hand (hg.kp s2) hg2 ch2.kp) (bv_mv (.same s2) (by
        simp only [List.mem_cons, List.not_mem_nil, or_false] at hz
        rcases hz with rfl | rfl | rfl | rfl | rfl | rfl
        · exact .flat rfl
        · exact .flat rfl
        · exact .flat rfl
        · exact .flat rfl
        · exact .flat rfl
        · exact hy))
      have kpz := ((kp9.trans kg).same s2).trans ch2.kp
      refine ⟨_, rfl, _, rfl, by show 3 ≤ sizeLine; decide, fun q nq => ?_⟩
      have sq := same_new (o := .tup [z, V.ref wa, V.ref la]) nq
      exact k _ _ (hg2.kp sq) (kpz.same sq) (rg_tri O (.inl (.inl upd_same)) (bv_mv (.same sq) hzb) (wayB' (kpz.same sq)) (lotB' (kpz.same sq)))
    refine ⟨fun σA HA => ∃ (lo2 : Addr) (xs : List V), σA = [some (.ref h), some (.ref ta), some (.ref l), some (.ref t), some (.ref x), some (.int p), some (.ref wa), some (.ref la), some (.int d1), some (.int d2), some (.ref dr), some (.ref lo2), some (.ref lw), some (.ref ll), some (.int dk)] ∧ HandAt HA h c ∧ Kp h H HA ∧ HA lo2 = some (.lst xs) ∧ (∀ y ∈ xs, ∃ r, RgTh K HA y b ys r) ∧ xs ≠ [] ∧ xs.length ≤ 20 ∧ lo2 ≠ h, ?_, ?_⟩
    · refine ⟨_, rfl, rfl, _, rfl, ?_⟩
      refine ite2 (fun _ => ?_) (fun _ => ?_)
      · refine ⟨_, rfl, _, rfl, _, rfl, by show 3 ≤ sizeLine; decide, fun a1 n1 => ⟨_, rfl, _, rfl, by show 2 ≤ sizeLine; decide, fun a2 n2 => ⟨_, rfl, _, rfl, _, rfl, _, rfl, by show 4 ≤ sizeLine; decide, fun a3 n3 => ⟨_, rfl, _, rfl, _, rfl, by show 3 ≤ sizeLine; decide, fun a4 n4 => ⟨by decide, fun a5 n5 => ⟨_, rfl, _, rfl, by show 7 ≤ sizeLine; decide, fun lo2 nlo2 => ?_⟩⟩⟩⟩⟩⟩
        have s1 := same_new (o := .lst [V.int (p : Nat), V.ref wa, V.ref la]) n1
        have s2 := same_new (o := .tup [V.int (p : Nat), V.ref wa]) n2
        have s3 := same_new (o := .tup [V.int (p : Nat), V.ref wa, V.ref la, V.ref la]) n3
        have s4 := same_new (o := .tup [V.int (p : Nat), V.ref la, V.ref wa]) n4
        have s5 := same_new (o := .tup []) n5
        have s6 := same_new (o := .lst [V.ref a1, V.ref a2, V.ref a3, V.ref a4, V.ref a5, V.ref wa, V.ref ta]) nlo2
        have z5 := s5.trans s6
        have z4 := s4.trans z5
        have z3 := s3.trans z4
        have z2 := s2.trans z3
        have z1 := s1.trans z2
        have kpz := kp9.same z1
        have i3 : ∀ {y : V}, y = V.int (p : Nat) ∨ y = V.ref wa ∨ y = V.ref la → ItL K _ y := fun {y} e => by
          rcases e with rfl | rfl | rfl
          · exact .inl rfl
          · exact .inr (.tup ((ptH kpz).sq hwa))
          · exact .inr (.tup ((ptH kpz).sq hla))
        refine ⟨lo2, _, rfl, hh9.kp z1, kpz, upd_same, fun y hy => ?_, by simp, by show 7 ≤ 20; decide, (hh9.kp (((((s1.trans s2).trans s3).trans s4).trans s5))).nep nlo2⟩
        simp only [List.mem_cons, List.not_mem_nil, or_false] at hy
        rcases hy with rfl | rfl | rfl | rfl | rfl | rfl | rfl
        · exact bv_ring O (.lst (.inl (.inl (z2 _ _ upd_same))))
        · exact bv_ring O (.tup (z3.pt.sq (.inl (.inl upd_same))) (fun w hw => i3 (by
            simp only [List.mem_cons, List.not_mem_nil, or_false] at hw
            rcases hw with rfl | rfl
            · exact .inl rfl
            · exact .inr (.inl rfl))) (by show 2 ≤ 50000; decide) (.inl (by show 2 ≠ 3; decide)))
        · exact bv_ring O (.tup (z4.pt.sq (.inl (.inl upd_same))) (fun w hw => i3 (by
            simp only [List.mem_cons, List.not_mem_nil, or_false] at hw
            rcases hw with rfl | rfl | rfl | rfl
            · exact .inl rfl
            · exact .inr (.inl rfl)
            · exact .inr (.inr rfl)
            · exact .inr (.inr rfl))) (by show 4 ≤ 50000; decide) (.inl (by show 4 ≠ 3; decide)))
        · exact rg_tri O (z5.pt.sq (.inl (.inl upd_same))) (.flat rfl) (lotB' kpz) (wayB' kpz)
        · exact bv_ring O (bv_flats (xs := []) (s6.pt.sq (.inl (.inl upd_same))) rfl (by decide))
        · exact bv_ring O (wayB' kpz)
        · exact rg_tri O ((ptH kpz).sq hta) (.flat rfl) (wayB' kpz) (lotB' kpz)
      · obtain ⟨xs, hx, hbv, hne, hlen⟩ := hlo9.ex
        exact ⟨lo, xs, rfl, hh9, kp9, hx, fun y hy => bv_ring O (hbv y hy), hne, hlen, nlo⟩
    rintro σA HA ⟨lo2, xs, rfl, hhA, kpA, hxA, hrg, hne, hlen, nlo2⟩
    refine ⟨_, rfl, _, rfl, h, c, lo2, xs, rfl, hhA, .inl ⟨nlo2, .inl (SqL.of hxA)⟩, hne, by omega, fun y G hy hg ch => ?_⟩
    obtain ⟨r, hr⟩ := hrg y hy
    exact k y G hg (kpA.trans ch.kp) ⟨r, rg_mv (.hand hhA hg ch.kp) hr⟩
end
end K25
set_option Elab.async false
set_option linter.all false
set_option maxRecDepth 100000
set_option maxHeartbeats 4000000
namespace ZR
open PySem PySem.Spec PyProof.Rows L2 ZX PM RZ
section
variable {X : Cx}
/-- a list == [] -/
def rEqNil (K : PySem.W.Frag) : R2 := fun x y H Q => ∃ a b xs, x = .ref a ∧ y = .ref b ∧ SqL K H a xs ∧ SqL K H b [] ∧ Q (.bl xs.isEmpty) H
theorem op_eqNil (hu : X.A.units < cLine) : OpR X (compareOp .Eq) (rEqNil X.K) := by
  intro pins s σ H x y v u Q I rx ry h
  obtain ⟨a, b, xs, rfl, rfl, ha, hb, q⟩ := h
  cases rx
  cases ry
  obtain ⟨its, r1, p1, _⟩ := I.list ha
  obtain ⟨its2, r2, p2, _⟩ := I.list hb
  cases r2
  have hl := r1.length
  show wpAny (model X.prog X.w) X.A (richCompare .Eq (.ref a) (.ref b)) (EP X pins σ Q) X.xe s
  cases xs with
  | nil =>
    cases r1
    refine SeqAt.RcAt.lists (e := fun _ => true) (PlainL.isList p1) (PlainL.isList p2) rfl hu (fun j h1 h2 => absurd h2 (Nat.not_lt_zero _)) X.prog X.w _ _ ?_
    exact ⟨.bl _, H, I, rfl, q⟩
  | cons y ys =>
    refine SeqAt.RcAt.lists_lengths (PlainL.isList p1) (PlainL.isList p2) ?_ hu X.prog X.w _ _ ?_
    · rw [List.size_toArray, ← hl]
      simp
    · exact ⟨.bl _, H, I, rfl, q⟩
end
end ZR
set_option Elab.async false
set_option linter.all false
set_option maxRecDepth 100000
set_option maxHeartbeats 4000000
namespace K25
open PySem PySem.Spec PyProof.Rows L2 ZX PM ZR
abbrev sLaw : Stmt := top 72
def spLaw (K : PySem.W.Frag) : Sp := fun vs H Q _ => ∃ (a : Addr) (ns : List Int), vs = [.ref a] ∧ SqL K H a (ns.map V.int) ∧ ns.length ≤ 63 ∧ ∀ H', Q (.bl true) H'
/-- what the law calls -/
structure Ctx (P : Program) (w : World) (K : PySem.W.Frag) (mg : Str → Option Value) (base : Heap) (C : Addr) : Prop where
  bi : Bi mg
  g : mg "Program" = some (.ref C)
  O : PgC K C
  hand : Cal P w K mg base "_law_hand" 1 ["_law_script"] (spHand K)
  draw : Cal P w K mg base "_law_draw" 1 ["_law_hand_here", "_law_many"] spDraw
  any_ : Cal P w K mg base "_law_any" 2 ["_law_hand_here", "_law_things"] (spAny K)
  wide : Cal P w K mg base "_law_wide" 6 ["_law_hand_here"] (spLWide K)
  small : Cal P w K mg base "_law_small" 6 ["_law_hand_here", "_law_most"] (spLSmall K)
  table : Cal P w K mg base "_law_table" 10 ["_law_block"] (spLTable K)
  names : Cal P w K mg base "_law_names" 1 ["_law_table_here"] (spLNames K)
  ring : Cal P w K mg base "_law_ring" 3 ["_law_table_here", "_law_names_here", "_law_room"] (spLRing K)
  passed : Cal P w K mg base "_law_passed" 4 ["_law_hand_here", "_law_table_here", "_law_names_here", "_law_place"] (spLPassed K)
  judged : Cal P w K mg base "_law_is_judged" 6 ["_law_program", "_law_table_here", "_law_names_here", "_law_thing"] (spLJudged K C)
  bent : Cal P w K mg base "_law_bent" 3 ["_law_hand_here", "_law_thing", "_law_table_here", "_law_names_here", "_law_program"] (spLBent K C)
  make : ∃ fI fd, Mk K C fI ∧ FnOk P w K mg base CX0 16 fI fd ["self", "block"] (spInit K C) ∧ Binds K fd ["self", "block"] []
/-- what stands in a turn -/
structure TnB (K : PySem.W.Frag) (C : Addr) (h c x l t : Addr) (us : List V) (b : List Rw) (ys : List Str) (H : Hp) : Prop where
  hh : HandAt H h c
  hp : PrAt K C H x b
  hl : H l = some (.lst us)
  hu : Tvs K H us ((tabB b).map dE)
  hG : Good b
  hlot : IsLot ys ((rowsB b).flatMap namesR)
  ht : H t = some (.lst (ys.map V.str))
  nx : x ≠ h
  nl : l ≠ h
  nt : t ≠ h
theorem TnB.mv {K : PySem.W.Frag} {C h c x l t : Addr} {us : List V} {b : List Rw} {ys : List Str} {H H' : Hp} (B : TnB K C h c x l t us b ys H) (hh : HandAt H' h c) (k : Kp h H H') : TnB K C h c x l t us b ys H' :=
  ⟨hh, B.hp.up (fun o e => k _ _ B.nx e) (B.hh.pt k), k _ _ B.nl B.hl, B.hu.pt (B.hh.pt k), B.hG, B.hlot, k _ _ B.nt B.ht, B.nx, B.nl, B.nt⟩
theorem TnB.same {K : PySem.W.Frag} {C h c x l t : Addr} {us : List V} {b : List Rw} {ys : List Str} {H H' : Hp} (B : TnB K C h c x l t us b ys H) (s : Same H H') : TnB K C h c x l t us b ys H' := B.mv (B.hh.kp s) s.kp
/-- .. where a list of the law's own changes -/
theorem TnB.lst {K : PySem.W.Frag} {C h c x l t r : Addr} {us : List V} {b : List Rw} {ys : List Str} {H H' : Hp} (B : TnB K C h c x l t us b ys H) {xs : List V} (hr : H r = some (.lst xs)) (k : Kp r H H') (nl : l ≠ r) (nt : t ≠ r) (nh : h ≠ r) (nc : c ≠ r) : TnB K C h c x l t us b ys H' := by
  have pt := Kp.pt hr k
  refine ⟨?_, B.hp.up (fun o e => k _ _ (fun q => ?_) e) pt, k _ _ nl B.hl, B.hu.pt pt, B.hG, B.hlot, k _ _ nt B.ht, B.nx, B.nl, B.nt⟩
  · obtain ⟨cs, i, g, kk, d, hd⟩ := B.hh
    exact ⟨cs, i, g, kk, d, k _ _ nh hd.hp, k _ _ nc hd.hc, hd.ne, hd.nn, hd.i0, hd.g0, hd.k0, hd.d0⟩
  · obtain ⟨dx, v, ra, na, la, rs, ls, yn, h1, _⟩ := B.hp
    rw [q, hr] at h1
    cases h1
def noteAt (rows : List Rw) (j : Nat) : Bool := match rows[j]? with
  | some (.note _ _ _) => true
  | _ => false
theorem noteAt_ex {rows : List Rw} {j : Nat} (h : noteAt rows j = true) : ∃ x o ps, rows[j]? = some (.note x o ps) := by
  unfold noteAt at h
  cases e : rows[j]? with
  | none => rw [e] at h; cases h
  | some r =>
    rw [e] at h
    cases r with
    | note x o ps => exact ⟨x, o, ps, rfl⟩
    | _ => cases h
theorem noteAt_word {rows : List Rw} {j : Nat} {r : Rw} (h : rows[j]? = some r) : decide (V.str (wordR r) = V.str (Str.ofString "note")) = noteAt rows j := by
  unfold noteAt
  rw [h]
  cases r with
  | note x o ps => exact decide_eq_true rfl
  | copy x y => exact decide_eq_false (neS (a := "copy") (b := "note") (by decide +kernel))
  | give x y => exact decide_eq_false (neS (a := "give") (b := "note") (by decide +kernel))
  | ask x => exact decide_eq_false (neS (a := "ask") (b := "note") (by decide +kernel))
  | prt x => exact decide_eq_false (neS (a := "print") (b := "note") (by decide +kernel))
  | either x y => exact decide_eq_false (neS (a := "either") (b := "note") (by decide +kernel))
  | again x => exact decide_eq_false (neS (a := "again") (b := "note") (by decide +kernel))
/-- a triple may be judged -/
theorem tri_rg {K : PySem.W.Frag} {C : Addr} (O : PgC K C) {H : Hp} {R : Nat} {v : V} {p : Nat} {hs : List Nat} {L : List Str} {b : List Rw} {ys : List Str} (h : Tri K H R v p hs L) : ∃ r, RgTh K H v b ys r := by
  obtain ⟨a, wa, la, rfl, h1, h2, h3, h4, h5, h6, h7⟩ := h
  exact rg_tri O h1 (.flat rfl) (bv_flats h2 (plV_fl _) (by unfold plV; rw [List.length_map]; omega)) (bv_flats h3 (PM.flat_strs _) (by rw [List.length_map]; omega))
/-- what stands while things are gathered -/
structure LwB (K : PySem.W.Frag) (C : Addr) (h c x l t pl th : Addr) (us : List V) (b : List Rw) (ys : List Str) (ps : List Nat) (n : Nat) (xs : List V) (H : Hp) : Prop where
  B : TnB K C h c x l t us b ys H
  hpl : H pl = some (.lst (plV ps))
  hth : H th = some (.lst xs)
  tr : Tris K H (rowsB b).length xs
  le : xs.length ≤ n
  nlt : l ≠ th
  ntt : t ≠ th
  nht : h ≠ th
  nct : c ≠ th
  npt : pl ≠ th
  nph : pl ≠ h
theorem LwB.mv {K : PySem.W.Frag} {C h c x l t pl th : Addr} {us : List V} {b : List Rw} {ys : List Str} {ps : List Nat} {n : Nat} {xs : List V} {H H' : Hp} (W : LwB K C h c x l t pl th us b ys ps n xs H) (hh : HandAt H' h c) (k : Kp h H H') : LwB K C h c x l t pl th us b ys ps n xs H' :=
  ⟨W.B.mv hh k, k _ _ W.nph W.hpl, k _ _ W.nht.symm W.hth, W.tr.pt (W.B.hh.pt k), W.le, W.nlt, W.ntt, W.nht, W.nct, W.npt, W.nph⟩
theorem LwB.same {K : PySem.W.Frag} {C h c x l t pl th : Addr} {us : List V} {b : List Rw} {ys : List Str} {ps : List Nat} {n : Nat} {xs : List V} {H H' : Hp} (W : LwB K C h c x l t pl th us b ys ps n xs H) (s : Same H H') : LwB K C h c x l t pl th us b ys ps n xs H' := W.mv (W.B.hh.kp s) s.kp
theorem LwB.add {K : PySem.W.Frag} {C h c x l t pl th : Addr} {us : List V} {b : List Rw} {ys : List Str} {ps : List Nat} {n m : Nat} {xs zs : List V} {H : Hp} (W : LwB K C h c x l t pl th us b ys ps n xs H) (hz : Tris K H (rowsB b).length zs) (hm : zs.length ≤ m) : LwB K C h c x l t pl th us b ys ps (n + m) (xs ++ zs) (upd H th (.lst (xs ++ zs))) := by
  have pt := Pt.lst (o := .lst (xs ++ zs)) W.hth
  refine ⟨W.B.lst W.hth (Kp.refl _ _).put W.nlt W.ntt W.nht W.nct, by rw [upd_ne W.npt]; exact W.hpl, upd_same, fun v hv => ?_, by rw [List.length_append]; exact Nat.add_le_add W.le hm, W.nlt, W.ntt, W.nht, W.nct, W.npt, W.nph⟩
  rcases List.mem_append.mp hv with hv | hv
  · exact (W.tr.pt pt) v hv
  · exact (hz.pt pt) v hv
theorem LwB.lst {K : PySem.W.Frag} {C h c x l t pl th r : Addr} {us : List V} {b : List Rw} {ys : List Str} {ps : List Nat} {n : Nat} {xs zs : List V} {H H' : Hp} (W : LwB K C h c x l t pl th us b ys ps n xs H) (hr : H r = some (.lst zs)) (k : Kp r H H') (nl : l ≠ r) (nt : t ≠ r) (nh : h ≠ r) (nc : c ≠ r) (np : pl ≠ r) (nth : th ≠ r) : LwB K C h c x l t pl th us b ys ps n xs H' :=
  ⟨W.B.lst hr k nl nt nh nc, k _ _ np W.hpl, k _ _ nth W.hth, W.tr.pt (Kp.pt hr k), W.le, W.nlt, W.ntt, W.nht, W.nct, W.npt, W.nph⟩
theorem LwB.wk {K : PySem.W.Frag} {C h c x l t pl th : Addr} {us : List V} {b : List Rw} {ys : List Str} {ps : List Nat} {n m : Nat} {xs : List V} {H : Hp} (W : LwB K C h c x l t pl th us b ys ps n xs H) (hle : xs.length ≤ m) : LwB K C h c x l t pl th us b ys ps m xs H :=
  ⟨W.B, W.hpl, W.hth, W.tr, hle, W.nlt, W.ntt, W.nht, W.nct, W.npt, W.nph⟩
theorem cut_from1 {xs : List V} : cutV xs (some ((1 : Nat) : Int)) none = xs.drop 1 := by
  unfold cutV
  have h1 : HT.sIx xs.length xs.length none = xs.length := rfl
  rw [h1, HT.sIx_nat]
  cases xs with
  | nil => rfl
  | cons y tl =>
    have e : min 1 (y :: tl).length = 1 := Nat.min_eq_left (by rw [List.length_cons]; omega)
    rw [e, List.take_of_length_le (by rw [List.length_drop]; exact Nat.le_refl _)]
theorem cut_to1 {xs : List V} : cutV xs none (some ((1 : Nat) : Int)) = xs.take 1 := by
  unfold cutV
  have h1 : HT.sIx xs.length 0 none = 0 := rfl
  rw [h1, HT.sIx_nat, List.drop_zero, Nat.sub_zero]
  cases xs with
  | nil => rfl
  | cons y tl =>
    have e : min 1 (y :: tl).length = 1 := Nat.min_eq_left (by rw [List.length_cons]; omega)
    rw [e]
section
variable {P : Program} {w : World} {K : PySem.W.Frag} {mg : Str → Option Value} {base : Heap}
theorem scLaw : FnScope ["_law_script", "_law_hand_here", "_law_turn", "_law_block", "_law_program", "_law_table_here", "_law_names_here", "_law_places", "_law_things", "_law_ring_here", "_law_again", "_law_thing", "_law_bent_here", "_law_place"] ["_law_script"] (defScope sLaw) := ⟨rfl, rfl, rfl, by decide +kernel, rfl, by decide +kernel, by decide +kernel⟩
theorem ok_law {C g : Addr} {fd : FuncData} (F : FnP K "law" sLaw g fd) (T : Ctx P w K mg base C) : FnOk P w K mg base CX0 18 g fd ["_law_script"] (spLaw K) := by
  refine F.ok scLaw (fun vs H Q E h => ?_) (fun cdv A outer s H vs Q E hr h => ?_)
  · obtain ⟨a, ns, rfl, _⟩ := h
    rfl
  · obtain ⟨a, ns, rfl, hS, hns, k⟩ := h
    obtain ⟨fI, fdI, M, GI, bI⟩ := T.make
    have hr1 := hr.mono (show 1 ≤ 17 by decide)
    have hr2 := hr.mono (show 2 ≤ 17 by decide)
    have hr3 := hr.mono (show 3 ≤ 17 by decide)
    have hr4 := hr.mono (show 4 ≤ 17 by decide)
    have hr6 := hr.mono (show 6 ≤ 17 by decide)
    have hr10 := hr.mono (show 10 ≤ 17 by decide)
    have hu := hu_of hr
    refine ⟨_, PSs.nox (pss_cons (ps_set (i := 1) scLaw.nd rfl (Or.inl rfl) (pcal T.hand hr1 rfl (pa_cons (pv 0) pa_nil)))
    (pss_cons (ps_for PassesOwn.never rfl (pi_range1 rfl T.bi.b_range (pa_cons pe_int pa_nil)) (pg_name (i := 2) scLaw.nd rfl (Or.inl rfl)) (pss_cut (ps_set (i := 3) scLaw.nd rfl (Or.inl rfl) (pe_ifExp (pt_cmpR op_eq (pcal T.draw hr1 rfl (pa_cons (pv 1) (pa_cons pe_int pa_nil))) pe_int (nomark _)) (pcal T.wide hr6 rfl (pa_cons (pv 1) pa_nil)) (pcal T.small hr6 rfl (pa_cons (pv 1) (pa_cons pe_int pa_nil)))))
      (pss_cons (ps_asg (pe_tup (pa_cons (pe_make M GI hr rfl T.g bI .nil pass0 (pa_cons (pv 3) pa_nil)) (pa_cons (pcal T.table hr10 rfl (pa_cons (pv 3) pa_nil)) pa_nil))) (pg_tup rfl (pgs_cons (pg_name (i := 4) scLaw.nd rfl (Or.inl rfl)) (pgs_cons (pg_name (i := 5) scLaw.nd rfl (Or.inr rfl)) pgs_nil))))
      (pss_cut (ps_set (i := 6) scLaw.nd rfl (Or.inl rfl) (pcal T.names hr1 rfl (pa_cons (pv 5) pa_nil)))
      (pss_cut (ps_setLcS (i := 7) (own := [("_law_place", 13)]) (g := gName 13) (tt := tTest (tOp rEq (tOp (rIxT K) (tOp (rIxT K) (tOp (rIxL K) (tVar 5) (tVar 13)) (tC (V.int 0))) (tC (V.int 0))) (tC (V.str "note")))) rfl scLaw.nd rfl rfl (sw_true rfl rfl rfl (by decide +kernel)) (pi_range1 rfl T.bi.b_range (pa_cons (pe_callB call_len_seq (by rfl) T.bi.b_len (by decide +kernel) (pa_cons (pv 5) pa_nil)) pa_nil)) (blkOk_by (N := ["_law_script", "_law_hand_here", "_law_turn", "_law_block", "_law_program", "_law_table_here", "_law_names_here", "_law_places", "_law_things", "_law_ring_here", "_law_again", "_law_thing", "_law_bent_here", "_law_place"]) (sc := defScope sLaw) (by decide +kernel)) (fun _ _ _ _ _ => (pg_name (i := 13) scLaw.nd rfl (Or.inl rfl))) (fun _ _ _ _ _ => (pts_one (pt_cmpR op_eq (pe_ix ix_tup (pe_ix ix_tup (pe_ix ix_list (pv 5) (pv 13) (fun _ _ => rfl)) pe_int (fun _ _ => rfl)) pe_int (fun _ _ => rfl)) pe_str (nomark _)))) (fun _ _ _ _ _ => (pv 13)))
      (pss_cut (ps_set (i := 8) scLaw.nd rfl (Or.inl rfl) (pe_lst pa_nil))
      (pss_cut (ps_set (i := 9) scLaw.nd rfl (Or.inl rfl) (pcal T.ring hr3 rfl (pa_cons (pv 5) (pa_cons (pv 6) (pa_cons (pe_lst (pa_cons pe_int pa_nil)) pa_nil)))))
      (pss_cut (ps_if (pt_cmpR op_notN (pv 9) pe_non (nomark _)) (pss_cons (ps_expr (pe_bm PySem.F.plainAttrs_list PySem.F.slot_list_append PySem.F.type_list_append mt_append (pv 8) (pa_cons (pv 9) pa_nil)))
        (pss_one (ps_expr (pe_bm PySem.F.plainAttrs_list PySem.F.slot_list_append PySem.F.type_list_append mt_append (pv 8) (pa_cons (pe_tup (pa_cons (pe_ix ix_tup (pv 9) pe_int (fun _ _ => rfl)) (pa_cons (pe_op op_catZ (pe_ix ix_tup (pv 9) pe_int (fun _ _ => rfl)) (pe_slice sl_tupZ (pe_ix ix_tup (pv 9) pe_int (fun _ _ => rfl)) (po_some pe_int) po_none)) (pa_cons (pe_ix ix_tup (pv 9) pe_int (fun _ _ => rfl)) pa_nil)))) pa_nil))))) pss_nil)
      (pss_cut (ps_if (pt_cmpR op_gt (pe_callB call_len_seq (by rfl) T.bi.b_len (by decide +kernel) (pa_cons (pv 7) pa_nil)) pe_int (nomark _)) (pss_one (ps_for PassesOwn.never rfl (pi_range1 rfl T.bi.b_range (pa_cons pe_int pa_nil)) (pg_name (i := 10) scLaw.nd rfl (Or.inl rfl)) (pss_one (ps_expr (pe_bm PySem.F.plainAttrs_list PySem.F.slot_list_extend PySem.F.type_list_extend mt_extend (pv 8) (pa_cons (pcal T.passed hr4 rfl (pa_cons (pv 1) (pa_cons (pv 5) (pa_cons (pv 6) (pa_cons (pcal T.any_ hr2 rfl (pa_cons (pv 1) (pa_cons (pv 7) pa_nil))) pa_nil))))) pa_nil)))))) pss_nil)
      (pss_cut (ps_for PassesOwn.never rfl (pi_list (pv 8)) (pg_name (i := 11) scLaw.nd rfl (Or.inl rfl)) (pss_one (ps_if (pt_not (pt_val (pcal T.judged hr6 rfl (pa_cons (pv 4) (pa_cons (pv 5) (pa_cons (pv 6) (pa_cons (pv 11) pa_nil))))))) (pss_one (ps_ret pe_bl)) pss_nil)))
      (pss_cut (ps_if (pt_cmpR (op_eqNil (Nat.lt_of_succ_lt hu)) (pv 8) (pe_lst pa_nil) (nomark _)) (pss_one (ps_expr (pe_bm PySem.F.plainAttrs_list PySem.F.slot_list_append PySem.F.type_list_append mt_append (pv 8) (pa_cons (pe_tup (pa_cons (pcal T.draw hr1 rfl (pa_cons (pv 1) (pa_cons (pe_callB call_len_seq (by rfl) T.bi.b_len (by decide +kernel) (pa_cons (pv 5) pa_nil)) pa_nil))) (pa_cons (pe_tup (pa_cons pe_int pa_nil)) (pa_cons (pe_callTy call_tuple_of (by rfl) T.bi.b_tuple (by decide +kernel) (pa_cons (pe_slice sl_list (pv 6) po_none (po_some pe_int)) pa_nil)) pa_nil)))) pa_nil)))) pss_nil)
      (pss_one (ps_for PassesOwn.never rfl (pi_range1 rfl T.bi.b_range (pa_cons pe_int pa_nil)) (pg_name (i := 10) scLaw.nd rfl (Or.inl rfl)) (pss_cons (ps_set (i := 12) scLaw.nd rfl (Or.inl rfl) (pcal T.bent hr3 rfl (pa_cons (pv 1) (pa_cons (pcal T.any_ hr2 rfl (pa_cons (pv 1) (pa_cons (pv 8) pa_nil))) (pa_cons (pv 5) (pa_cons (pv 6) (pa_cons (pv 4) pa_nil)))))))
        (pss_one (ps_if (pt_not (pt_val (pcal T.judged hr6 rfl (pa_cons (pv 4) (pa_cons (pv 5) (pa_cons (pv 6) (pa_cons (pv 12) pa_nil))))))) (pss_one (ps_ret pe_bl)) pss_nil))))))))))))))))
    (pss_one (ps_ret pe_bl)))), ?_⟩
    refine ⟨_, rfl, a, ns, rfl, hS, hns, fun p c H1 hh1 s1 np => ?_⟩
    refine ⟨_, rfl, by decide, by decide, ?_⟩
    refine for_range (fun _ σ' H' => ∃ y2 y3 y4 y5 y6 y7 y8 y9 y10 y11 y12, σ' = [some (V.ref a), some (.ref p), y2, y3, y4, y5, y6, y7, y8, y9, y10, y11, y12, none] ∧ HandAt H' p c) ⟨_, _, _, _, _, _, _, _, _, _, _, rfl, hh1⟩ ?_ (fun σ' H' h => ?_)
    · rintro i0 σ2 H2 hi0 ⟨y2, y3, y4, y5, y6, y7, y8, y9, y10, y11, y12, rfl, hh2⟩
      refine ⟨fun σ' H' => ∃ v b, σ' = [some (V.ref a), some (.ref p), some (.int (0 + (i0 : Nat))), some v, y4, y5, y6, y7, y8, y9, y10, y11, y12, none] ∧ HandAt H' p c ∧ BV K H' v b ∧ Good b ∧ b ≠ [], ?_, ?_⟩
      · refine ⟨_, rfl, p, c, 3, rfl, hh2, by decide, by decide, fun d H3 _ _ hh3 ch3 => ⟨rfl, _, rfl, ?_⟩⟩
        refine ite2 (fun _ => ?_) (fun _ => ?_)
        · exact ⟨_, rfl, p, c, rfl, hh3, fun v b H4 hh4 k4 tv G ne => ⟨v, b, rfl, hh4, tv, G, ne⟩⟩
        · exact ⟨_, rfl, p, c, rfl, hh3, fun v b H4 hh4 k4 tv G ne => ⟨v, b, rfl, hh4, tv, G, ne⟩⟩
      rintro σ3 H3 ⟨v, b, rfl, hh3, tv3, G, nb⟩
      refine ⟨_, rfl, fun x dx nx ndx nxd => ⟨x, dx, v, b, rfl, upd_same, tv3.pt ((Pt.new ndx).trans (Pt.new (by rw [upd_ne nxd.symm]; exact nx))), G, fun H4 k4 p4 pr4 => ⟨rfl, ?_⟩⟩⟩
      have s4 : Same H3 H4 := fun z o e => by
        refine k4 _ _ (ne_of_none e nx) ?_
        rw [upd_ne (ne_of_none e nx), upd_ne (ne_of_none e ndx)]
        exact e
      refine ⟨_, rfl, v, b, rfl, tv3.pt s4.pt, G, fun l us H5 s5 nl hl hut => ⟨by show 2 ≤ sizeLine; decide, fun q nq => ⟨q, _, rfl, .inl (.inl upd_same), rfl, _, _, rfl, _, _, rfl, rfl, ?_⟩⟩⟩
      have sq := same_new (o := .tup [V.ref x, V.ref l]) nq
      have s6 := (s4.trans s5).trans sq
      refine ⟨fun σ' H' => ∃ t ys, σ' = [some (V.ref a), some (.ref p), some (.int (0 + (i0 : Nat))), some v, some (.ref x), some (.ref l), some (.ref t), y7, y8, y9, y10, y11, y12, none] ∧ TnB K C p c x l t us b ys H', ?_, ?_⟩
      · refine ⟨_, rfl, l, us, b, rfl, sq _ _ hl, hut.pt sq.pt, G, fun t ys H6 s7 nt hlot ht => ?_⟩
        exact ⟨t, ys, rfl, ⟨(hh3.kp s6).kp s7, pr4.same ((s5.trans sq).trans s7), s7 _ _ (sq _ _ hl), hut.pt (sq.pt.trans s7.pt), G, hlot, ht, hh3.nep nx, (hh3.kp s4).nep nl, (hh3.kp s6).nep nt⟩⟩
      clear tv3 pr4 s6 sq nq s5 hl hut s4 p4 k4
      rintro σ6 H6 ⟨t, ys, rfl, B6⟩
      have hul : us.length = (rowsB b).length := by rw [B6.hu.len, List.length_map, tab_len]
      have l30 := G.l30
      have hR : 0 < (rowsB b).length := by
        have := len_rowsB b
        have := List.length_pos_iff.mpr nb
        omega
      -- the places of note rows
      refine ⟨fun σ' H' => ∃ pl ps, σ' = [some (V.ref a), some (.ref p), some (.int (0 + (i0 : Nat))), some v, some (.ref x), some (.ref l), some (.ref t), some (.ref pl), y8, y9, y10, y11, y12, none] ∧ TnB K C p c x l t us b ys H' ∧ H' pl = some (.lst (plV ps)) ∧ (∀ q ∈ ps, noteAt (rowsB b) q = true) ∧ ps.length ≤ 30 ∧ pl ≠ p, ?_, ?_⟩
      · refine lc_into ?_
        refine ⟨_, rfl, l, _, rfl, .inl (SqL.of B6.hl), _, rfl, by omega, by omega, ?_⟩
        refine lc_overF (as := List.range (rowsB b).length) (Rel := fun _ j y => y = .int (j : Nat)) (noteAt (rowsB b)) it_range ?_ (fun _ _ _ _ _ h => h) ?_ (fun _ _ _ => trivial) ?_ ?_
        · rw [List.length_map, List.length_range, List.length_range]
          omega
        · rw [List.length_map, List.length_range]
          exact Nat.lt_of_le_of_lt (show _ ≤ 30 by omega) (by decide)
        · intro j z jj hz hj H7 s7 pt7 R N kR kN
          have hjl : j < (rowsB b).length := by
            have := (List.getElem?_eq_some_iff.mp hj).1
            rwa [List.length_range] at this
          have ejj : jj = j := by
            rw [List.getElem?_range hjl] at hj
            exact (Option.some.inj hj).symm
          subst ejj
          have ez : z = V.int (0 + (jj : Int)) := by
            rw [List.getElem?_map, List.getElem?_range (by omega)] at hz
            exact (Option.some.inj hz).symm
          subst ez
          have B7 := B6.same s7
          have hr0 : (rowsB b)[jj]? = some (rowsB b)[jj] := List.getElem?_eq_getElem hjl
          obtain ⟨fa, fx, fy, gs, hfa, hFS, hFr, _⟩ := tab_get B7.hu hr0
          obtain ⟨ra, tl, rfl, hrS, hrt⟩ := hFr.rowI
          refine ⟨rfl, _, rfl, _, rfl, l, _, _, _, rfl, rfl, SqL.of B7.hl, at_of (j := jj) (by omega) hfa, fa, _, _, _, rfl, rfl, hFS, rfl, ra, _, _, _, rfl, rfl, hrS, at0, rfl, _, rfl, ?_⟩
          rw [noteAt_word hr0]
          exact ite2 (fun e => ⟨_, rfl, kR e _ _ (fun _ _ h => h) (by rw [Int.zero_add])⟩) (fun e => kN (Bool.eq_false_iff.mpr e) _ fun _ _ h => h)
        · intro D zs H7 s7 pt7 nD hD all
          have ez := All2.map all
          subst ez
          refine ⟨D, (List.range (rowsB b).length).filter (noteAt (rowsB b)), rfl, B6.same s7, hD, fun q hq => (List.mem_filter.mp hq).2, ?_, B6.hh.nep nD⟩
          have := List.length_filter_le (noteAt (rowsB b)) (List.range (rowsB b).length)
          rw [List.length_range] at this
          omega
      rintro σ7 H7 ⟨pl, ps, rfl, B7, hpl7, hps, lps, nplp⟩
      refine ⟨fun σ' H' => ∃ th, σ' = [some (V.ref a), some (.ref p), some (.int (0 + (i0 : Nat))), some v, some (.ref x), some (.ref l), some (.ref t), some (.ref pl), some (.ref th), y9, y10, y11, y12, none] ∧ LwB K C p c x l t pl th us b ys ps 0 [] H', ?_, ?_⟩
      · refine ⟨by decide, fun th nth => ?_⟩
        have sth := same_new (o := .lst []) nth
        obtain ⟨oc, hoc⟩ : ∃ o, H7 c = some o := by
          obtain ⟨cs, i, g, kk, d, hd⟩ := B7.hh
          exact ⟨_, hd.hc⟩
        exact ⟨th, rfl, B7.same sth, sth _ _ hpl7, upd_same, (fun _ h => nomatch h), Nat.le_refl _, ne_of_none B7.hl nth, ne_of_none B7.ht nth, (B7.hh.nep nth).symm, ne_of_none hoc nth, ne_of_none hpl7 nth, nplp⟩
      rintro σ8 H8 ⟨th, rfl, W8⟩
      -- the law's own ring
      refine ⟨fun σ' H' => ∃ v9, σ' = [some (V.ref a), some (.ref p), some (.int (0 + (i0 : Nat))), some v, some (.ref x), some (.ref l), some (.ref t), some (.ref pl), some (.ref th), some v9, y10, y11, y12, none] ∧ LwB K C p c x l t pl th us b ys ps 0 [] H' ∧ (v9 = .non ∨ ∃ p' hs L, Tri K H' (rowsB b).length v9 p' hs L ∧ hs.length ≤ 4001), ?_, ?_⟩
      · refine ⟨_, rfl, _, rfl, by show 1 ≤ sizeLine; decide, fun r nr => ?_⟩
        have sr := same_new (o := .lst [V.int 1500]) nr
        have W9 := W8.same sr
        refine ⟨l, t, r, us, b, ys, rfl, W9.B.hl, W9.B.hu, G, W9.B.hlot, W9.B.ht, upd_same, ne_of_none W8.B.hl nr, ne_of_none W8.B.ht nr, fun v9 H9 k9 hv => ?_⟩
        obtain ⟨oc, hoc⟩ : ∃ o, H8 c = some o := by
          obtain ⟨cs, i, g, kk, d, hd⟩ := W8.B.hh
          exact ⟨_, hd.hc⟩
        exact ⟨v9, rfl, W9.lst upd_same k9 (ne_of_none W8.B.hl nr) (ne_of_none W8.B.ht nr) (W8.B.hh.nep nr).symm (ne_of_none hoc nr) (ne_of_none W8.hpl nr) (ne_of_none W8.hth nr), hv⟩
      rintro σ9 H9 ⟨v9, rfl, W9, hv9⟩
      refine ⟨fun σ' H' => ∃ xs, σ' = [some (V.ref a), some (.ref p), some (.int (0 + (i0 : Nat))), some v, some (.ref x), some (.ref l), some (.ref t), some (.ref pl), some (.ref th), some v9, y10, y11, y12, none] ∧ LwB K C p c x l t pl th us b ys ps 2 xs H', ?_, ?_⟩
      · refine ⟨_, rfl, rfl, _, rfl, ?_⟩
        rcases hv9 with rfl | ⟨p', hs, L, tri, lhs⟩
        · exact ifBF rfl ⟨[], rfl, W9.wk (Nat.zero_le _)⟩
        · obtain ⟨ra, wa, la, rfl, h1, h2, h3, h4, h5, h6, h7⟩ := id tri
          refine ifB rfl ⟨_, rfl, .inl ⟨rfl, _, SqL.of W9.hth⟩, _, rfl, th, _, _, rfl, rfl, W9.hth, by decide, ?_⟩
          have W10 := W9.add (zs := [V.ref ra]) (m := 1) (fun v hv => by rw [List.mem_singleton.mp hv]; exact ⟨p', hs, L, tri⟩) (Nat.le_refl _)
          have pt := Pt.lst (o := .lst ([] ++ [V.ref ra])) W9.hth
          have g1 := pt.sq h1
          have g2 := pt.sq h2
          refine ⟨_, rfl, .inl ⟨rfl, _, SqL.of W10.hth⟩, _, rfl, ra, _, _, _, rfl, rfl, g1, rfl, _, rfl, ra, _, _, _, rfl, rfl, g1, rfl, _, rfl, ra, _, _, _, rfl, rfl, g1, rfl, 1, rfl, wa, _, rfl, g2, fun q1 G1 s1 e1 => ⟨wa, q1, _, _, rfl, rfl, s1.pt.sq g2, e1, ?_, fun q2 G2 s2 e2 => ⟨_, rfl, ra, _, _, _, rfl, rfl, (s1.trans s2).pt.sq g1, rfl, by show 3 ≤ sizeLine; decide, fun u nu => ?_⟩⟩⟩
          · have := cut_len (xs := plV hs) (lo := some 1) (hi := none)
            have lw : (plV hs).length = hs.length := by unfold plV; rw [List.length_map]
            exact Nat.le_trans (show _ ≤ 9000 by omega) (by decide)
          · have su := same_new (o := .tup [V.int (p' : Nat), V.ref q2, V.ref la]) nu
            have s12 := (s1.trans s2).trans su
            have W11 := W10.same s12
            refine ⟨th, _, _, rfl, rfl, W11.hth, by show 1 < sizeLine; decide, ?_⟩
            have ec : plV hs ++ cutV (plV hs) (some 1) none = plV (hs ++ hs.drop 1) := by
              rw [show cutV (plV hs) (some 1) none = (plV hs).drop 1 from cut_from1]
              unfold plV
              rw [List.map_append, List.map_drop]
            rw [ec] at e2
            have tu : Tri K (upd G2 u (.tup [V.int (p' : Nat), V.ref q2, V.ref la])) (rowsB b).length (.ref u) p' (hs ++ hs.drop 1) L := by
              refine ⟨u, q2, la, rfl, .inl (.inl upd_same), su.pt.sq e2, (pt.trans s12.pt).sq h3, h4, ?_, ?_, h7⟩
              · rw [List.length_append]; omega
              · rw [List.length_append, List.length_drop]; omega
            exact ⟨_, rfl, W11.add (zs := [V.ref u]) (m := 1) (fun v hv => by rw [List.mem_singleton.mp hv]; exact ⟨_, _, _, tu⟩) (Nat.le_refl _)⟩
      clear hv9
      rintro σ10 H10 ⟨xs0, rfl, W10⟩
      have lpv : (plV ps).length = ps.length := by unfold plV; rw [List.length_map]
      refine ⟨fun σ' H' => ∃ xs y10, σ' = [some (V.ref a), some (.ref p), some (.int (0 + (i0 : Nat))), some v, some (.ref x), some (.ref l), some (.ref t), some (.ref pl), some (.ref th), some v9, y10, y11, y12, none] ∧ LwB K C p c x l t pl th us b ys ps 10 xs H', ?_, ?_⟩
      · refine ⟨_, rfl, pl, _, rfl, .inl (SqL.of W10.hpl), _, _, rfl, rfl, _, rfl, ?_⟩
        refine ite2 (fun e => ?_) (fun _ => ⟨xs0, _, rfl, W10.wk (Nat.le_trans W10.le (by decide))⟩)
        have e0 : 0 < ps.length := by
          have := of_decide_eq_true e
          omega
        refine ⟨_, rfl, by decide, by decide, ?_⟩
        refine for_range (fun i σ' H' => ∃ xs y10, σ' = [some (V.ref a), some (.ref p), some (.int (0 + (i0 : Nat))), some v, some (.ref x), some (.ref l), some (.ref t), some (.ref pl), some (.ref th), some v9, y10, y11, y12, none] ∧ LwB K C p c x l t pl th us b ys ps (2 + 4 * i) xs H') ⟨xs0, _, rfl, W10⟩ ?_ (fun σ' H' h => ?_)
        · rintro i1 σ11 H11 hi1 ⟨xs1, z10, rfl, W11⟩
          refine ⟨_, rfl, .inl ⟨rfl, _, SqL.of W11.hth⟩, _, rfl, _, rfl, _, rfl, _, rfl, _, rfl, p, c, pl, plV ps, rfl, W11.B.hh, .inl ⟨W11.nph, .inl (SqL.of W11.hpl)⟩, ?_, ?_, fun y H12 hy hh12 ch12 => ?_⟩
          · exact List.ne_nil_of_length_pos (by omega)
          · exact Nat.lt_of_le_of_lt (show _ ≤ 30 by omega) (by decide)
          · obtain ⟨q, hq, rfl⟩ := List.mem_map.mp hy
            obtain ⟨xo, o, pps, hrow⟩ := noteAt_ex (hps q hq)
            have W12 := W11.mv hh12 ch12.kp
            refine ⟨p, c, l, t, q, us, b, ys, xo, o, pps, rfl, hh12, W12.B.hl, W12.B.hu, G, W12.B.hlot, W12.B.ht, hrow, fun f zs H13 hh13 k13 nf hf hle htr => ?_⟩
            have W13 := W12.mv hh13 k13
            refine ⟨th, f, _, _, rfl, rfl, W13.hth, hf, ?_, xs1 ++ zs, _, rfl, ?_⟩
            · have := W13.le
              exact Nat.le_trans (show _ ≤ 20 by omega) (by decide)
            · exact (W13.add htr hle).wk (W13.add htr hle).le
        · obtain ⟨xs1, z10, rfl, W11⟩ := h
          exact ⟨xs1, _, rfl, W11⟩
      clear W10
      rintro σ11 H11 ⟨xs1, z10, rfl, W11⟩
      refine ⟨fun σ' H' => ∃ xs y11, σ' = [some (V.ref a), some (.ref p), some (.int (0 + (i0 : Nat))), some v, some (.ref x), some (.ref l), some (.ref t), some (.ref pl), some (.ref th), some v9, z10, y11, y12, none] ∧ LwB K C p c x l t pl th us b ys ps 10 xs H', ?_, ?_⟩
      · refine ⟨_, rfl, th, rfl, ⟨_, SqL.of W11.hth⟩, ?_⟩
        refine for_list (xs := xs1) (fun _ σ' H' => ∃ y11, σ' = [some (V.ref a), some (.ref p), some (.int (0 + (i0 : Nat))), some v, some (.ref x), some (.ref l), some (.ref t), some (.ref pl), some (.ref th), some v9, z10, y11, y12, none] ∧ LwB K C p c x l t pl th us b ys ps 10 xs1 H') ⟨_, rfl, W11⟩ (fun _ _ _ _ h => SqL.of h.choose_spec.2.hth) ?_ (fun σ' H' h => ?_)
        · rintro i1 y σ12 H12 hy ⟨z11, rfl, W12⟩
          obtain ⟨p', hs, L, tri⟩ := W12.tr y (List.mem_of_getElem? hy)
          obtain ⟨r, hr⟩ := tri_rg (b := b) (ys := ys) T.O tri
          refine ⟨_, rfl, _, rfl, _, rfl, _, rfl, x, l, t, y, us, b, ys, r, rfl, W12.B.hp, W12.B.hl, W12.B.hu, G, W12.B.hlot, W12.B.ht, hr, fun H13 s13 => ⟨true, rfl, ?_⟩⟩
          exact ⟨_, rfl, W12.same s13⟩
        · obtain ⟨z11, rfl, W12⟩ := h
          exact ⟨_, _, rfl, W12⟩
      clear W11
      rintro σ12 H12 ⟨xs2, z11, rfl, W12⟩
      refine ⟨fun σ' H' => ∃ xs, σ' = [some (V.ref a), some (.ref p), some (.int (0 + (i0 : Nat))), some v, some (.ref x), some (.ref l), some (.ref t), some (.ref pl), some (.ref th), some v9, z10, z11, y12, none] ∧ xs ≠ [] ∧ LwB K C p c x l t pl th us b ys ps 11 xs H', ?_, ?_⟩
      · refine ⟨_, rfl, by show 0 ≤ sizeLine; decide, fun e ne => ?_⟩
        have W13 := W12.same (same_new (o := .lst []) ne)
        refine ⟨th, e, xs2, rfl, rfl, SqL.of W13.hth, SqL.of upd_same, _, rfl, ?_⟩
        refine ite2 (fun he => ?_) (fun he => ⟨xs2, rfl, fun q => he (by rw [q]; rfl), W13.wk (Nat.le_trans W13.le (by decide))⟩)
        refine ⟨_, rfl, .inl ⟨rfl, _, SqL.of W13.hth⟩, _, rfl, _, rfl, l, _, rfl, .inl (SqL.of W13.B.hl), p, c, _, rfl, W13.B.hh, by omega, by omega, fun d H14 d0 d1 hh14 ch14 => ⟨by show 1 ≤ sizeLine; decide, fun w1 nw => ?_⟩⟩
        have sw := same_new (o := .tup [V.int 0]) nw
        have W14 := (W13.mv hh14 ch14.kp).same sw
        refine ⟨_, rfl, 1, rfl, t, _, rfl, SqL.of W14.B.ht, fun s1 ns => ⟨s1, _, rfl, .inl ⟨SqL.of upd_same, fun q nq => ⟨by show 3 ≤ sizeLine; decide, fun u nu => ?_⟩⟩⟩⟩
        have ss := same_new (o := .lst (cutV (ys.map V.str) none (some 1))) ns
        have sq := same_new (o := .tup (cutV (ys.map V.str) none (some 1))) nq
        have su := same_new (o := .tup [V.int d, V.ref w1, V.ref q]) nu
        have W15 := W14.same ((ss.trans sq).trans su)
        refine ⟨th, _, _, rfl, rfl, W15.hth, ?_, ?_⟩
        · have := W15.le
          exact Nat.lt_of_le_of_lt this (by decide)
        refine ⟨_, rfl, List.append_ne_nil_of_right_ne_nil _ (by simp), W15.add (zs := [V.ref u]) (m := 1) (fun v hv => ?_) (Nat.le_refl _)⟩
        rw [List.mem_singleton.mp hv]
        have ed : d = ((d.toNat : Nat) : Int) := (Int.toNat_of_nonneg d0).symm
        refine ⟨d.toNat, [0], ys.take 1, u, w1, q, rfl, .inl (.inl ?_), ((ss.trans sq).trans su).pt.sq (.inl (.inl upd_same)), su.pt.sq (.inl (.inl ?_)), by omega, Nat.le_refl _, by decide, ?_⟩
        · rw [upd_same, ← ed]
        · rw [upd_same, show cutV (ys.map V.str) none (some 1) = (ys.map V.str).take 1 from cut_to1, List.map_take]
        · rw [List.length_take]; omega
      clear W12
      rintro σ13 H13 ⟨xs3, rfl, nx3, W13⟩
      refine ⟨_, rfl, by decide, by decide, ?_⟩
      refine for_range (fun _ σ' H' => ∃ y10 y12, σ' = [some (V.ref a), some (.ref p), some (.int (0 + (i0 : Nat))), some v, some (.ref x), some (.ref l), some (.ref t), some (.ref pl), some (.ref th), some v9, y10, z11, y12, none] ∧ LwB K C p c x l t pl th us b ys ps 11 xs3 H') ⟨_, _, rfl, W13⟩ ?_ (fun σ' H' h => ?_)
      · rintro i1 σ14 H14 hi1 ⟨z10', z12, rfl, W14⟩
        refine ⟨_, rfl, _, rfl, _, rfl, p, c, th, xs3, rfl, W14.B.hh, .inl ⟨W14.nht.symm, .inl (SqL.of W14.hth)⟩, nx3, Nat.lt_of_le_of_lt W14.le (by decide), fun y H15 hy hh15 ch15 => ?_⟩
        have W15 := W14.mv hh15 ch15.kp
        obtain ⟨p', hs, L, tri⟩ := W15.tr y hy
        refine ⟨_, rfl, _, rfl, _, rfl, p, c, l, t, x, y, us, b, ys, p', hs, L, rfl, hh15, tri, W15.B.hl, W15.B.hu, G, W15.B.hlot, W15.B.ht, W15.B.hp, fun v' H16 hh16 k16 ⟨r, hr⟩ => ?_⟩
        have W16 := W15.mv hh16 k16
        refine ⟨_, rfl, _, rfl, _, rfl, _, rfl, x, l, t, v', us, b, ys, r, rfl, W16.B.hp, W16.B.hl, W16.B.hu, G, W16.B.hlot, W16.B.ht, hr, fun H17 s17 => ⟨true, rfl, ?_⟩⟩
        exact ⟨_, _, rfl, W16.same s17⟩
      · obtain ⟨z10', z12, rfl, W14⟩ := h
        exact ⟨_, _, _, _, _, _, _, _, _, _, _, rfl, W14.B.hh⟩
    · obtain ⟨y2, y3, y4, y5, y6, y7, y8, y9, y10, y11, y12, rfl, _⟩ := h
      exact k H'
end
end K25
set_option Elab.async false
set_option linter.all false
set_option maxRecDepth 100000
set_option maxHeartbeats 4000000
namespace ZX
open PySem PySem.Spec PyProof.Rows L2
/-! ### a Hook: facts, defs, and one Bool more -/
structure SaysB (fa : List He.Fa) (fn : List He.DefD) (ex : PySem.W.Frag → Bool) (K : PySem.W.Frag) : Prop where
  d : He.SaysD fa fn K
  more : ex K = true
abbrev AlB : Type := He.AlD × Bool
def obsB (fa : List He.Fa) (fn : List He.DefD) (ex : PySem.W.Frag → Bool) (K : PySem.W.Frag) : AlB := (He.obsD fa fn K, ex K)
def obsBG (n : Nat) (fa : List He.Fa) (fn : List He.DefD) (ex : PySem.W.Frag → Bool) (g : Addr → Option Obj) : AlB := obsB fa fn ex (He.frG g (He.asD g n))
def valB (fn : List He.DefD) : AlB := (He.valD fn, true)
def hookB (n : Nat) (fa : List He.Fa) (fn : List He.DefD) (ex : PySem.W.Frag → Bool) : PySem.W.Hook where
  α := AlB
  obs := fun s => obsBG n fa fn ex s.heap.get?
  val := fun _ => valB fn
  says := fun _ h => ∃ K : PySem.W.Frag, K.In h ∧ SaysB fa fn ex K
  of := fun _ _ e => ⟨_, He.frG_in, congrArg (fun z : AlB => z.1) e, congrArg (fun z : AlB => z.2) e⟩
  keeps := fun _ _ _ ⟨K, hK, c⟩ k => ⟨K, PySem.W.Frag.In.keeps hK k, c⟩
theorem obsBG_eq {n : Nat} {fa : List He.Fa} {fn : List He.DefD} {ex : PySem.W.Frag → Bool} {g : Addr → Option Obj} {s : Shared} (h : ∀ a, g a = s.heap.get? a) : obsBG n fa fn ex g = (hookB n fa fn ex).obs s := by
  have e : g = s.heap.get? := funext h
  rw [e] <;> rfl
/-! ### own exception classes over one own class over ValueError -/
/-- the class x has the chain x, base, ValueError .. and its own dict -/
def clsB (K : PySem.W.Frag) (base x : Str) : Bool := match K.lookup (He.ga K x) with
  | some ⟨.type "type", _, .cls cd, sl⟩ => (match sl.toList with
    | [_, _, _, _, some (.builtin n), _] => decide (cd.mro = [.ref (He.ga K x), .ref (He.ga K base), .type "ValueError", .type "Exception", .type "BaseException", .type "object"]) && (n == "ValueError.__new__" && (!cd.hasDel && cd.hasDict))
    | _ => false)
  | _ => false
theorem clsB_ok {K : PySem.W.Frag} {base x : Str} (h : clsB K base x = true) : ∃ nm q N bs sn sub ab col dd k0 k1 k2 k3 k5,
    K.lookup (He.ga K x) = some (excClassObj nm q (He.ga K x) N bs [.ref (He.ga K base), .type "ValueError", .type "Exception", .type "BaseException", .type "object"] true sn sub ab col dd k0 k1 k2 k3 k5 "ValueError.__new__") := by
  unfold clsB at h
  split at h
  · rename_i dd cd sl ho
    split at h
    · rename_i k0 k1 k2 k3 n k5 hs
      obtain ⟨h1, h⟩ := Bool.and_eq_true_iff.mp h
      obtain ⟨h2, h⟩ := Bool.and_eq_true_iff.mp h
      obtain ⟨h3, h4⟩ := Bool.and_eq_true_iff.mp h
      have hm := of_decide_eq_true h1
      have hn := eq_of_beq h2
      obtain ⟨nm, bs, mro, ns, qn, hd, sn, sb, ab, col, del⟩ := cd
      dsimp only at hm h3 h4
      subst hm hn h4
      have hdel : del = false := by
        cases del with
        | false => rfl
        | true => cases h3
      subst hdel
      have hsl : sl = #[k0, k1, k2, k3, some (.builtin "ValueError.__new__"), k5] := by
        obtain ⟨l⟩ := sl
        simp only at hs
        rw [hs]
      subst hsl
      exact ⟨nm, qn, ns, bs, sn, sb, ab, col, dd, k0, k1, k2, k3, k5, ho⟩
    · cases h
  · cases h
def opB (a b : Option (Option Value)) : Bool := decide (a = b)
/-- all that the walk asks of such a class, whose __init__ is its own -/
def ecB (K : PySem.W.Frag) (base x : Str) : Bool := clsB K base x && (opB (PySem.W.findIn K (.ref (He.ga K x)) "__setattr__") (some (some (.builtin "object.__setattr__"))) &&
  (PySem.W.keepIn K (.ref (He.ga K x)) && (opB (PySem.W.findIn K (.ref (He.ga K x)) "__init__") (some (some (.ref (He.ma K (He.ga K x) "__init__")))) &&
  (decide (PySem.W.typeIn K (.ref (He.ma K (He.ga K x) "__init__")) = some (.type "function")) && (opB (PySem.W.findIn K (.ref (He.ga K x)) "__getattribute__") (some (some (.builtin "BaseException.__getattribute__"))) &&
  (opB (PySem.W.findIn K (.ref (He.ga K x)) "__getattr__") (some none) && opB (PySem.W.findIn K (.ref (He.ga K x)) "__class__") (some (some (.builtin "object.__class__")))))))))
structure EcC (K : PySem.W.Frag) (base x : Str) : Prop where
  cls : ∃ nm q N bs sn sub ab col dd k0 k1 k2 k3 k5,
    K.lookup (He.ga K x) = some (excClassObj nm q (He.ga K x) N bs [.ref (He.ga K base), .type "ValueError", .type "Exception", .type "BaseException", .type "object"] true sn sub ab col dd k0 k1 k2 k3 k5 "ValueError.__new__")
  sa : PySem.W.findIn K (.ref (He.ga K x)) "__setattr__" = some (some (.builtin "object.__setattr__"))
  kC : PySem.W.keepIn K (.ref (He.ga K x)) = true
  iC : PySem.W.findIn K (.ref (He.ga K x)) "__init__" = some (some (.ref (He.ma K (He.ga K x) "__init__")))
  tI : PySem.W.typeIn K (.ref (He.ma K (He.ga K x) "__init__")) = some (.type "function")
  ga : PySem.W.findIn K (.ref (He.ga K x)) "__getattribute__" = some (some (.builtin "BaseException.__getattribute__"))
  gg : PySem.W.findIn K (.ref (He.ga K x)) "__getattr__" = some none
  kc : PySem.W.findIn K (.ref (He.ga K x)) "__class__" = some (some (.builtin "object.__class__"))
theorem ecB_ok {K : PySem.W.Frag} {base x : Str} (h : ecB K base x = true) : EcC K base x := by
  obtain ⟨h1, h⟩ := Bool.and_eq_true_iff.mp h
  obtain ⟨h2, h⟩ := Bool.and_eq_true_iff.mp h
  obtain ⟨h3, h⟩ := Bool.and_eq_true_iff.mp h
  obtain ⟨h4, h⟩ := Bool.and_eq_true_iff.mp h
  obtain ⟨h5, h⟩ := Bool.and_eq_true_iff.mp h
  obtain ⟨h6, h⟩ := Bool.and_eq_true_iff.mp h
  obtain ⟨h7, h8⟩ := Bool.and_eq_true_iff.mp h
  exact ⟨clsB_ok h1, of_decide_eq_true h2, h3, of_decide_eq_true h4, of_decide_eq_true h5, of_decide_eq_true h6, of_decide_eq_true h7, of_decide_eq_true h8⟩
section
variable {K : PySem.W.Frag} {base x : Str}
theorem EcC.cd (E : EcC K base x) : ∃ cd, PySem.W.clsIn K (He.ga K x) = some cd ∧ cd.mro = [.ref (He.ga K x), .ref (He.ga K base), .type "ValueError", .type "Exception", .type "BaseException", .type "object"] ∧ cd.hasDict = true := by
  obtain ⟨nm, q, N, bs, sn, sub, ab, col, dd, k0, k1, k2, k3, k5, h⟩ := E.cls
  refine ⟨{ name := nm, bases := bs, mro := [.ref (He.ga K x), .ref (He.ga K base), .type "ValueError", .type "Exception", .type "BaseException", .type "object"], ns := N, qualname := q, hasDict := true, slotNames := sn, subclasses := sub, abstract := ab, collection := col, hasDel := false }, ?_, rfl, rfl⟩
  unfold PySem.W.clsIn
  rw [h]
theorem EcC.mro (E : EcC K base x) (v : Value) : PySem.W.mroIn K (He.ga K x) v = some ([Value.ref (He.ga K x), .ref (He.ga K base), .type "ValueError", .type "Exception", .type "BaseException", .type "object"].contains v) := by
  obtain ⟨cd, h, hm, _⟩ := E.cd
  unfold PySem.W.mroIn
  rw [h, Option.bind_some, hm]
  rfl
theorem EcC.exC (E : EcC K base x) : PySem.W.subIn K (.ref (He.ga K x)) (.type "BaseException") = some true := by
  show PySem.W.mroIn K (He.ga K x) (.type "BaseException") = some true
  rw [E.mro]
  simp
theorem EcC.tyC (E : EcC K base x) : PySem.W.typeIn K (.ref (He.ga K x)) = some (.type "type") := by
  obtain ⟨nm, q, N, bs, sn, sub, ab, col, dd, k0, k1, k2, k3, k5, h⟩ := E.cls
  unfold PySem.W.typeIn
  simp only [h, Option.map_some]
theorem EcC.hd (E : EcC K base x) : PySem.W.hasDictIn K (He.ga K x) = true := by
  obtain ⟨cd, h, _, hd⟩ := E.cd
  unfold PySem.W.hasDictIn
  rw [h]
  simpa using hd
theorem EcC.oex (E : EcC K base x) : OexC K (He.ga K x) := by
  obtain ⟨nm, q, N, bs, sn, sub, ab, col, dd, k0, k1, k2, k3, k5, h⟩ := E.cls
  exact ⟨⟨nm, q, N, bs, _, sn, sub, ab, col, dd, k0, k1, k2, k3, k5, h, by simp only [PySem.HandSPX.refsVE]; decide +kernel⟩, E.sa, E.exC, E.tyC, E.kC⟩
theorem EcC.xf (E : EcC K base x) : XfC K (He.ga K x) := ⟨E.ga, E.gg, E.exC, E.hd⟩
theorem EcC.ec (E : EcC K base x) : L2.ExcC K (He.ga K x) := ⟨E.ga, E.gg, E.exC, E.hd, E.kc, by kernel_rfl, by kernel_rfl, by rw [E.mro]; simp⟩
/-- isinstance against a class of the program -/
theorem EcC.kit (E : EcC K base x) {D : Addr} (hD : (PySem.W.clsIn K D).isSome = true) (tD : PySem.W.typeIn K (.ref D) = some (.type "type")) : PySem.W.kitOne K (.ref (He.ga K x)) (.ref D) = some (decide (D = He.ga K x ∨ D = He.ga K base)) := by
  unfold PySem.W.kitOne
  by_cases e : D = He.ga K x
  · subst e
    rw [if_pos (by simp)]
    simp
  · rw [if_neg (by simpa using fun z => e z.symm)]
    have e2 : ((PySem.W.clsIn K D).isSome && PySem.W.typeIn K (.ref D) == some (.type "type")) = true := by
      rw [hD, tD] <;> rfl
    show (if ((PySem.W.clsIn K D).isSome && PySem.W.typeIn K (.ref D) == some (.type "type")) = true then PySem.W.mroIn K (He.ga K x) (.ref D) else none) = _
    rw [if_pos e2, E.mro]
    simp [e]
theorem EcC.kitV (E : EcC K base x) : PySem.W.kitOne K (.ref (He.ga K x)) (.type "ValueError") = some true := by
  unfold PySem.W.kitOne
  rw [if_neg (by simp)]
  show (if PySem.W.kitMeta "ValueError" = true then PySem.W.mroIn K (He.ga K x) (.type "ValueError") else none) = some true
  rw [if_pos (by decide +kernel), E.mro]
  simp
end
end ZX
set_option Elab.async false
set_option linter.all false
set_option maxRecDepth 100000
set_option maxHeartbeats 0
namespace K25
open PySem PySem.Spec PyProof.Rows L2 ZX
/-! ### the head: facts by names, the run -/
abbrev iNoPlace : Stmt := inClass (top 3) 0
abbrev iNoWay : Stmt := inClass (top 4) 0
abbrev iNoLot : Stmt := inClass (top 5) 0
def dD (x : Str) (st : Stmt) : He.DefD := ⟨(x, none), x, x, defArgs st, defBody st, defScope st, [], []⟩
/-- a def with defaults -/
def dV (x : Str) (st : Stmt) (l : List He.Dv) : He.DefD := ⟨(x, none), x, x, defArgs st, defBody st, defScope st, l, []⟩
def dM (x m q : Str) (st : Stmt) : He.DefD := ⟨(x, some m), m, q, defArgs st, defBody st, defScope st, [], []⟩
def fn : List He.DefD := ([dD "is_integer" sIs_integer, dD "is_number_below" sIs_number_below, dD "is_name" sIs_name, dD "is_lot" sIsLot, dD "is_parts" sIs_parts, dD "is_block" sIs_block, dV "is_row" sIs_row [.int 0], dD "blocks_of" sBlocks_of, dD "names_of" sNames_of, dD "formless_place" sFormless_place, dD "rows_of" sRows_of, dD "all_names" sAll_names, dD "bad_place" sBad_place, dD "block_leads" sBlock_leads, dD "row_leads" sRow_leads, dD "names" sNames, dD "end_of" sEndOf, dD "row_at" sRow_at, dD "nexts" sNexts, dD "is_way" sIsWay, dD "lot_behind" sLotBehind, dD "with_name" sWithName, dD "holders" sHolders, dD "is_ring" sIsRing, dD "_law_hand" sHand] : List He.DefD) ++ ([dD "_law_draw" sDraw, dD "_law_any" sAny, dD "_law_size" sLSize, dD "_law_lay" sLLay, dD "_law_table" sLTable, dD "_law_names" sLNames, dD "_law_words" sLWords, dD "_law_plain" sLPlain, dD "_law_inner" sLInner, dD "_law_small" sLSmall, dD "_law_wide" sLWide, dD "_law_led" sLLed, dD "_law_bits" sLBits, dD "_law_mask" sLMask, dD "_law_lot" sLLot, dD "_law_moved" sLMoved, dD "_law_along" sLAlong, dD "_law_lots_back" sLLots, dD "_law_way_back" sLWayB, dD "_law_chain" sLChain, dD "_law_ring" sLRing, dD "_law_is_int" sLIsInt, dD "_law_is_way" sLIsWay, dD "_law_is_lot" sLIsLot, dD "_law_is_ring" sLIsRing] : List He.DefD) ++ ([dD "_law_deep" sDeep, dD "_law_bent" sLBent, dD "_law_passed" sLPassed, dD "_law_is_judged" sLJudged, dD "law" sLaw, dM "Program" "__init__" "Program.__init__" sProgramInit, dM "NoPlace" "__init__" "NoPlace.__init__" iNoPlace, dM "NoWay" "__init__" "NoWay.__init__" iNoWay, dM "NoLot" "__init__" "NoLot.__init__" iNoLot] : List He.DefD)
def fa : List He.Fa := ([.glo "is_integer", .glo "is_number_below", .glo "is_name", .glo "is_lot", .glo "is_parts", .glo "is_block", .glo "is_row", .glo "blocks_of", .glo "names_of", .glo "formless_place", .glo "rows_of", .glo "all_names", .glo "bad_place", .glo "block_leads", .glo "row_leads", .glo "names", .glo "end_of", .glo "row_at", .glo "nexts", .glo "is_way", .glo "lot_behind", .glo "with_name", .glo "holders", .glo "is_ring", .glo "_law_hand"] : List He.Fa) ++ ([.glo "_law_draw", .glo "_law_any", .glo "_law_size", .glo "_law_lay", .glo "_law_table", .glo "_law_names", .glo "_law_words", .glo "_law_plain", .glo "_law_inner", .glo "_law_small", .glo "_law_wide", .glo "_law_led", .glo "_law_bits", .glo "_law_mask", .glo "_law_lot", .glo "_law_moved", .glo "_law_along", .glo "_law_lots_back", .glo "_law_way_back", .glo "_law_chain", .glo "_law_ring", .glo "_law_is_int", .glo "_law_is_way", .glo "_law_is_lot", .glo "_law_is_ring"] : List He.Fa) ++ ([.glo "_law_deep", .glo "_law_bent", .glo "_law_passed", .glo "_law_is_judged", .glo "law", .glo "Program", .glo "ASKING", .glo "PileError", .glo "NoPlace", .glo "NoWay", .glo "NoLot", .free "abs", .free "all", .free "bool", .free "enumerate", .free "int", .free "isinstance", .free "len", .free "list", .free "range", .free "set", .free "sorted", .free "str", .free "sum", .free "tuple"] : List He.Fa) ++ ([.free "zip", .free "ValueError", .free "max", .free "any", .int "MOST_ROWS_IN_BLOCK" 12, .int "MOST_ROWS" 30, .int "MOST_DEEP" 4, .int "MOST_NAMES" 8, .int "MOST_PARTS" 3, .int "MOST_LETTERS" 8, .cls "Program", .mkr "Program", .noat "Program" "block", .noat "Program" "_rows", .noat "Program" "_leads", .noat "Program" "_names"] : List He.Fa)
def excs : List Str := ["NoPlace", "NoWay", "NoLot"]
/-- what is asked of a class of objects -/
def objB (K : PySem.W.Frag) (x : Str) : Bool := opB (PySem.W.findIn K (.ref (He.ga K x)) "__class__") (some (some (.builtin "object.__class__"))) && (opB (PySem.W.specialIn K (.builtin "object.__class__") "__get__") (some (some (.builtin "getset_descriptor.__get__"))) && (decide (PySem.W.takesIn K (.builtin "object.__class__") = some true) && (decide (PySem.W.mroIn K (He.ga K x) (.type "object") = some true) && ((PySem.W.clsIn K (He.ga K x)).isSome && (decide (PySem.W.typeIn K (.ref (He.ga K x)) = some (.type "type")) && (decide (PySem.W.mroIn K (He.ga K x) (.type "int") = some false) && (decide (PySem.W.mroIn K (He.ga K x) (.type "tuple") = some false) && (opB (PySem.W.findIn K (.ref (He.ga K x)) "__ne__") (some (some (.builtin "object.__ne__"))) && decide (PySem.W.mroIn K (He.ga K x) (.type "str") = some false)))))))))
def tups (K : PySem.W.Frag) : Bool := true && He.tupB K "ASKING" [.str "ask", .str "print"]
def ex (K : PySem.W.Frag) : Bool := ((excs.all fun x => ecB K "PileError" x) && [("Program" : Str)].all fun x => objB K x) && tups K
abbrev R : PySem.W.OpenRow := PySem.W.OpenLaw.row PySem.Challenge.rw_putoffpiles_k25_whole_rings_judged
abbrev hk : PySem.W.Hook := hookB 5 fa fn ex
def ob (s : PySem.W.SharedT) : AlB := obsBG 5 fa fn ex (HandSHeadRun.getT s)
theorem ob_eq (s : PySem.W.SharedT) : ob s = hk.obs s.abs := obsBG_eq (HandSHeadRun.getT_eq s)
def loose : List Str := (["PileError", "BadProgram", "NoPlace", "NoWay", "NoLot", "Program", "is_integer", "is_number_below", "is_name", "is_lot", "is_parts", "is_block", "is_row", "blocks_of", "names_of", "formless_place", "rows_of", "all_names", "bad_place", "block_leads", "row_leads", "names", "end_of", "row_at", "nexts"] : List Str) ++ (["is_way", "lot_behind", "with_name", "holders", "is_ring", "_law_hand", "_law_draw", "_law_any", "_law_size", "_law_lay", "_law_table", "_law_names", "_law_words", "_law_plain", "_law_inner", "_law_small", "_law_wide", "_law_led", "_law_bits", "_law_mask", "_law_lot", "_law_moved", "_law_along", "_law_lots_back", "_law_way_back"] : List Str) ++ (["_law_chain", "_law_ring", "_law_is_int", "_law_is_way", "_law_is_lot", "_law_is_ring", "_law_deep", "_law_bent", "_law_passed", "_law_is_judged", "MOST_ROWS_IN_BLOCK", "MOST_ROWS", "MOST_DEEP", "MOST_NAMES", "MOST_PARTS", "MOST_LETTERS", "ASKING"] : List Str)
theorem run (w : World) : HandSHeadRun.RunEq R (PySem.W.view R.prog [72]) hk ob 20000 loose w := by
  intro os
  kernel_rfl
end K25
set_option Elab.async false
set_option linter.all false
set_option maxRecDepth 100000
set_option maxHeartbeats 4000000
namespace K25
open PySem PySem.Spec PyProof.Rows L2 ZX PM ZR
section
variable {P : Program} {w : World} {K : PySem.W.Frag} {h : Heap} {mg : Str → Option Value} {base : Heap}
theorem glo (X : K.In h) (G : h.Ns mainGlobals mg) (c : SaysB fa fn ex K) (i : Nat) (x : Str) (e : fa[i]? = some (.glo x)) : mg x = some (.ref (He.ga K x)) := He.glo_ok X G (c.d.fact i (f := .glo x) e)
theorem free (X : K.In h) (G : h.Ns mainGlobals mg) (c : SaysB fa fn ex K) (i : Nat) (x : Str) (e : fa[i]? = some (.free x)) : mg x = none := He.free_ok X G (c.d.fact i (f := .free x) e)
theorem bi_of (X : K.In h) (G : h.Ns mainGlobals mg) (c : SaysB fa fn ex K) : Bi mg := { b_abs := free X G c 61 _ rfl, b_all := free X G c 62 _ rfl, b_bool := free X G c 63 _ rfl, b_enumerate := free X G c 64 _ rfl, b_int := free X G c 65 _ rfl, b_isinstance := free X G c 66 _ rfl, b_len := free X G c 67 _ rfl, b_list := free X G c 68 _ rfl, b_range := free X G c 69 _ rfl, b_set := free X G c 70 _ rfl, b_sorted := free X G c 71 _ rfl, b_str := free X G c 72 _ rfl, b_sum := free X G c 73 _ rfl, b_tuple := free X G c 74 _ rfl, b_zip := free X G c 75 _ rfl, m_MOST_ROWS_IN_BLOCK := He.int_ok X G (c.d.fact 79 (f := .int "MOST_ROWS_IN_BLOCK" 12) rfl), m_MOST_ROWS := He.int_ok X G (c.d.fact 80 (f := .int "MOST_ROWS" 30) rfl), m_MOST_DEEP := He.int_ok X G (c.d.fact 81 (f := .int "MOST_DEEP" 4) rfl), m_MOST_NAMES := He.int_ok X G (c.d.fact 82 (f := .int "MOST_NAMES" 8) rfl), m_MOST_PARTS := He.int_ok X G (c.d.fact 83 (f := .int "MOST_PARTS" 3) rfl), m_MOST_LETTERS := He.int_ok X G (c.d.fact 84 (f := .int "MOST_LETTERS" 8) rfl) }
theorem exc_of (c : SaysB fa fn ex K) {x : Str} (hx : x ∈ excs) : EcC K "PileError" x := ecB_ok (List.all_eq_true.mp (Bool.and_eq_true_iff.mp (Bool.and_eq_true_iff.mp (show (((excs.all fun x => ecB K "PileError" x) && _) && tups K) = true from c.more)).1).1 x hx)
theorem asking_of (X : K.In h) (G : h.Ns mainGlobals mg) (c : SaysB fa fn ex K) : Asking K mg := ⟨_, glo X G c 56 _ rfl, fun H => He.tupB_ok (vs := [.str "ask", .str "print"]) (Bool.and_eq_true_iff.mp (show (true && He.tupB K "ASKING" [.str "ask", .str "print"]) = true from (Bool.and_eq_true_iff.mp (show (_ && tups K) = true from c.more)).2)).2 H⟩
structure ObjProgram (K : PySem.W.Frag) : Prop where
  c : Cls K (He.ga K "Program")
  m : Mk K (He.ga K "Program") (He.ma K (He.ga K "Program") "__init__")
  ga : PySem.W.findIn K (.ref (He.ga K "Program")) "__class__" = some (some (.builtin "object.__class__"))
  gn : PySem.W.specialIn K (.builtin "object.__class__") "__get__" = some (some (.builtin "getset_descriptor.__get__"))
  gt : PySem.W.takesIn K (.builtin "object.__class__") = some true
  gm : PySem.W.mroIn K (He.ga K "Program") (.type "object") = some true
  isC : (PySem.W.clsIn K (He.ga K "Program")).isSome = true
  tyC : PySem.W.typeIn K (.ref (He.ga K "Program")) = some (.type "type")
  gi : PySem.W.mroIn K (He.ga K "Program") (.type "int") = some false
  tu : PySem.W.mroIn K (He.ga K "Program") (.type "tuple") = some false
  ne : PySem.W.findIn K (.ref (He.ga K "Program")) "__ne__" = some (some (.builtin "object.__ne__"))
  st : PySem.W.mroIn K (He.ga K "Program") (.type "str") = some false
  n_block : NoAttr K (He.ga K "Program") "block"
  n__rows : NoAttr K (He.ga K "Program") "_rows"
  n__leads : NoAttr K (He.ga K "Program") "_leads"
  n__names : NoAttr K (He.ga K "Program") "_names"
theorem objProgram_of (c : SaysB fa fn ex K) : ObjProgram K := by
  have hex := (Bool.and_eq_true_iff.mp (Bool.and_eq_true_iff.mp (show (((excs.all fun x => ecB K "PileError" x) && [("Program" : Str)].all fun x => objB K x) && tups K) = true from c.more)).1).2
  have h := List.all_eq_true.mp hex "Program" (by simp)
  obtain ⟨h1, h⟩ := Bool.and_eq_true_iff.mp h
  obtain ⟨h2, h⟩ := Bool.and_eq_true_iff.mp h
  obtain ⟨h3, h⟩ := Bool.and_eq_true_iff.mp h
  obtain ⟨h4, h⟩ := Bool.and_eq_true_iff.mp h
  obtain ⟨h5, h⟩ := Bool.and_eq_true_iff.mp h
  obtain ⟨h6, h⟩ := Bool.and_eq_true_iff.mp h
  obtain ⟨h7, h⟩ := Bool.and_eq_true_iff.mp h
  obtain ⟨h8, h⟩ := Bool.and_eq_true_iff.mp h
  obtain ⟨h9, h10⟩ := Bool.and_eq_true_iff.mp h
  exact ⟨He.cls_ok (c.d.fact 85 (f := .cls "Program") rfl), He.mkr_ok (c.d.fact 86 (f := .mkr "Program") rfl), of_decide_eq_true h1, of_decide_eq_true h2, of_decide_eq_true h3, of_decide_eq_true h4, h5, of_decide_eq_true h6, of_decide_eq_true h7, of_decide_eq_true h8, of_decide_eq_true h9, of_decide_eq_true h10, He.noat_ok (c.d.fact 87 (f := .noat "Program" "block") rfl), He.noat_ok (c.d.fact 88 (f := .noat "Program" "_rows") rfl), He.noat_ok (c.d.fact 89 (f := .noat "Program" "_leads") rfl), He.noat_ok (c.d.fact 90 (f := .noat "Program" "_names") rfl)⟩
end
theorem scNoPlace : FnScope ["self"] ["self"] (defScope iNoPlace) := ⟨rfl, rfl, rfl, by decide +kernel, rfl, by decide +kernel, by decide +kernel⟩
theorem ok_NoPlace {P : Program} {w : World} {K : PySem.W.Frag} {mg : Str → Option Value} {base : Heap} {f : Addr} {fd : FuncData} (F : FunD K "__init__" "NoPlace.__init__" (defArgs iNoPlace) (defBody iNoPlace) (defScope iNoPlace) [] [] f fd) : FnOk P w K mg base CX0 1 f fd ["self"] spP := by
  refine F.ok scNoPlace (fun vs H Q E h => ?_) (fun cdv A outer s H vs Q E' hr h => ?_)
  · obtain ⟨a, rfl, _⟩ := h
    rfl
  · obtain ⟨a, rfl, k⟩ := h
    exact ⟨_, PSs.nox (pss_one ps_pass), k⟩
theorem scNoWay : FnScope ["self"] ["self"] (defScope iNoWay) := ⟨rfl, rfl, rfl, by decide +kernel, rfl, by decide +kernel, by decide +kernel⟩
theorem ok_NoWay {P : Program} {w : World} {K : PySem.W.Frag} {mg : Str → Option Value} {base : Heap} {f : Addr} {fd : FuncData} (F : FunD K "__init__" "NoWay.__init__" (defArgs iNoWay) (defBody iNoWay) (defScope iNoWay) [] [] f fd) : FnOk P w K mg base CX0 1 f fd ["self"] spP := by
  refine F.ok scNoWay (fun vs H Q E h => ?_) (fun cdv A outer s H vs Q E' hr h => ?_)
  · obtain ⟨a, rfl, _⟩ := h
    rfl
  · obtain ⟨a, rfl, k⟩ := h
    exact ⟨_, PSs.nox (pss_one ps_pass), k⟩
theorem scNoLot : FnScope ["self"] ["self"] (defScope iNoLot) := ⟨rfl, rfl, rfl, by decide +kernel, rfl, by decide +kernel, by decide +kernel⟩
theorem ok_NoLot {P : Program} {w : World} {K : PySem.W.Frag} {mg : Str → Option Value} {base : Heap} {f : Addr} {fd : FuncData} (F : FunD K "__init__" "NoLot.__init__" (defArgs iNoLot) (defBody iNoLot) (defScope iNoLot) [] [] f fd) : FnOk P w K mg base CX0 1 f fd ["self"] spP := by
  refine F.ok scNoLot (fun vs H Q E h => ?_) (fun cdv A outer s H vs Q E' hr h => ?_)
  · obtain ⟨a, rfl, _⟩ := h
    rfl
  · obtain ⟨a, rfl, k⟩ := h
    exact ⟨_, PSs.nox (pss_one ps_pass), k⟩
theorem facts {P : Program} {w : World} {K : PySem.W.Frag} {h : Heap} {mg : Str → Option Value} {f : Addr} (X : K.In h) (G : h.Ns mainGlobals mg) (hfa : mg ("law" : Str) = some (.ref f)) (c : SaysB fa fn ex K) :
    ∃ fd : FuncData, (∀ (s : Shared) (v : Value), BindsTo s fd ⟨[v], []⟩ [("_law_script", v)]) ∧ ∀ base : Heap, K.In base → base.Ns mainGlobals mg → FnOk P w K mg base CX0 18 f fd ["_law_script"] (spLaw K) := by
  obtain ⟨f_law, F_law⟩ := c.d.def_ 54 (d := dD "law" sLaw) rfl
  have e := hfa.symm.trans (He.glo_ok X G (c.d.fact 54 (f := .glo "law") rfl))
  cases e
  have b := FunD.bindsA (ps := ["_law_script"]) F_law fun _ _ _ _ _ _ us hl => match us, hl with | [_], _ => rfl
  refine ⟨f_law, fun s v => b s [v] rfl, fun base _ _ => ?_⟩
  have bi := bi_of X G c
  have oP := objProgram_of c

  obtain ⟨f_is_integer, F_is_integer⟩ := c.d.def_ 0 (d := dD "is_integer" sIs_integer) rfl
  obtain ⟨f_is_number_below, F_is_number_below⟩ := c.d.def_ 1 (d := dD "is_number_below" sIs_number_below) rfl
  obtain ⟨f_is_name, F_is_name⟩ := c.d.def_ 2 (d := dD "is_name" sIs_name) rfl
  obtain ⟨f_is_lot, F_is_lot⟩ := c.d.def_ 3 (d := dD "is_lot" sIsLot) rfl
  obtain ⟨f_is_parts, F_is_parts⟩ := c.d.def_ 4 (d := dD "is_parts" sIs_parts) rfl
  obtain ⟨f_is_block, F_is_block⟩ := c.d.def_ 5 (d := dD "is_block" sIs_block) rfl
  obtain ⟨f_is_row, F_is_row⟩ := c.d.def_ 6 (d := dV "is_row" sIs_row [.int 0]) rfl
  obtain ⟨f_blocks_of, F_blocks_of⟩ := c.d.def_ 7 (d := dD "blocks_of" sBlocks_of) rfl
  obtain ⟨f_names_of, F_names_of⟩ := c.d.def_ 8 (d := dD "names_of" sNames_of) rfl
  obtain ⟨f_formless_place, F_formless_place⟩ := c.d.def_ 9 (d := dD "formless_place" sFormless_place) rfl
  obtain ⟨f_rows_of, F_rows_of⟩ := c.d.def_ 10 (d := dD "rows_of" sRows_of) rfl
  obtain ⟨f_all_names, F_all_names⟩ := c.d.def_ 11 (d := dD "all_names" sAll_names) rfl
  obtain ⟨f_bad_place, F_bad_place⟩ := c.d.def_ 12 (d := dD "bad_place" sBad_place) rfl
  obtain ⟨f_block_leads, F_block_leads⟩ := c.d.def_ 13 (d := dD "block_leads" sBlock_leads) rfl
  obtain ⟨f_row_leads, F_row_leads⟩ := c.d.def_ 14 (d := dD "row_leads" sRow_leads) rfl
  obtain ⟨f_names, F_names⟩ := c.d.def_ 15 (d := dD "names" sNames) rfl
  obtain ⟨f_end_of, F_end_of⟩ := c.d.def_ 16 (d := dD "end_of" sEndOf) rfl
  obtain ⟨f_row_at, F_row_at⟩ := c.d.def_ 17 (d := dD "row_at" sRow_at) rfl
  obtain ⟨f_nexts, F_nexts⟩ := c.d.def_ 18 (d := dD "nexts" sNexts) rfl
  obtain ⟨f_is_way, F_is_way⟩ := c.d.def_ 19 (d := dD "is_way" sIsWay) rfl
  obtain ⟨f_lot_behind, F_lot_behind⟩ := c.d.def_ 20 (d := dD "lot_behind" sLotBehind) rfl
  obtain ⟨f_with_name, F_with_name⟩ := c.d.def_ 21 (d := dD "with_name" sWithName) rfl
  obtain ⟨f_holders, F_holders⟩ := c.d.def_ 22 (d := dD "holders" sHolders) rfl
  obtain ⟨f_is_ring, F_is_ring⟩ := c.d.def_ 23 (d := dD "is_ring" sIsRing) rfl
  obtain ⟨f__law_hand, F__law_hand⟩ := c.d.def_ 24 (d := dD "_law_hand" sHand) rfl
  obtain ⟨f__law_draw, F__law_draw⟩ := c.d.def_ 25 (d := dD "_law_draw" sDraw) rfl
  obtain ⟨f__law_any, F__law_any⟩ := c.d.def_ 26 (d := dD "_law_any" sAny) rfl
  obtain ⟨f__law_size, F__law_size⟩ := c.d.def_ 27 (d := dD "_law_size" sLSize) rfl
  obtain ⟨f__law_lay, F__law_lay⟩ := c.d.def_ 28 (d := dD "_law_lay" sLLay) rfl
  obtain ⟨f__law_table, F__law_table⟩ := c.d.def_ 29 (d := dD "_law_table" sLTable) rfl
  obtain ⟨f__law_names, F__law_names⟩ := c.d.def_ 30 (d := dD "_law_names" sLNames) rfl
  obtain ⟨f__law_words, F__law_words⟩ := c.d.def_ 31 (d := dD "_law_words" sLWords) rfl
  obtain ⟨f__law_plain, F__law_plain⟩ := c.d.def_ 32 (d := dD "_law_plain" sLPlain) rfl
  obtain ⟨f__law_inner, F__law_inner⟩ := c.d.def_ 33 (d := dD "_law_inner" sLInner) rfl
  obtain ⟨f__law_small, F__law_small⟩ := c.d.def_ 34 (d := dD "_law_small" sLSmall) rfl
  obtain ⟨f__law_wide, F__law_wide⟩ := c.d.def_ 35 (d := dD "_law_wide" sLWide) rfl
  obtain ⟨f__law_led, F__law_led⟩ := c.d.def_ 36 (d := dD "_law_led" sLLed) rfl
  obtain ⟨f__law_bits, F__law_bits⟩ := c.d.def_ 37 (d := dD "_law_bits" sLBits) rfl
  obtain ⟨f__law_mask, F__law_mask⟩ := c.d.def_ 38 (d := dD "_law_mask" sLMask) rfl
  obtain ⟨f__law_lot, F__law_lot⟩ := c.d.def_ 39 (d := dD "_law_lot" sLLot) rfl
  obtain ⟨f__law_moved, F__law_moved⟩ := c.d.def_ 40 (d := dD "_law_moved" sLMoved) rfl
  obtain ⟨f__law_along, F__law_along⟩ := c.d.def_ 41 (d := dD "_law_along" sLAlong) rfl
  obtain ⟨f__law_lots_back, F__law_lots_back⟩ := c.d.def_ 42 (d := dD "_law_lots_back" sLLots) rfl
  obtain ⟨f__law_way_back, F__law_way_back⟩ := c.d.def_ 43 (d := dD "_law_way_back" sLWayB) rfl
  obtain ⟨f__law_chain, F__law_chain⟩ := c.d.def_ 44 (d := dD "_law_chain" sLChain) rfl
  obtain ⟨f__law_ring, F__law_ring⟩ := c.d.def_ 45 (d := dD "_law_ring" sLRing) rfl
  obtain ⟨f__law_is_int, F__law_is_int⟩ := c.d.def_ 46 (d := dD "_law_is_int" sLIsInt) rfl
  obtain ⟨f__law_is_way, F__law_is_way⟩ := c.d.def_ 47 (d := dD "_law_is_way" sLIsWay) rfl
  obtain ⟨f__law_is_lot, F__law_is_lot⟩ := c.d.def_ 48 (d := dD "_law_is_lot" sLIsLot) rfl
  obtain ⟨f__law_is_ring, F__law_is_ring⟩ := c.d.def_ 49 (d := dD "_law_is_ring" sLIsRing) rfl
  obtain ⟨f__law_deep, F__law_deep⟩ := c.d.def_ 50 (d := dD "_law_deep" sDeep) rfl
  obtain ⟨f__law_bent, F__law_bent⟩ := c.d.def_ 51 (d := dD "_law_bent" sLBent) rfl
  obtain ⟨f__law_passed, F__law_passed⟩ := c.d.def_ 52 (d := dD "_law_passed" sLPassed) rfl
  obtain ⟨f__law_is_judged, F__law_is_judged⟩ := c.d.def_ 53 (d := dD "_law_is_judged" sLJudged) rfl
  obtain ⟨f_init, F_init⟩ := c.d.def_ 55 (d := dM "Program" "__init__" "Program.__init__" sProgramInit) rfl
  have pc : PrC K (He.ga K "Program") := ⟨oP.c, oP.n_block, oP.n__rows, oP.n__leads, oP.n__names⟩
  have bmax : mg "max" = none := free X G c 77 _ rfl
  have bany : mg "any" = none := free X G c 78 _ rfl
  have O : PgC K (He.ga K "Program") := ⟨fun h => .base (.ins h oP.c oP.ga oP.gn oP.gt oP.gm), oP.tu, oP.gi⟩
  have gP : mg "Program" = some (.ref (He.ga K "Program")) := glo X G c 55 _ rfl
  have e_NoPlace := exc_of c (x := "NoPlace") (by simp [excs])
  obtain ⟨f_NoPlace, F_NoPlace⟩ := c.d.def_ 56 (d := dM "NoPlace" "__init__" "NoPlace.__init__" iNoPlace) rfl
  have g_NoPlace : mg "NoPlace" = some (.ref (He.ga K "NoPlace")) := glo X G c 58 _ rfl
  have n_NoPlace : NoP P w K mg base (He.ga K "NoPlace") (He.ma K (He.ga K "NoPlace") "__init__") f_NoPlace ["self"] := ⟨e_NoPlace.oex, e_NoPlace.iC, e_NoPlace.tI, ok_NoPlace F_NoPlace, FunD.bindsN (ps := ["self"]) F_NoPlace (fun _ _ _ _ _ _ us hl => match us, hl with | [_], _ => rfl), g_NoPlace⟩
  have e_NoWay := exc_of c (x := "NoWay") (by simp [excs])
  obtain ⟨f_NoWay, F_NoWay⟩ := c.d.def_ 57 (d := dM "NoWay" "__init__" "NoWay.__init__" iNoWay) rfl
  have g_NoWay : mg "NoWay" = some (.ref (He.ga K "NoWay")) := glo X G c 59 _ rfl
  have n_NoWay : NoE P w K mg base "NoWay" (He.ga K "NoWay") (He.ma K (He.ga K "NoWay") "__init__") f_NoWay ["self"] := ⟨e_NoWay.oex, e_NoWay.iC, e_NoWay.tI, ok_NoWay F_NoWay, FunD.bindsN (ps := ["self"]) F_NoWay (fun _ _ _ _ _ _ us hl => match us, hl with | [_], _ => rfl), g_NoWay⟩
  have e_NoLot := exc_of c (x := "NoLot") (by simp [excs])
  obtain ⟨f_NoLot, F_NoLot⟩ := c.d.def_ 58 (d := dM "NoLot" "__init__" "NoLot.__init__" iNoLot) rfl
  have g_NoLot : mg "NoLot" = some (.ref (He.ga K "NoLot")) := glo X G c 60 _ rfl
  have n_NoLot : NoE P w K mg base "NoLot" (He.ga K "NoLot") (He.ma K (He.ga K "NoLot") "__init__") f_NoLot ["self"] := ⟨e_NoLot.oex, e_NoLot.iC, e_NoLot.tI, ok_NoLot F_NoLot, FunD.bindsN (ps := ["self"]) F_NoLot (fun _ _ _ _ _ _ us hl => match us, hl with | [_], _ => rfl), g_NoLot⟩
  have C_is_integer : Cal P w K mg base "is_integer" 1 ["thing"] (spIsInt K) := ⟨_, f_is_integer, ok_is_integer F_is_integer bi, glo X G c 0 _ rfl, F_is_integer.kp, FunD.bindsN (ps := ["thing"]) F_is_integer fun _ _ _ _ _ _ us hl => match us, hl with | [_], _ => rfl⟩
  have C_is_number_below : Cal P w K mg base "is_number_below" 2 ["limit", "thing"] (spBelow K) := ⟨_, f_is_number_below, ok_below F_is_number_below bi C_is_integer, glo X G c 1 _ rfl, F_is_number_below.kp, FunD.bindsN (ps := ["limit", "thing"]) F_is_number_below fun _ _ _ _ _ _ us hl => match us, hl with | [_, _], _ => rfl⟩
  have C_is_name : Cal P w K mg base "is_name" 1 ["thing"] (spIsName) := ⟨_, f_is_name, ok_is_name F_is_name bi, glo X G c 2 _ rfl, F_is_name.kp, FunD.bindsN (ps := ["thing"]) F_is_name fun _ _ _ _ _ _ us hl => match us, hl with | [_], _ => rfl⟩
  have C_is_parts : Cal P w K mg base "is_parts" 2 ["thing"] (spIsParts K) := ⟨_, f_is_parts, ok_is_parts F_is_parts bi C_is_name, glo X G c 4 _ rfl, F_is_parts.kp, FunD.bindsN (ps := ["thing"]) F_is_parts fun _ _ _ _ _ _ us hl => match us, hl with | [_], _ => rfl⟩
  have C_is_block : Cal P w K mg base "is_block" 1 ["deep", "thing"] (spIsBlock K) := ⟨_, f_is_block, ok_is_block F_is_block bi, glo X G c 5 _ rfl, F_is_block.kp, FunD.bindsN (ps := ["deep", "thing"]) F_is_block fun _ _ _ _ _ _ us hl => match us, hl with | [_, _], _ => rfl⟩
  have B_is_row : L2.Binds K f_is_row ["deep", "thing", "many"] [] := by
    obtain ⟨ds, hv, hb⟩ := FunD.binds1 (ps := ["deep", "thing", "many"]) F_is_row 3 1 (fun h => by cases h) rfl fun _ _ _ _ _ _ _ us its hl hi => match us, hl, its, hi with | [_, _, _], _, [_], _ => ⟨_, rfl, rfl⟩
    cases hv
    exact hb
  have C_is_row : Cal P w K mg base "is_row" 3 ["deep", "thing", "many"] (spIsRow K) := ⟨_, f_is_row, ok_is_row F_is_row bi (asking_of X G c) C_is_integer C_is_number_below C_is_name C_is_parts C_is_block, glo X G c 6 _ rfl, F_is_row.kp, B_is_row⟩
  have C_blocks_of : Cal P w K mg base "blocks_of" 1 ["row"] (spBlocksOf K) := ⟨_, f_blocks_of, ok_blocks_of F_blocks_of bi, glo X G c 7 _ rfl, F_blocks_of.kp, FunD.bindsN (ps := ["row"]) F_blocks_of fun _ _ _ _ _ _ us hl => match us, hl with | [_], _ => rfl⟩
  have C_names_of : Cal P w K mg base "names_of" 2 ["row"] (spNamesOf K) := ⟨_, f_names_of, ok_names_of F_names_of bi (asking_of X G c), glo X G c 8 _ rfl, F_names_of.kp, FunD.bindsN (ps := ["row"]) F_names_of fun _ _ _ _ _ _ us hl => match us, hl with | [_], _ => rfl⟩
  have C_formless_place : Cal P w K mg base "formless_place" 4 ["block", "many"] (spFormless K) := ⟨_, f_formless_place, ok_formless F_formless_place bi C_is_row C_blocks_of, glo X G c 9 _ rfl, F_formless_place.kp, FunD.bindsN (ps := ["block", "many"]) F_formless_place fun _ _ _ _ _ _ us hl => match us, hl with | [_, _], _ => rfl⟩
  have C0_rows_of : Cal P w K mg base "rows_of" 1 ["block"] (spRowsOf K 0) := ⟨_, f_rows_of, ok_rows_of0 _, glo X G c 10 _ rfl, F_rows_of.kp, FunD.bindsN (ps := ["block"]) F_rows_of fun _ _ _ _ _ _ us hl => match us, hl with | [_], _ => rfl⟩
  have C1_rows_of : Cal P w K mg base "rows_of" 2 ["block"] (spRowsOf K 1) := ⟨_, f_rows_of, ok_rows_of1 F_rows_of bi C_blocks_of C0_rows_of, glo X G c 10 _ rfl, F_rows_of.kp, FunD.bindsN (ps := ["block"]) F_rows_of fun _ _ _ _ _ _ us hl => match us, hl with | [_], _ => rfl⟩
  have C2_rows_of : Cal P w K mg base "rows_of" 3 ["block"] (spRowsOf K 2) := ⟨_, f_rows_of, ok_rows_of1 F_rows_of bi C_blocks_of C1_rows_of, glo X G c 10 _ rfl, F_rows_of.kp, FunD.bindsN (ps := ["block"]) F_rows_of fun _ _ _ _ _ _ us hl => match us, hl with | [_], _ => rfl⟩
  have C3_rows_of : Cal P w K mg base "rows_of" 4 ["block"] (spRowsOf K 3) := ⟨_, f_rows_of, ok_rows_of1 F_rows_of bi C_blocks_of C2_rows_of, glo X G c 10 _ rfl, F_rows_of.kp, FunD.bindsN (ps := ["block"]) F_rows_of fun _ _ _ _ _ _ us hl => match us, hl with | [_], _ => rfl⟩
  have C4_rows_of : Cal P w K mg base "rows_of" 5 ["block"] (spRowsOf K 4) := ⟨_, f_rows_of, ok_rows_of1 F_rows_of bi C_blocks_of C3_rows_of, glo X G c 10 _ rfl, F_rows_of.kp, FunD.bindsN (ps := ["block"]) F_rows_of fun _ _ _ _ _ _ us hl => match us, hl with | [_], _ => rfl⟩
  have C_all_names : Cal P w K mg base "all_names" 3 ["rows"] (spAllNames K) := ⟨_, f_all_names, ok_all_names F_all_names bi C_names_of, glo X G c 11 _ rfl, F_all_names.kp, FunD.bindsN (ps := ["rows"]) F_all_names fun _ _ _ _ _ _ us hl => match us, hl with | [_], _ => rfl⟩
  have C_bad_place : Cal P w K mg base "bad_place" 6 ["block", "many"] (spBad K) := ⟨_, f_bad_place, ok_bad_place F_bad_place bi C_formless_place C4_rows_of C_all_names, glo X G c 12 _ rfl, F_bad_place.kp, FunD.bindsN (ps := ["block", "many"]) F_bad_place fun _ _ _ _ _ _ us hl => match us, hl with | [_, _], _ => rfl⟩
  have R0 : Cal P w K mg base "row_leads" 6 ["row", "place", "behind"] (spRowLeads K 0) := ⟨_, f_row_leads, ok_row_leads0 _, glo X G c 14 _ rfl, F_row_leads.kp, FunD.bindsN (ps := ["row", "place", "behind"]) F_row_leads fun _ _ _ _ _ _ us hl => match us, hl with | [_, _, _], _ => rfl⟩
  have B0 : Cal P w K mg base "block_leads" 7 ["block", "place", "behind"] (spBlockLeads K 0) := ⟨_, f_block_leads, ok_block_leads1 F_block_leads bi (by decide) C4_rows_of R0, glo X G c 13 _ rfl, F_block_leads.kp, FunD.bindsN (ps := ["block", "place", "behind"]) F_block_leads fun _ _ _ _ _ _ us hl => match us, hl with | [_, _, _], _ => rfl⟩
  have R1 : Cal P w K mg base "row_leads" 8 ["row", "place", "behind"] (spRowLeads K 1) := ⟨_, f_row_leads, ok_row_leads1 F_row_leads bi (by decide) C4_rows_of B0, glo X G c 14 _ rfl, F_row_leads.kp, FunD.bindsN (ps := ["row", "place", "behind"]) F_row_leads fun _ _ _ _ _ _ us hl => match us, hl with | [_, _, _], _ => rfl⟩
  have B1 : Cal P w K mg base "block_leads" 9 ["block", "place", "behind"] (spBlockLeads K 1) := ⟨_, f_block_leads, ok_block_leads1 F_block_leads bi (by decide) C4_rows_of R1, glo X G c 13 _ rfl, F_block_leads.kp, FunD.bindsN (ps := ["block", "place", "behind"]) F_block_leads fun _ _ _ _ _ _ us hl => match us, hl with | [_, _, _], _ => rfl⟩
  have R2 : Cal P w K mg base "row_leads" 10 ["row", "place", "behind"] (spRowLeads K 2) := ⟨_, f_row_leads, ok_row_leads1 F_row_leads bi (by decide) C4_rows_of B1, glo X G c 14 _ rfl, F_row_leads.kp, FunD.bindsN (ps := ["row", "place", "behind"]) F_row_leads fun _ _ _ _ _ _ us hl => match us, hl with | [_, _, _], _ => rfl⟩
  have B2 : Cal P w K mg base "block_leads" 11 ["block", "place", "behind"] (spBlockLeads K 2) := ⟨_, f_block_leads, ok_block_leads1 F_block_leads bi (by decide) C4_rows_of R2, glo X G c 13 _ rfl, F_block_leads.kp, FunD.bindsN (ps := ["block", "place", "behind"]) F_block_leads fun _ _ _ _ _ _ us hl => match us, hl with | [_, _, _], _ => rfl⟩
  have R3 : Cal P w K mg base "row_leads" 12 ["row", "place", "behind"] (spRowLeads K 3) := ⟨_, f_row_leads, ok_row_leads1 F_row_leads bi (by decide) C4_rows_of B2, glo X G c 14 _ rfl, F_row_leads.kp, FunD.bindsN (ps := ["row", "place", "behind"]) F_row_leads fun _ _ _ _ _ _ us hl => match us, hl with | [_, _, _], _ => rfl⟩
  have B3 : Cal P w K mg base "block_leads" 13 ["block", "place", "behind"] (spBlockLeads K 3) := ⟨_, f_block_leads, ok_block_leads1 F_block_leads bi (by decide) C4_rows_of R3, glo X G c 13 _ rfl, F_block_leads.kp, FunD.bindsN (ps := ["block", "place", "behind"]) F_block_leads fun _ _ _ _ _ _ us hl => match us, hl with | [_, _, _], _ => rfl⟩
  have R4 : Cal P w K mg base "row_leads" 14 ["row", "place", "behind"] (spRowLeads K 4) := ⟨_, f_row_leads, ok_row_leads1 F_row_leads bi (by decide) C4_rows_of B3, glo X G c 14 _ rfl, F_row_leads.kp, FunD.bindsN (ps := ["row", "place", "behind"]) F_row_leads fun _ _ _ _ _ _ us hl => match us, hl with | [_, _, _], _ => rfl⟩
  have B4 : Cal P w K mg base "block_leads" 15 ["block", "place", "behind"] (spBlockLeads K 4) := ⟨_, f_block_leads, ok_block_leads1 F_block_leads bi (by decide) C4_rows_of R4, glo X G c 13 _ rfl, F_block_leads.kp, FunD.bindsN (ps := ["block", "place", "behind"]) F_block_leads fun _ _ _ _ _ _ us hl => match us, hl with | [_, _, _], _ => rfl⟩
  have C_is_way : Cal P w K mg base "is_way" 3 ["program", "thing"] (spIsWay K (He.ga K "Program")) := ⟨_, f_is_way, ok_is_way F_is_way bi pc C_is_number_below, glo X G c 19 _ rfl, F_is_way.kp, FunD.bindsN (ps := ["program", "thing"]) F_is_way fun _ _ _ _ _ _ us hl => match us, hl with | [_, _], _ => rfl⟩
  have C_is_lot : Cal P w K mg base "is_lot" 1 ["members", "thing"] (spIsLot K) := ⟨_, f_is_lot, ok_is_lot F_is_lot bi bany bi.b_bool, glo X G c 3 _ rfl, F_is_lot.kp, FunD.bindsN (ps := ["members", "thing"]) F_is_lot fun _ _ _ _ _ _ us hl => match us, hl with | [_, _], _ => rfl⟩
  have C_names : Cal P w K mg base "names" 1 ["program"] (spNames K (He.ga K "Program")) := ⟨_, f_names, ok_names F_names bi pc, glo X G c 15 _ rfl, F_names.kp, FunD.bindsN (ps := ["program"]) F_names fun _ _ _ _ _ _ us hl => match us, hl with | [_], _ => rfl⟩
  have C_end_of : Cal P w K mg base "end_of" 1 ["program"] (spEndOf K (He.ga K "Program")) := ⟨_, f_end_of, ok_end_of F_end_of bi pc, glo X G c 16 _ rfl, F_end_of.kp, FunD.bindsN (ps := ["program"]) F_end_of fun _ _ _ _ _ _ us hl => match us, hl with | [_], _ => rfl⟩
  have C_row_at : CalX P w K mg base "row_at" 3 ["program", "place"] (spRowAt K (He.ga K "Program") (He.ga K "NoPlace")) := ⟨_, f_row_at, ok_row_at F_row_at bi pc n_NoPlace C_is_number_below, glo X G c 17 _ rfl, F_row_at.kp, FunD.bindsN (ps := ["program", "place"]) F_row_at fun _ _ _ _ _ _ us hl => match us, hl with | [_, _], _ => rfl⟩
  have C_nexts : CalX P w K mg base "nexts" 3 ["program", "place"] (spNexts K (He.ga K "Program") (He.ga K "NoPlace")) := ⟨_, f_nexts, ok_nexts F_nexts bi pc n_NoPlace C_is_number_below, glo X G c 18 _ rfl, F_nexts.kp, FunD.bindsN (ps := ["program", "place"]) F_nexts fun _ _ _ _ _ _ us hl => match us, hl with | [_, _], _ => rfl⟩
  have C_with_name : Cal P w K mg base "with_name" 1 ["lot", "name", "is_in"] (spWithName K) := ⟨_, f_with_name, ok_with_name F_with_name bi, glo X G c 21 _ rfl, F_with_name.kp, FunD.bindsN (ps := ["lot", "name", "is_in"]) F_with_name fun _ _ _ _ _ _ us hl => match us, hl with | [_, _, _], _ => rfl⟩
  have C_lot_behind : Cal P w K mg base "lot_behind" 2 ["row", "lot"] (spLotBehind K) := ⟨_, f_lot_behind, ok_lot_behind F_lot_behind bi (asking_of X G c) bany C_with_name, glo X G c 20 _ rfl, F_lot_behind.kp, FunD.bindsN (ps := ["row", "lot"]) F_lot_behind fun _ _ _ _ _ _ us hl => match us, hl with | [_, _], _ => rfl⟩
  have C_holders : CalX P w K mg base "holders" 4 ["program", "way", "lot"] (spHolders K (He.ga K "Program")) := ⟨_, f_holders, ok_holders F_holders bi pc n_NoWay n_NoLot C_is_way C_is_lot C_names C_lot_behind C_row_at, glo X G c 22 _ rfl, F_holders.kp, FunD.bindsN (ps := ["program", "way", "lot"]) F_holders fun _ _ _ _ _ _ us hl => match us, hl with | [_, _, _], _ => rfl⟩
  have C_is_ring : Cal P w K mg base "is_ring" 5 ["program", "thing"] (spIsRing K (He.ga K "Program")) := ⟨_, f_is_ring, ok_is_ring (CW := He.ga K "NoWay") (CL := He.ga K "NoLot") F_is_ring bi C_is_way C_is_lot C_names C_end_of C_is_number_below C_row_at C_nexts C_holders, glo X G c 23 _ rfl, F_is_ring.kp, FunD.bindsN (ps := ["program", "thing"]) F_is_ring fun _ _ _ _ _ _ us hl => match us, hl with | [_, _], _ => rfl⟩
  have C__law_hand : Cal P w K mg base "_law_hand" 1 ["_law_script"] (spHand K) := ⟨_, f__law_hand, ok_hand F__law_hand bi, glo X G c 24 _ rfl, F__law_hand.kp, FunD.bindsN (ps := ["_law_script"]) F__law_hand fun _ _ _ _ _ _ us hl => match us, hl with | [_], _ => rfl⟩
  have C__law_draw : Cal P w K mg base "_law_draw" 1 ["_law_hand_here", "_law_many"] (spDraw) := ⟨_, f__law_draw, ok_draw F__law_draw bi, glo X G c 25 _ rfl, F__law_draw.kp, FunD.bindsN (ps := ["_law_hand_here", "_law_many"]) F__law_draw fun _ _ _ _ _ _ us hl => match us, hl with | [_, _], _ => rfl⟩
  have C__law_any : Cal P w K mg base "_law_any" 2 ["_law_hand_here", "_law_things"] (spAny K) := ⟨_, f__law_any, ok_any F__law_any bi C__law_draw, glo X G c 26 _ rfl, F__law_any.kp, FunD.bindsN (ps := ["_law_hand_here", "_law_things"]) F__law_any fun _ _ _ _ _ _ us hl => match us, hl with | [_, _], _ => rfl⟩
  have C__law_deep : Cal P w K mg base "_law_deep" 2 ["_law_hand_here"] (spDeep) := ⟨_, f__law_deep, ok_deep F__law_deep bi C__law_draw, glo X G c 50 _ rfl, F__law_deep.kp, FunD.bindsN (ps := ["_law_hand_here"]) F__law_deep fun _ _ _ _ _ _ us hl => match us, hl with | [_], _ => rfl⟩
  have C0__law_size : Cal P w K mg base "_law_size" 1 ["_law_block"] (spLSize K 0) := ⟨_, f__law_size, ok_lsize0 _, glo X G c 27 _ rfl, F__law_size.kp, FunD.bindsN (ps := ["_law_block"]) F__law_size fun _ _ _ _ _ _ us hl => match us, hl with | [_], _ => rfl⟩
  have C1__law_size : Cal P w K mg base "_law_size" 2 ["_law_block"] (spLSize K 1) := ⟨_, f__law_size, ok_lsize1 F__law_size bi C0__law_size, glo X G c 27 _ rfl, F__law_size.kp, FunD.bindsN (ps := ["_law_block"]) F__law_size fun _ _ _ _ _ _ us hl => match us, hl with | [_], _ => rfl⟩
  have C2__law_size : Cal P w K mg base "_law_size" 3 ["_law_block"] (spLSize K 2) := ⟨_, f__law_size, ok_lsize1 F__law_size bi C1__law_size, glo X G c 27 _ rfl, F__law_size.kp, FunD.bindsN (ps := ["_law_block"]) F__law_size fun _ _ _ _ _ _ us hl => match us, hl with | [_], _ => rfl⟩
  have C3__law_size : Cal P w K mg base "_law_size" 4 ["_law_block"] (spLSize K 3) := ⟨_, f__law_size, ok_lsize1 F__law_size bi C2__law_size, glo X G c 27 _ rfl, F__law_size.kp, FunD.bindsN (ps := ["_law_block"]) F__law_size fun _ _ _ _ _ _ us hl => match us, hl with | [_], _ => rfl⟩
  have C4__law_size : Cal P w K mg base "_law_size" 5 ["_law_block"] (spLSize K 4) := ⟨_, f__law_size, ok_lsize1 F__law_size bi C3__law_size, glo X G c 27 _ rfl, F__law_size.kp, FunD.bindsN (ps := ["_law_block"]) F__law_size fun _ _ _ _ _ _ us hl => match us, hl with | [_], _ => rfl⟩
  have C0__law_lay : Cal P w K mg base "_law_lay" 5 ["_law_table_here", "_law_block", "_law_behind"] (spLLay K 0) := ⟨_, f__law_lay, ok_llay0 _, glo X G c 28 _ rfl, F__law_lay.kp, FunD.bindsN (ps := ["_law_table_here", "_law_block", "_law_behind"]) F__law_lay fun _ _ _ _ _ _ us hl => match us, hl with | [_, _, _], _ => rfl⟩
  have C1__law_lay : Cal P w K mg base "_law_lay" 6 ["_law_table_here", "_law_block", "_law_behind"] (spLLay K 1) := ⟨_, f__law_lay, ok_llay1 F__law_lay bi C4__law_size C0__law_lay, glo X G c 28 _ rfl, F__law_lay.kp, FunD.bindsN (ps := ["_law_table_here", "_law_block", "_law_behind"]) F__law_lay fun _ _ _ _ _ _ us hl => match us, hl with | [_, _, _], _ => rfl⟩
  have C2__law_lay : Cal P w K mg base "_law_lay" 7 ["_law_table_here", "_law_block", "_law_behind"] (spLLay K 2) := ⟨_, f__law_lay, ok_llay1 F__law_lay bi C4__law_size C1__law_lay, glo X G c 28 _ rfl, F__law_lay.kp, FunD.bindsN (ps := ["_law_table_here", "_law_block", "_law_behind"]) F__law_lay fun _ _ _ _ _ _ us hl => match us, hl with | [_, _, _], _ => rfl⟩
  have C3__law_lay : Cal P w K mg base "_law_lay" 8 ["_law_table_here", "_law_block", "_law_behind"] (spLLay K 3) := ⟨_, f__law_lay, ok_llay1 F__law_lay bi C4__law_size C2__law_lay, glo X G c 28 _ rfl, F__law_lay.kp, FunD.bindsN (ps := ["_law_table_here", "_law_block", "_law_behind"]) F__law_lay fun _ _ _ _ _ _ us hl => match us, hl with | [_, _, _], _ => rfl⟩
  have C4__law_lay : Cal P w K mg base "_law_lay" 9 ["_law_table_here", "_law_block", "_law_behind"] (spLLay K 4) := ⟨_, f__law_lay, ok_llay1 F__law_lay bi C4__law_size C3__law_lay, glo X G c 28 _ rfl, F__law_lay.kp, FunD.bindsN (ps := ["_law_table_here", "_law_block", "_law_behind"]) F__law_lay fun _ _ _ _ _ _ us hl => match us, hl with | [_, _, _], _ => rfl⟩
  have C__law_table : Cal P w K mg base "_law_table" 10 ["_law_block"] (spLTable K) := ⟨_, f__law_table, ok_ltable F__law_table bi C4__law_size C4__law_lay, glo X G c 29 _ rfl, F__law_table.kp, FunD.bindsN (ps := ["_law_block"]) F__law_table fun _ _ _ _ _ _ us hl => match us, hl with | [_], _ => rfl⟩
  have C__law_names : Cal P w K mg base "_law_names" 1 ["_law_table_here"] (spLNames K) := ⟨_, f__law_names, ok_lnames F__law_names bi, glo X G c 30 _ rfl, F__law_names.kp, FunD.bindsN (ps := ["_law_table_here"]) F__law_names fun _ _ _ _ _ _ us hl => match us, hl with | [_], _ => rfl⟩
  have C__law_words : Cal P w K mg base "_law_words" 2 ["_law_hand_here", "_law_many"] (spLWords) := ⟨_, f__law_words, ok_lwords F__law_words bi C__law_draw, glo X G c 31 _ rfl, F__law_words.kp, FunD.bindsN (ps := ["_law_hand_here", "_law_many"]) F__law_words fun _ _ _ _ _ _ us hl => match us, hl with | [_, _], _ => rfl⟩
  have C__law_plain : Cal P w K mg base "_law_plain" 3 ["_law_hand_here", "_law_menu", "_law_ops"] (spLPlain K) := ⟨_, f__law_plain, ok_lplain F__law_plain bi C__law_draw C__law_any, glo X G c 32 _ rfl, F__law_plain.kp, FunD.bindsN (ps := ["_law_hand_here", "_law_menu", "_law_ops"]) F__law_plain fun _ _ _ _ _ _ us hl => match us, hl with | [_, _, _], _ => rfl⟩
  have C0__law_inner : Cal P w K mg base "_law_inner" 3 ["_law_hand_here", "_law_menu", "_law_ops", "_law_deep_here"] (spLInner K 0) := ⟨_, f__law_inner, ok_linner0 _, glo X G c 33 _ rfl, F__law_inner.kp, FunD.bindsN (ps := ["_law_hand_here", "_law_menu", "_law_ops", "_law_deep_here"]) F__law_inner fun _ _ _ _ _ _ us hl => match us, hl with | [_, _, _, _], _ => rfl⟩
  have C1__law_inner : Cal P w K mg base "_law_inner" 4 ["_law_hand_here", "_law_menu", "_law_ops", "_law_deep_here"] (spLInner K 1) := ⟨_, f__law_inner, ok_linner1 F__law_inner bi C__law_draw C__law_plain C0__law_inner, glo X G c 33 _ rfl, F__law_inner.kp, FunD.bindsN (ps := ["_law_hand_here", "_law_menu", "_law_ops", "_law_deep_here"]) F__law_inner fun _ _ _ _ _ _ us hl => match us, hl with | [_, _, _, _], _ => rfl⟩
  have C2__law_inner : Cal P w K mg base "_law_inner" 5 ["_law_hand_here", "_law_menu", "_law_ops", "_law_deep_here"] (spLInner K 2) := ⟨_, f__law_inner, ok_linner1 F__law_inner bi C__law_draw C__law_plain C1__law_inner, glo X G c 33 _ rfl, F__law_inner.kp, FunD.bindsN (ps := ["_law_hand_here", "_law_menu", "_law_ops", "_law_deep_here"]) F__law_inner fun _ _ _ _ _ _ us hl => match us, hl with | [_, _, _, _], _ => rfl⟩
  have C__law_small : Cal P w K mg base "_law_small" 6 ["_law_hand_here", "_law_most"] (spLSmall K) := ⟨_, f__law_small, ok_lsmall F__law_small bi C__law_draw C__law_words C__law_plain C2__law_inner, glo X G c 34 _ rfl, F__law_small.kp, FunD.bindsN (ps := ["_law_hand_here", "_law_most"]) F__law_small fun _ _ _ _ _ _ us hl => match us, hl with | [_, _], _ => rfl⟩
  have C__law_wide : Cal P w K mg base "_law_wide" 6 ["_law_hand_here"] (spLWide K) := ⟨_, f__law_wide, ok_lwide F__law_wide bi C__law_draw C__law_words C__law_plain C1__law_inner C2__law_inner C4__law_size, glo X G c 35 _ rfl, F__law_wide.kp, FunD.bindsN (ps := ["_law_hand_here"]) F__law_wide fun _ _ _ _ _ _ us hl => match us, hl with | [_], _ => rfl⟩
  have C__law_led : Cal P w K mg base "_law_led" 3 ["_law_hand_here", "_law_table_here", "_law_place", "_law_many"] (spLLed K) := ⟨_, f__law_led, ok_lled F__law_led bi C__law_any, glo X G c 36 _ rfl, F__law_led.kp, FunD.bindsN (ps := ["_law_hand_here", "_law_table_here", "_law_place", "_law_many"]) F__law_led fun _ _ _ _ _ _ us hl => match us, hl with | [_, _, _, _], _ => rfl⟩
  have C__law_bits : Cal P w K mg base "_law_bits" 1 ["_law_names_here"] (spLBits) := ⟨_, f__law_bits, ok_lbits F__law_bits bi, glo X G c 37 _ rfl, F__law_bits.kp, FunD.bindsN (ps := ["_law_names_here"]) F__law_bits fun _ _ _ _ _ _ us hl => match us, hl with | [_], _ => rfl⟩
  have C__law_mask : Cal P w K mg base "_law_mask" 1 ["_law_bits_here", "_law_lot_here"] (spLMask K) := ⟨_, f__law_mask, ok_lmask F__law_mask bi, glo X G c 38 _ rfl, F__law_mask.kp, FunD.bindsN (ps := ["_law_bits_here", "_law_lot_here"]) F__law_mask fun _ _ _ _ _ _ us hl => match us, hl with | [_, _], _ => rfl⟩
  have C__law_lot : Cal P w K mg base "_law_lot" 1 ["_law_names_here", "_law_mask_here"] (spLLot K) := ⟨_, f__law_lot, ok_llot F__law_lot bi, glo X G c 39 _ rfl, F__law_lot.kp, FunD.bindsN (ps := ["_law_names_here", "_law_mask_here"]) F__law_lot fun _ _ _ _ _ _ us hl => match us, hl with | [_, _], _ => rfl⟩
  have C__law_moved : Cal P w K mg base "_law_moved" 1 ["_law_row", "_law_mask_here", "_law_bits_here"] (spLMoved K) := ⟨_, f__law_moved, ok_lmoved F__law_moved bi, glo X G c 40 _ rfl, F__law_moved.kp, FunD.bindsN (ps := ["_law_row", "_law_mask_here", "_law_bits_here"]) F__law_moved fun _ _ _ _ _ _ us hl => match us, hl with | [_, _, _], _ => rfl⟩
  have C__law_along : Cal P w K mg base "_law_along" 2 ["_law_table_here", "_law_bits_here", "_law_way", "_law_mask_here"] (spLAlong K) := ⟨_, f__law_along, ok_lalong F__law_along bi C__law_moved, glo X G c 41 _ rfl, F__law_along.kp, FunD.bindsN (ps := ["_law_table_here", "_law_bits_here", "_law_way", "_law_mask_here"]) F__law_along fun _ _ _ _ _ _ us hl => match us, hl with | [_, _, _, _], _ => rfl⟩
  have C__law_lots_back : Cal P w K mg base "_law_lots_back" 2 ["_law_table_here", "_law_bits_here", "_law_place", "_law_room"] (spLLots K) := ⟨_, f__law_lots_back, ok_llots F__law_lots_back bi C__law_moved, glo X G c 42 _ rfl, F__law_lots_back.kp, FunD.bindsN (ps := ["_law_table_here", "_law_bits_here", "_law_place", "_law_room"]) F__law_lots_back fun _ _ _ _ _ _ us hl => match us, hl with | [_, _, _, _], _ => rfl⟩
  have C__law_chain : Cal P w K mg base "_law_chain" 1 ["_law_came", "_law_state"] (spLChain K) := ⟨_, f__law_chain, ok_lchain F__law_chain bi, glo X G c 44 _ rfl, F__law_chain.kp, FunD.bindsN (ps := ["_law_came", "_law_state"]) F__law_chain fun _ _ _ _ _ _ us hl => match us, hl with | [_, _], _ => rfl⟩
  have C__law_way_back : Cal P w K mg base "_law_way_back" 2 ["_law_table_here", "_law_bits_here", "_law_place", "_law_lot_here", "_law_room"] (spLWayB K) := ⟨_, f__law_way_back, ok_lwayb F__law_way_back bi C__law_moved C__law_chain, glo X G c 43 _ rfl, F__law_way_back.kp, FunD.bindsN (ps := ["_law_table_here", "_law_bits_here", "_law_place", "_law_lot_here", "_law_room"]) F__law_way_back fun _ _ _ _ _ _ us hl => match us, hl with | [_, _, _, _, _], _ => rfl⟩
  have C__law_ring : Cal P w K mg base "_law_ring" 3 ["_law_table_here", "_law_names_here", "_law_room"] (spLRing K) := ⟨_, f__law_ring, ok_lring F__law_ring bi C__law_bits C__law_lots_back C__law_way_back C__law_lot, glo X G c 45 _ rfl, F__law_ring.kp, FunD.bindsN (ps := ["_law_table_here", "_law_names_here", "_law_room"]) F__law_ring fun _ _ _ _ _ _ us hl => match us, hl with | [_, _, _], _ => rfl⟩
  have C__law_is_int : Cal P w K mg base "_law_is_int" 1 ["_law_thing"] (spIsInt K) := ⟨_, f__law_is_int, ok_lis_int F__law_is_int bi, glo X G c 46 _ rfl, F__law_is_int.kp, FunD.bindsN (ps := ["_law_thing"]) F__law_is_int fun _ _ _ _ _ _ us hl => match us, hl with | [_], _ => rfl⟩
  have C__law_is_way : Cal P w K mg base "_law_is_way" 2 ["_law_table_here", "_law_thing"] (spLIsWay K) := ⟨_, f__law_is_way, ok_lis_way F__law_is_way bi C__law_is_int, glo X G c 47 _ rfl, F__law_is_way.kp, FunD.bindsN (ps := ["_law_table_here", "_law_thing"]) F__law_is_way fun _ _ _ _ _ _ us hl => match us, hl with | [_, _], _ => rfl⟩
  have C__law_is_lot : Cal P w K mg base "_law_is_lot" 1 ["_law_names_here", "_law_thing"] (spLIsLot K) := ⟨_, f__law_is_lot, ok_lis_lot F__law_is_lot bi, glo X G c 48 _ rfl, F__law_is_lot.kp, FunD.bindsN (ps := ["_law_names_here", "_law_thing"]) F__law_is_lot fun _ _ _ _ _ _ us hl => match us, hl with | [_, _], _ => rfl⟩
  have C__law_is_ring : Cal P w K mg base "_law_is_ring" 3 ["_law_table_here", "_law_names_here", "_law_thing"] (spLIsRing K) := ⟨_, f__law_is_ring, ok_lis_ring F__law_is_ring bi C__law_is_int C__law_is_way C__law_is_lot C__law_bits C__law_mask C__law_along, glo X G c 49 _ rfl, F__law_is_ring.kp, FunD.bindsN (ps := ["_law_table_here", "_law_names_here", "_law_thing"]) F__law_is_ring fun _ _ _ _ _ _ us hl => match us, hl with | [_, _, _], _ => rfl⟩
  have C__law_bent : Cal P w K mg base "_law_bent" 3 ["_law_hand_here", "_law_thing", "_law_table_here", "_law_names_here", "_law_program"] (spLBent K (He.ga K "Program")) := ⟨_, f__law_bent, ok_lbent F__law_bent bi O C__law_draw C__law_any C__law_deep C__law_lot, glo X G c 51 _ rfl, F__law_bent.kp, FunD.bindsN (ps := ["_law_hand_here", "_law_thing", "_law_table_here", "_law_names_here", "_law_program"]) F__law_bent fun _ _ _ _ _ _ us hl => match us, hl with | [_, _, _, _, _], _ => rfl⟩
  have C__law_passed : Cal P w K mg base "_law_passed" 4 ["_law_hand_here", "_law_table_here", "_law_names_here", "_law_place"] (spLPassed K) := ⟨_, f__law_passed, ok_lpassed F__law_passed bi bmax C__law_bits C__law_led C__law_along C__law_lot, glo X G c 52 _ rfl, F__law_passed.kp, FunD.bindsN (ps := ["_law_hand_here", "_law_table_here", "_law_names_here", "_law_place"]) F__law_passed fun _ _ _ _ _ _ us hl => match us, hl with | [_, _, _, _], _ => rfl⟩
  have C__law_is_judged : Cal P w K mg base "_law_is_judged" 6 ["_law_program", "_law_table_here", "_law_names_here", "_law_thing"] (spLJudged K (He.ga K "Program")) := ⟨_, f__law_is_judged, ok_ljudged F__law_is_judged bi C_is_ring C__law_is_ring, glo X G c 53 _ rfl, F__law_is_judged.kp, FunD.bindsN (ps := ["_law_program", "_law_table_here", "_law_names_here", "_law_thing"]) F__law_is_judged fun _ _ _ _ _ _ us hl => match us, hl with | [_, _, _, _], _ => rfl⟩
  exact ok_law (C := He.ga K "Program") F_law {
    bi := bi
    g := gP
    O := O
    hand := C__law_hand
    draw := C__law_draw
    any_ := C__law_any
    wide := C__law_wide
    small := C__law_small
    table := C__law_table
    names := C__law_names
    ring := C__law_ring
    passed := C__law_passed
    judged := C__law_is_judged
    bent := C__law_bent
    make := ⟨_, f_init, oP.m, ok_init F_init bi pc C_bad_place C4_rows_of C_all_names B4, FunD.bindsN (ps := ["self", "block"]) F_init fun _ _ _ _ _ _ us hl => match us, hl with | [_, _], _ => rfl⟩ }
end K25
open PySem PySem.W PySem.Calls PyProof.Rows
theorem PySem.Challenge.cw_putoffpiles_k25_whole_rings_judged_holds : PySem.Challenge.rw_putoffpiles_k25_whole_rings_judged.Holds := by
  w_on; o_law
  refine HandSHeadRun.head_any (r := OpenLaw.row PySem.Challenge.rw_putoffpiles_k25_whole_rings_judged) (q := view (OpenLaw.row PySem.Challenge.rw_putoffpiles_k25_whole_rings_judged).prog [72]) (H := K25.hk) (ob := K25.ob) (M := 20000) (loose := K25.loose) (d := HandSHeadRun.topDef (OpenLaw.row PySem.Challenge.rw_putoffpiles_k25_whole_rings_judged).prog 72) (kwd := []) K25.ob_eq
    (by kernel_rfl) (fun s => by kernel_rfl) K25.run (by kernel_rfl) (by kernel_rfl) (by kernel_rfl) (by rfl) (by first | assumption | decide +kernel) (by decide +kernel) ⟨rfl, rfl, rfl, rfl, rfl, by decide +kernel⟩ ?hw ?hc
  case hw => w_witness2
  case hc =>
    refine L2.walk_ofE (l := PySem.Challenge.rw_putoffpiles_k25_whole_rings_judged) (n := 63) (k := 18) (x := "_law_script") (CX := L2.CX0) rfl (by decide) (by kernel_rfl) ⟨rfl, by decide, by decide⟩ ?F (fun _ _ _ _ z => z)
    intro w mg fa h Y G hmg0
    obtain ⟨K, KX, c⟩ := Y
    have hmg : mg ("law" : PySem.Str) = some (.ref fa) := by
      have e : (HandSHeadRun.topDef (OpenLaw.row PySem.Challenge.rw_putoffpiles_k25_whole_rings_judged).prog 72).name = ("law" : PySem.Str) := by kernel_rfl
      rw [← e]
      exact hmg0
    obtain ⟨fd, hb, hF⟩ := K25.facts (P := (PySem.Challenge.rw_putoffpiles_k25_whole_rings_judged).prog) (w := w) KX G hmg c
    exact ⟨K, fd, K25.spLaw K, KX, hb, fun H a ns hl _ hS => ⟨a, ns, rfl, hS, hl, fun _ => rfl⟩, hF⟩
